/-
A part.
A part.
A part.
A part.
A part.
A part.
A part.
A part.
A part.
A part.
A part.
A part.
A part.
A part.
A part.
A part.
A part.
A part.
A part.
A part.
A part.
A part.
A part.
A part.
A part.
A part.
A part.
A part.
A part.
A part.
A part.
-/
import Derived.Handy
import Derived.Deep.RegionHeld3
import Derived.Deep.DrawnRows
import Derived.Test.YtgmpfeaanjnhaaaGreatDoorU06
import Derived.Test.YtgmpfeaanjnhaaaGreatDoorU04
import Derived.Test.YtgmpfeaanjnhaaaGreatDoorU01
namespace Go.Proofs.YtgmpfeaanjnhaaaGreatDoor
open Go.RowKit
def V8(w:World)(e:Ending)(w':World):Prop:=∃d:Int,e=.returned (.int .i64 d)/\-1<=d/\d<=15/\Below w.heap.size w w'
set_option maxHeartbeats 1000000 in
set_option maxRecDepth 100000 in
theorem Tb(c:Nat)(w:World)(hc:c<256):Calls Tryz.prog 38 #[.int .u8 c] w (V8 w):=by
 unfold V8
 by_cases h3:c<48
 ·go_enter Tryz.func38,Tryz.ntmps38
  go_wp2
  go_ret
  exact⟨_,rfl,by decide,by decide,Below.refl _ _⟩
 by_cases h1:c<=57
 ·obtain⟨d,rfl⟩:∃d,c=d+48:=⟨c-48,by omega⟩
  go_enter Tryz.func38,Tryz.ntmps38
  go_wp2
  go_ret
  exact⟨_,rfl,by omega,by omega,Below.refl _ _⟩
 by_cases h4:c<97
 ·have h5:57<c:=by omega
  go_enter Tryz.func38,Tryz.ntmps38
  go_wp2
  go_ret
  exact⟨_,rfl,by decide,by decide,Below.refl _ _⟩
 have h5:57<c:=by omega
 by_cases h2:c<=102
 ·obtain⟨d,rfl⟩:∃d,c=d+97:=⟨c-97,by omega⟩
  go_enter Tryz.func38,Tryz.ntmps38
  go_wp2
  go_ret
  exact⟨_,rfl,by omega,by omega,Below.refl _ _⟩
 ·have h6:102<c:=by omega
  go_enter Tryz.func38,Tryz.ntmps38
  go_wp2
  go_ret
  exact⟨_,rfl,by decide,by decide,Below.refl _ _⟩
theorem Aj7{ops:Array Oper}{rest:List Oper}{o:Oper}{a:Act}{Q:Exit->Act->World->Prop}(hgd:o.guard=none)(s x:Operand)
    (ho:o.op=.call {callee:=.builtin .append,args:=#[s,x],argTypes:=#[56,56]}) (B:Nat) (v:Value) (l:List Int) (b:Int) (w0:World) (hs:a.eval s=v) (hown:Bg B w0 v l)
    (hx:a.eval x=.slice (some ⟨w0.heap.size,0,none⟩) 1 1) (hl:l.length<=1000000) (hB:B<=w0.heap.size)
    (h:∀v' w',Bg B w' v' (l++[b])->Below B w0 w'->w0.heap.size<=w'.heap.size->wpList Tryz.prog ops Q rest (a.put o.dst v') w'):wpList Tryz.prog ops Q (o::rest) a (w0.alloc (.cells #[.int .u8 b] 5)):=by
 obtain⟨i,hi,hz,hsz,hby⟩:=Ja
 have hown':=hown.same ((Below.refl _ _).alloc (Nat.le_refl _) (.cells #[.int .u8 b] 5))
 refine wpList_append_own _ hgd s x 56 ho B 5 i (.int .u8 0) 1 1 Tryz.underlying56 hi hz hsz hby rfl (by decide) v l.length (u8s l) hs hown' ⟨w0.heap.size,0,none⟩ 1 1 [.int .u8 b] hx rfl (Cy _ _ _) ?_ (by unfold maxLen;omega) (by omega) (by simp;omega) ?_
 ·intro u hu
  rw[List.mem_singleton.1 hu]
  rfl
 ·intro v' w' h1 h2 _
  have hbel:Below B w0 w':=((Below.refl B w0).alloc hB _).grown h2 (by simp;omega) (fun k hk=>(World.ownsRow.lt hown k hk).1)
  refine h v' w' ?_ hbel (by have:=h2.size;simp at this;omega)
  show w'.ownsRow B 5 1 v' (l++[b]).length (u8s (l++[b]))
  rw[List.length_append,show u8s (l++[b])=u8s l++[.int .u8 b]by simp[u8s]]
  exact h1
def JY(w:World)(e:Ending)(w':World):Prop:=∃(s:ByteArray) (b:Bool),e=.returned (.tuple #[.string s,.bool b])/\Below w.heap.size w w'
theorem JY.mk{w w':World}{s:ByteArray}{b:Bool}(hb:Below w.heap.size w w'):JY w (.returned (.tuple #[.string s,.bool b])) w':=⟨s,b,rfl,hb⟩
set_option maxHeartbeats 4000000 in
set_option maxRecDepth 100000 in
theorem QH(s:ByteArray)(w:World)(hs:s.size<=100000):Calls Tryz.prog 17 #[.string s] w (JY w):=by
 by_cases hd:s=⟨#[45]⟩
 ·subst hd
  go_enter Tryz.func17,Tryz.ntmps17
  go_wp2
  go_ret2
  exact JY.mk (Below.refl _ _)
 have hl:(s.toList==[45])=false:=by
  rw[beq_eq_false_iff_ne,Lib.toList_data]
  exact fun e=>hd (ByteArray.ext (Array.toList_inj.1 e))
 by_cases h0:s.size=0
 ·obtain rfl:s=⟨#[]⟩:=ByteArray.ext (Array.eq_empty_of_size_eq_zero h0)
  go_enter Tryz.func17,Tryz.ntmps17
  go_wp2
  go_ret2
  exact JY.mk (Below.refl _ _)
 have hse:s.toList.isEmpty=false:=Dw h0
 by_cases hodd:s.size % 2=0
 case neg=>
  obtain⟨m,hm⟩:∃m,s.size=2*m+1:=⟨s.size / 2,by omega⟩
  clear hd hodd
  go_enter Tryz.func17,Tryz.ntmps17
  go_wp2
  go_ret2
  exact JY.mk (Below.refl _ _)
 obtain⟨m,hm⟩:∃m,s.size=2*m:=⟨s.size / 2,by omega⟩
 have HD:Hid (∀i W,Calls Tryz.prog 38 #[.int .u8 (chr s i:Nat)] W (V8 W)):=fun i W=>Tb _ W (Hs s i)
 clear hd hodd
 go_enter Tryz.func17,Tryz.ntmps17
 go_wp2
 go_loopw [4,5] (fun bv iv wr=>∃(k:Nat) (acc:List Int),k<=m/\iv=.int .i64 (2*(k:Int))/\acc.length=k/\Hid (∀b∈acc,0<=b/\b<256)/\Bg w.heap.size wr bv acc/\Below w.heap.size w wr) (fun _ i _=>2*m-(intOf i).toNat)
 case atStart=>exact⟨0,[],Nat.zero_le _,rfl,rfl,(by intro b hb;cases hb),World.ownsRow_nil _ _ _ _,Below.refl _ _⟩
 case round=>
  obtain⟨k,acc,hk,rfl,hal,hrg,hown,hnx⟩:=hrel
  have HO:Hid (Bg w.heap.size wr u4 acc):=hown
  clear hown
  by_cases hkm:k<m
  case neg=>
   obtain rfl:k=m:=by omega
   have hcv:=C9 HO.out (fun e=>by rw[e]at hal;simp at hal;omega) hrg.out
   go_wp2
   go_ret2
   exact JY.mk hnx
  have i0:2*k<s.size:=by omega
  have i1:2*k+1<s.size:=by omega
  have c0:=Je i0
  have c1:=Je i1
  have d0:=HD.out (2*k)
  have d1:=HD.out (2*k+1)
  have z0:=Hs s (2*k)
  have z1:=Hs s (2*k+1)
  unfold V8 at d0 d1
  generalize chr s (2*k)=x at c0 d0 z0
  generalize chr s (2*k+1)=y at c1 d1 z1
  have h1:=hnx.size
  go_wp2_with (first
   |(go_at_call 38;first |(refine(d0 _).mono ?_;rintro e w1 ⟨p,rfl,p0,p1,hb1⟩;clear d0)|(refine(d1 _).mono ?_;rintro e w2 ⟨q,rfl,q0,q1,hb2⟩;by_cases n0:p<0<;>by_cases n1:q<0))
   |(at_builtin;refine Aj7 rfl (.tmp 39) (.tmp 45) rfl w.heap.size u4 acc (p*16+q) _ rfl ((HO.out.same (hb1.mono (Nat.le_refl _))).same hb2) rfl (by omega) (by have:=hb1.size;have:=hb2.size;omega) ?_;intro v3 w3 o3 b3 s3))
  ·go_ret2
   exact JY.mk (hnx.trans ((hb1.trans (hb2.mono hb1.size)).mono hnx.size))
  ·go_ret2
   exact JY.mk (hnx.trans ((hb1.trans (hb2.mono hb1.size)).mono hnx.size))
  ·go_ret2
   exact JY.mk (hnx.trans ((hb1.trans (hb2.mono hb1.size)).mono hnx.size))
  ·go_roundw
   case rel=>
    refine⟨k+1,acc++[p*16+q],by omega,by go_num,by rw[List.length_append,hal];rfl,fun b hb=>?_,o3,(hnx.trans ((hb1.trans (hb2.mono hb1.size)).mono hnx.size)).trans b3⟩
    rcases List.mem_append.1 hb with h |h
    ·exact hrg.out b h
    ·rw[List.mem_singleton.1 h]
     omega
   case measure=>simp[intOf]<;>omega
theorem Adj(k:Int)(d:ByteArray)(w:World):Calls Tryz.prog 41 #[.agg #[.int .i64 k,.string d]] w (JY w):=by
 by_cases h:0<=k/\k<=255/\d.size<=64
 ·have e:((UInt8.ofNat k.toNat).toNat:Int)=k:=by
   rw[ofNat_toNat (by omega)]
   omega
  have h1:=Ym (UInt8.ofNat k.toNat) d w h.2.2
  rw[e]at h1
  exact h1.mono fun e w' ⟨s,he,_,hb⟩=>⟨s,true,he,hb⟩
 ·exact(Adh k d w h).mono fun e w' ⟨he,hb⟩=>⟨_,false,he,hb⟩
def BK(w:World)(e:Ending)(w':World):Prop:=∃(a b:ByteArray) (t:Int),e=.returned (.agg #[.string a,.string b,.int .i64 t])/\Below w.heap.size w w'
theorem BK.mk{w w':World}{a b:ByteArray}{t:Int}(hb:Below w.heap.size w w'):BK w (.returned (.agg (List.toArray [.string a,.string b,.int .i64 t]))) w':=⟨a,b,t,rfl,hb⟩
theorem Bu{k:Nat}{x y z:Value}{w:World}(A:Ap k [x,y,z] w)(a b c:Value):Ap k [a,b,c] (((w.setCell ⟨k,0,none⟩ a).setCell ⟨k,1,none⟩ b).setCell ⟨k,2,none⟩ c):=
 ((A.put 0 (of_decide_eq_true rfl) a [a,y,z] rfl).put 1 (of_decide_eq_true rfl) b [a,b,z] rfl).put 2 (of_decide_eq_true rfl) c [a,b,c] rfl
theorem Bv{k:Nat}{x w:World}(h:Below x.heap.size x w)(hk:x.heap.size<=k){a b c:Value}:Below x.heap.size x (((w.setCell ⟨k,0,none⟩ a).setCell ⟨k,1,none⟩ b).setCell ⟨k,2,none⟩ c):=Al (Al (Al h _ _ hk _) _ _ hk _) _ _ hk _
set_option maxHeartbeats 1000000 in
set_option maxRecDepth 100000 in
theorem Yo(k:Int)(d:ByteArray)(ok:Bool)(w:World):Calls Tryz.prog 22 #[.agg #[.int .i64 k,.string d],.bool ok] w (BK w):=by
 have hw:=fun W=>Adj k d W
 go_enter Tryz.func22,Tryz.ntmps22
 go_wp2_with (go_at_call 41;refine(hw _).mono ?_;rintro e w1 ⟨s,b,rfl,hb1⟩;have L1:=Au (Ai (Ai (Below.refl _ w) _) _) hb1;have A1:=(Am _ (w.heap.size+1) [.string ⟨#[]⟩,.string ⟨#[]⟩,.int .i64 0] 32 (by simp)).below hb1;have c0:=A1.c 0 (of_decide_eq_true rfl);have c1:=A1.c 1 (of_decide_eq_true rfl);have c2:=A1.c 2 (of_decide_eq_true rfl);have f0:=A1.f 0 (of_decide_eq_true rfl);have f1:=A1.f 1 (of_decide_eq_true rfl);have f2:=A1.f 2 (of_decide_eq_true rfl);cases ok<;>cases b)
 all_goals (with_reducible refine Ae ?_;first |exact⟨bodyPost_ret (Ax Tryz.results22 (Bu A1 (.string ⟨#[98,97,100]⟩) (.string ⟨#[]⟩) (.int .i64 0)) rfl (by kernel_rfl) (by kernel_rfl)) rfl (BK.mk (Bv L1 (by omega)))⟩|exact⟨bodyPost_ret (Ax Tryz.results22 (Bu A1 (.string ⟨#[119,97,105,116]⟩) (.string s) (.int .i64 0)) rfl (by kernel_rfl) (by kernel_rfl)) rfl (BK.mk (Bv L1 (by omega)))⟩)
theorem DD{f:ByteArray}{l:List UInt8}(h:f≠⟨l.toArray⟩):(f.toList==l)=false:=by
 rw[beq_eq_false_iff_ne,Lib.toList_data]
 intro e
 exact h (ByteArray.ext (by rw[<-e]))
set_option maxHeartbeats 1000000 in
set_option maxRecDepth 100000 in
theorem Yp(s:ByteArray)(w:World):Calls Tryz.prog 19 #[.string s] w fun e w'=>∃k c:Int,e=.returned (.tuple #[.int .i64 k,.int .i64 c])/\(k=0/\c=0∨1<=k/\k<=3/\(c=3∨c=6))/\w'=w:=by
 by_cases h1:s=⟨#[103,121,114,111]⟩
 ·subst h1
  go_enter Tryz.func19,Tryz.ntmps19
  go_wp2
  go_ret2
  exact⟨_,_,rfl,by decide,rfl⟩
 have f1:(s.toList==[103,121,114,111])=false:=DD h1
 by_cases h2:s=⟨#[115,117,110]⟩
 ·subst h2
  go_enter Tryz.func19,Tryz.ntmps19
  go_wp2
  go_ret2
  exact⟨_,_,rfl,by decide,rfl⟩
 have f2:(s.toList==[115,117,110])=false:=DD h2
 by_cases h3:s=⟨#[109,97,103]⟩
 ·subst h3
  go_enter Tryz.func19,Tryz.ntmps19
  go_wp2
  go_ret2
  exact⟨_,_,rfl,by decide,rfl⟩
 have f3:(s.toList==[109,97,103])=false:=DD h3
 clear h1 h2 h3
 go_enter Tryz.func19,Tryz.ntmps19
 go_wp2
 go_ret2
 exact⟨_,_,rfl,by decide,rfl⟩
set_option maxHeartbeats 1000000 in
set_option maxRecDepth 100000 in
theorem Yq(n:Int)(w:World):Calls Tryz.prog 20 #[.int .i64 n] w fun e w'=>∃m:Int,e=.returned (.int .i64 m)/\w'=w:=by
 by_cases h1:1000000<n
 ·go_enter Tryz.func20,Tryz.ntmps20
  go_wp2
  go_ret
  first |exact⟨_,rfl,rfl⟩|exact⟨⟨_,rfl⟩,rfl⟩
 by_cases h2:n< -1000000
 ·go_enter Tryz.func20,Tryz.ntmps20
  go_wp2
  go_ret
  first |exact⟨_,rfl,rfl⟩|exact⟨⟨_,rfl⟩,rfl⟩
 ·go_enter Tryz.func20,Tryz.ntmps20
  go_wp2
  go_ret
  first |exact⟨_,rfl,rfl⟩|exact⟨⟨_,rfl⟩,rfl⟩
set_option maxRecDepth 100000
set_option maxHeartbeats 20000000
theorem Bq(t:Int)(w:World):Calls Tryz.prog 67 #[.int .i64 t] w fun e w'=>e=.returned (.bool (cRight t))/\Below w.heap.size w w':=by
 rcases Fo t with⟨h0,h1⟩|hn
 ·have H:Hid _:=CS h0 h1
  go_enter Tryz.func67,Tryz.ntmps67
  go_wp2
  go_ret
  rw[H.out]
  exact⟨rfl,Below.refl _ _⟩
 ·have H:Hid _:=Dt hn
  by_cases c:0<=t
  ·have d:¬t<=157766400000:=by omega
   clear hn
   go_enter Tryz.func67,Tryz.ntmps67
   go_wp2
   go_ret
   rw[H.out]
   exact⟨rfl,Below.refl _ _⟩
  ·clear hn
   go_enter Tryz.func67,Tryz.ntmps67
   go_wp2
   go_ret
   rw[H.out]
   exact⟨rfl,Below.refl _ _⟩
theorem Tc(t:Int)(w:World)(h0:0<=t)(h1:t<=157766400000):Calls Tryz.prog 67 #[.int .i64 t] w fun e w'=>e=.returned (.bool true)/\Below w.heap.size w w':=by
 have h:=Bq t w
 rw[CS h0 h1]at h
 exact h
theorem Yr(t:Int)(w:World)(hn:¬(0<=t/\t<=157766400000)):Calls Tryz.prog 67 #[.int .i64 t] w fun e w'=>e=.returned (.bool false)/\Below w.heap.size w w':=by
 have h:=Bq t w
 rw[Dt hn]at h
 exact h
def Jf(bad:Bool)(t:Int):(Int)×Bool:=let r2:=Aw bad 1099511627776 t 86400000;(r2.1,r2.2)
def Ln(_:Bool)(_:Int):(Int)×Bool:=(0,true)
theorem Ys(b:Nat)(bad:Bool)(t:Int)(w:World)(hw:Fl b bad w)(h0:0<=t)(h1:t<=157766400000):
    Calls Tryz.prog 141 #[.pointer (some ⟨b,0,none⟩),.int .i64 t] w fun e w'=>e=.returned (.int .i64 ((Jf bad t).1))/\Fl b (Jf bad t).2 w'/\Aa b w w':=by
 have hl:=hw.lies
 go_enter Tryz.func141,Tryz.ntmps141
 go_wp2_with fail
 refine(Tc t _ h0 h1).mono ?_
 rintro e w1 ⟨rfl,k1⟩
 have K1:Aa b w w1:=Aa.trans (Aa.refl b w) (Aa.of_below k1)
 have BF_1:=hw.below k1
 have z1:=K1.size
 clear k1
 go_wp2_with fail
 refine(Cl b bad 1099511627776 t 86400000 _ BF_1).mono ?_
 rintro e w2 ⟨rfl,f2,k2⟩
 generalize e2:Aw bad 1099511627776 t 86400000=r2 at f2 ⊢
 have E2:Hid _:=e2
 clear e2
 have K2:=Aa.trans K1 k2
 have z2:=K2.size
 clear K1 BF_1 k2
 go_wp2
 go_ret
 have hs:Jf bad t=(r2.1,r2.2):=by unfold Jf;simp only[E2.out]
 rw[hs]
 exact⟨rfl,f2,K2⟩
theorem Adk(b:Nat)(bad:Bool)(t:Int)(w:World)(hw:Fl b bad w)(hn:¬(0<=t/\t<=157766400000)):
    Calls Tryz.prog 141 #[.pointer (some ⟨b,0,none⟩),.int .i64 t] w fun e w'=>e=.returned (.int .i64 ((Ln bad t).1))/\Fl b (Ln bad t).2 w'/\Aa b w w':=by
 have hl:=hw.lies
 go_enter Tryz.func141,Tryz.ntmps141
 go_wp2_with fail
 refine(Yr t _ hn).mono ?_
 rintro e w1 ⟨rfl,k1⟩
 have K1:Aa b w w1:=Aa.trans (Aa.refl b w) (Aa.of_below k1)
 have BF_1:=hw.below k1
 have z1:=K1.size
 clear k1
 go_wp2_with fail
 refine(Bm b bad _ BF_1).mono ?_
 rintro e w2 ⟨rfl,f2,k2⟩
 have K2:=Aa.trans K1 k2
 have z2:=K2.size
 clear K1 BF_1 k2
 go_wp2
 go_ret
 have hs:Ln bad t=(0,true):=rfl
 rw[hs]
 exact⟨rfl,f2,K2⟩
theorem Adl(bad:Bool){t:Int}(h0:0<=t)(h1:t<=157766400000):Jf bad t=EL bad t:=by
 unfold Jf EL;rw[CS h0 h1];rfl
theorem Yt(bad:Bool){t:Int}(hn:¬(0<=t/\t<=157766400000)):Ln bad t=EL bad t:=by
 unfold Ln;rw[Sy bad hn]
theorem Yu(b:Nat)(bad:Bool)(t:Int)(w:World)(hw:Fl b bad w):
    Calls Tryz.prog 141 #[.pointer (some ⟨b,0,none⟩),.int .i64 t] w fun e w'=>e=.returned (.int .i64 (EL bad t).1)/\Fl b (EL bad t).2 w'/\Aa b w w':=by
 rcases Fo t with⟨h0,h1⟩|hn
 ·have h:=Ys b bad t w hw h0 h1
  rw[Adl bad h0 h1]at h
  exact h
 ·have h:=Adk b bad t w hw hn
  rw[Yt bad hn]at h
  exact h
def FN(k c:Int):Bool:=decide ((nBounds k).1<=c)&&decide (c<=(nBounds k).2)
def CF(k:Int)(cf:Nat->Int):Nat->Bool
 |0=>true
 |j+1=>CF k cf j&&FN k (cf j)
def cntsL(cf:Nat->Int):Nat->List Int
 |0=>[]
 |j+1=>cntsL cf j++[IntKind.u8.wrap (cf j / 256),IntKind.u8.wrap (cf j)]
theorem Gx(cf:Nat->Int):∀j,(cntsL cf j).length=2*j
 |0=>rfl
 |j+1=>by
  have:=Gx cf j
  simp only[cntsL,List.length_append,List.length_cons,List.length_nil]
  omega
theorem Jg(x:Int):0<=IntKind.u8.wrap x/\IntKind.u8.wrap x<256:=by
 rw[IntKind.wrap_u8]
 omega
theorem Gy(cf:Nat->Int):∀j,∀b∈cntsL cf j,0<=b/\b<256
 |0=>by intro b hb;cases hb
 |j+1=>by
  intro b hb
  simp only[cntsL,List.mem_append,List.mem_cons,List.not_mem_nil,or_false]at hb
  rcases hb with hb |rfl |rfl
  ·exact Gy cf j b hb
  ·exact Jg _
  ·exact Jg _
theorem Jh(t:Int):∀b∈tickL t,0<=b/\b<256:=by
 intro b hb
 simp only[tickL,List.mem_cons,List.not_mem_nil,or_false]at hb
 rcases hb with rfl |rfl |rfl |rfl |rfl |rfl<;>exact Jg _
def CO(k t:Int)(cf:Nat->Int):Bool:=!decide (nCounts k=0)&&cRight t&&CF k cf (nCounts k).toNat
def DW(k t:Int)(cf:Nat->Int):List Int:=tickL t++cntsL cf (nCounts k).toNat
def BZ(k t:Int)(cf:Nat->Int):Int×ByteArray:=if CO k t cf then(k,strOf (DW k t cf))else(0,⟨#[]⟩)
theorem Lo {k:Int}{cf:Nat->Int}{i j:Nat}(h:CF k cf j=false)(hij:j<=i):CF k cf i=false:=by
 induction i with
 | zero => obtain rfl:j=0:=by omega
           exact h
 | succ i ih=>
  by_cases c:j=i+1
  ·rw[<-c];exact h
  ·show(CF k cf i&&FN k (cf i))=false
   rw[ih (by omega)]
   rfl
theorem Ap2(W:World)(b n:Nat)(h:n<=6):(Instr.sliceAt 74 (.pointer (some ⟨b,0,none⟩)) none (some (.int .i64 (n:Int))) none).run Tryz.prog W=.ok (.slice (some ⟨b,0,none⟩) n 6) W:=by
 have e:Tryz.prog.arrayLen 74=6:=by kernel_rfl
 have hs:(sizeOf (Tryz.prog.elem 74)).run Tryz.prog W=.ok 1 W:=by kernel_rfl
 rw[run_sliceAt_array_h W 74 ⟨b,0,none⟩ (by kernel_rfl) .i64 (n:Int) (by omega) (by rw[e];omega),hs,e]
 simp[Result.andThen,slicedAt,Addr.add]
theorem Yv(k t:Int)(cf:Nat->Int)(w:World)(h0:¬nCounts k=0)(ht:cRight t=true):
    Calls Tryz.prog 49 #[.int .i64 k,.int .i64 t,.agg (row 6 cf).toArray] w fun e w'=>e=.returned (.tuple #[.agg #[.int .i64 (BZ k t cf).1,.string (BZ k t cf).2],.bool (CO k t cf)])/\Below w.heap.size w w':=by
 have hc:=F6 k
 have hr:=Bq t
 rw[ht]at hr
 have hb:=Qi k
 have hp:=Qj t
 have hn:nCounts k=3∨nCounts k=6:=by unfold nCounts at h0 ⊢;split at h0<;>(try split at h0)<;>simp_all
 obtain⟨n,hne⟩:∃n:Nat,nCounts k=(n:Int):=⟨(nCounts k).toNat,by omega⟩
 have hbr:-32768<=(nBounds k).1/\(nBounds k).1<=65535/\-32768<=(nBounds k).2/\(nBounds k).2<=65535:=by unfold nBounds;split<;>omega
 have HW:Hid (CO k t cf=CF k cf n):=by show _=_;unfold CO;rw[ht,hne];simp;omega
 have HL:Hid (DW k t cf=tickL t++cntsL cf n):=by show _=_;unfold DW;rw[hne];rfl
 have HF:Hid (∀c,FN k c=(decide ((nBounds k).1<=c)&&decide (c<=(nBounds k).2))):=fun c=>rfl
 rw[hne]at hc hn
 clear h0 hne ht
 have n7:n=3∨n=6:=by omega
 clear hn
 generalize (nBounds k).1=lo at *
 generalize (nBounds k).2=hi at *
 rw[show(row 6 cf).toArray=#[.int .i64 (cf 0),.int .i64 (cf 1),.int .i64 (cf 2),.int .i64 (cf 3),.int .i64 (cf 4),.int .i64 (cf 5)]from rfl]
 go_enter Tryz.func49,Tryz.ntmps49
 go_wp2_with fail
 refine(hc _).mono ?_
 rintro e X ⟨rfl,rfl⟩
 go_wp2_with fail
 refine(hr _).mono ?_
 rintro e W1 ⟨rfl,k1⟩
 have L1:=Au (Ai (Ai (Below.refl _ w) _) _) k1
 have C1:Ap w.heap.size (row 6 cf) W1:=((Am w w.heap.size (row 6 cf) 74 rfl).alloc _).below k1
 have R1:=(Am _ (w.heap.size+1) [.int .i64 0,.string ⟨#[]⟩] 77 (by simp)).below k1
 have Rz1:=R1.lies
 clear k1
 go_wp2_with fail
 refine(hb _).mono ?_
 rintro e X ⟨rfl,rfl⟩
 go_wp2_with fail
 refine(hp _).mono ?_
 rintro e W2 ⟨v2,rfl,O2,k2⟩
 have L2:=Au L1 k2
 have C2:=C1.below k2
 have R2:=R1.below k2
 have O2:=O2.base (B:=w.heap.size+2) (by omega)
 have Rz2:=R2.lies
 clear k2 L1 C1 R1 Rz1
 have hsl:=fun W=>Ap2 W w.heap.size n (by omega)
 go_wp2_with fail
 go_loopw [11,34] (fun dv iv wr=>∃j:Nat,j<=n/\iv=.int .i64 j/\CF k cf j=true/\Bg (w.heap.size+2) wr dv (tickL t++cntsL cf j)/\Below w.heap.size w wr/\Ap w.heap.size (row 6 cf) wr/\Ap (w.heap.size+1) [.int .i64 0,.string ⟨#[]⟩] wr) (fun _ iv _=>n-(intOf iv).toNat)
 case atStart=>exact⟨0,by omega,rfl,rfl,by unfold cntsL;rw[List.append_nil];exact O2,L2,C2,R2⟩
 case round=>
  obtain⟨j,hj,rfl,hfit,O3,L3,C3,R3⟩:=hrel
  have Cz3:=C3.lies
  have Rz3:=R3.lies
  have HJ:Hid (CF k cf j=true):=hfit
  clear hfit L2 C2 R2 O2 Rz2
  by_cases hjn:j<n
  ·have cC:=DI C3 j (by omega)
   have HN:Hid (CF k cf (j+1)=FN k (cf j)):=by show(CF k cf j&&FN k (cf j))=_;rw[HJ.out];rfl
   have HC:Hid (cntsL cf (j+1)=cntsL cf j++[IntKind.u8.wrap (cf j / 256),IntKind.u8.wrap (cf j)]):=rfl
   have hlen:=Gx cf j
   have hlt:(tickL t++cntsL cf j).length=6+2*j:=by rw[List.length_append,hlen];rfl
   have HG:=HF.out (cf j)
   have HG':Hid _:=HG
   clear HG
   generalize cf j=c at cC HN HC HG'
   by_cases hfits:lo<=c/\c<=hi
   ·have hft:Hid (FN k c=true):=by show _=_;rw[HG'.out];simp;omega
    have hl2:(tickL t++cntsL cf j).length+[IntKind.u8.wrap (c / 256),IntKind.u8.wrap c].length<=100:=by rw[hlt];simp;omega
    go_wp2_with (at_builtin;refine AN rfl (.tmp 47) (.tmp 53) rfl (w.heap.size+2) u11 (tickL t++cntsL cf j) [IntKind.u8.wrap (c / 256),IntKind.u8.wrap c] wr rfl O3 rfl hl2 Rz3 ?_;intro v4 w4 O4 b4 z4)
    go_roundw
    case rel=>exact⟨j+1,by omega,by go_num,by rw[HN.out,hft.out],by rw[HC.out,<-List.append_assoc];exact O4,L3.trans (b4.mono (by omega)),C3.under b4 (by omega) z4,R3.under b4 (by omega) z4⟩
    case measure=>simp[intOf];omega
   ·have hft:Hid (FN k c=false):=by show _=_;rw[HG'.out];simp;omega
    have HX:Hid (CF k cf n=false):=Lo (by rw[HN.out,hft.out]) (show j+1<=n by omega)
    by_cases h2:c<lo
    ·clear hfits
     have cR0:wr.cell? ⟨w.heap.size+1,0,none⟩=some (.int .i64 0):=R3.c 0 (zD rfl)
     have cR1:wr.cell? ⟨w.heap.size+1,1,none⟩=some (.string ⟨#[]⟩):=R3.c 1 (zD rfl)
     have gR0:=R3.f 0 (zD rfl)
     have gR1:=R3.f 1 (zD rfl)
     go_wp2_with (with_reducible refine Ae ?_)
     have d0:=Ap.c ((R3.put 0 (zD rfl) (.int .i64 0) [.int .i64 0,.string ⟨#[]⟩] rfl).put 1 (zD rfl) (.string ⟨#[]⟩) [.int .i64 0,.string ⟨#[]⟩] rfl) 0 (zD rfl)
     have d1:=Ap.c ((R3.put 0 (zD rfl) (.int .i64 0) [.int .i64 0,.string ⟨#[]⟩] rfl).put 1 (zD rfl) (.string ⟨#[]⟩) [.int .i64 0,.string ⟨#[]⟩] rfl) 1 (zD rfl)
     simp only[List.getElem_cons_zero,List.getElem_cons_succ]at d0 d1
     exact⟨bodyPost_ret (v:=.tuple #[.agg #[.int .i64 0,.string ⟨#[]⟩],.bool false]) (by simp[results_cell_tmp Tryz.results49,asAddr,go_sem,d0,d1]) rfl ⟨by unfold BZ;rw[HW.out,HX.out];rfl,Al (Al L3 _ _ (by omega) _) _ _ (by omega) _⟩⟩
    ·have h3:hi<c:=by omega
     clear hfits
     have cR0:wr.cell? ⟨w.heap.size+1,0,none⟩=some (.int .i64 0):=R3.c 0 (zD rfl)
     have cR1:wr.cell? ⟨w.heap.size+1,1,none⟩=some (.string ⟨#[]⟩):=R3.c 1 (zD rfl)
     have gR0:=R3.f 0 (zD rfl)
     have gR1:=R3.f 1 (zD rfl)
     go_wp2_with (with_reducible refine Ae ?_)
     have d0:=Ap.c ((R3.put 0 (zD rfl) (.int .i64 0) [.int .i64 0,.string ⟨#[]⟩] rfl).put 1 (zD rfl) (.string ⟨#[]⟩) [.int .i64 0,.string ⟨#[]⟩] rfl) 0 (zD rfl)
     have d1:=Ap.c ((R3.put 0 (zD rfl) (.int .i64 0) [.int .i64 0,.string ⟨#[]⟩] rfl).put 1 (zD rfl) (.string ⟨#[]⟩) [.int .i64 0,.string ⟨#[]⟩] rfl) 1 (zD rfl)
     simp only[List.getElem_cons_zero,List.getElem_cons_succ]at d0 d1
     exact⟨bodyPost_ret (v:=.tuple #[.agg #[.int .i64 0,.string ⟨#[]⟩],.bool false]) (by simp[results_cell_tmp Tryz.results49,asAddr,go_sem,d0,d1]) rfl ⟨by unfold BZ;rw[HW.out,HX.out];rfl,Al (Al L3 _ _ (by omega) _) _ _ (by omega) _⟩⟩
  ·obtain rfl:j=n:=by omega
   have hcv:=C9 O3 (by unfold tickL;simp) (fun b hb=>(List.mem_append.1 hb).elim (Jh t b) (Gy cf j b))
   have HS:Hid (DW k t cf=tickL t++cntsL cf j):=HL
   rw[<-HL.out]at hcv
   generalize hS:strOf (DW k t cf)=S at hcv
   have HT:Hid (strOf (DW k t cf)=S):=hS
   clear hS O3 HS
   have cR0:wr.cell? ⟨w.heap.size+1,0,none⟩=some (.int .i64 0):=R3.c 0 (zD rfl)
   have cR1:wr.cell? ⟨w.heap.size+1,1,none⟩=some (.string ⟨#[]⟩):=R3.c 1 (zD rfl)
   have gR0:=R3.f 0 (zD rfl)
   have gR1:=R3.f 1 (zD rfl)
   go_wp2_with (with_reducible refine Ae ?_)
   have d0:=Ap.c ((R3.put 0 (zD rfl) (.int .i64 k) [.int .i64 k,.string ⟨#[]⟩] rfl).put 1 (zD rfl) (.string S) [.int .i64 k,.string S] rfl) 0 (zD rfl)
   have d1:=Ap.c ((R3.put 0 (zD rfl) (.int .i64 k) [.int .i64 k,.string ⟨#[]⟩] rfl).put 1 (zD rfl) (.string S) [.int .i64 k,.string S] rfl) 1 (zD rfl)
   simp only[List.getElem_cons_zero,List.getElem_cons_succ]at d0 d1
   exact⟨bodyPost_ret (v:=.tuple #[.agg #[.int .i64 k,.string S],.bool true]) (by simp[results_cell_tmp Tryz.results49,asAddr,go_sem,d0,d1]) rfl ⟨by unfold BZ;rw[HW.out,HJ.out,if_pos rfl,HT.out],Al (Al L3 _ _ (by omega) _) _ _ (by omega) _⟩⟩
theorem JH{k t:Int}{cf:Nat->Int}(h:nCounts k=0∨cRight t=false):CO k t cf=false:=by
 unfold CO
 rcases h with h |h
 ·rw[h];rfl
 ·rw[h,Bool.and_false];rfl
theorem Td(k t:Int)(cf:Nat->Int)(w:World)(h:nCounts k=0∨cRight t=false):
    Calls Tryz.prog 49 #[.int .i64 k,.int .i64 t,.agg (row 6 cf).toArray] w fun e w'=>e=.returned (.tuple #[.agg #[.int .i64 0,.string ⟨#[]⟩],.bool false])/\Below w.heap.size w w':=by
 have hc:=F6 k
 have hr:=Bq t
 rw[show(row 6 cf).toArray=#[.int .i64 (cf 0),.int .i64 (cf 1),.int .i64 (cf 2),.int .i64 (cf 3),.int .i64 (cf 4),.int .i64 (cf 5)]from rfl]
 by_cases h0:nCounts k=0
 ·rw[h0]at hc
  clear h h0 hr
  go_enter Tryz.func49,Tryz.ntmps49
  go_wp2_with fail
  refine(hc _).mono ?_
  rintro e X ⟨rfl,rfl⟩
  go_wp2_with (with_reducible refine Ae ?_)
  exact⟨bodyPost_ret (v:=.tuple #[.agg #[.int .i64 0,.string ⟨#[]⟩],.bool false]) (by simp[results_cell_tmp Tryz.results49,asAddr,go_sem]) rfl ⟨rfl,Ai (Ai (Below.refl _ _) _) _⟩⟩
 ·have h1:cRight t=false:=h.resolve_left h0
  have d0:(nCounts k==0)=false:=by simpa using h0
  rw[h1]at hr
  clear h h0 h1
  generalize nCounts k=n at hc d0
  go_enter Tryz.func49,Tryz.ntmps49
  go_wp2_with fail
  refine(hc _).mono ?_
  rintro e X ⟨rfl,rfl⟩
  go_wp2_with fail
  refine(hr _).mono ?_
  rintro e W1 ⟨rfl,k1⟩
  have L1:=Au (Ai (Ai (Below.refl _ w) _) _) k1
  have R1:=(Am _ (w.heap.size+1) [.int .i64 0,.string ⟨#[]⟩] 77 (by simp)).below k1
  have cR0:W1.cell? ⟨w.heap.size+1,0,none⟩=some (.int .i64 0):=R1.c 0 (zD rfl)
  have cR1:W1.cell? ⟨w.heap.size+1,1,none⟩=some (.string ⟨#[]⟩):=R1.c 1 (zD rfl)
  have gR0:=R1.f 0 (zD rfl)
  have gR1:=R1.f 1 (zD rfl)
  clear k1
  go_wp2_with (with_reducible refine Ae ?_)
  have d0:=Ap.c ((R1.put 0 (zD rfl) (.int .i64 0) [.int .i64 0,.string ⟨#[]⟩] rfl).put 1 (zD rfl) (.string ⟨#[]⟩) [.int .i64 0,.string ⟨#[]⟩] rfl) 0 (zD rfl)
  have d1:=Ap.c ((R1.put 0 (zD rfl) (.int .i64 0) [.int .i64 0,.string ⟨#[]⟩] rfl).put 1 (zD rfl) (.string ⟨#[]⟩) [.int .i64 0,.string ⟨#[]⟩] rfl) 1 (zD rfl)
  simp only[List.getElem_cons_zero,List.getElem_cons_succ]at d0 d1
  exact⟨bodyPost_ret (v:=.tuple #[.agg #[.int .i64 0,.string ⟨#[]⟩],.bool false]) (by simp[results_cell_tmp Tryz.results49,asAddr,go_sem,d0,d1]) rfl ⟨rfl,Al (Al L1 _ _ (by omega) _) _ _ (by omega) _⟩⟩
theorem Te(k t:Int)(cf:Nat->Int)(w:World):
    Calls Tryz.prog 49 #[.int .i64 k,.int .i64 t,.agg (row 6 cf).toArray] w fun e w'=>e=.returned (.tuple #[.agg #[.int .i64 (BZ k t cf).1,.string (BZ k t cf).2],.bool (CO k t cf)])/\Below w.heap.size w w':=by
 by_cases h:nCounts k=0∨cRight t=false
 ·have e:=JH (cf:=cf) h
  unfold BZ
  rw[e]
  exact Td k t cf w h
 ·exact Yv k t cf w (fun h'=>h (Or.inl h')) (by cases h':cRight t;exact absurd (Or.inr h') h;rfl)
end Go.Proofs.YtgmpfeaanjnhaaaGreatDoor
namespace Go.Proofs.YtgmpfeaanjnhaaaGreatDoor
open Go.RowKit
attribute [local go_sem ↓] Go.wp_at_zero Go.wp_at_succ
set_option maxHeartbeats 400000 in
theorem JI(a:Int)(w:World):
    Calls Tryz.prog 124 #[.int .i64 a] w fun e w'=>e=.returned (.bool (numB a))/\w'=w:=by
 go_enter Tryz.func124,Tryz.ntmps124
 go_wp2
 all_goals
  go_ret
  exact⟨ET (by unfold numB;simp;try omega),rfl⟩
set_option maxHeartbeats 400000 in
theorem Adm(a b c d:Int)(w:World)(h1:0<=a/\a<=18446744073709551615)(h2:0<=b/\b<=18446744073709551615)(h3:0<=c/\c<=18446744073709551615)(h4:0<=d/\d<=18446744073709551615)
    (hs:a*18446744073709551616+b+(c*18446744073709551616+d)<=340282366920938463463374607431768211455):
    Calls Tryz.prog 196 #[.agg #[.int .u64 a,.int .u64 b],.agg #[.int .u64 c,.int .u64 d]] w fun e w'=>e=.returned (.agg #[.int .u64 (hi64 (a*18446744073709551616+b+(c*18446744073709551616+d))),.int .u64 (lo64 (a*18446744073709551616+b+(c*18446744073709551616+d)))])/\Below w.heap.size w w':=by
 have HS:Hid _:=hs
 clear hs
 go_enter Tryz.func196,Tryz.ntmps196
 go_wp2
 all_goals
  rename_i hq
  go_returns
  refine⟨Kv ?_ ?_,by go_grown⟩<;>(have hs:=HS.out;rw[IntKind.wrap_u64]at hq;simp only[IntKind.wrap_u64];first |unfold hi64 |unfold lo64);all_goals omega
theorem Lp(n m:Int)(w:World)(h0:0<=n)(k0:0<=m)(hs:n+m<=340282366920938463463374607431768211455):
    Calls Tryz.prog 196 #[.agg #[.int .u64 (hi64 n),.int .u64 (lo64 n)],.agg #[.int .u64 (hi64 m),.int .u64 (lo64 m)]] w fun e w'=>e=.returned (.agg #[.int .u64 (hi64 (n+m)),.int .u64 (lo64 (n+m))])/\Below w.heap.size w w':=by
 have e1:=Ie n
 have e2:=Ie m
 have:=Adm (hi64 n) (lo64 n) (hi64 m) (lo64 m) w (DZ n h0 (by omega)) (BS n) (DZ m k0 (by omega)) (BS m) (by omega)
 rw[e1,e2]at this
 exact this
set_option maxHeartbeats 400000 in
theorem Ee(a:Int)(w:World)(h:numB a=true):
    Calls Tryz.prog 127 #[.int .i64 a] w fun e w'=>e=.returned (.int .u64 (sz a))/\w'=w:=by
 have hb:=D3 h
 go_enter Tryz.func127,Tryz.ntmps127
 go_wp2
 all_goals
  go_ret
  exact⟨B6 (by unfold sz;split<;>omega),rfl⟩
set_option maxHeartbeats 400000 in
theorem Yw(b:Nat)(n:Int)(minus:Bool)(w:World)(hw:Fl b false w)(h0:0<=n)(h1:n<=18446744073709551615):
    Calls Tryz.prog 128 #[.pointer (some ⟨b,0,none⟩),.int .u64 n,.bool minus] w fun e w'=>e=.returned (.int .i64 (out n minus).1)/\Fl b (out n minus).2 w'/\Aa b w w':=by
 show Calls Tryz.prog 128 _ _ fun e w'=>e=.returned (.int .i64 (Kn n minus))/\Fl b (decide (4611686018427387904<n)) w'/\Aa b w w'
 have HW:Hid _:=hw
 obtain⟨hc,hf,hl⟩:=hw
 by_cases c:n<=4611686018427387904
 ·have HS:Hid _:=If n minus c
  have HC:Hid (decide (4611686018427387904<n)=false):=by show _=_;simp;omega
  cases minus
  all_goals
   go_enter Tryz.func128,Tryz.ntmps128
   go_wp2
   go_ret
   rw[HC.out]
   exact⟨B6 HS.out,HW.out,Aa.refl _ _⟩
 ·have HS:Hid _:=Ig n minus c
  go_enter Tryz.func128,Tryz.ntmps128
  go_wp2
  go_ret
  exact⟨B6 HS.out,HW.out.set true,(Aa.refl _ _).setCell _⟩
set_option maxHeartbeats 400000 in
theorem Yx(b s:Nat)(bad:Bool)(zs:List Int)(w:World)(hw:Fl b bad w)(hz:Aav s zs w)(hlen:zs.length<=3)(hsb:s≠b)(hs:s<w.heap.size):
    Calls Tryz.prog 84 #[.pointer (some ⟨b,0,none⟩),.slice (some ⟨s,0,none⟩) zs.length zs.length] w fun e w'=>e=.returned (.bool (tk bad zs))/\Fl b (!tk bad zs) w'/\Aa b w w':=by
 have HW:Hid _:=hw
 have HZ:Hid _:=hz
 clear hz hw
 go_enter Tryz.func84,Tryz.ntmps84
 go_wp2
 go_loopw [5] (fun v wr=>∃k:Nat,k<=zs.length/\v=.int .i64 k/\Hid (Fl b (bad|| !(zs.take k).all numB) wr)/\Hid (Aa b w wr)) (fun v _=>zs.length-(intOf v).toNat)
 case atStart=>exact⟨0,Nat.zero_le _,rfl,by show Fl _ _ _;simpa using HW.out,Aa.refl _ _⟩
 case round=>
  obtain⟨k,hk,rfl,HF,HK⟩:=hrel
  by_cases hlt:k<zs.length
  ·have hcell:wr.cell? ⟨s,k,none⟩=some (.int .i64 zs[k]):=(HK.out.cell (p:=⟨s,k,none⟩) hs hsb).trans (HZ.out k hlt)
   have HS:Hid _:=GL hlt
   generalize zs[k]=z at *
   cases c:numB z
   ·have HC2:Hid _:=c
    clear c
    have hf1:=HF.out.cell
    have hf2:=HF.out.free
    go_wp2_with fail
    refine(JI _ _).mono ?_
    rintro e w1 ⟨rfl,rfl⟩
    rw[HC2.out]
    go_wp2
    refine⟨⟨k+1,by omega,by go_num,?_,HK.out.setCell _⟩,by simp[intOf];omega⟩
    show Fl _ _ _
    rw[HS.out,HC2.out]
    simpa using HF.out.set true
   ·have HC2:Hid _:=c
    clear c
    go_wp2_with fail
    refine(JI _ _).mono ?_
    rintro e w1 ⟨rfl,rfl⟩
    rw[HC2.out]
    go_wp2
    refine⟨⟨k+1,by omega,by go_num,?_,HK.out⟩,by simp[intOf];omega⟩
    show Fl _ _ _
    rw[HS.out,HC2.out]
    simpa using HF.out
  ·have hf1:=HF.out.cell
   have HT:Hid (zs.take k=zs):=List.take_of_length_le (by omega)
   rw[HT.out]at hf1
   go_wp2
   go_ret
   have h1:=HF.out
   rw[HT.out,Aae]at h1
   exact⟨ET rfl,h1,HK.out⟩
theorem Ap3(b:Nat)(bad:Bool)(x y:Int)(w:World)(hw:Fl b bad w):
    Calls Tryz.prog 84 #[.pointer (some ⟨b,0,none⟩),.slice (some ⟨w.heap.size,0,none⟩) 2 2] (w.alloc (.cells #[.int .i64 x,.int .i64 y] 2)) fun e w'=>e=.returned (.bool (tk bad [x,y]))/\Fl b (!tk bad [x,y]) w'/\Aa b w w':=
 (Yx b w.heap.size bad [x,y] _ (hw.alloc _) (PF x y w) (by simp) (Nat.ne_of_gt hw.lies) (by simp)).mono fun _ _ h=>⟨h.1,h.2.1,(Aa.alloc b w _).trans h.2.2⟩
end Go.Proofs.YtgmpfeaanjnhaaaGreatDoor
namespace Go.Proofs.YtgmpfeaanjnhaaaGreatDoor
open Go.RowKit
attribute [local go_sem ↓] Go.wp_at_zero Go.wp_at_succ
set_option maxHeartbeats 400000 in
theorem Lq(x y:Int)(w:World)(hx:0<=x/\x<=9223372036854775808)(hy:0<=y/\y<=9223372036854775808):
    Calls Tryz.prog 126 #[.int .u64 x,.int .u64 y] w fun e w'=>e=.returned (.agg #[.int .u64 (hi64 (x*y)),.int .u64 (lo64 (x*y))])/\Below w.heap.size w w':=by
 go_enter Tryz.func126,Tryz.ntmps126
 go_wp2
 have HP:Hid _:=Aap x y hx hy
 go_loopw [1] (fun v wr=>∃y' s t:Int,v=.int .u64 y'/\0<=y'/\y'<=9223372036854775808/\Hid (Wd (w.heap.size+1) s wr/\Wd (w.heap.size+1+1) t wr/\Wd w.heap.size 0 wr)/\Hid (s+t*y'=x*y/\0<=s/\0<=t/\t<=170141183460469231731687303715884105728)/\Hid (Below w.heap.size w wr)) (fun v _=>(intOf v).toNat)
 case atStart=>
  have e:=Kt x hx.1 (by omega)
  have z:=Kt 0 (by decide) (by decide)
  refine⟨y,0,x,rfl,hy.1,hy.2,⟨⟨?_,?_,?_,?_,?_⟩,⟨?_,?_,?_,?_,?_⟩,⟨?_,?_,?_,?_,?_⟩⟩,⟨by omega,by decide,hx.1,by omega⟩,?_⟩
  all_goals first |(show Below _ _ _;go_grown;done)|(simp[go_sem,e.1,e.2,z.1,z.2];done)|(simp[go_sem,e.1,e.2,z.1,z.2];omega)
 case round=>
  obtain⟨y',s,t,rfl,hy0,hy1,HM,HE,HB⟩:=hrel
  have hz:w.heap.size+1+1<wr.heap.size:=HM.out.2.1.lies
  by_cases hc:0<y'
  ·have HL:Hid _:=Aao s t y' _ HE.out.1 HE.out.2.1 HE.out.2.2.1 hc
   have m1:=HM.out.1.hi
   have m2:=HM.out.1.lo
   have m3:=HM.out.1.fh
   have m4:=HM.out.1.fl
   have m5:=HM.out.2.1.hi
   have m6:=HM.out.2.1.lo
   have m7:=HM.out.2.1.fh
   have m8:=HM.out.2.1.fl
   by_cases ho:y' % 2=1
   ·have HO:Hid _:=Xu s t y' _ HE.out.1 ho
    have ho1:(y' % 2==1)=true:=by simpa using ho
    clear ho
    go_wp2_with fail
    refine(Lp s t _ HE.out.2.1 HE.out.2.2.1 (by have:=HL.out;have:=HP.out;omega)).mono ?_
    rintro e w1 ⟨rfl,hb⟩
    have H1:Hid _:=HM.out.1.below hb
    have H2:Hid _:=HM.out.2.1.below hb
    have H3:Hid _:=HM.out.2.2.below hb
    have HB1:Hid _:=HB.out.trans (hb.mono (Nat.le_of_lt (Nat.lt_of_le_of_lt (by omega) hz)))
    have hz1:w.heap.size+1+1<w1.heap.size:=H2.out.lies
    clear m1 m2 m3 m4 m5 m6 m7 m8 hb hz
    have m1:=H1.out.hi
    have m2:=H1.out.lo
    have m3:=H1.out.fh
    have m4:=H1.out.fl
    have m5:=H2.out.hi
    have m6:=H2.out.lo
    have m7:=H2.out.fh
    have m8:=H2.out.fl
    go_wp2_with fail
    refine(Lp t t _ HE.out.2.2.1 HE.out.2.2.1 (by have:=HL.out;have:=HP.out;omega)).mono ?_
    rintro e w2 ⟨rfl,hb⟩
    have J1:Hid _:=(H1.out.put (s+t)).below hb
    have J2:Hid _:=(H2.out.far (by omega) (.int .u64 (hi64 (s+t))) (.int .u64 (lo64 (s+t)))).below hb
    have J3:Hid _:=(H3.out.far (by omega) (.int .u64 (hi64 (s+t))) (.int .u64 (lo64 (s+t)))).below hb
    have HB2:Hid (Below w.heap.size w w2):=((HB1.out.setCell (by simp) _).setCell (by simp) _).trans (hb.mono (by simp;omega))
    have hz2:w.heap.size+1+1<w2.heap.size:=J2.out.lies
    clear m1 m2 m3 m4 m5 m6 m7 m8 hb hz1
    have m5:=J2.out.hi
    have m6:=J2.out.lo
    have m7:=J2.out.fh
    have m8:=J2.out.fl
    go_wp2
    refine⟨⟨y' / 2,s+t,t+t,rfl,by omega,by omega,⟨J1.out.far (by omega) _ _,J2.out.put _,J3.out.far (by omega) _ _⟩,⟨HO.out,?_,?_,?_⟩,(HB2.out.setCell (by simp;omega) _).setCell (by simp;omega) _⟩,by simp[intOf];omega⟩
    all_goals (have:=HE.out;have:=HL.out;have:=HP.out;omega)
   ·have HO:Hid _:=RL s t y' _ HE.out.1 (by omega)
    have ho1:(y' % 2==1)=false:=by simpa using ho
    clear ho
    go_wp2_with fail
    refine(Lp t t _ HE.out.2.2.1 HE.out.2.2.1 (by have:=HL.out;have:=HP.out;omega)).mono ?_
    rintro e w2 ⟨rfl,hb⟩
    have J1:Hid _:=HM.out.1.below hb
    have J2:Hid _:=HM.out.2.1.below hb
    have J3:Hid _:=HM.out.2.2.below hb
    have HB2:Hid (Below w.heap.size w w2):=HB.out.trans (hb.mono (by omega))
    have hz2:w.heap.size+1+1<w2.heap.size:=J2.out.lies
    clear m1 m2 m3 m4 m5 m6 m7 m8 hb hz
    have m5:=J2.out.hi
    have m6:=J2.out.lo
    have m7:=J2.out.fh
    have m8:=J2.out.fl
    go_wp2
    refine⟨⟨y' / 2,s,t+t,rfl,by omega,by omega,⟨J1.out.far (by omega) _ _,J2.out.put _,J3.out.far (by omega) _ _⟩,⟨HO.out,?_,?_,?_⟩,(HB2.out.setCell (by simp;omega) _).setCell (by simp;omega) _⟩,by simp[intOf];omega⟩
    all_goals (have:=HE.out;have:=HL.out;have:=HP.out;omega)
  ·have m1:=HM.out.1.hi
   have m2:=HM.out.1.lo
   have n1:=HM.out.2.2.hi
   have n2:=HM.out.2.2.lo
   have n3:=HM.out.2.2.fh
   have n4:=HM.out.2.2.fl
   have HZ:Hid (s=x*y):=by show _=_;have e:=HE.out.1;rw[show y'=0 by omega]at e;omega
   have HQ:Hid _:=World.cell?_setCell_same wr ⟨w.heap.size,0,none⟩ (.int .u64 (hi64 s)) n1
   have HQ2:Hid _:=(HM.out.2.2.put s).lo
   go_wp2
   refine bodyPost_ret (v:=.agg #[.int .u64 (hi64 s),.int .u64 (lo64 s)]) (by simp[results,Tryz.results126,go_sem,HQ.out,HQ2.out]) rfl ?_
   rw[HZ.out]
   exact⟨rfl,(HB.out.setCell (Nat.le_refl _) _).setCell (Nat.le_refl _) _⟩
end Go.Proofs.YtgmpfeaanjnhaaaGreatDoor
namespace Go.Proofs.YtgmpfeaanjnhaaaGreatDoor
open Go.RowKit
attribute [local go_sem ↓] Go.wp_at_zero Go.wp_at_succ
set_option maxHeartbeats 400000 in
theorem Adn(n d:Int)(w:World)(h0:0<=d)(h:d=0∨d<=hi64 n):
    Calls Tryz.prog 195 #[.agg #[.int .u64 (hi64 n),.int .u64 (lo64 n)],.int .u64 d] w fun e w'=>e=.returned (.tuple #[.int .u64 0,.int .u64 0,.bool false])/\Below w.heap.size w w':=by
 by_cases c:d=0
 ·subst c
  clear h h0
  go_enter Tryz.func195,Tryz.ntmps195
  go_wp2
  go_ret3
  exact⟨rfl,by go_grown⟩
 ·have c1:(d==0)=false:=by simpa using c
  have c2:d<=hi64 n:=by omega
  clear h c
  go_enter Tryz.func195,Tryz.ntmps195
  go_wp2
  go_ret3
  exact⟨rfl,by go_grown⟩
set_option maxHeartbeats 400000 in
theorem Nq(n d:Int)(w:World)(h0:0<=n)(h1:n<=85070591730234615865843651857942052864)(hq:hi64 n<d)(hd:d<=4611686018427387904):
    Calls Tryz.prog 195 #[.agg #[.int .u64 (hi64 n),.int .u64 (lo64 n)],.int .u64 d] w fun e w'=>e=.returned (.tuple #[.int .u64 (n / d),.int .u64 (n % d),.bool true])/\Below w.heap.size w w':=by
 have b1:=DZ n h0 (by omega)
 have b2:=BS n
 have hd0:0<d:=by omega
 have c1:(d==0)=false:=by simp;omega
 have c2:decide (d<=hi64 n)=false:=by simp;omega
 go_enter Tryz.func195,Tryz.ntmps195
 go_wp2
 go_loop [7,8,9] (fun vr vq vj=>∃j:Int,-1<=j/\j<=63/\vr=.int .u64 (ldr n d (j+1).toNat)/\vq=.int .u64 (ldq n d (j+1).toNat)/\vj=.int .i64 j) (fun _ _ vj=>(intOf vj+1).toNat)
 case atStart=>
  have:=Aaj n d h0 hq
  exact⟨63,by omega,by omega,by show _=Value.int .u64 (ldr n d 64);rw[this.2],by show _=Value.int .u64 (ldq n d 64);rw[this.1],rfl⟩
 case round=>
  obtain⟨j,hj0,hj1,rfl,rfl,rfl⟩:=hrel
  by_cases hj:0<=j
  ·obtain⟨m,rfl⟩:=Int.eq_ofNat_of_zero_le hj
   rw[show((m:Int)+1).toNat=m+1 by omega]
   have HS:Hid _:=Pw n d m hd0
   have HR:Hid _:=Aai n d (m+1) hd0
   have HQ:Hid _:=NP n d m hd0 h0 hq
   have HQ1:Hid _:=NP n d (m+1) hd0 h0 hq
   generalize ldr n d (m+1)=r at *
   generalize ldq n d (m+1)=q at *
   have r1:=HR.out
   have HJ:Hid _:=VA n r m (by omega) r1.1 (by omega)
   have ht:(r / 9223372036854775808==1)=false:=by simp;omega
   go_wp2
   ·rename_i hc
    rw[HJ.out]at hc ⊢
    have e:=HS.out.1 (by simpa using hc)
    have q1:=HQ.out
    have q2:=HQ1.out
    refine⟨⟨(m:Int)-1,by omega,by omega,?_,?_,rfl⟩,by simp[intOf]⟩
    ·rw[show((m:Int)-1+1).toNat=m by omega,e.2,IntKind.wrap_u64];congr 1;omega
    ·rw[show((m:Int)-1+1).toNat=m by omega,e.1];simp only[IntKind.wrap_u64];congr 1;omega
   ·rename_i hc
    rw[HJ.out]at hc ⊢
    have e:=HS.out.2 (by simpa using hc)
    have q1:=HQ.out
    have q2:=HQ1.out
    refine⟨⟨(m:Int)-1,by omega,by omega,?_,?_,rfl⟩,by simp[intOf]⟩
    ·rw[show((m:Int)-1+1).toNat=m by omega,e.2]
    ·rw[show((m:Int)-1+1).toNat=m by omega,e.1,IntKind.wrap_u64];congr 1;omega
  ·go_wp2
   go_ret3
   obtain rfl:j=-1:=by omega
   have e:=Ana n d
   refine⟨?_,by go_grown⟩
   show Ending.returned (.tuple #[.int .u64 (ldq n d 0),.int .u64 (ldr n d 0),.bool true])=_
   rw[e.1,e.2]
set_option maxHeartbeats 400000 in
theorem QI(n d:Int)(w:World)(h0:0<=n)(h1:n<=85070591730234615865843651857942052864)(hd0:0<=d)(hd:d<=4611686018427387904)(h:d=0∨4611686018427387904<n / d):
    Calls Tryz.prog 125 #[.agg #[.int .u64 (hi64 n),.int .u64 (lo64 n)],.int .u64 d] w fun e w'=>e=.returned (.tuple #[.int .u64 0,.bool false])/\Below w.heap.size w w':=by
 by_cases c:d=0∨d<=hi64 n
 ·have HC:Hid _:=c
  have HD:Hid _:=hd0
  clear h c h0 h1 hd
  go_enter Tryz.func125,Tryz.ntmps125
  go_wp2_with fail
  refine(Adn n d _ HD.out HC.out).mono ?_
  rintro e w1 ⟨rfl,hb⟩
  have HB:Hid _:=hb
  clear hb
  go_wp2
  go_ret2
  exact⟨rfl,((Below.refl _ _).alloc (Nat.le_refl _) _).trans (HB.out.mono (by simp))⟩
 ·have c1:hi64 n<d:=by omega
  have c2:4611686018427387904<n / d:=by omega
  clear h c
  go_enter Tryz.func125,Tryz.ntmps125
  go_wp2_with fail
  refine(Nq n d _ h0 h1 c1 hd).mono ?_
  rintro e w1 ⟨rfl,hb⟩
  have HB:Hid _:=hb
  clear hb
  go_wp2
  go_ret2
  exact⟨rfl,((Below.refl _ _).alloc (Nat.le_refl _) _).trans (HB.out.mono (by simp))⟩
set_option maxHeartbeats 400000 in
theorem OC(n d:Int)(w:World)(h0:0<=n)(h1:n<=85070591730234615865843651857942052864)(hd0:1<=d)(hd:d<=4611686018427387904)(h:n / d<=4611686018427387904):
    Calls Tryz.prog 125 #[.agg #[.int .u64 (hi64 n),.int .u64 (lo64 n)],.int .u64 d] w fun e w'=>e=.returned (.tuple #[.int .u64 (rnd n d),.bool true])/\Below w.heap.size w w':=by
 have c1:hi64 n<d:=RN n d hd0 h
 have HR:Hid _:=Ku n d hd0
 have hq0:0<=n / d:=Int.ediv_nonneg h0 (by omega)
 have hr0:0<=n % d:=Int.emod_nonneg n (by omega)
 have hr1:n % d<d:=Int.emod_lt_of_pos n (by omega)
 go_enter Tryz.func125,Tryz.ntmps125
 go_wp2_with fail
 refine(Nq n d _ h0 h1 c1 hd).mono ?_
 rintro e w1 ⟨rfl,hb⟩
 have HB:Hid _:=hb
 clear hb h0 h1
 generalize n / d=q at *
 generalize n % d=r at *
 go_wp2
 ·go_ret2
  rw[HR.out.1 (by assumption)]
  exact⟨rfl,((Below.refl _ _).alloc (Nat.le_refl _) _).trans (HB.out.mono (by simp))⟩
 ·go_ret2
  rw[HR.out.2 (by assumption)]
  exact⟨rfl,((Below.refl _ _).alloc (Nat.le_refl _) _).trans (HB.out.mono (by simp))⟩
end Go.Proofs.YtgmpfeaanjnhaaaGreatDoor
namespace Go.Proofs.YtgmpfeaanjnhaaaGreatDoor
open Go.RowKit
set_option maxHeartbeats 400000 in
theorem Tf(b:Nat)(x p q:Int)(w:World)(hw:Fl b false w)(hx:numB x=true)(hp:numB p=true)(hq:numB q=true):
    Calls Tryz.prog 85 #[.pointer (some ⟨b,0,none⟩),.int .i64 x,.int .i64 p,.int .i64 q] w fun e w'=>e=.returned (.int .i64 (NT x p q).1)/\Fl b (NT x p q).2 w'/\Aa b w w':=by
 have HX:Hid _:=hx
 have HP:Hid _:=hp
 have HQ:Hid _:=hq
 have HW:Hid _:=hw
 have sx:=FC hx
 have sp:=FC hp
 have sq:=FC hq
 have HM:Hid _:=Cr hx hp
 clear hx hp hq hw
 by_cases c:q=0∨4611686018427387904<sz x*sz p / sz q
 ·have HS:Hid (NT x p q=(0,true)):=Aim c
  have HC:Hid (sz q=0∨4611686018427387904<sz x*sz p / sz q):=(by rcases c with c |c;exact .inl (Aik c);exact .inr c)
  clear c
  go_enter Tryz.func85,Tryz.ntmps85
  go_wp2_with fail
  refine(Ee x _ HX.out).mono ?_
  rintro e w1 ⟨rfl,rfl⟩
  go_wp2_with fail
  refine(Ee p _ HP.out).mono ?_
  rintro e w1 ⟨rfl,rfl⟩
  go_wp2_with fail
  refine(Lq (sz x) (sz p) _ ⟨sx.1,by omega⟩ ⟨sp.1,by omega⟩).mono ?_
  rintro e w3 ⟨rfl,h4⟩
  have H4:Hid _:=h4
  clear h4
  go_wp2_with fail
  refine(Ee q _ HQ.out).mono ?_
  rintro e w1 ⟨rfl,rfl⟩
  go_wp2_with fail
  refine(QI (sz x*sz p) (sz q) _ HM.out.1 (by have:=HM.out;omega) sq.1 sq.2 HC.out).mono ?_
  rintro e w4 ⟨rfl,h5⟩
  have HF:Hid _:=(HW.out.below H4.out).below h5
  have HK:Hid (Aa b _ w4):=(Aa.of_below H4.out).trans (Aa.of_below h5)
  clear h5
  have f1:=HF.out.cell
  have f2:=HF.out.free
  go_wp2
  go_ret
  rw[HS.out]
  exact⟨rfl,HF.out.set true,HK.out.setCell _⟩
 ·have c1:sz x*sz p / sz q<=4611686018427387904:=by omega
  have c2:(q != 0)=true:=by simp;omega
  have HS:Hid _:=Py x p q c2
  have s1:=RG c2
  have HC:Hid _:=c1
  have HN:Hid _:=G5 HM.out.1 s1
  have HN2:Hid _:=Ail s1 c1
  clear c c1 c2
  go_enter Tryz.func85,Tryz.ntmps85
  go_wp2_with fail
  refine(Ee x _ HX.out).mono ?_
  rintro e w1 ⟨rfl,rfl⟩
  go_wp2_with fail
  refine(Ee p _ HP.out).mono ?_
  rintro e w1 ⟨rfl,rfl⟩
  go_wp2_with fail
  refine(Lq (sz x) (sz p) _ ⟨sx.1,by omega⟩ ⟨sp.1,by omega⟩).mono ?_
  rintro e w3 ⟨rfl,h4⟩
  have H4:Hid _:=h4
  clear h4
  go_wp2_with fail
  refine(Ee q _ HQ.out).mono ?_
  rintro e w1 ⟨rfl,rfl⟩
  go_wp2_with fail
  refine(OC (sz x*sz p) (sz q) _ HM.out.1 (by have:=HM.out;omega) s1 sq.2 HC.out).mono ?_
  rintro e w4 ⟨rfl,h5⟩
  have HF:Hid _:=(HW.out.below H4.out).below h5
  have HK:Hid (Aa b _ w4):=(Aa.of_below H4.out).trans (Aa.of_below h5)
  clear h5 s1 sx sp sq
  generalize rnd (sz x*sz p) (sz q)=r at *
  go_wp2_with fail
  all_goals
   refine(Yw b _ _ _ HF.out HN.out HN2.out).mono ?_
   rintro e w5 ⟨rfl,h6,h7⟩
   go_wp2
   go_ret
   rw[HS.out]
   first |rw[decide_eq_true (show x<0 by omega)]|rw[decide_eq_false (show ¬x<0 by omega)]
   first |rw[decide_eq_true (show p<0 by omega)]|rw[decide_eq_false (show ¬p<0 by omega)]
   first |rw[decide_eq_true (show q<0 by omega)]|rw[decide_eq_false (show ¬q<0 by omega)]
   exact⟨rfl,h6,HK.out.trans h7⟩
set_option maxHeartbeats 400000 in
theorem QJ(b:Nat)(bad:Bool)(x y:Int)(w:World)(hw:Fl b bad w):
    Calls Tryz.prog 57 #[.pointer (some ⟨b,0,none⟩),.int .i64 x,.int .i64 y] w fun e w'=>e=.returned (.int .i64 (mulS bad x y).1)/\Fl b (mulS bad x y).2 w'/\Aa b w w':=by
 go_enter Tryz.func57,Tryz.ntmps57
 go_wp2_with fail
 refine(Ap3 b bad x y w hw).mono ?_
 rintro e w1 ⟨rfl,h2,h3⟩
 cases c:tk bad [x,y]
 ·rw[c]at h2
  have HS:Hid _:=Ih c
  have H2:Hid _:=h2
  have H3:Hid _:=h3
  clear c h2 h3 hw
  go_wp2
  go_ret
  rw[HS.out]
  exact⟨rfl,H2.out,H3.out⟩
 ·rw[c]at h2
  have HS:Hid (mulS bad x y=NT x y 1099511627776):=Xv ((NM bad x y).trans c)
  have H3:Hid _:=h3
  have ht:=Ko c
  have HX:Hid _:=ht.2.1
  have HY:Hid _:=ht.2.2
  clear c hw ht h3
  go_wp2_with fail
  refine(Tf b x y 1099511627776 _ h2 HX.out HY.out rfl).mono ?_
  rintro e w2 ⟨rfl,h4,h5⟩
  go_wp2
  go_ret
  rw[HS.out]
  exact⟨rfl,h4,H3.out.trans h5⟩
set_option maxHeartbeats 400000 in
theorem Ht(t:Int)(w:World):Calls Tryz.prog 40 #[.int .i64 t] w fun e w'=>e=.returned (.bool (cRight t))/\Below w.heap.size w w':=by
 rcases Fo t with⟨h0,h1⟩|hn
 ·have H:Hid _:=CS h0 h1
  go_enter Tryz.func40,Tryz.ntmps40
  go_wp2
  go_ret
  rw[H.out]
  exact⟨rfl,Below.refl _ _⟩
 ·have H:Hid _:=Dt hn
  by_cases c:0<=t
  ·have d:¬t<=157766400000:=by omega
   clear hn
   go_enter Tryz.func40,Tryz.ntmps40
   go_wp2
   go_ret
   rw[H.out]
   exact⟨rfl,Below.refl _ _⟩
  ·clear hn
   go_enter Tryz.func40,Tryz.ntmps40
   go_wp2
   go_ret
   rw[H.out]
   exact⟨rfl,Below.refl _ _⟩
set_option maxRecDepth 100000
set_option maxHeartbeats 20000000
theorem Yy(k t:Int)(cf:Nat->Int)(w:World)(h0:¬nCounts k=0)(ht:cRight t=true):
    Calls Tryz.prog 21 #[.int .i64 k,.int .i64 t,.agg (row 6 cf).toArray] w fun e w'=>e=.returned (.tuple #[.agg #[.int .i64 (BZ k t cf).1,.string (BZ k t cf).2],.bool (CO k t cf)])/\Below w.heap.size w w':=by
 have hr:=Ht t
 rw[ht]at hr
 have hn:nCounts k=3∨nCounts k=6:=by unfold nCounts at h0 ⊢;split at h0<;>(try split at h0)<;>simp_all
 obtain⟨n,hne⟩:∃n:Nat,nCounts k=(n:Int):=⟨(nCounts k).toNat,by omega⟩
 have hk:1<=k/\k<=3:=by unfold nCounts at h0;split at h0<;>(try split at h0)<;>omega
 have HW:Hid (CO k t cf=CF k cf n):=by show _=_;unfold CO;rw[ht,hne];simp;omega
 have HL:Hid (DW k t cf=tickL t++cntsL cf n):=by show _=_;unfold DW;rw[hne];rfl
 have HF:Hid (∀c,FN k c=(decide ((nBounds k).1<=c)&&decide (c<=(nBounds k).2))):=fun c=>rfl
 rw[show(row 6 cf).toArray=#[.int .i64 (cf 0),.int .i64 (cf 1),.int .i64 (cf 2),.int .i64 (cf 3),.int .i64 (cf 4),.int .i64 (cf 5)]from rfl]
 go_enter Tryz.func21,Tryz.ntmps21
 go_wp2_with fail
 refine(hr _).mono ?_
 rintro e W0 ⟨rfl,k1⟩
 have L0:=Au (Ai (Ai (Below.refl _ w) _) _) k1
 have C0:Ap w.heap.size (row 6 cf) W0:=((Am w w.heap.size (row 6 cf) 74 rfl).alloc _).below k1
 have R0:=(Am _ (w.heap.size+1) [.int .i64 0,.string ⟨#[]⟩] 77 (by simp)).below k1
 have z0:w.heap.size+2<=W0.heap.size:=R0.lies
 clear k1
 go_wp2_with fail
 refine wp_loop_rounds 7 ?_
 rw[rounds_succ]
 go_wp2_with (at_builtin;refine AN rfl (.tmp 31) (.tmp 37) rfl (w.heap.size+2) (.slice none 0 0) [] [IntKind.u8.wrap (t / 1099511627776)] W0 rfl (World.ownsRow_nil _ _ _ _) rfl (Nat.le_of_ble_eq_true rfl) z0 ?_;intro v1 W1 o1 b1 s1)
 have z1:w.heap.size+2<=W1.heap.size:=Nat.le_trans z0 s1
 have L1:=L0.trans (b1.mono (by omega))
 have C1:=C0.under b1 (by omega) s1
 have R1:=R0.under b1 (by omega) s1
 clear b1 s1 L0 C0 R0 z0
 rw[List.nil_append]at o1
 rw[rounds_succ]
 go_wp2_with (at_builtin;refine AN rfl (.tmp 31) (.tmp 37) rfl (w.heap.size+2) v1 [IntKind.u8.wrap (t / 1099511627776)] [IntKind.u8.wrap (t / 4294967296)] W1 rfl o1 rfl (Nat.le_of_ble_eq_true rfl) z1 ?_;intro v2 W2 o2 b2 s2)
 have z2:w.heap.size+2<=W2.heap.size:=Nat.le_trans z1 s2
 have L2:=L1.trans (b2.mono (by omega))
 have C2:=C1.under b2 (by omega) s2
 have R2:=R1.under b2 (by omega) s2
 clear b2 s2 L1 C1 R1 z1
 clear o1
 simp only[List.cons_append,List.nil_append]at o2
 rw[rounds_succ]
 go_wp2_with (at_builtin;refine AN rfl (.tmp 31) (.tmp 37) rfl (w.heap.size+2) v2 [IntKind.u8.wrap (t / 1099511627776),IntKind.u8.wrap (t / 4294967296)] [IntKind.u8.wrap (t / 16777216)] W2 rfl o2 rfl (Nat.le_of_ble_eq_true rfl) z2 ?_;intro v3 W3 o3 b3 s3)
 have z3:w.heap.size+2<=W3.heap.size:=Nat.le_trans z2 s3
 have L3:=L2.trans (b3.mono (by omega))
 have C3:=C2.under b3 (by omega) s3
 have R3:=R2.under b3 (by omega) s3
 clear b3 s3 L2 C2 R2 z2
 clear o2
 simp only[List.cons_append,List.nil_append]at o3
 rw[rounds_succ]
 go_wp2_with (at_builtin;refine AN rfl (.tmp 31) (.tmp 37) rfl (w.heap.size+2) v3 [IntKind.u8.wrap (t / 1099511627776),IntKind.u8.wrap (t / 4294967296),IntKind.u8.wrap (t / 16777216)] [IntKind.u8.wrap (t / 65536)] W3 rfl o3 rfl (Nat.le_of_ble_eq_true rfl) z3 ?_;intro v4 W4 o4 b4 s4)
 have z4:w.heap.size+2<=W4.heap.size:=Nat.le_trans z3 s4
 have L4:=L3.trans (b4.mono (by omega))
 have C4:=C3.under b4 (by omega) s4
 have R4:=R3.under b4 (by omega) s4
 clear b4 s4 L3 C3 R3 z3
 clear o3
 simp only[List.cons_append,List.nil_append]at o4
 rw[rounds_succ]
 go_wp2_with (at_builtin;refine AN rfl (.tmp 31) (.tmp 37) rfl (w.heap.size+2) v4 [IntKind.u8.wrap (t / 1099511627776),IntKind.u8.wrap (t / 4294967296),IntKind.u8.wrap (t / 16777216),IntKind.u8.wrap (t / 65536)] [IntKind.u8.wrap (t / 256)] W4 rfl o4 rfl (Nat.le_of_ble_eq_true rfl) z4 ?_;intro v5 W5 o5 b5 s5)
 have z5:w.heap.size+2<=W5.heap.size:=Nat.le_trans z4 s5
 have L5:=L4.trans (b5.mono (by omega))
 have C5:=C4.under b5 (by omega) s5
 have R5:=R4.under b5 (by omega) s5
 clear b5 s5 L4 C4 R4 z4
 clear o4
 simp only[List.cons_append,List.nil_append]at o5
 rw[rounds_succ]
 go_wp2_with (at_builtin;refine AN rfl (.tmp 31) (.tmp 37) rfl (w.heap.size+2) v5 [IntKind.u8.wrap (t / 1099511627776),IntKind.u8.wrap (t / 4294967296),IntKind.u8.wrap (t / 16777216),IntKind.u8.wrap (t / 65536),IntKind.u8.wrap (t / 256)] [IntKind.u8.wrap t] W5 rfl o5 rfl (Nat.le_of_ble_eq_true rfl) z5 ?_;intro v6 W6 o6 b6 s6)
 have z6:w.heap.size+2<=W6.heap.size:=Nat.le_trans z5 s6
 have L6:=L5.trans (b6.mono (by omega))
 have C6:=C5.under b6 (by omega) s6
 have R6:=R5.under b6 (by omega) s6
 clear b6 s6 L5 C5 R5 z5
 clear o5
 simp only[List.cons_append,List.nil_append]at o6
 by_cases c2:k=2
 ·have hb12:nBounds k=(0,65535):=by rw[c2];rfl
  obtain rfl:n=6:=by rw[c2]at hne;have:nCounts 2=6:=rfl;omega
  have d2:(k==2)=true:=by simpa using c2
  clear h0 ht hn hne c2
  have HO:Hid (∀c,FN k c=(decide (0<=c)&&decide (c<=65535))):=fun c=>by rw[HF.out c,hb12]
  clear HF hb12
  rw[rounds_succ]
  go_wp2_with fail
  go_loopw [8,13] (fun dv iv wr=>∃j:Nat,j<=6/\iv=.int .i64 j/\CF k cf j=true/\Bg (w.heap.size+2) wr dv (tickL t++cntsL cf j)/\Below w.heap.size w wr/\Ap w.heap.size (row 6 cf) wr/\Ap (w.heap.size+1) [.int .i64 0,.string ⟨#[]⟩] wr) (fun _ iv _=>6-(intOf iv).toNat)
  case atStart=>exact⟨0,by omega,rfl,rfl,by unfold cntsL;rw[List.append_nil];exact o6,L6,C6,R6⟩
  case round=>
   obtain⟨j,hj,rfl,hfit,O3,L3,C3,R3⟩:=hrel
   have Cz3:=C3.lies
   have Rz3:=R3.lies
   have HJ:Hid (CF k cf j=true):=hfit
   clear hfit L6 C6 R6 o6 z6
   by_cases hjn:j<6
   ·have cC:=DI C3 j (by omega)
    have HN:Hid (CF k cf (j+1)=FN k (cf j)):=by show(CF k cf j&&FN k (cf j))=_;rw[HJ.out];rfl
    have HC:Hid (cntsL cf (j+1)=cntsL cf j++[IntKind.u8.wrap (cf j / 256),IntKind.u8.wrap (cf j)]):=rfl
    have hlen:=Gx cf j
    have hlt:(tickL t++cntsL cf j).length=6+2*j:=by rw[List.length_append,hlen];rfl
    have HG':Hid _:=HO.out (cf j)
    generalize cf j=c at cC HN HC HG'
    by_cases hfits:0<=c/\c<=65535
    ·have hft:Hid (FN k c=true):=by show _=_;rw[HG'.out];simp;omega
     have HD:Hid (cntsL cf (j+1)=cntsL cf j++[c / 256,c % 256]):=by
      show _=_
      rw[HC.out,IntKind.wrap_u8,IntKind.wrap_u8,show c / 256 % 256=c / 256 by omega,show c % 256=c % 256 by omega]
     have hl2:(tickL t++cntsL cf j).length+[c / 256,c % 256].length<=100:=by rw[hlt];simp;omega
     go_wp2_with (at_builtin;refine AN rfl (.tmp 62) (.tmp 69) rfl (w.heap.size+2) u8 (tickL t++cntsL cf j) [c / 256,c % 256] wr rfl O3 rfl hl2 Rz3 ?_;intro v4 w4 O4 b4 z4)
     go_roundw
     case rel=>exact⟨j+1,by omega,by go_num,by rw[HN.out,hft.out],by rw[HD.out,<-List.append_assoc];exact O4,L3.trans (b4.mono (by omega)),C3.under b4 (by omega) z4,R3.under b4 (by omega) z4⟩
     case measure=>simp[intOf];omega
    ·have hft:Hid (FN k c=false):=by show _=_;rw[HG'.out];simp;omega
     have HX:Hid (CF k cf 6=false):=Lo (by rw[HN.out,hft.out]) (show j+1<=6 by omega)
     by_cases h2:c<0
     ·clear hfits
      have cR0:wr.cell? ⟨w.heap.size+1,0,none⟩=some (.int .i64 0):=R3.c 0 (zD rfl)
      have cR1:wr.cell? ⟨w.heap.size+1,1,none⟩=some (.string ⟨#[]⟩):=R3.c 1 (zD rfl)
      have gR0:=R3.f 0 (zD rfl)
      have gR1:=R3.f 1 (zD rfl)
      go_wp2_with (with_reducible refine Ae ?_)
      have d0:=Ap.c ((R3.put 0 (zD rfl) (.int .i64 0) [.int .i64 0,.string ⟨#[]⟩] rfl).put 1 (zD rfl) (.string ⟨#[]⟩) [.int .i64 0,.string ⟨#[]⟩] rfl) 0 (zD rfl)
      have d1:=Ap.c ((R3.put 0 (zD rfl) (.int .i64 0) [.int .i64 0,.string ⟨#[]⟩] rfl).put 1 (zD rfl) (.string ⟨#[]⟩) [.int .i64 0,.string ⟨#[]⟩] rfl) 1 (zD rfl)
      simp only[List.getElem_cons_zero,List.getElem_cons_succ]at d0 d1
      exact⟨bodyPost_ret (v:=.tuple #[.agg #[.int .i64 0,.string ⟨#[]⟩],.bool false]) (by simp[results_cell_tmp Tryz.results21,asAddr,go_sem,d0,d1]) rfl ⟨by unfold BZ;rw[HW.out,HX.out];rfl,Al (Al L3 _ _ (by omega) _) _ _ (by omega) _⟩⟩
     ·have h3:65535<c:=by omega
      clear hfits
      have cR0:wr.cell? ⟨w.heap.size+1,0,none⟩=some (.int .i64 0):=R3.c 0 (zD rfl)
      have cR1:wr.cell? ⟨w.heap.size+1,1,none⟩=some (.string ⟨#[]⟩):=R3.c 1 (zD rfl)
      have gR0:=R3.f 0 (zD rfl)
      have gR1:=R3.f 1 (zD rfl)
      go_wp2_with (with_reducible refine Ae ?_)
      have d0:=Ap.c ((R3.put 0 (zD rfl) (.int .i64 0) [.int .i64 0,.string ⟨#[]⟩] rfl).put 1 (zD rfl) (.string ⟨#[]⟩) [.int .i64 0,.string ⟨#[]⟩] rfl) 0 (zD rfl)
      have d1:=Ap.c ((R3.put 0 (zD rfl) (.int .i64 0) [.int .i64 0,.string ⟨#[]⟩] rfl).put 1 (zD rfl) (.string ⟨#[]⟩) [.int .i64 0,.string ⟨#[]⟩] rfl) 1 (zD rfl)
      simp only[List.getElem_cons_zero,List.getElem_cons_succ]at d0 d1
      exact⟨bodyPost_ret (v:=.tuple #[.agg #[.int .i64 0,.string ⟨#[]⟩],.bool false]) (by simp[results_cell_tmp Tryz.results21,asAddr,go_sem,d0,d1]) rfl ⟨by unfold BZ;rw[HW.out,HX.out];rfl,Al (Al L3 _ _ (by omega) _) _ _ (by omega) _⟩⟩
   ·obtain rfl:j=6:=by omega
    have hcv:=C9 O3 (by unfold tickL;simp) (fun b hb=>(List.mem_append.1 hb).elim (Jh t b) (Gy cf 6 b))
    rw[<-HL.out]at hcv
    generalize hS:strOf (DW k t cf)=S at hcv
    have HT:Hid (strOf (DW k t cf)=S):=hS
    clear hS O3
    have cR0:wr.cell? ⟨w.heap.size+1,0,none⟩=some (.int .i64 0):=R3.c 0 (zD rfl)
    have cR1:wr.cell? ⟨w.heap.size+1,1,none⟩=some (.string ⟨#[]⟩):=R3.c 1 (zD rfl)
    have gR0:=R3.f 0 (zD rfl)
    have gR1:=R3.f 1 (zD rfl)
    go_wp2_with (with_reducible refine Ae ?_)
    have d0:=Ap.c ((R3.put 0 (zD rfl) (.int .i64 k) [.int .i64 k,.string ⟨#[]⟩] rfl).put 1 (zD rfl) (.string S) [.int .i64 k,.string S] rfl) 0 (zD rfl)
    have d1:=Ap.c ((R3.put 0 (zD rfl) (.int .i64 k) [.int .i64 k,.string ⟨#[]⟩] rfl).put 1 (zD rfl) (.string S) [.int .i64 k,.string S] rfl) 1 (zD rfl)
    simp only[List.getElem_cons_zero,List.getElem_cons_succ]at d0 d1
    exact⟨bodyPost_ret (v:=.tuple #[.agg #[.int .i64 k,.string S],.bool true]) (by simp[results_cell_tmp Tryz.results21,asAddr,go_sem,d0,d1]) rfl ⟨by unfold BZ;rw[HW.out,HJ.out,if_pos rfl,HT.out],Al (Al L3 _ _ (by omega) _) _ _ (by omega) _⟩⟩
 ·have hb12:nBounds k=(-32768,32767):=by unfold nBounds;rw[if_neg c2]
  obtain rfl:n=3:=by unfold nCounts at hne;split at hne<;>(try split at hne)<;>omega
  have d2:(k==2)=false:=by simpa using c2
  clear h0 ht hn hne c2
  have HO:Hid (∀c,FN k c=(decide (-32768<=c)&&decide (c<=32767))):=fun c=>by rw[HF.out c,hb12]
  clear HF hb12
  rw[rounds_succ]
  go_wp2_with fail
  go_loopw [8,13] (fun dv iv wr=>∃j:Nat,j<=3/\iv=.int .i64 j/\CF k cf j=true/\Bg (w.heap.size+2) wr dv (tickL t++cntsL cf j)/\Below w.heap.size w wr/\Ap w.heap.size (row 6 cf) wr/\Ap (w.heap.size+1) [.int .i64 0,.string ⟨#[]⟩] wr) (fun _ iv _=>3-(intOf iv).toNat)
  case atStart=>exact⟨0,by omega,rfl,rfl,by unfold cntsL;rw[List.append_nil];exact o6,L6,C6,R6⟩
  case round=>
   obtain⟨j,hj,rfl,hfit,O3,L3,C3,R3⟩:=hrel
   have Cz3:=C3.lies
   have Rz3:=R3.lies
   have HJ:Hid (CF k cf j=true):=hfit
   clear hfit L6 C6 R6 o6 z6
   by_cases hjn:j<3
   ·have cC:=DI C3 j (by omega)
    have HN:Hid (CF k cf (j+1)=FN k (cf j)):=by show(CF k cf j&&FN k (cf j))=_;rw[HJ.out];rfl
    have HC:Hid (cntsL cf (j+1)=cntsL cf j++[IntKind.u8.wrap (cf j / 256),IntKind.u8.wrap (cf j)]):=rfl
    have hlen:=Gx cf j
    have hlt:(tickL t++cntsL cf j).length=6+2*j:=by rw[List.length_append,hlen];rfl
    have HG':Hid _:=HO.out (cf j)
    generalize cf j=c at cC HN HC HG'
    by_cases hfits:-32768<=c/\c<=32767
    ·have hft:Hid (FN k c=true):=by show _=_;rw[HG'.out];simp;omega
     by_cases c0:c<0
     ·have HD:Hid (cntsL cf (j+1)=cntsL cf j++[(c+65536) / 256,(c+65536) % 256]):=by
       show _=_
       rw[HC.out,IntKind.wrap_u8,IntKind.wrap_u8,show c / 256 % 256=(c+65536) / 256 by omega,show c % 256=(c+65536) % 256 by omega]
      have hl2:(tickL t++cntsL cf j).length+[(c+65536) / 256,(c+65536) % 256].length<=100:=by rw[hlt];simp;omega
      go_wp2_with (at_builtin;refine AN rfl (.tmp 62) (.tmp 69) rfl (w.heap.size+2) u8 (tickL t++cntsL cf j) [(c+65536) / 256,(c+65536) % 256] wr rfl O3 rfl hl2 Rz3 ?_;intro v4 w4 O4 b4 z4)
      go_roundw
      case rel=>exact⟨j+1,by omega,by go_num,by rw[HN.out,hft.out],by rw[HD.out,<-List.append_assoc];exact O4,L3.trans (b4.mono (by omega)),C3.under b4 (by omega) z4,R3.under b4 (by omega) z4⟩
      case measure=>simp[intOf];omega
     ·have HD:Hid (cntsL cf (j+1)=cntsL cf j++[c / 256,c % 256]):=by
       show _=_
       rw[HC.out,IntKind.wrap_u8,IntKind.wrap_u8,show c / 256 % 256=c / 256 by omega,show c % 256=c % 256 by omega]
      have hl2:(tickL t++cntsL cf j).length+[c / 256,c % 256].length<=100:=by rw[hlt];simp;omega
      go_wp2_with (at_builtin;refine AN rfl (.tmp 62) (.tmp 69) rfl (w.heap.size+2) u8 (tickL t++cntsL cf j) [c / 256,c % 256] wr rfl O3 rfl hl2 Rz3 ?_;intro v4 w4 O4 b4 z4)
      go_roundw
      case rel=>exact⟨j+1,by omega,by go_num,by rw[HN.out,hft.out],by rw[HD.out,<-List.append_assoc];exact O4,L3.trans (b4.mono (by omega)),C3.under b4 (by omega) z4,R3.under b4 (by omega) z4⟩
      case measure=>simp[intOf];omega
    ·have hft:Hid (FN k c=false):=by show _=_;rw[HG'.out];simp;omega
     have HX:Hid (CF k cf 3=false):=Lo (by rw[HN.out,hft.out]) (show j+1<=3 by omega)
     by_cases h2:c< -32768
     ·clear hfits
      have cR0:wr.cell? ⟨w.heap.size+1,0,none⟩=some (.int .i64 0):=R3.c 0 (zD rfl)
      have cR1:wr.cell? ⟨w.heap.size+1,1,none⟩=some (.string ⟨#[]⟩):=R3.c 1 (zD rfl)
      have gR0:=R3.f 0 (zD rfl)
      have gR1:=R3.f 1 (zD rfl)
      go_wp2_with (with_reducible refine Ae ?_)
      have d0:=Ap.c ((R3.put 0 (zD rfl) (.int .i64 0) [.int .i64 0,.string ⟨#[]⟩] rfl).put 1 (zD rfl) (.string ⟨#[]⟩) [.int .i64 0,.string ⟨#[]⟩] rfl) 0 (zD rfl)
      have d1:=Ap.c ((R3.put 0 (zD rfl) (.int .i64 0) [.int .i64 0,.string ⟨#[]⟩] rfl).put 1 (zD rfl) (.string ⟨#[]⟩) [.int .i64 0,.string ⟨#[]⟩] rfl) 1 (zD rfl)
      simp only[List.getElem_cons_zero,List.getElem_cons_succ]at d0 d1
      exact⟨bodyPost_ret (v:=.tuple #[.agg #[.int .i64 0,.string ⟨#[]⟩],.bool false]) (by simp[results_cell_tmp Tryz.results21,asAddr,go_sem,d0,d1]) rfl ⟨by unfold BZ;rw[HW.out,HX.out];rfl,Al (Al L3 _ _ (by omega) _) _ _ (by omega) _⟩⟩
     ·have h3:32767<c:=by omega
      clear hfits
      have cR0:wr.cell? ⟨w.heap.size+1,0,none⟩=some (.int .i64 0):=R3.c 0 (zD rfl)
      have cR1:wr.cell? ⟨w.heap.size+1,1,none⟩=some (.string ⟨#[]⟩):=R3.c 1 (zD rfl)
      have gR0:=R3.f 0 (zD rfl)
      have gR1:=R3.f 1 (zD rfl)
      go_wp2_with (with_reducible refine Ae ?_)
      have d0:=Ap.c ((R3.put 0 (zD rfl) (.int .i64 0) [.int .i64 0,.string ⟨#[]⟩] rfl).put 1 (zD rfl) (.string ⟨#[]⟩) [.int .i64 0,.string ⟨#[]⟩] rfl) 0 (zD rfl)
      have d1:=Ap.c ((R3.put 0 (zD rfl) (.int .i64 0) [.int .i64 0,.string ⟨#[]⟩] rfl).put 1 (zD rfl) (.string ⟨#[]⟩) [.int .i64 0,.string ⟨#[]⟩] rfl) 1 (zD rfl)
      simp only[List.getElem_cons_zero,List.getElem_cons_succ]at d0 d1
      exact⟨bodyPost_ret (v:=.tuple #[.agg #[.int .i64 0,.string ⟨#[]⟩],.bool false]) (by simp[results_cell_tmp Tryz.results21,asAddr,go_sem,d0,d1]) rfl ⟨by unfold BZ;rw[HW.out,HX.out];rfl,Al (Al L3 _ _ (by omega) _) _ _ (by omega) _⟩⟩
   ·obtain rfl:j=3:=by omega
    have hcv:=C9 O3 (by unfold tickL;simp) (fun b hb=>(List.mem_append.1 hb).elim (Jh t b) (Gy cf 3 b))
    rw[<-HL.out]at hcv
    generalize hS:strOf (DW k t cf)=S at hcv
    have HT:Hid (strOf (DW k t cf)=S):=hS
    clear hS O3
    have cR0:wr.cell? ⟨w.heap.size+1,0,none⟩=some (.int .i64 0):=R3.c 0 (zD rfl)
    have cR1:wr.cell? ⟨w.heap.size+1,1,none⟩=some (.string ⟨#[]⟩):=R3.c 1 (zD rfl)
    have gR0:=R3.f 0 (zD rfl)
    have gR1:=R3.f 1 (zD rfl)
    go_wp2_with (with_reducible refine Ae ?_)
    have d0:=Ap.c ((R3.put 0 (zD rfl) (.int .i64 k) [.int .i64 k,.string ⟨#[]⟩] rfl).put 1 (zD rfl) (.string S) [.int .i64 k,.string S] rfl) 0 (zD rfl)
    have d1:=Ap.c ((R3.put 0 (zD rfl) (.int .i64 k) [.int .i64 k,.string ⟨#[]⟩] rfl).put 1 (zD rfl) (.string S) [.int .i64 k,.string S] rfl) 1 (zD rfl)
    simp only[List.getElem_cons_zero,List.getElem_cons_succ]at d0 d1
    exact⟨bodyPost_ret (v:=.tuple #[.agg #[.int .i64 k,.string S],.bool true]) (by simp[results_cell_tmp Tryz.results21,asAddr,go_sem,d0,d1]) rfl ⟨by unfold BZ;rw[HW.out,HJ.out,if_pos rfl,HT.out],Al (Al L3 _ _ (by omega) _) _ _ (by omega) _⟩⟩
theorem Tg(k t:Int)(cf:Nat->Int)(w:World)(h:nCounts k=0∨cRight t=false):
    Calls Tryz.prog 21 #[.int .i64 k,.int .i64 t,.agg (row 6 cf).toArray] w fun e w'=>e=.returned (.tuple #[.agg #[.int .i64 0,.string ⟨#[]⟩],.bool false])/\Below w.heap.size w w':=by
 have hr:=Ht t
 rw[show(row 6 cf).toArray=#[.int .i64 (cf 0),.int .i64 (cf 1),.int .i64 (cf 2),.int .i64 (cf 3),.int .i64 (cf 4),.int .i64 (cf 5)]from rfl]
 by_cases h1:k<1
 ·clear h hr
  go_enter Tryz.func21,Tryz.ntmps21
  go_wp2_with (with_reducible refine Ae ?_)
  exact⟨bodyPost_ret (v:=.tuple #[.agg #[.int .i64 0,.string ⟨#[]⟩],.bool false]) (by simp[results_cell_tmp Tryz.results21,asAddr,go_sem]) rfl ⟨rfl,Ai (Ai (Below.refl _ _) _) _⟩⟩
 by_cases h3:3<k
 ·clear h hr
  go_enter Tryz.func21,Tryz.ntmps21
  go_wp2_with (with_reducible refine Ae ?_)
  exact⟨bodyPost_ret (v:=.tuple #[.agg #[.int .i64 0,.string ⟨#[]⟩],.bool false]) (by simp[results_cell_tmp Tryz.results21,asAddr,go_sem]) rfl ⟨rfl,Ai (Ai (Below.refl _ _) _) _⟩⟩
 have ht:cRight t=false:=h.resolve_left (by unfold nCounts;split<;>(try split)<;>omega)
 rw[ht]at hr
 clear h ht
 go_enter Tryz.func21,Tryz.ntmps21
 go_wp2_with fail
 refine(hr _).mono ?_
 rintro e W1 ⟨rfl,k1⟩
 have L1:=Au (Ai (Ai (Below.refl _ w) _) _) k1
 have R1:=(Am _ (w.heap.size+1) [.int .i64 0,.string ⟨#[]⟩] 77 (by simp)).below k1
 have cR0:W1.cell? ⟨w.heap.size+1,0,none⟩=some (.int .i64 0):=R1.c 0 (zD rfl)
 have cR1:W1.cell? ⟨w.heap.size+1,1,none⟩=some (.string ⟨#[]⟩):=R1.c 1 (zD rfl)
 have gR0:=R1.f 0 (zD rfl)
 have gR1:=R1.f 1 (zD rfl)
 clear k1
 go_wp2_with (with_reducible refine Ae ?_)
 have d0:=Ap.c ((R1.put 0 (zD rfl) (.int .i64 0) [.int .i64 0,.string ⟨#[]⟩] rfl).put 1 (zD rfl) (.string ⟨#[]⟩) [.int .i64 0,.string ⟨#[]⟩] rfl) 0 (zD rfl)
 have d1:=Ap.c ((R1.put 0 (zD rfl) (.int .i64 0) [.int .i64 0,.string ⟨#[]⟩] rfl).put 1 (zD rfl) (.string ⟨#[]⟩) [.int .i64 0,.string ⟨#[]⟩] rfl) 1 (zD rfl)
 simp only[List.getElem_cons_zero,List.getElem_cons_succ]at d0 d1
 exact⟨bodyPost_ret (v:=.tuple #[.agg #[.int .i64 0,.string ⟨#[]⟩],.bool false]) (by simp[results_cell_tmp Tryz.results21,asAddr,go_sem,d0,d1]) rfl ⟨rfl,Al (Al L1 _ _ (by omega) _) _ _ (by omega) _⟩⟩
theorem Ti(k t:Int)(cf:Nat->Int)(w:World):
    Calls Tryz.prog 21 #[.int .i64 k,.int .i64 t,.agg (row 6 cf).toArray] w fun e w'=>e=.returned (.tuple #[.agg #[.int .i64 (BZ k t cf).1,.string (BZ k t cf).2],.bool (CO k t cf)])/\Below w.heap.size w w':=by
 by_cases h:nCounts k=0∨cRight t=false
 ·have e:=JH (cf:=cf) h
  unfold BZ
  rw[e]
  exact Tg k t cf w h
 ·exact Yy k t cf w (fun h'=>h (Or.inl h')) (by cases h':cRight t;exact absurd (Or.inr h') h;rfl)
end Go.Proofs.YtgmpfeaanjnhaaaGreatDoor
namespace Go.Proofs.YtgmpfeaanjnhaaaGreatDoor
open Go.RowKit
def Aul(u d:Int)(p:Int×Bool):Int×Bool:=
 CP (Aw (mulS p.2 u p.1).2 (mulS p.2 u p.1).1 1 d).2 1099511627776 (Aw (mulS p.2 u p.1).2 (mulS p.2 u p.1).1 1 d).1
def Ap4(dd:Int->Int)(u:Int):Nat->Int×Bool->Int×Bool
 |0,p=>p
 |n+1,p=>Ap4 dd u n (Aul u (dd (n+1)) p)
def Axk(n:Int):Int:=2*n*(2*n+1)
def Axl(n:Int):Int:=(2*n-1)*2*n
def Aum(bad:Bool)(t:Int):Int×Bool:=Ap4 Axl (mulS bad t t).1 10 (1099511627776,(mulS bad t t).2)
def Aun(bad:Bool)(t:Int):Int×Bool:=Ap4 Axk (mulS bad t t).1 10 (1099511627776,(mulS bad t t).2)
def Auo(bad:Bool)(t:Int):Int×Bool:=mulS (Aun bad t).2 t (Aun bad t).1
def Anv(bad:Bool)(a:Int):Int:=(IN bad a 6908435304716).1
def Aup(bad:Bool)(a:Int):Bool:=(IN bad a 6908435304716).2
def V9(bad:Bool)(a:Int):Int:=Anv bad a / 1727108826179
def inq(bad:Bool)(a:Int):Int:=Anv bad a-V9 bad a*1727108826179
def Auq(p:Int×Bool):Int×Bool:=(-p.1,p.2)
def pick(k:Int)(bad:Bool)(t:Int):Int×Bool:=
 if k=0 then Auo bad t else if k=1 then Aum bad t else if k=2 then Auq (Auo bad t)else Auq (Aum bad t)
def Ap5(bad:Bool)(a:Int):Int×Bool:=pick (V9 bad a) (Aup bad a) (inq bad a)
def Ap6(bad:Bool)(a:Int):Int×Bool:=pick (if V9 bad a=3 then 0 else V9 bad a+1) (Aup bad a) (inq bad a)
end Go.Proofs.YtgmpfeaanjnhaaaGreatDoor
namespace Go.Proofs.YtgmpfeaanjnhaaaGreatDoor
structure Nr(K S P:Int):Prop where
 lo:-(3*K)<=S*K-1099511627776*P
 hi:S*K-1099511627776*P<=3*K
 bl:-2199023255552<=S
 bh:S<=2199023255552
theorem Nr.neg{K S P:Int}(h:Nr K S P):Nr K (-S) (-P):=by
 have h1:=h.lo
 have h2:=h.hi
 have h3:=h.bl
 have h4:=h.bh
 constructor
 ·rw[Int.neg_mul];omega
 ·rw[Int.neg_mul];omega
 ·omega
 ·omega
open Go.RowKit
abbrev V4:=Int×Int×Int×Int
def EP(a:Int):Int:=if a< -4611686018427387904 then a else if 4611686018427387904<a then a else-a
theorem Yz{a:Int}(h:a< -4611686018427387904):EP a=a:=by unfold EP;rw[if_pos h]
theorem YA{a:Int}(h:4611686018427387904<a):EP a=a:=by unfold EP;rw[if_neg (by omega),if_pos h]
theorem YB{a:Int}(h:-4611686018427387904<=a)(k:a<=4611686018427387904):EP a=-a:=by unfold EP;rw[if_neg (by omega),if_neg (by omega)]
structure Ab(x K:Int):Prop where
 lo:-K<=x
 hi:x<=K
theorem Ab.add{x y K L:Int}(h:Ab x K)(k:Ab y L):Ab (x+y) (K+L):=⟨by have:=h.lo;have:=k.lo;omega,by have:=h.hi;have:=k.hi;omega⟩
theorem Ab.sub{x y K L:Int}(h:Ab x K)(k:Ab y L):Ab (x-y) (K+L):=⟨by have:=h.lo;have:=k.hi;omega,by have:=h.hi;have:=k.lo;omega⟩
theorem Ab.neg{x K:Int}(h:Ab x K):Ab (-x) K:=⟨by have:=h.hi;omega,by have:=h.lo;omega⟩
theorem Ab.mul{x y K L:Int}(h:Ab x K)(k:Ab y L):Ab (x*y) (K*L):=by
 have:=Apd ⟨h.lo,h.hi⟩ ⟨k.lo,k.hi⟩
 exact⟨this.1,this.2⟩
theorem Ab.le{x K L:Int}(h:Ab x K)(k:K<=L):Ab x L:=⟨by have:=h.lo;omega,by have:=h.hi;omega⟩
theorem Ab.two:Ab 2 2:=⟨by decide,by decide⟩
theorem Ab.zero{K:Int}(h:0<=K):Ab 0 K:=⟨by omega,h⟩
theorem Ab.numB{x K:Int}(h:Ab x K)(k:K<=4611686018427387904):numB x=true:=Fe ⟨by have:=h.lo;omega,by have:=h.hi;omega⟩
theorem Bp{a b K L:Int}(ha:Ab a K)(hb:Ab b L)(h:K+L<=4611686018427387904)(h1:K<=4611686018427387904)(h2:L<=4611686018427387904):Ca false a b=(a+b,false):=
 XK a b (ha.numB h1) (hb.numB h2) ((ha.add hb).numB h)
theorem Bh{a b K L:Int}(ha:Ab a K)(hb:Ab b L)(h:K+L<=4611686018427387904)(h1:K<=4611686018427387904)(h2:L<=4611686018427387904):CP false a b=(a-b,false):=
 XL a b (ha.numB h1) (hb.numB h2) ((ha.sub hb).numB h)
end Go.Proofs.YtgmpfeaanjnhaaaGreatDoor
namespace Go.Proofs.YtgmpfeaanjnhaaaGreatDoor
theorem Lr{a K:Int}(hK:0<=K)(h:a*a<=K*K):Ab a K:=by
 refine⟨?_,?_⟩
 ·apply Classical.byContradiction
  intro g
  have:=Int.mul_le_mul (show K+1<=-a by omega) (show K+1<=-a by omega) (by omega) (by omega)
  rw[Int.neg_mul_neg]at this
  have e:(K+1)*(K+1)=K*K+2*K+1:=by grind
  omega
 ·apply Classical.byContradiction
  intro g
  have:=Int.mul_le_mul (show K+1<=a by omega) (show K+1<=a by omega) (by omega) (by omega)
  have e:(K+1)*(K+1)=K*K+2*K+1:=by grind
  omega
theorem Ado{u v c s a b:Int}(hM:u*u+v*v<=120892581961462917470617600)(cb:Ab c 1099511627832)(sb:Ab s 1099511627832)(hcs:Ab (c*c+s*s-1208925819614629174706176) 123145302310912)
    (ha:Ab (1099511627776*a-(u*c-v*s)) 1099511627776) (hb:Ab (1099511627776*b-(u*s+v*c)) 1099511627776):Ab (a*a+b*b-(u*u+v*v)) 12457466742702080:=by
 have u0:=AE u
 have v0:=AE v
 have ub:Ab u 10995116277760:=Lr (by decide) (by omega)
 have vb:Ab v 10995116277760:=Lr (by decide) (by omega)
 have P:=(ub.mul cb).sub (vb.mul sb)
 have Q:=(ub.mul sb).add (vb.mul cb)
 have PA:Ab (u*c-v*s+1099511627776*a) (2*(10995116277760*1099511627832+10995116277760*1099511627832)+1099511627776):=by
  have p1:=P.lo;have p2:=P.hi;have h1:=ha.lo;have h2:=ha.hi
  exact⟨by omega,by omega⟩
 have QB:Ab (u*s+v*c+1099511627776*b) (2*(10995116277760*1099511627832+10995116277760*1099511627832)+1099511627776):=by
  have p1:=Q.lo;have p2:=Q.hi;have h1:=hb.lo;have h2:=hb.hi
  exact⟨by omega,by omega⟩
 have t1:=ha.mul PA
 have t2:=hb.mul QB
 have uv:Ab (u*u+v*v) 120892581961462917470617600:=⟨by omega,hM⟩
 have t3:=uv.mul hcs
 have key:1208925819614629174706176*(a*a+b*b-(u*u+v*v))=(u*u+v*v)*(c*c+s*s-1208925819614629174706176)+(1099511627776*a-(u*c-v*s))*(u*c-v*s+1099511627776*a)+(1099511627776*b-(u*s+v*c))*(u*s+v*c+1099511627776*b):=by grind
 have l1:=t1.lo;have h1:=t1.hi;have l2:=t2.lo;have h2:=t2.hi;have l3:=t3.lo;have h3:=t3.hi
 generalize (u*u+v*v)*(c*c+s*s-1208925819614629174706176)=X at key l3 h3
 generalize (1099511627776*a-(u*c-v*s))*(u*c-v*s+1099511627776*a)=Y at key l1 h1
 generalize (1099511627776*b-(u*s+v*c))*(u*s+v*c+1099511627776*b)=Z at key l2 h2
 generalize a*a+b*b-(u*u+v*v)=W at key
 exact⟨by omega,by omega⟩
structure My(A E c s e2 r w1 u v:Int):Prop where
 A1:7146825580544<=A
 A2:A<=9211859050600
 E1:0<=E
 E2:E<=109951162777
 cb:Ab c 1099511627832
 sb:Ab s 1099511627832
 cs:Ab (c*c+s*s-1208925819614629174706176) 123145302310912
 eu:Ab (2*(u*1099511627776-A*(c-E))) 1099511627776
 ee:Ab (2*(e2*1099511627776-E*E)) 1099511627776
 r0:0<=r
 r1:r*r<=(1099511627776-e2)*1099511627776
 r2:(1099511627776-e2)*1099511627776<(r+1)*(r+1)
 ew:Ab (2*(w1*1099511627776-A*r)) 1099511627776
 ev:Ab (2*(v*1099511627776-w1*s)) 1099511627776
def lam(A E c:Int):Int:=A*(1208925819614629174706176-E*c)
theorem My.root{A E c s e2 r w1 u v:Int}(F:My A E c s e2 r w1 u v):r<=1099511627776/\Ab (r*r-(1208925819614629174706176-E*E)) 3298534883328:=by
 have ee:=F.ee.lo;have ee':=F.ee.hi
 have EE:=AE E
 have e0:0<=e2:=by omega
 have r0:=F.r0;have r1:=F.r1;have r2:=F.r2
 have rb:Ab r 1099511627776:=Lr (by decide) (by omega)
 have r3:=rb.hi
 have e:(r+1)*(r+1)=r*r+2*r+1:=by grind
 rw[e]at r2
 exact⟨r3,by omega,by omega⟩
theorem My.lamb{A E c s e2 r w1 u v:Int}(F:My A E c s e2 r w1 u v):Ab (lam A E c) 12361820360799717618005405660607204556:=by
 have A1:=F.A1;have A2:=F.A2;have E1:=F.E1;have E2:=F.E2
 have a:Ab A 9211859050600:=⟨by omega,A2⟩
 have ec:=(show Ab E 109951162777 from⟨by omega,E2⟩).mul F.cb
 have d:Ab (1208925819614629174706176-E*c) (1208925819614629174706176+109951162777*1099511627832):=by
  have:=ec.lo;have:=ec.hi
  exact⟨by omega,by omega⟩
 exact(a.mul d).le (by decide)
theorem Wa{A E c s e2 r w1 u v:Int}(F:My A E c s e2 r w1 u v):Ab (1461501637330902918203684832716283019655932542976*(u*u+v*v)-lam A E c*lam A E c) 13176891962923720259444089157197533340682064549018901249471283200:=by
 obtain⟨rh,ρ⟩:=F.root
 have A1:=F.A1;have A2:=F.A2;have E1:=F.E1;have E2:=F.E2
 have a:Ab A 9211859050600:=⟨by omega,A2⟩
 have e:Ab E 109951162777:=⟨by omega,E2⟩
 have rb:Ab r 1099511627776:=⟨by have:=F.r0;omega,rh⟩
 have EE:=e.mul e
 have oe:Ab (1208925819614629174706176-E*E) 1208925819614629174706176:=by
  have:=EE.hi;have:=AE E
  exact⟨by omega,by omega⟩
 have k1:=(a.mul a).mul ((oe.mul F.cs).add (ρ.mul (F.sb.mul F.sb)))
 have ce:=a.mul (F.cb.sub e)
 have ou:Ab (u*1099511627776+A*(c-E)) (2*(9211859050600*(1099511627832+109951162777))+1099511627776):=by
  have:=ce.lo;have:=ce.hi;have:=F.eu.lo;have:=F.eu.hi
  exact⟨by omega,by omega⟩
 have k2:=F.eu.mul ou
 have η:Ab (2*(1208925819614629174706176*v-A*r*s)) 2417851639290831000567808:=by
  have h1:=F.ev;have h2:=F.ew.mul F.sb
  have l1:=h1.lo;have u1:=h1.hi;have l2:=h2.lo;have u2:=h2.hi
  have e1:2*(1208925819614629174706176*v-A*r*s)=1099511627776*(2*(v*1099511627776-w1*s))+2*(w1*1099511627776-A*r)*s:=by grind
  rw[e1]
  exact⟨by omega,by omega⟩
 have ars:=(a.mul rb).mul F.sb
 have ov:Ab (1208925819614629174706176*v+A*r*s) (2*(9211859050600*1099511627776*1099511627832)+2417851639290831000567808):=by
  have:=ars.lo;have:=ars.hi;have:=η.lo;have:=η.hi
  exact⟨by omega,by omega⟩
 have k3:=η.mul ov
 have key:2*(1461501637330902918203684832716283019655932542976*(u*u+v*v)-lam A E c*lam A E c)=2*(A*A*((1208925819614629174706176-E*E)*(c*c+s*s-1208925819614629174706176)+(r*r-(1208925819614629174706176-E*E))*(s*s)))+1208925819614629174706176*(2*(u*1099511627776-A*(c-E))*(u*1099511627776+A*(c-E)))+2*(1208925819614629174706176*v-A*r*s)*(1208925819614629174706176*v+A*r*s):=by
  unfold lam
  grind
 have l1:=k1.lo;have u1:=k1.hi;have l2:=k2.lo;have u2:=k2.hi;have l3:=k3.lo;have u3:=k3.hi
 generalize A*A*((1208925819614629174706176-E*E)*(c*c+s*s-1208925819614629174706176)+(r*r-(1208925819614629174706176-E*E))*(s*s))=X at key l1 u1
 generalize 2*(u*1099511627776-A*(c-E))*(u*1099511627776+A*(c-E))=Y at key l2 u2
 generalize 2*(1208925819614629174706176*v-A*r*s)*(1208925819614629174706176*v+A*r*s)=Z at key l3 u3
 generalize 1461501637330902918203684832716283019655932542976*(u*u+v*v)-lam A E c*lam A E c=W at key ⊢
 exact⟨by omega,by omega⟩
theorem Aj8{A E c s e2 r w1 u v:Int}(F:My A E c s e2 r w1 u v):u*u+v*v<=114847952863389771597086720:=by
 have h:=(Wa F).hi
 have k:=(F.lamb.mul F.lamb).hi
 omega
theorem Ap7{A E c s e2 r w1 u v near:Int}(F:My A E c s e2 r w1 u v)(hn:Ab (2*(near*1099511627776-A*(1099511627776-E))) 1099511627776):1208925819614629174706176*(near-48)<=lam A E c:=by
 have A1:=F.A1;have A2:=F.A2;have E1:=F.E1;have E2:=F.E2
 have ae:Ab (A*E) (9211859050600*109951162777):=(show Ab A 9211859050600 from⟨by omega,A2⟩).mul ⟨by omega,E2⟩
 have p:=Int.mul_nonneg (Int.mul_nonneg (show 0<=A by omega) E1) (show 0<=1099511627776-c+56 by have:=F.cb.hi;omega)
 have e:A*E*(1099511627776-c+56)=lam A E c-1099511627776*(A*(1099511627776-E))+56*(A*E):=by unfold lam;grind
 rw[e]at p
 have:=ae.hi;have:=hn.hi
 generalize lam A E c=Λ at p ⊢
 generalize A*(1099511627776-E)=Y at *
 generalize A*E=Z at *
 omega
theorem Ap8{A E c s e2 r w1 u v far:Int}(F:My A E c s e2 r w1 u v)(hf:Ab (2*(far*1099511627776-A*(1099511627776+E))) 1099511627776):lam A E c<=1208925819614629174706176*(far+48):=by
 have A1:=F.A1;have A2:=F.A2;have E1:=F.E1;have E2:=F.E2
 have ae:Ab (A*E) (9211859050600*109951162777):=(show Ab A 9211859050600 from⟨by omega,A2⟩).mul ⟨by omega,E2⟩
 have p:=Int.mul_nonneg (Int.mul_nonneg (show 0<=A by omega) E1) (show 0<=1099511627776+c+56 by have:=F.cb.lo;omega)
 have e:A*E*(1099511627776+c+56)=1099511627776*(A*(1099511627776+E))-lam A E c+56*(A*E):=by unfold lam;grind
 rw[e]at p
 have:=ae.hi;have:=hf.lo
 generalize lam A E c=Λ at p ⊢
 generalize A*(1099511627776+E)=Y at *
 generalize A*E=Z at *
 omega
theorem Adp{A E c s e2 r w1 u v near far N S:Int}(F:My A E c s e2 r w1 u v)(hS:Ab (S-(u*u+v*v)) 37372400228106240)(h0:0<=N)(h1:N*N<=S)(h2:S<(N+1)*(N+1))
    (hn:Ab (2*(near*1099511627776-A*(1099511627776-E))) 1099511627776) (hf:Ab (2*(far*1099511627776-A*(1099511627776+E))) 1099511627776) (n1:7232738120604<=near) (f1:7000000000000<=far):near-65536<=N/\N<=far+65536:=by
 have q:=Wa F
 have ql:=q.lo;have qu:=q.hi;have sl:=hS.lo;have su:=hS.hi
 have ll:=Ap7 F hn
 have lh:=Ap8 F hf
 refine⟨?_,?_⟩
 ·apply Classical.byContradiction
  intro g
  have m1:=Int.mul_le_mul (show N+1<=near-65536 by omega) (show N+1<=near-65536 by omega) (by omega) (by omega)
  have m2:=Int.mul_le_mul ll ll (by omega) (by omega)
  have e1:(near-65536)*(near-65536)=near*near-131072*near+4294967296:=by grind
  have e2:1208925819614629174706176*(near-48)*(1208925819614629174706176*(near-48))=1461501637330902918203684832716283019655932542976*(near*near)-1461501637330902918203684832716283019655932542976*(96*near)+1461501637330902918203684832716283019655932542976*2304:=by grind
  rw[e1]at m1
  rw[e2]at m2
  generalize lam A E c*lam A E c=Λ at *
  generalize near*near=Y at *
  generalize (N+1)*(N+1)=M at *
  omega
 ·apply Classical.byContradiction
  intro g
  have l0:0<=lam A E c:=by omega
  have m1:=Int.mul_le_mul (show far+65537<=N by omega) (show far+65537<=N by omega) (by omega) (by omega)
  have m2:=Int.mul_le_mul lh lh l0 (by omega)
  have e1:(far+65537)*(far+65537)=far*far+131074*far+4295098369:=by grind
  have e2:1208925819614629174706176*(far+48)*(1208925819614629174706176*(far+48))=1461501637330902918203684832716283019655932542976*(far*far)+1461501637330902918203684832716283019655932542976*(96*far)+1461501637330902918203684832716283019655932542976*2304:=by grind
  rw[e1]at m1
  rw[e2]at m2
  generalize lam A E c*lam A E c=Λ at *
  generalize far*far=Y at *
  generalize N*N=M at *
  omega
structure Sc(s c:Int):Prop where
 sb:Ab s 1099511627832
 cb:Ab c 1099511627832
 cs:Ab (c*c+s*s-1208925819614629174706176) 123145302310912
structure Trn(u v s c m1 m2 m3 m4:Int):Prop where
 p1:Ab (2*(m1*1099511627776-u*c)) 1099511627776
 p2:Ab (2*(m2*1099511627776-v*s)) 1099511627776
 p3:Ab (2*(m3*1099511627776-u*s)) 1099511627776
 p4:Ab (2*(m4*1099511627776-v*c)) 1099511627776
theorem Trn.sq{u v s c m1 m2 m3 m4:Int}(T:Trn u v s c m1 m2 m3 m4)(Z:Sc s c)(hM:u*u+v*v<=120892581961462917470617600):Ab ((m1-m2)*(m1-m2)+(m3+m4)*(m3+m4)-(u*u+v*v)) 12457466742702080:=by
 have a1:=T.p1.lo;have b1:=T.p1.hi;have a2:=T.p2.lo;have b2:=T.p2.hi;have a3:=T.p3.lo;have b3:=T.p3.hi;have a4:=T.p4.lo;have b4:=T.p4.hi
 exact Ado hM Z.cb Z.sb Z.cs ⟨by omega,by omega⟩ ⟨by omega,by omega⟩
theorem YC{u v sq cq si ci sn cn m1 m2 m3 m4 bc z m5 m6 m7 m8:Int}(hM:u*u+v*v<=114847952863389771597086720)(T1:Trn u v sq cq m1 m2 m3 m4)(Z1:Sc sq cq)
    (hbc:Ab (2*(bc*1099511627776-(m3+m4)*ci)) 1099511627776) (hz:Ab (2*(z*1099511627776-(m3+m4)*si)) 1099511627776) (Z2:Sc si ci) (T3:Trn (m1-m2) bc sn cn m5 m6 m7 m8) (Z3:Sc sn cn):
    Ab ((m5-m6)*(m5-m6)+(m7+m8)*(m7+m8)+z*z-(u*u+v*v)) 37372400228106240:=by
 have h1:=T1.sq Z1 (by omega)
 have l1:=h1.lo;have u1:=h1.hi
 have a0:=AE (m1-m2)
 have b0:=AE (m3+m4)
 generalize m1-m2=a at *
 generalize m3+m4=b at *
 have z0:=AE z
 have h2:Ab (bc*bc+z*z-(b*b+0*0)) 12457466742702080:=Ado (u:=b) (v:=0) (by omega) Z2.cb Z2.sb Z2.cs (by have:=hbc.lo;have:=hbc.hi;exact⟨by omega,by omega⟩) (by have:=hz.lo;have:=hz.hi;exact⟨by omega,by omega⟩)
 have l2:=h2.lo;have u2:=h2.hi
 have h3:=T3.sq Z3 (by omega)
 have l3:=h3.lo;have u3:=h3.hi
 generalize (m5-m6)*(m5-m6)+(m7+m8)*(m7+m8)=W at *
 exact⟨by omega,by omega⟩
theorem Av{a b K L B:Int}(ha:Ab a K)(hb:Ab b L)(h:K*L<=2535301200456458802993406410752)(hK:K<=4611686018427387904)(hL:L<=4611686018427387904)(hB:2*(K*L)+1099511627776<=2*(B*1099511627776)):∃m,mulS false a b=(m,false)/\Ab (2*(m*1099511627776-a*b)) 1099511627776/\Ab m B:=by
 obtain⟨m,e,h1,h2,_⟩:=M6 a b (ha.numB hK) (hb.numB hL) (by
  have s1:=F4 ⟨ha.lo,ha.hi⟩
  have s2:=F4 ⟨hb.lo,hb.hi⟩
  have k0:0<=K:=by have:=ha.lo;have:=ha.hi;omega
  have:=Int.mul_le_mul s1 s2 (JC b).2.2 k0
  omega)
 have p:=ha.mul hb
 have p1:=p.lo;have p2:=p.hi
 exact⟨m,e,⟨by omega,by omega⟩,⟨by omega,by omega⟩⟩
theorem Adq{a d K lo hi B:Int}(ha:Ab a K)(h1:lo<=d)(h2:d<=hi)(hl:0<lo)(hK:K<=4611686018427387904)(hh:hi<=4611686018427387904)(h:K*1099511627776<=lo*2305843009213693952)(hB:2*(K*1099511627776)<(2*B+1)*lo)(B0:0<=B):
    ∃m,Bt false a d=(m,false)/\Ab (2*(m*d-a*1099511627776)) d/\Ab m B:=by
 obtain⟨m,e,d1,d2,_⟩:=Em a 1099511627776 d (ha.numB hK) (by rfl) (Fe ⟨by omega,by omega⟩) (by omega) (by
  rw[show sz 1099511627776=1099511627776 by rfl]
  have:=F4 ⟨ha.lo,ha.hi⟩
  have:=Int.mul_le_mul_of_nonneg_right h1 (show(0:Int)<=2305843009213693952 by decide)
  omega)
 have a1:=ha.lo;have a2:=ha.hi
 refine⟨m,e,⟨by omega,by omega⟩,⟨?_,?_⟩⟩
 ·apply Classical.byContradiction
  intro g
  have q:=Int.mul_le_mul (show 2*B+1<=-2*m-1 by omega) h1 (by omega) (by omega)
  have e:(-2*m-1)*d=-(2*(m*d))-d:=by grind
  rw[e]at q
  omega
 ·apply Classical.byContradiction
  intro g
  have q:=Int.mul_le_mul (show 2*B+1<=2*m-1 by omega) h1 (by omega) (by omega)
  have e:(2*m-1)*d=2*(m*d)-d:=by grind
  rw[e]at q
  omega
theorem Wb{a b m:Int}(h:mulS false a b=(m,false)):Ab (2*(m*1099511627776-a*b)) 1099511627776:=by
 cases c:tk false [a,b]
 ·rw[Ih c]at h;simp at h
 ·rw[Pv c]at h
  unfold out Kn at h
  simp only[Prod.mk.injEq,decide_eq_false_iff_not]at h
  obtain⟨h1,h2⟩:=h
  rw[if_pos (by omega)]at h1
  have e:sz a*sz b=a*b/\(decide (a<0) != decide (b<0))=false∨sz a*sz b=-(a*b)/\(decide (a<0) != decide (b<0))=true:=by
   unfold sz
   by_cases h3:a<0<;>by_cases h4:b<0<;>simp[h3,h4,Int.neg_mul,Int.mul_neg]
  rcases e with⟨e1,e2⟩|⟨e1,e2⟩
  ·rw[e1]at h1 h2
   rw[e2]at h1
   simp at h1
   subst h1
   exact⟨by omega,by omega⟩
  ·rw[e1]at h1 h2
   rw[e2]at h1
   simp at h1
   subst h1
   exact⟨by omega,by omega⟩
structure Wc(A E e2 r s c node peri x:Int):Type where
 (sx cx u w1 v sq cq m1 m2 m3 m4 sn cn m5 bc m6 m7 m8 z:Int)
 hcx:Ap6 false x=(cx,false)
 hsx:Ap5 false x=(sx,false)
 hce:CP false cx E=(cx-E,false)
 hu:mulS false A (cx-E)=(u,false)
 hw1:mulS false A r=(w1,false)
 hv:mulS false w1 sx=(v,false)
 hcq:Ap6 false peri=(cq,false)
 hsq:Ap5 false peri=(sq,false)
 h1:mulS false u cq=(m1,false)
 h2:mulS false v sq=(m2,false)
 ha:CP false m1 m2=(m1-m2,false)
 h3:mulS false u sq=(m3,false)
 h4:mulS false v cq=(m4,false)
 hb:Ca false m3 m4=(m3+m4,false)
 hcn:Ap6 false node=(cn,false)
 hsn:Ap5 false node=(sn,false)
 h5:mulS false (m1-m2) cn=(m5,false)
 hbc:mulS false (m3+m4) c=(bc,false)
 h6:mulS false bc sn=(m6,false)
 hX:CP false m5 m6=(m5-m6,false)
 h7:mulS false (m1-m2) sn=(m7,false)
 h8:mulS false bc cn=(m8,false)
 hY:Ca false m7 m8=(m7+m8,false)
 hz:mulS false (m3+m4) s=(z,false)
 flat:My A E cx sx e2 r w1 u v
 T1:Trn u v sq cq m1 m2 m3 m4
 Z1:Sc sq cq
 T3:Trn (m1-m2) bc sn cn m5 m6 m7 m8
 Z3:Sc sn cn
 qbc:Ab (2*(bc*1099511627776-(m3+m4)*c)) 1099511627776
 qz:Ab (2*(z*1099511627776-(m3+m4)*s)) 1099511627776
 ab:Ab (m1-m2) 19344904008183
 bb:Ab (m3+m4) 19344904008183
 cb:Ab bc 19344904009169
 Xb:Ab (m5-m6) 38689808019324
 Yb:Ab (m7+m8) 38689808019324
 zb:Ab z 19344904009169
theorem Wc.far{A E e2 r s c node peri x low high:Int}(P:Wc A E e2 r s c node peri x)(sc:Sc s c)(hl:mulS false A (1099511627776-E)=(low,false))(hh:mulS false A (1099511627776+E)=(high,false))(l1:7232738120604<=low):
    ∃N,By false (P.m5-P.m6) (P.m7+P.m8) P.z=(N,false)/\0<=N/\N<=96724520047817/\low-65536<=N/\N<=high+65536:=by
 have F:=P.flat
 have S:=YC (Aj8 F) P.T1 P.Z1 P.qbc P.qz sc P.T3 P.Z3
 have a:=Wb hl
 have b:=Wb hh
 have p0:=Int.mul_nonneg (show 0<=A by have:=F.A1;omega) F.E1
 have e1:A*(1099511627776-E)=1099511627776*A-A*E:=by grind
 have e2':A*(1099511627776+E)=1099511627776*A+A*E:=by grind
 have h7:7000000000000<=high:=by
  have a2:=a.hi;have b1:=b.lo
  rw[e1]at a2
  rw[e2']at b1
  omega
 have x1:=(P.Xb.mul P.Xb).hi;have y1:=(P.Yb.mul P.Yb).hi;have z1:=(P.zb.mul P.zb).hi
 have x0:=AE (P.m5-P.m6);have y0:=AE (P.m7+P.m8);have z0:=AE P.z
 have hs:=FO ((P.m5-P.m6)*(P.m5-P.m6)+(P.m7+P.m8)*(P.m7+P.m8)+P.z*P.z) (by omega) (by omega)
 have nb:isq ((P.m5-P.m6)*(P.m5-P.m6)+(P.m7+P.m8)*(P.m7+P.m8)+P.z*P.z)<=96724520047817:=by
  apply Classical.byContradiction
  intro g
  have:=Int.mul_le_mul (show 96724520047817<=isq ((P.m5-P.m6)*(P.m5-P.m6)+(P.m7+P.m8)*(P.m7+P.m8)+P.z*P.z)by omega) (show 96724520047817<=isq ((P.m5-P.m6)*(P.m5-P.m6)+(P.m7+P.m8)*(P.m7+P.m8)+P.z*P.z)by omega) (by decide) (by omega)
  omega
 obtain⟨f1,f2⟩:=Adp F S hs.1 hs.2.1 hs.2.2 a b l1 h7
 exact⟨_,KW (P.Xb.numB (by decide)) (P.Yb.numB (by decide)) (P.zb.numB (by decide)) hs.1 (by omega) hs.2.1 hs.2.2,hs.1,nb,f1,f2⟩
structure Up(s c sn cn X Y z:Int):Type where
 (g0 g1 f0 f1 f2:Int)
 h0:mulS false s sn=(g0,false)
 h1:mulS false s cn=(g1,false)
 k0:mulS false X g0=(f0,false)
 k1:mulS false Y (-g1)=(f1,false)
 k2:mulS false z c=(f2,false)
 a1:Ca false f0 f1=(f0+f1,false)
 a2:Ca false (f0+f1) f2=(f0+f1+f2,false)
 gb0:Ab g0 1099511627889
 gb1:Ab g1 1099511627889
 lo:-65536<=f0+f1+f2
 hi:f0+f1+f2<=65536
theorem Wc.up{A E e2 r s c node peri x:Int}(P:Wc A E e2 r s c node peri x)(sc:Sc s c):Nonempty (Up s c P.sn P.cn (P.m5-P.m6) (P.m7+P.m8) P.z):=by
 obtain⟨g0,h0,q0,gb0⟩:=Av (B:=1099511627889) sc.sb P.Z3.sb (by decide) (by decide) (by decide) (by decide)
 obtain⟨g1,h1,q1,gb1⟩:=Av (B:=1099511627889) sc.sb P.Z3.cb (by decide) (by decide) (by decide) (by decide)
 obtain⟨f0,k0,t0,fb0⟩:=Av (B:=38689808023301) P.Xb gb0 (by decide) (by decide) (by decide) (by decide)
 obtain⟨f1,k1,t1,fb1⟩:=Av (B:=38689808023301) P.Yb gb1.neg (by decide) (by decide) (by decide) (by decide)
 obtain⟨f2,k2,t2,fb2⟩:=Av (B:=19344904010155) P.zb sc.cb (by decide) (by decide) (by decide) (by decide)
 have T3:=P.T3
 have Xb:=P.Xb;have Yb:=P.Yb;have Z3:=P.Z3;have qbc:=P.qbc;have qz:=P.qz;have cb:=P.cb
 have α:Ab (1099511627776*(P.m5-P.m6)-((P.m1-P.m2)*P.cn-P.bc*P.sn)) 1099511627776:=by
  have:=T3.p1.lo;have:=T3.p1.hi;have:=T3.p2.lo;have:=T3.p2.hi
  exact⟨by omega,by omega⟩
 have β:Ab (1099511627776*(P.m7+P.m8)-((P.m1-P.m2)*P.sn+P.bc*P.cn)) 1099511627776:=by
  have:=T3.p3.lo;have:=T3.p3.hi;have:=T3.p4.lo;have:=T3.p4.hi
  exact⟨by omega,by omega⟩
 generalize P.m5-P.m6=X at *
 generalize P.m7+P.m8=Y at *
 generalize P.m1-P.m2=a at *
 generalize P.m3+P.m4=b at *
 generalize P.bc=bc at *
 generalize P.z=z at *
 generalize P.sn=sn at *
 generalize P.cn=cn at *
 have key:2*(1329227995784915872903807060280344576*(f0+f1+f2))=1208925819614629174706176*(2*(f0*1099511627776-X*g0)+2*(f1*1099511627776-Y*-g1)+2*(f2*1099511627776-z*c))+1099511627776*(X*(2*(g0*1099511627776-s*sn))-Y*(2*(g1*1099511627776-s*cn)))
     +1099511627776*(2*(z*1099511627776-b*s)*c)-1099511627776*(s*(2*(bc*1099511627776-b*c)))+2*(s*((1099511627776*X-(a*cn-bc*sn))*sn-(1099511627776*Y-(a*sn+bc*cn))*cn))-2*(s*bc*(cn*cn+sn*sn-1208925819614629174706176)):=by grind
 have u1:=Xb.mul q0
 have u2:=Yb.mul q1
 have u3:=qz.mul sc.cb
 have u4:=sc.sb.mul qbc
 have u5:=sc.sb.mul ((α.mul Z3.sb).sub (β.mul Z3.cb))
 have u6:=(sc.sb.mul cb).mul Z3.cs
 have l0:=t0.lo;have m0:=t0.hi;have l1:=t1.lo;have m1:=t1.hi;have l2:=t2.lo;have m2:=t2.hi
 have v1:=u1.lo;have w1:=u1.hi;have v2:=u2.lo;have w2:=u2.hi;have v3:=u3.lo;have w3:=u3.hi;have v4:=u4.lo;have w4:=u4.hi;have v5:=u5.lo;have w5:=u5.hi;have v6:=u6.lo;have w6:=u6.hi
 have fin:-65536<=f0+f1+f2/\f0+f1+f2<=65536:=by
  generalize X*(2*(g0*1099511627776-s*sn))=U1 at *
  generalize Y*(2*(g1*1099511627776-s*cn))=U2 at *
  generalize 2*(z*1099511627776-b*s)*c=U3 at *
  generalize s*(2*(bc*1099511627776-b*c))=U4 at *
  generalize s*((1099511627776*X-(a*cn-bc*sn))*sn-(1099511627776*Y-(a*sn+bc*cn))*cn)=U5 at *
  generalize s*bc*(cn*cn+sn*sn-1208925819614629174706176)=U6 at *
  generalize 2*(f0*1099511627776-X*g0)=R0 at *
  generalize 2*(f1*1099511627776-Y*-g1)=R1 at *
  generalize 2*(f2*1099511627776-z*c)=R2 at *
  generalize f0+f1+f2=F at *
  exact⟨by omega,by omega⟩
 exact⟨⟨g0,g1,f0,f1,f2,h0,h1,k0,k1,k2,Bp fb0 fb1 (by decide) (by decide) (by decide),Bp (fb0.add fb1) fb2 (by decide) (by decide) (by decide),gb0,gb1,fin.1,fin.2⟩⟩
open Go.RowKit
abbrev V7:=Int×Int×Int×Int×Int×Int×Int
def EY(a:Int)(k:Int):Bool:=let r1:=mulS false a (1099511627776-k);let r2:=mulS r1.2 a (1099511627776+k);if r2.2 then false else if r1.1≥7232738120604 then(decide (r2.1<=9211859050600))else false
def oAngC(a:Int):Bool:=if (-6908435304716)<=a then(decide (a<=6908435304716))else false
def AA(o:V7):Bool:=if 0<=o.2.1 then if o.2.1<=109951162777 then let r1:=EY o.1 o.2.1;if r1 then if 0<=o.2.2.1 then if o.2.2.1<=3454217652358 then let r2:=oAngC o.2.2.2.1;if r2 then let r3:=oAngC o.2.2.2.2.1;if r3 then let r4:=oAngC o.2.2.2.2.2.1;if r4 then let r5:=cRight o.2.2.2.2.2.2;r5 else false else false else false else false else false else false else false else false
def FF(a:Int):Bool:=if a≥(-6908435304716)then(decide (a<=6908435304716))else false
def AZ(o:V7):Bool:=if o.2.1<0 then false else if o.2.1>109951162777 then false else if o.2.2.1<0 then false else if o.2.2.1>3454217652358 then false else let r1:=FF o.2.2.2.1;if r1 then let r2:=FF o.2.2.2.2.1;if r2 then let r3:=FF o.2.2.2.2.2.1;if r3 then let r4:=cRight o.2.2.2.2.2.2;if r4 then let r5:=mulS false o.1 (1099511627776-o.2.1);let r6:=mulS r5.2 o.1 (1099511627776+o.2.1);if r6.2 then false else if r5.1≥7232738120604 then(decide (r6.1<=9211859050600))else false else false else false else false else false
theorem Adr(a:Int):FF a=oAngC a:=rfl
theorem Tj(o:V7):AZ o=AA o:=by
 unfold AZ AA EY
 simp only[Adr]
 by_cases c1:o.2.1<0
 ·rw[if_pos c1,if_neg (by omega)]
 rw[if_neg c1,if_pos (show 0<=o.2.1 by omega)]
 by_cases c2:o.2.1>109951162777
 ·rw[if_pos c2,if_neg (by omega)]
 rw[if_neg c2,if_pos (show o.2.1<=109951162777 by omega)]
 by_cases c3:o.2.2.1<0
 ·rw[if_pos c3,if_neg (show ¬0<=o.2.2.1 by omega),ite_self]
 rw[if_neg c3,if_pos (show 0<=o.2.2.1 by omega)]
 by_cases c4:o.2.2.1>3454217652358
 ·rw[if_pos c4,if_neg (show ¬o.2.2.1<=3454217652358 by omega),ite_self]
 rw[if_neg c4,if_pos (show o.2.2.1<=3454217652358 by omega)]
 generalize oAngC o.2.2.2.1=x1
 generalize oAngC o.2.2.2.2.1=x2
 generalize oAngC o.2.2.2.2.2.1=x3
 generalize cRight o.2.2.2.2.2.2=x4
 generalize mulS false o.1 (1099511627776-o.2.1)=y1
 generalize mulS y1.2 o.1 (1099511627776+o.2.1)=y2
 by_cases d:y1.1≥7232738120604
 ·simp only[if_pos d]
  generalize decide (y2.1<=9211859050600)=x5
  cases x1<;>cases x2<;>cases x3<;>cases x4<;>cases x5<;>cases y2.2<;>rfl
 ·simp only[if_neg d]
  cases x1<;>cases x2<;>cases x3<;>cases x4<;>cases y2.2<;>rfl
end Go.Proofs.YtgmpfeaanjnhaaaGreatDoor
