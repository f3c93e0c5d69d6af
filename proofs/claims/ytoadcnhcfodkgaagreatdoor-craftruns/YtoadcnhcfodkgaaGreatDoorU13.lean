import Derived.Handy
import Derived.Test.YtoadcnhcfodkgaaGreatDoorU12
import Derived.Test.YtoadcnhcfodkgaaGreatDoorU11
import Derived.Test.YtoadcnhcfodkgaaGreatDoorU08
import Derived.Test.YtoadcnhcfodkgaaGreatDoorU06
import Derived.Test.YtoadcnhcfodkgaaGreatDoorU09
import Derived.Test.YtoadcnhcfodkgaaGreatDoorU10
import Derived.Test.YtoadcnhcfodkgaaGreatDoorU07
import Derived.Test.YtoadcnhcfodkgaaGreatDoorU05
set_option maxRecDepth 100000
set_option maxHeartbeats 20000000
open Go.Proofs.Tryz renaming prog→Zm
open Nat renaming le_of_ble_eq_true→Zn,le_trans→Zr
open List renaming nil_append→Zo,cons_append→Zp
open ByteArray renaming size_extract→Zq
open Bool renaming and_eq_true→Zs,true_and→Zt
namespace Go.Proofs.YtoadcnhcfodkgaaGreatDoor
section
open Go.RowKit
theorem Zf(n a b:Int)(w:World):Calls Zm 254 #[.int .i64 n,.int .i64 a,.int .i64 b] w fun e w'=>e=.returned (.bool (BX n a b))/\w=w':=by
 by_cases h:a<=n
 ·have H:Hid (BX n a b=decide (n<=b)):=by show _=_;unfold BX;rw[decide_eq_true h,Zt]
  go_enter Tryz.func254,Tryz.ntmps254
  go_wp2
  go_ret
  exact⟨by rw[H.out];rfl,rfl⟩
 ·have H:Hid (BX n a b=false):=by show _=_;unfold BX;rw[decide_eq_false h,Bool.false_and]
  go_enter Tryz.func254,Tryz.ntmps254
  go_wp2
  go_ret
  exact⟨by rw[H.out];rfl,rfl⟩
theorem Ayb(n a b:Int)(w:World):Calls Zm 196 #[.int .i64 n,.int .i64 a,.int .i64 b] w fun e w'=>e=.returned (.bool (BX n a b))/\w=w':=by
 by_cases h:a<=n
 ·have H:Hid (BX n a b=decide (n<=b)):=by show _=_;unfold BX;rw[decide_eq_true h,Zt]
  go_enter Tryz.func196,Tryz.ntmps196
  go_wp2
  go_ret
  exact⟨by rw[H.out];rfl,rfl⟩
 ·have H:Hid (BX n a b=false):=by show _=_;unfold BX;rw[decide_eq_false h,Bool.false_and]
  go_enter Tryz.func196,Tryz.ntmps196
  go_wp2
  go_ret
  exact⟨by rw[H.out];rfl,rfl⟩
theorem Ahe(t:Int)(w:World)(h0:0<=t)(h1:t<=157766400000):
    Calls Zm 171 #[.slice none 0 0,.int .i64 t] w fun e w'=>∃v,e=.returned v/\FG w.heap.size w' v (CN t)/\Below w.heap.size w w':=by
 have HT:Hid ([IntKind.u8.wrap (IntKind.u64.wrap t / 1099511627776),IntKind.u8.wrap (IntKind.u64.wrap t / 4294967296),IntKind.u8.wrap (IntKind.u64.wrap t / 16777216),IntKind.u8.wrap (IntKind.u64.wrap t / 65536),IntKind.u8.wrap (IntKind.u64.wrap t / 256),IntKind.u8.wrap (IntKind.u64.wrap t)]=CN t):=by
  show _=_
  rw[show IntKind.u64.wrap t=t by rw[IntKind.wrap_u64];omega]
  rfl
 clear h0 h1
 go_enter Tryz.func171,Tryz.ntmps171
 go_wp2_with fail
 refine wp_loop_rounds 7 ?_
 rw[rounds_succ]
 go_wp2_with (at_builtin;refine Bt rfl (.tmp 10) (.tmp 16) rfl w.heap.size (.slice none 0 0) [] [IntKind.u8.wrap (IntKind.u64.wrap t / 1099511627776)] w rfl (World.ownsRow_nil _ _ _ _) rfl (Zn rfl) (Nat.le_refl _) ?_;intro v1 w1 o1 b1 s1)
 have z1:w.heap.size<=w1.heap.size:=Zr (Nat.le_refl _) s1
 clear s1
 simp only[Zo]at o1
 rw[rounds_succ]
 go_wp2_with (at_builtin;refine Bt rfl (.tmp 10) (.tmp 16) rfl w.heap.size v1 [IntKind.u8.wrap (IntKind.u64.wrap t / 1099511627776)] [IntKind.u8.wrap (IntKind.u64.wrap t / 4294967296)] w1 rfl o1 rfl (Zn rfl) z1 ?_;intro v2 w2 o2 b2 s2)
 have z2:w.heap.size<=w2.heap.size:=Zr z1 s2
 have b2:=b1.trans b2
 clear b1 s2 o1 z1
 simp only[Zp,Zo]at o2
 rw[rounds_succ]
 go_wp2_with (at_builtin;refine Bt rfl (.tmp 10) (.tmp 16) rfl w.heap.size v2 [IntKind.u8.wrap (IntKind.u64.wrap t / 1099511627776),IntKind.u8.wrap (IntKind.u64.wrap t / 4294967296)] [IntKind.u8.wrap (IntKind.u64.wrap t / 16777216)] w2 rfl o2 rfl (Zn rfl) z2 ?_;intro v3 w3 o3 b3 s3)
 have z3:w.heap.size<=w3.heap.size:=Zr z2 s3
 have b3:=b2.trans b3
 clear b2 s3 o2 z2
 simp only[Zp,Zo]at o3
 rw[rounds_succ]
 go_wp2_with (at_builtin;refine Bt rfl (.tmp 10) (.tmp 16) rfl w.heap.size v3 [IntKind.u8.wrap (IntKind.u64.wrap t / 1099511627776),IntKind.u8.wrap (IntKind.u64.wrap t / 4294967296),IntKind.u8.wrap (IntKind.u64.wrap t / 16777216)] [IntKind.u8.wrap (IntKind.u64.wrap t / 65536)] w3 rfl o3 rfl (Zn rfl) z3 ?_;intro v4 w4 o4 b4 s4)
 have z4:w.heap.size<=w4.heap.size:=Zr z3 s4
 have b4:=b3.trans b4
 clear b3 s4 o3 z3
 simp only[Zp,Zo]at o4
 rw[rounds_succ]
 go_wp2_with (at_builtin;refine Bt rfl (.tmp 10) (.tmp 16) rfl w.heap.size v4 [IntKind.u8.wrap (IntKind.u64.wrap t / 1099511627776),IntKind.u8.wrap (IntKind.u64.wrap t / 4294967296),IntKind.u8.wrap (IntKind.u64.wrap t / 16777216),IntKind.u8.wrap (IntKind.u64.wrap t / 65536)] [IntKind.u8.wrap (IntKind.u64.wrap t / 256)] w4 rfl o4 rfl (Zn rfl) z4 ?_;intro v5 w5 o5 b5 s5)
 have z5:w.heap.size<=w5.heap.size:=Zr z4 s5
 have b5:=b4.trans b5
 clear b4 s5 o4 z4
 simp only[Zp,Zo]at o5
 rw[rounds_succ]
 go_wp2_with (at_builtin;refine Bt rfl (.tmp 10) (.tmp 16) rfl w.heap.size v5 [IntKind.u8.wrap (IntKind.u64.wrap t / 1099511627776),IntKind.u8.wrap (IntKind.u64.wrap t / 4294967296),IntKind.u8.wrap (IntKind.u64.wrap t / 16777216),IntKind.u8.wrap (IntKind.u64.wrap t / 65536),IntKind.u8.wrap (IntKind.u64.wrap t / 256)] [IntKind.u8.wrap (IntKind.u64.wrap t)] w5 rfl o5 rfl (Zn rfl) z5 ?_;intro v6 w6 o6 b6 s6)
 have z6:w.heap.size<=w6.heap.size:=Zr z5 s6
 have b6:=b5.trans b6
 clear b5 s6 o5 z5
 simp only[Zp,Zo]at o6
 rw[HT.out]at o6
 rw[rounds_succ]
 go_wp2_with (with_reducible refine BJ ?_)
 exact⟨bodyPost_ret (v:=v6) (by simp[results,Tryz.results171,go_sem]) rfl ⟨v6,rfl,o6,b6⟩⟩
theorem CO(B:Nat)(v:Value)(l:List Int)(c:Int)(w:World)(hO:FG B w v l)(hB:B<=w.heap.size)(hl:l.length<=90):
    Calls Zm 172 #[v,.int .i64 c] w fun e w'=>∃v',e=.returned v'/\FG B w' v' (l++AI c)/\Below B w w'/\w.heap.size<=w'.heap.size:=by
 have HT:Hid (AI c=[IntKind.u8.wrap (IntKind.u16.wrap c / 256),IntKind.u8.wrap (IntKind.u16.wrap c)]):=rfl
 go_enter Tryz.func172,Tryz.ntmps172
 go_wp2_with (at_builtin;refine Bt rfl (.tmp 8) (.tmp 14) rfl B v l [IntKind.u8.wrap (IntKind.u16.wrap c / 256),IntKind.u8.wrap (IntKind.u16.wrap c)] w rfl hO rfl (by simp;omega) hB ?_;intro v1 w1 o1 b1 s1)
 skip
 go_wp2_with (with_reducible refine BJ ?_)
 exact⟨bodyPost_ret (v:=v1) (by simp[results,Tryz.results172,go_sem]) rfl ⟨v1,rfl,by rw[HT.out];exact o1,b1,s1⟩⟩
theorem Aqn{n:Int}(h:-32768<=n/\n<=65535):[IntKind.u8.wrap ((if n<0 then n+65536 else n) / 256),IntKind.u8.wrap ((if n<0 then n+65536 else n) % 256)]=AI n:=by
 unfold AI
 simp only[IntKind.wrap_u8,IntKind.wrap_u16]
 split<;>exact congr (congrArg _ (by omega)) (congr (congrArg _ (by omega)) rfl)
theorem Es(n:Int)(w:World)(h:-32768<=n/\n<=65535):
    Calls Zm 109 #[.int .i64 n] w fun e w'=>e=.returned (.slice (some ⟨w.heap.size,0,none⟩) 2 2)/\w'=w.alloc (.cells (TX (AI n)).toArray 5):=by
 have H:=Aqn h
 by_cases c:n<0
 ·rw[if_pos c]at H
  have H:Hid (TX (AI n)=[.int .u8 ((n+65536) / 256),.int .u8 ((n+65536) % 256)]):=by show _=_;rw[<-H,show IntKind.u8.wrap ((n+65536) / 256)=(n+65536) / 256 by rw[IntKind.wrap_u8];omega,show IntKind.u8.wrap ((n+65536) % 256)=(n+65536) % 256 by rw[IntKind.wrap_u8];omega];rfl
  have e1:(n+65536).tdiv 256=(n+65536) / 256:=Int.tdiv_eq_ediv_of_nonneg (by omega)
  have e2:(n+65536).tmod 256=(n+65536) % 256:=Int.tmod_eq_emod_of_nonneg (by omega)
  rw[H.out]
  go_enter Tryz.func109,Tryz.ntmps109
  go_wp2
  go_ret
  exact⟨rfl,rfl⟩
 ·rw[if_neg c]at H
  have H:Hid (TX (AI n)=[.int .u8 (n / 256),.int .u8 (n % 256)]):=by show _=_;rw[<-H,show IntKind.u8.wrap (n / 256)=n / 256 by rw[IntKind.wrap_u8];omega,show IntKind.u8.wrap (n % 256)=n % 256 by rw[IntKind.wrap_u8];omega];rfl
  have e1:n.tdiv 256=n / 256:=Int.tdiv_eq_ediv_of_nonneg (by omega)
  have e2:n.tmod 256=n % 256:=Int.tmod_eq_emod_of_nonneg (by omega)
  rw[H.out]
  go_enter Tryz.func109,Tryz.ntmps109
  go_wp2
  go_ret
  exact⟨rfl,rfl⟩
end
section
open Go.RowKit
def txT(T:Tl):Tup 13:=(T.t,T.m,T.fa,T.ak,T.er,T.rj,T.q0,T.q1,T.q2,T.q3,T.d0,T.d1,T.d2,())
def txO(x:Tup 13):Tl:=⟨x.1,x.2.1,x.2.2.1,x.2.2.2.1,x.2.2.2.2.1,x.2.2.2.2.2.1,x.2.2.2.2.2.2.1,x.2.2.2.2.2.2.2.1,x.2.2.2.2.2.2.2.2.1,x.2.2.2.2.2.2.2.2.2.1,x.2.2.2.2.2.2.2.2.2.2.1,x.2.2.2.2.2.2.2.2.2.2.2.1,x.2.2.2.2.2.2.2.2.2.2.2.2.1⟩
def txW:Ct Zm:=Aq Zm 254 (Ac cI (Ac cI (Aa cI))) (fun x=>BX x.1 x.2.1 x.2.2) cB (Ae Tryz.func254 (by kernel_rfl) (by kernel_rfl)) (fun x w _=>(Zf x.1 x.2.1 x.2.2 w).mono (by rintro e w' ⟨rfl,rfl⟩;exact⟨rfl,Below.refl _ _⟩))
def txI:Ct Zm:=Aq Zm 196 (Ac cI (Ac cI (Aa cI))) (fun x=>BX x.1 x.2.1 x.2.2) cB (Ae Tryz.func196 (by kernel_rfl) (by kernel_rfl)) (fun x w _=>(Ayb x.1 x.2.1 x.2.2 w).mono (by rintro e w' ⟨rfl,rfl⟩;exact⟨rfl,Below.refl _ _⟩))
def txR:Ct Zm:=Aq Zm 9 (Aa cI) cRight cB (Ae Tryz.func9 (by kernel_rfl) (by kernel_rfl)) (fun x w _=>B4 x w)
def txD:Ct Zm:=Aq Zm 17 (Aa cI) cRight cB (Ae Tryz.func17 (by kernel_rfl) (by kernel_rfl)) (fun x w _=>Pm x w)
theorem Ayc:∀b0 b1 b2 b3 b4 b5 b6 b7 b8 b9 b10 b11 b12:Bool,(if !b6 then false else(if !b7 then false else(if !b8 then false else(if !b9 then false else(if !b10 then false else(if !b11 then false else(if !b12 then false else(if b0 then(if b1 then(if b2 then(if b3 then(if b4 then b5 else false)else false)else false)else false)else false))))))))=(b0&&b1&&b2&&b3&&b4&&b5&&b6&&b7&&b8&&b9&&b10&&b11&&b12):=by decide+kernel
theorem AGu:∀b0 b1 b2 b3 b4 b5 b6 b7 b8 b9 b10 b11 b12:Bool,(if b0 then(if b1 then(if b2 then(if b3 then(if b4 then(if b5 then(if b6 then(if b7 then(if b8 then(if b9 then(if b10 then(if b11 then b12 else false)else false)else false)else false)else false)else false)else false)else false)else false)else false)else false)else false)=(b0&&b1&&b2&&b3&&b4&&b5&&b6&&b7&&b8&&b9&&b10&&b11&&b12):=by decide+kernel
theorem APl(T:Tl)(K:Bool->Prop):(AE (!BX T.q0 (-32768) 32767) (K false) (AE (!BX T.q1 (-32768) 32767) (K false) (AE (!BX T.q2 (-32768) 32767) (K false) (AE (!BX T.q3 (-32768) 32767) (K false) (AE (!BX T.d0 (-32768) 32767) (K false) (AE (!BX T.d1 (-32768) 32767) (K false) (AE (!BX T.d2 (-32768) 32767) (K false) (AE (cRight T.t) (AE (BX T.m 0 3) (AE (BX T.fa 0 15) (AE (BX T.ak 0 255) (AE (BX T.er 0 255) (K (BX T.rj 0 65535)) (K false)) (K false)) (K false)) (K false)) (K false)))))))))=K (EA T):=by
 simp only[Bg,Ayc]
 rfl
theorem APm(T:Tl)(K:Bool->Prop):(AE (cRight T.t) (AE (BX T.m 0 3) (AE (BX T.fa 0 15) (AE (BX T.ak 0 255) (AE (BX T.er 0 255) (AE (BX T.rj 0 65535) (AE (BX T.q0 (-32768) 32767) (AE (BX T.q1 (-32768) 32767) (AE (BX T.q2 (-32768) 32767) (AE (BX T.q3 (-32768) 32767) (AE (BX T.d0 (-32768) 32767) (AE (BX T.d1 (-32768) 32767) (K (BX T.d2 (-32768) 32767)) (K false)) (K false)) (K false)) (K false)) (K false)) (K false)) (K false)) (K false)) (K false)) (K false)) (K false)) (K false))=K (EA T):=by
 simp only[Bg,AGu]
 rfl
theorem Pn:Ah Zm 170 (Aa (cT 13)) (fun x=>EA (txO x)) cB:=Av (tbl:=[txW,txR]) (dirty:=fun _=>[]) (n:=6) xmixA Tryz.func170 rfl (fun x Post=>by
 rw[<-APl (txO x) (PJ cB Post)]
 kernel_rfl)
theorem Mv:Ah Zm 108 (Aa (cT 13)) (fun x=>EA (txO x)) cB:=Av (tbl:=[txI,txD]) (dirty:=fun _=>[]) (n:=6) xmixA Tryz.func108 rfl (fun x Post=>by
 rw[<-APm (txO x) (PJ cB Post)]
 kernel_rfl)
theorem Aqo(T:Tl)(w:World)(hg:GW w):Calls Zm 170 #[.agg #[.int .i64 T.t,.int .i64 T.m,.int .i64 T.fa,.int .i64 T.ak,.int .i64 T.er,.int .i64 T.rj,.int .i64 T.q0,.int .i64 T.q1,.int .i64 T.q2,.int .i64 T.q3,.int .i64 T.d0,.int .i64 T.d1,.int .i64 T.d2]] w fun e w'=>e=.returned (.bool (EA T))/\Below w.heap.size w w':=Pn (txT T) w hg
theorem Aqp(T:Tl)(w:World)(hg:GW w):Calls Zm 108 #[.agg #[.int .i64 T.t,.int .i64 T.m,.int .i64 T.fa,.int .i64 T.ak,.int .i64 T.er,.int .i64 T.rj,.int .i64 T.q0,.int .i64 T.q1,.int .i64 T.q2,.int .i64 T.q3,.int .i64 T.d0,.int .i64 T.d1,.int .i64 T.d2]] w fun e w'=>e=.returned (.bool (EA T))/\Below w.heap.size w w':=Mv (txT T) w hg
def FO(P:Program)(fn:Nat){A:Type}(d:Dl A)(S:A->(Value->Prop)->Prop)(mono:∀x K K',(∀v,K v->K' v)->S x K->S x K')(go:∀(args:Array Value) (w:World),(callFunc fn args).run P w=.ok (.enter fn args) w)
    (h:∀x w,GW w->∀K,S x K->Calls P fn (d.enc x).toArray w fun e w'=>∃v,e=.returned v/\isP v=false/\K v/\Below w.heap.size w w'):Ct P where
 fn:=fn
 sp:=fun args m K=>match d.dec args with
  |some x=>S x (fun v=>K v m)
  |none=>False
 go:=go
 mono:=fun hK hs=>by
  split at hs
  ·exact mono _ _ _ (fun v hv=>hK v _ hv) hs
  ·exact hs
 keep:=fun{args m K} hs=>by
  split at hs
  ·exact mono _ _ _ (fun v hv=>⟨hv,rfl,fun _ _=>rfl⟩) hs
  ·exact hs
 ok:=fun{bs w0 bl m w args args' K} R hlen hv hs=>by
  split at hs
  ·rename_i x hd
   have hl:=d.law _ _ hd
   rw[FW hlen hv (by rw[hl];exact d.np x),hl]
   refine Calls.mono (h x w R.gwAt _ hs) ?_
   rintro e w' ⟨v,rfl,hp,hk,Kp⟩
   exact⟨_,_,_,rfl,.same hp,hk,R.pure Kp⟩
  ·exact hs.elim
def Pla(s:ByteArray)(i:Int):Prop:=0<=i/\i<100/\2*i.toNat+1<s.size
def ABp:Ct Zm:=FO Zm 281 (Ac cS (Aa cI)) (fun x K=>Pla x.1 x.2/\K (.int .i64 (sg (cnt x.1 (2*x.2.toNat))))) (fun _ _ _ hK hs=>⟨hs.1,hK _ hs.2⟩) (Ae Tryz.func281 (by kernel_rfl) (by kernel_rfl))
 (fun x w _ K hs=>Calls.mono (Wk x.1 x.2 x.2.toNat w (by have:=hs.1.1;omega) hs.1.2.2 (by have:=hs.1.2.1;omega)) (by rintro e w' ⟨rfl,hb⟩;exact⟨_,rfl,rfl,hs.2,hb⟩))
def AL3:Ct Zm:=FO Zm 282 (Ac cS (Aa cI)) (fun x K=>Pla x.1 x.2/\K (.int .i64 (cnt x.1 (2*x.2.toNat):Nat))) (fun _ _ _ hK hs=>⟨hs.1,hK _ hs.2⟩) (Ae Tryz.func282 (by kernel_rfl) (by kernel_rfl))
 (fun x w _ K hs=>Calls.mono (Zd x.1 x.2 x.2.toNat w (by have:=hs.1.1;omega) hs.1.2.2 (by have:=hs.1.2.1;omega)) (by rintro e w' ⟨rfl,hb⟩;exact⟨_,rfl,rfl,hs.2,hb⟩))
def AGv:Ct Zm:=Ak Zm 46 (Aa (cT 3)) (fun bad x=>vNormS bad (x.1,x.2.1,x.2.2.1)) cI (Ae Tryz.func46 (by kernel_rfl) (by kernel_rfl)) (fun b bad x w hg hb hw=>Ma b bad (x.1,x.2.1,x.2.2.1) w hw hg hb)
def AGw:Ct Zm:=Ak Zm 240 (Aa (cT 3)) (fun bad x=>(((vUnitS bad (x.1,x.2.1,x.2.2.1)).1.1,(vUnitS bad (x.1,x.2.1,x.2.2.1)).1.2.1,(vUnitS bad (x.1,x.2.1,x.2.2.1)).1.2.2,()),(vUnitS bad (x.1,x.2.1,x.2.2.1)).2)) (cT 3) (Ae Tryz.func240 (by kernel_rfl) (by kernel_rfl)) (fun b bad x w hg hb hw=>Ag2 b bad (x.1,x.2.1,x.2.2.1) w hw hg hb)
def v3T(v:V3):Tup 3:=(v.1,v.2.1,v.2.2,())
abbrev BP:Dc (Tup 3×Bool):=Au (cT 3) cB
def Ayd(s:ByteArray)(i:Int)(A C:Prop):Prop:=Pla s i/\AE (decide (sg (cnt s (2*i.toNat))>30000)) A (AE (decide (sg (cnt s (2*i.toNat))< -30000)) A C)
theorem TF{s:ByteArray}{i:Int}{A C:Prop}(hp:Pla s i)(hA:¬(-30000<=sg (cnt s (2*i.toNat))/\sg (cnt s (2*i.toNat))<=30000)->A)(hC:-30000<=sg (cnt s (2*i.toNat))/\sg (cnt s (2*i.toNat))<=30000->C):Ayd s i A C:=by
 refine⟨hp,?_⟩
 by_cases h1:sg (cnt s (2*i.toNat))>30000
 ·rw[decide_eq_true h1];exact hA (by omega)
 ·rw[decide_eq_false h1]
  by_cases h2:sg (cnt s (2*i.toNat))< -30000
  ·rw[decide_eq_true h2];exact hA (by omega)
  ·rw[decide_eq_false h2];exact hC ⟨by omega,by omega⟩
theorem Aqq(s:ByteArray)(h:6<=s.size)(w:World)(hw:GW w):Calls Zm 259 ((Aa cS).enc s).toArray w fun e w'=>e=.returned (BP.enc (v3T (if DX (sg (cnt s 0)) (sg (cnt s 2)) (sg (cnt s 4))then Wi (sg (cnt s 0)) (sg (cnt s 2)) (sg (cnt s 4))else(0,0,0)),DX (sg (cnt s 0)) (sg (cnt s 2)) (sg (cnt s 4))))/\Below w.heap.size w w':=by
 refine Bj (d:=Aa cS) (k:=BP) (x:=s) (y:=(v3T (if DX (sg (cnt s 0)) (sg (cnt s 2)) (sg (cnt s 4))then Wi (sg (cnt s 0)) (sg (cnt s 2)) (sg (cnt s 4))else(0,0,0)),DX (sg (cnt s 0)) (sg (cnt s 2)) (sg (cnt s 4)))) (tbl:=[ABp]) (dirty:=fun _=>[]) (n:=5) xmixA Tryz.func259 rfl (fun Post hP=>?_) w hw
 refine Eq.mpr (β:=Ayd s 0 (PJ BP Post ((0,0,0,()),false)) (Ayd s 1 (PJ BP Post ((0,0,0,()),false)) (Ayd s 2 (PJ BP Post ((0,0,0,()),false)) (PJ BP Post ((IntKind.i64.wrap (sg (cnt s (2*(0:Int).toNat))*33554432),IntKind.i64.wrap (sg (cnt s (2*(1:Int).toNat))*33554432),IntKind.i64.wrap (sg (cnt s (2*(2:Int).toNat))*33554432),()),true))))) (by kernel_rfl) ?_
 have key:∀a b c:Int,¬(DX a b c=true)->PJ BP Post (v3T (if DX a b c then Wi a b c else(0,0,0)),DX a b c)->PJ BP Post ((0,0,0,()),false):=by
  intro a b c hn hq
  rw[if_neg hn,Bool.eq_false_iff.2 hn]at hq
  exact hq
 have hok:∀a b c:Int,DX a b c=true↔((-30000<=a/\a<=30000)/\(-30000<=b/\b<=30000))/\(-30000<=c/\c<=30000):=by
  intro a b c
  unfold DX DW
  simp
 refine TF ⟨by decide,by decide,by show 2*0+1<s.size;omega⟩ (fun hn=>key _ _ _ (fun k=>hn ((hok _ _ _).1 k).1.1) hP) (fun h0=>?_)
 refine TF ⟨by decide,by decide,by show 2*1+1<s.size;omega⟩ (fun hn=>key _ _ _ (fun k=>hn ((hok _ _ _).1 k).1.2) hP) (fun h1=>?_)
 refine TF ⟨by decide,by decide,by show 2*2+1<s.size;omega⟩ (fun hn=>key _ _ _ (fun k=>hn ((hok _ _ _).1 k).2) hP) (fun h2=>?_)
 have hg:DX (sg (cnt s 0)) (sg (cnt s 2)) (sg (cnt s 4))=true:=(hok _ _ _).2 ⟨⟨h0,h1⟩,h2⟩
 rw[if_pos hg,hg]at hP
 have e:∀x:Int,-30000<=x/\x<=30000->IntKind.i64.wrap (x*33554432)=x*33554432:=fun x hx=>by
  rw[IntKind.wrap_i64]
  omega
 rw[e _ h0,e _ h1,e _ h2]
 exact hP
theorem Wp(s:ByteArray)(h:6<=s.size)(w:World)(hw:GW w):Calls Zm 260 ((Aa cS).enc s).toArray w fun e w'=>e=.returned (BP.enc (v3T (KN (sg (cnt s 0)) (sg (cnt s 2)) (sg (cnt s 4))).1,Ri (sg (cnt s 0)) (sg (cnt s 2)) (sg (cnt s 4))))/\Below w.heap.size w w':=by
 refine Bj (d:=Aa cS) (k:=BP) (x:=s) (y:=(v3T (KN (sg (cnt s 0)) (sg (cnt s 2)) (sg (cnt s 4))).1,Ri (sg (cnt s 0)) (sg (cnt s 2)) (sg (cnt s 4)))) (tbl:=[ABp,Aqm,AGv]) (dirty:=fun _=>[]) (n:=5) xmixA Tryz.func260 rfl (fun Post hP=>?_) w hw
 refine Eq.mpr (β:=Pla s 0/\Pla s 1/\Pla s 2/\AE (decide (1099511627776<=magN (sg (cnt s 0)) (sg (cnt s 2)) (sg (cnt s 4)))) (PJ BP Post (v3T (KN (sg (cnt s 0)) (sg (cnt s 2)) (sg (cnt s 4))).1,decide (magN (sg (cnt s 0)) (sg (cnt s 2)) (sg (cnt s 4))<=131941395333120))) (PJ BP Post (v3T (KN (sg (cnt s 0)) (sg (cnt s 2)) (sg (cnt s 4))).1,false))) (by kernel_rfl) ?_
 refine⟨⟨by decide,by decide,by show 2*0+1<s.size;omega⟩,⟨by decide,by decide,by show 2*1+1<s.size;omega⟩,⟨by decide,by decide,by show 2*2+1<s.size;omega⟩,?_⟩
 unfold Ri at hP
 cases k:decide (1099511627776<=magN (sg (cnt s 0)) (sg (cnt s 2)) (sg (cnt s 4)))
 ·rw[k]at hP
  exact hP
 ·rw[k]at hP
  exact hP
def Aye(s:ByteArray)(i j:Int)(seen:Bool)(C:Bool->Prop):Prop:=Pla s i/\Pla s j/\AE seen (C true) (AE (decide (((cnt s (2*i.toNat):Nat):Int)≥2000)) (C true) (C (decide (((cnt s (2*j.toNat):Nat):Int)≥2000))))
theorem TG{s:ByteArray}{i j:Int}{seen:Bool}{C:Bool->Prop}(hi:Pla s i)(hj:Pla s j)(h:C (seen||decide (((cnt s (2*i.toNat):Nat):Int)≥2000)||decide (((cnt s (2*j.toNat):Nat):Int)≥2000))):Aye s i j seen C:=by
 refine⟨hi,hj,?_⟩
 cases seen
 ·cases k:decide (((cnt s (2*i.toNat):Nat):Int)≥2000)
  ·rw[k]at h
   exact h
  ·rw[k]at h
   exact h
 ·exact h
def Ayf(s:ByteArray):V3:=(IntKind.i64.wrap (IntKind.i64.wrap (((cnt s (2*(0:Int).toNat):Nat):Int)-((cnt s (2*(1:Int).toNat):Nat):Int))*16777216),IntKind.i64.wrap (IntKind.i64.wrap (((cnt s (2*(2:Int).toNat):Nat):Int)-((cnt s (2*(3:Int).toNat):Nat):Int))*16777216),IntKind.i64.wrap (IntKind.i64.wrap (((cnt s (2*(4:Int).toNat):Nat):Int)-((cnt s (2*(5:Int).toNat):Nat):Int))*16777216))
def AL4(s:ByteArray)(Post:Value->Prop)(b:Bool):Prop:=AE (!b) (PJ BP Post ((0,0,0,()),false)) (PJ BP Post (v3T (vUnitS false (Ayf s)).1,!(vUnitS false (Ayf s)).2))
theorem TH(s:ByteArray)(h:12<=s.size)(w:World)(hw:GW w):Calls Zm 261 ((Aa cS).enc s).toArray w fun e w'=>e=.returned (BP.enc (v3T (if lit (cnt s 0:Nat) (cnt s 2:Nat) (cnt s 4:Nat) (cnt s 6:Nat) (cnt s 8:Nat) (cnt s 10:Nat)then(Aha (cnt s 0:Nat) (cnt s 2:Nat) (cnt s 4:Nat) (cnt s 6:Nat) (cnt s 8:Nat) (cnt s 10:Nat)).1 else(0,0,0)),Ph (cnt s 0:Nat) (cnt s 2:Nat) (cnt s 4:Nat) (cnt s 6:Nat) (cnt s 8:Nat) (cnt s 10:Nat)))/\Below w.heap.size w w':=by
 refine Bj (d:=Aa cS) (k:=BP) (x:=s) (y:=(v3T (if lit (cnt s 0:Nat) (cnt s 2:Nat) (cnt s 4:Nat) (cnt s 6:Nat) (cnt s 8:Nat) (cnt s 10:Nat)then(Aha (cnt s 0:Nat) (cnt s 2:Nat) (cnt s 4:Nat) (cnt s 6:Nat) (cnt s 8:Nat) (cnt s 10:Nat)).1 else(0,0,0)),Ph (cnt s 0:Nat) (cnt s 2:Nat) (cnt s 4:Nat) (cnt s 6:Nat) (cnt s 8:Nat) (cnt s 10:Nat))) (tbl:=[AL3,AGw]) (dirty:=fun i=>if i=14 then [1002]else []) (n:=5) xmixA Tryz.func261 rfl (fun Post hP=>?_) w hw
 refine Eq.mpr (β:=Aye s 0 1 false fun b=>Aye s 2 3 b fun b=>Aye s 4 5 b fun b=>AL4 s Post b) (by kernel_rfl) ?_
 have pl:∀i:Nat,i<6->Pla s i:=fun i hi=>⟨by omega,by omega,by rw[Int.toNat_natCast];omega⟩
 refine TG (pl 0 (by decide)) (pl 1 (by decide)) (TG (pl 2 (by decide)) (pl 3 (by decide)) (TG (pl 4 (by decide)) (pl 5 (by decide)) ?_))
 have hv:Ayf s=sunD (cnt s 0:Nat) (cnt s 2:Nat) (cnt s 4:Nat) (cnt s 6:Nat) (cnt s 8:Nat) (cnt s 10:Nat):=by
  have e:∀a b:Nat,a<65536->b<65536->IntKind.i64.wrap (IntKind.i64.wrap ((a:Int)-(b:Int))*16777216)=((a:Int)-b)*16777216:=fun a b ha hb=>by
   rw[IntKind.wrap_i64,IntKind.wrap_i64]
   omega
  unfold Ayf sunD
  rw[e _ _ (Do _ _) (Do _ _),e _ _ (Do _ _) (Do _ _),e _ _ (Do _ _) (Do _ _)]
  rfl
 have hb:(false||decide (((cnt s (2*(0:Int).toNat):Nat):Int)≥2000)||decide (((cnt s (2*(1:Int).toNat):Nat):Int)≥2000)||decide (((cnt s (2*(2:Int).toNat):Nat):Int)≥2000)||decide (((cnt s (2*(3:Int).toNat):Nat):Int)≥2000)||decide (((cnt s (2*(4:Int).toNat):Nat):Int)≥2000)||decide (((cnt s (2*(5:Int).toNat):Nat):Int)≥2000))=lit (cnt s 0:Nat) (cnt s 2:Nat) (cnt s 4:Nat) (cnt s 6:Nat) (cnt s 8:Nat) (cnt s 10:Nat):=rfl
 rw[hb]
 unfold AL4
 rw[hv]
 unfold Ph at hP
 cases k:lit (cnt s 0:Nat) (cnt s 2:Nat) (cnt s 4:Nat) (cnt s 6:Nat) (cnt s 8:Nat) (cnt s 10:Nat)
 ·rw[k]at hP
  exact hP
 ·rw[k]at hP
  exact hP
theorem Ayg{k:Int}{s:ByteArray}{y:Tup 3×Bool}(w:World)(hw:GW w)
    (h:(k=1/\∀w,GW w->Calls Zm 259 ((Aa cS).enc s).toArray w fun e w'=>e=.returned (BP.enc y)/\Below w.heap.size w w')∨(k=3/\∀w,GW w->Calls Zm 260 ((Aa cS).enc s).toArray w fun e w'=>e=.returned (BP.enc y)/\Below w.heap.size w w')∨((k≠1/\k≠3)/\∀w,GW w->Calls Zm 261 ((Aa cS).enc s).toArray w fun e w'=>e=.returned (BP.enc y)/\Below w.heap.size w w')):
    Calls Zm 200 ((Ac cI (Aa cS)).enc (k,s)).toArray w fun e w'=>e=.returned (BP.enc y)/\Below w.heap.size w w':=by
 rcases h with⟨rfl,h⟩|⟨rfl,h⟩|⟨⟨n1,n3⟩,h⟩
 ·refine Bj (d:=Ac cI (Aa cS)) (k:=BP) (x:=(1,s)) (y:=y) (tbl:=[Aeo Zm 259 (Aa cS) BP s y (Ae Tryz.func259 (by kernel_rfl) (by kernel_rfl)) h]) (dirty:=fun _=>[]) (n:=4) xmixA Tryz.func200 rfl (fun Post hP=>?_) w hw
  exact Eq.mpr (β:=(Aa cS).enc s=(Aa cS).enc s/\PJ BP Post y) (by kernel_rfl) ⟨rfl,hP⟩
 ·refine Bj (d:=Ac cI (Aa cS)) (k:=BP) (x:=(3,s)) (y:=y) (tbl:=[Aeo Zm 260 (Aa cS) BP s y (Ae Tryz.func260 (by kernel_rfl) (by kernel_rfl)) h]) (dirty:=fun _=>[]) (n:=4) xmixA Tryz.func200 rfl (fun Post hP=>?_) w hw
  exact Eq.mpr (β:=(Aa cS).enc s=(Aa cS).enc s/\PJ BP Post y) (by kernel_rfl) ⟨rfl,hP⟩
 ·refine Bj (d:=Ac cI (Aa cS)) (k:=BP) (x:=(k,s)) (y:=y) (tbl:=[Aeo Zm 261 (Aa cS) BP s y (Ae Tryz.func261 (by kernel_rfl) (by kernel_rfl)) h]) (dirty:=fun _=>[]) (n:=4) xmixA Tryz.func200 rfl (fun Post hP=>?_) w hw
  refine Eq.mpr (β:=AE (decide (k=1)) False (AE (decide (k=3)) False ((Aa cS).enc s=(Aa cS).enc s/\PJ BP Post y))) (by kernel_rfl) ?_
  rw[decide_eq_false n1,decide_eq_false n3]
  exact⟨rfl,hP⟩
def APn(v:V3):Value:=.agg #[.int .i64 v.1,.int .i64 v.2.1,.int .i64 v.2.2]
def ABq(a b c:Int):V3:=if DX a b c then Wi a b c else(0,0,0)
def AL5(a b c d e f:Int):V3:=if lit a b c d e f then(Aha a b c d e f).1 else(0,0,0)
def Mw(k:Int)(s:ByteArray):V3:=
 if k=1 then ABq (sg (cnt s 0)) (sg (cnt s 2)) (sg (cnt s 4))
 else if k=3 then(KN (sg (cnt s 0)) (sg (cnt s 2)) (sg (cnt s 4))).1
 else AL5 (cnt s 0:Nat) (cnt s 2:Nat) (cnt s 4:Nat) (cnt s 6:Nat) (cnt s 8:Nat) (cnt s 10:Nat)
theorem Ahg(k:Int)(s:ByteArray)(w:World)(hw:GW w)(h:6<=s.size)(h2:k≠1->k≠3->12<=s.size):
    Calls Zm 200 #[.int .i64 k,.string s] w fun e w'=>e=.returned (.tuple #[APn (Mw k s),.bool (DY k s 0)])/\Below w.heap.size w w':=by
 refine Ayg (k:=k) (s:=s) (y:=(v3T (Mw k s),DY k s 0)) w hw ?_
 unfold Mw DY
 by_cases c1:k=1
 ·rw[if_pos c1,if_pos c1]
  exact .inl ⟨c1,Aqq s h⟩
 rw[if_neg c1,if_neg c1]
 by_cases c3:k=3
 ·rw[if_pos c3,if_pos c3]
  exact .inr (.inl ⟨c3,Wp s h⟩)
 rw[if_neg c3,if_neg c3]
 exact .inr (.inr ⟨⟨c1,c3⟩,TH s (h2 c1 c3)⟩)
@[go_sem] theorem ANv (a b c d:Int)(w:World):(Instr.index 92 (.agg #[.int .i64 a,.int .i64 b,.int .i64 c,.int .i64 d]) (.int .i64 0)).run Zm w=.ok (.int .i64 a) w:=by kernel_rfl
@[go_sem] theorem ANw (a b c d:Int)(w:World):(Instr.index 92 (.agg #[.int .i64 a,.int .i64 b,.int .i64 c,.int .i64 d]) (.int .i64 1)).run Zm w=.ok (.int .i64 b) w:=by kernel_rfl
@[go_sem] theorem ANx (a b c d:Int)(w:World):(Instr.index 92 (.agg #[.int .i64 a,.int .i64 b,.int .i64 c,.int .i64 d]) (.int .i64 2)).run Zm w=.ok (.int .i64 c) w:=by kernel_rfl
@[go_sem] theorem ANy (a b c d:Int)(w:World):(Instr.index 92 (.agg #[.int .i64 a,.int .i64 b,.int .i64 c,.int .i64 d]) (.int .i64 3)).run Zm w=.ok (.int .i64 d) w:=by kernel_rfl
@[go_sem] theorem ANz (a b c:Int)(w:World):(Instr.index 93 (.agg #[.int .i64 a,.int .i64 b,.int .i64 c]) (.int .i64 0)).run Zm w=.ok (.int .i64 a) w:=by kernel_rfl
@[go_sem] theorem AN0 (a b c:Int)(w:World):(Instr.index 93 (.agg #[.int .i64 a,.int .i64 b,.int .i64 c]) (.int .i64 1)).run Zm w=.ok (.int .i64 b) w:=by kernel_rfl
@[go_sem] theorem AN1 (a b c:Int)(w:World):(Instr.index 93 (.agg #[.int .i64 a,.int .i64 b,.int .i64 c]) (.int .i64 2)).run Zm w=.ok (.int .i64 c) w:=by kernel_rfl
def AL6:Ct Zm:=FO Zm 170 (Aa (cT 13)) (fun x K=>EA (txO x)=false/\K (.bool false)) (fun _ _ _ hK hs=>⟨hs.1,hK _ hs.2⟩) (Ae Tryz.func170 (by kernel_rfl) (by kernel_rfl)) (fun x w hw K hs=>Calls.mono (Pn x w hw) (by rintro e w' ⟨rfl,hb⟩;exact⟨_,rfl,rfl,by show K (cB.enc (EA (txO x)));rw[hs.1];exact hs.2,hb⟩))
def AL7:Ct Zm:=FO Zm 108 (Aa (cT 13)) (fun x K=>EA (txO x)=false/\K (.bool false)) (fun _ _ _ hK hs=>⟨hs.1,hK _ hs.2⟩) (Ae Tryz.func108 (by kernel_rfl) (by kernel_rfl)) (fun x w hw K hs=>Calls.mono (Mv x w hw) (by rintro e w' ⟨rfl,hb⟩;exact⟨_,rfl,rfl,by show K (cB.enc (EA (txO x)));rw[hs.1];exact hs.2,hb⟩))
def tx0:(Int×ByteArray)×Bool:=((0,⟨#[]⟩),false)
theorem AGx(x:Tup 13)(Post:Value->Prop):Hm Zm [AL6] (fun _=>[]) 4 (An Zm 57) (Bz Zm (Ba Zm 57) (fun v _=>Post v)) ((Aa (cT 13)).enc x++List.replicate ((Ba Zm 57).ntmps-1) undef) []=(EA (txO x)=false/\PJ (Au AU cB) Post tx0):=by kernel_rfl
theorem AGy(x:Tup 13)(Post:Value->Prop):Hm Zm [AL7] (fun _=>[]) 4 (An Zm 34) (Bz Zm (Ba Zm 34) (fun v _=>Post v)) ((Aa (cT 13)).enc x++List.replicate ((Ba Zm 34).ntmps-1) undef) []=(EA (txO x)=false/\PJ (Au AU cB) Post tx0):=by kernel_rfl
theorem Wq{x:Tup 13}(h:EA (txO x)=false)(w:World)(hw:GW w):Calls Zm 57 ((Aa (cT 13)).enc x).toArray w fun e w'=>e=.returned ((Au AU cB).enc tx0)/\Below w.heap.size w w':=
 Bj (d:=Aa (cT 13)) (k:=Au AU cB) (x:=x) (y:=tx0) (tbl:=[AL6]) (dirty:=fun _=>[]) (n:=4) xmixA (f:=57) (fn:=Ba Zm 57) (c:=An Zm 57) (by kernel_rfl) (by kernel_rfl) (fun Post hP=>Eq.mpr (AGx x Post) ⟨h,hP⟩) w hw
theorem TI{x:Tup 13}(h:EA (txO x)=false)(w:World)(hw:GW w):Calls Zm 34 ((Aa (cT 13)).enc x).toArray w fun e w'=>e=.returned ((Au AU cB).enc tx0)/\Below w.heap.size w w':=
 Bj (d:=Aa (cT 13)) (k:=Au AU cB) (x:=x) (y:=tx0) (tbl:=[AL7]) (dirty:=fun _=>[]) (n:=4) xmixA (f:=34) (fn:=Ba Zm 34) (c:=An Zm 34) (by kernel_rfl) (by kernel_rfl) (fun Post hP=>Eq.mpr (AGy x Post) ⟨h,hP⟩) w hw
theorem Zg(T:Tl)(w:World)(hg:GW w)(h:EA T=true):
    Calls Zm 57 #[.agg #[.int .i64 T.t,.int .i64 T.m,.int .i64 T.fa,.int .i64 T.ak,.int .i64 T.er,.int .i64 T.rj,.int .i64 T.q0,.int .i64 T.q1,.int .i64 T.q2,.int .i64 T.q3,.int .i64 T.d0,.int .i64 T.d1,.int .i64 T.d2]] w fun e w'=>e=.returned (.tuple #[.agg #[.int .i64 32,.string (Fh (tlL T))],.bool true])/\Below w.heap.size w w':=by
 have hm:=Aqo T
 rw[h]at hm
 have H:=ABo h
 clear h
 have HL:Hid (CN T.t++[T.m,T.fa,T.ak,T.er]++AI T.rj++AI T.q0++AI T.q1++AI T.q2++AI T.q3++AI T.d0++AI T.d1++AI T.d2=tlL T):=rfl
 have hrg:=Acw H
 have wm:IntKind.u8.wrap T.m=T.m:=by have:=H.m;rw[IntKind.wrap_u8];omega
 have wfa:IntKind.u8.wrap T.fa=T.fa:=by have:=H.fa;rw[IntKind.wrap_u8];omega
 have wak:IntKind.u8.wrap T.ak=T.ak:=by have:=H.ak;rw[IntKind.wrap_u8];omega
 have wer:IntKind.u8.wrap T.er=T.er:=by have:=H.er;rw[IntKind.wrap_u8];omega
 generalize hS:Fh (tlL T)=S
 have HS:Hid (Fh (tlL T)=S):=hS
 clear hS
 have ht:=H.t
 have htk:=fun W=>Ahe T.t W ht.1 ht.2
 clear ht
 go_enter Tryz.func57,Tryz.ntmps57
 have A0:=(AH w w.heap.size [.int .i64 T.t,.int .i64 T.m,.int .i64 T.fa,.int .i64 T.ak,.int .i64 T.er,.int .i64 T.rj,.int .i64 T.q0,.int .i64 T.q1,.int .i64 T.q2,.int .i64 T.q3,.int .i64 T.d0,.int .i64 T.d1,.int .i64 T.d2] 95 rfl).alloc (.cells #[.int .i64 0,.string ⟨#[]⟩] 99)
 have R0:=AH (w.alloc (.cells #[.int .i64 T.t,.int .i64 T.m,.int .i64 T.fa,.int .i64 T.ak,.int .i64 T.er,.int .i64 T.rj,.int .i64 T.q0,.int .i64 T.q1,.int .i64 T.q2,.int .i64 T.q3,.int .i64 T.d0,.int .i64 T.d1,.int .i64 T.d2] 95)) (w.heap.size+1) [.int .i64 0,.string ⟨#[]⟩] 99 (by simp)
 have L0:=Cx (Cx (Below.refl w.heap.size w) (.cells #[.int .i64 T.t,.int .i64 T.m,.int .i64 T.fa,.int .i64 T.ak,.int .i64 T.er,.int .i64 T.rj,.int .i64 T.q0,.int .i64 T.q1,.int .i64 T.q2,.int .i64 T.q3,.int .i64 T.d0,.int .i64 T.d1,.int .i64 T.d2] 95)) (.cells #[.int .i64 0,.string ⟨#[]⟩] 99)
 go_wp2_with fail
 refine(hm _ ⟨(hg.1.alloc _).alloc _,(hg.2.alloc _).alloc _⟩).mono ?_
 rintro e X1 ⟨rfl,k⟩
 have A1:=A0.below k
 have R1:=R0.below k
 have L1:=FQ L0 k
 have Az1:=A1.lies
 have Rz1:=R1.lies
 clear k A0 R0 L0
 have a0:X1.cell? ⟨w.heap.size,0,none⟩=some (.int .i64 T.t):=A1.c 0 (zD rfl)
 go_wp2_with fail
 refine(htk _).mono ?_
 rintro e X2 ⟨v2,rfl,o2,k⟩
 have o2:=o2.base (show w.heap.size+2<=X1.heap.size by omega)
 have A2:=A1.below k
 have R2:=R1.below k
 have L2:=FQ L1 k
 have Az2:=A2.lies
 have Rz2:=R2.lies
 clear k A1 R1 L1 Az1 Rz1
 clear a0
 have z2:w.heap.size+2<=X2.heap.size:=by omega
 have a1:X2.cell? ⟨w.heap.size,1,none⟩=some (.int .i64 T.m):=A2.c 1 (zD rfl)
 have a2:X2.cell? ⟨w.heap.size,2,none⟩=some (.int .i64 T.fa):=A2.c 2 (zD rfl)
 have a3:X2.cell? ⟨w.heap.size,3,none⟩=some (.int .i64 T.ak):=A2.c 3 (zD rfl)
 have a4:X2.cell? ⟨w.heap.size,4,none⟩=some (.int .i64 T.er):=A2.c 4 (zD rfl)
 go_wp2_with (at_builtin;refine Bt rfl (.tmp 16) (.tmp 29) rfl (w.heap.size+2) v2 (CN T.t) [T.m,T.fa,T.ak,T.er] X2 rfl o2 rfl (Zn rfl) z2 ?_;intro v3 X3 o3 k s;have A3:=A2.under k (by omega) s;have R3:=R2.under k (by omega) s;have L3:=L2.trans (k.mono (by omega));have Az3:=A3.lies;have Rz3:=R3.lies;clear k A2 R2 L2 s Az2 Rz2;clear a1 a2 a3 a4;have z3:w.heap.size+2<=X3.heap.size:=(by omega);clear o2 z2;have a5:X3.cell? ⟨w.heap.size,5,none⟩=some (.int .i64 T.rj):=A3.c 5 (zD rfl))
 skip
 refine(CO (w.heap.size+2) v3 (CN T.t++[T.m,T.fa,T.ak,T.er]) T.rj _ o3 z3 (Zn rfl)).mono ?_
 rintro e X4 ⟨v4,rfl,o4,k,s⟩
 have A4:=A3.under k (by omega) s
 have R4:=R3.under k (by omega) s
 have L4:=L3.trans (k.mono (by omega))
 have Az4:=A4.lies
 have Rz4:=R4.lies
 clear k A3 R3 L3 s Az3 Rz3
 clear a5
 have z4:w.heap.size+2<=X4.heap.size:=by omega
 clear o3 z3
 have a6:X4.cell? ⟨w.heap.size,6,none⟩=some (.int .i64 T.q0):=A4.c 6 (zD rfl)
 have a7:X4.cell? ⟨w.heap.size,7,none⟩=some (.int .i64 T.q1):=A4.c 7 (zD rfl)
 have a8:X4.cell? ⟨w.heap.size,8,none⟩=some (.int .i64 T.q2):=A4.c 8 (zD rfl)
 have a9:X4.cell? ⟨w.heap.size,9,none⟩=some (.int .i64 T.q3):=A4.c 9 (zD rfl)
 go_wp2_with fail
 refine wp_loop_rounds 5 ?_
 clear a6 a7 a8 a9
 rw[rounds_succ]
 go_wp2_with fail
 refine(CO (w.heap.size+2) v4 (CN T.t++[T.m,T.fa,T.ak,T.er]++AI T.rj) T.q0 _ o4 z4 (Zn rfl)).mono ?_
 rintro e X5 ⟨v5,rfl,o5,k,s⟩
 have A5:=A4.under k (by omega) s
 have R5:=R4.under k (by omega) s
 have L5:=L4.trans (k.mono (by omega))
 have Az5:=A5.lies
 have Rz5:=R5.lies
 clear k A4 R4 L4 s Az4 Rz4
 have z5:w.heap.size+2<=X5.heap.size:=by omega
 clear o4 z4
 go_wp2_with fail
 rw[rounds_succ]
 go_wp2_with fail
 refine(CO (w.heap.size+2) v5 (CN T.t++[T.m,T.fa,T.ak,T.er]++AI T.rj++AI T.q0) T.q1 _ o5 z5 (Zn rfl)).mono ?_
 rintro e X6 ⟨v6,rfl,o6,k,s⟩
 have A6:=A5.under k (by omega) s
 have R6:=R5.under k (by omega) s
 have L6:=L5.trans (k.mono (by omega))
 have Az6:=A6.lies
 have Rz6:=R6.lies
 clear k A5 R5 L5 s Az5 Rz5
 have z6:w.heap.size+2<=X6.heap.size:=by omega
 clear o5 z5
 go_wp2_with fail
 rw[rounds_succ]
 go_wp2_with fail
 refine(CO (w.heap.size+2) v6 (CN T.t++[T.m,T.fa,T.ak,T.er]++AI T.rj++AI T.q0++AI T.q1) T.q2 _ o6 z6 (Zn rfl)).mono ?_
 rintro e X7 ⟨v7,rfl,o7,k,s⟩
 have A7:=A6.under k (by omega) s
 have R7:=R6.under k (by omega) s
 have L7:=L6.trans (k.mono (by omega))
 have Az7:=A7.lies
 have Rz7:=R7.lies
 clear k A6 R6 L6 s Az6 Rz6
 have z7:w.heap.size+2<=X7.heap.size:=by omega
 clear o6 z6
 go_wp2_with fail
 rw[rounds_succ]
 go_wp2_with fail
 refine(CO (w.heap.size+2) v7 (CN T.t++[T.m,T.fa,T.ak,T.er]++AI T.rj++AI T.q0++AI T.q1++AI T.q2) T.q3 _ o7 z7 (Zn rfl)).mono ?_
 rintro e X8 ⟨v8,rfl,o8,k,s⟩
 have A8:=A7.under k (by omega) s
 have R8:=R7.under k (by omega) s
 have L8:=L7.trans (k.mono (by omega))
 have Az8:=A8.lies
 have Rz8:=R8.lies
 clear k A7 R7 L7 s Az7 Rz7
 have z8:w.heap.size+2<=X8.heap.size:=by omega
 clear o7 z7
 go_wp2_with fail
 have a10:X8.cell? ⟨w.heap.size,10,none⟩=some (.int .i64 T.d0):=A8.c 10 (zD rfl)
 have a11:X8.cell? ⟨w.heap.size,11,none⟩=some (.int .i64 T.d1):=A8.c 11 (zD rfl)
 have a12:X8.cell? ⟨w.heap.size,12,none⟩=some (.int .i64 T.d2):=A8.c 12 (zD rfl)
 rw[rounds_succ]
 go_wp2_with fail
 refine wp_loop_rounds 4 ?_
 clear a10 a11 a12
 rw[rounds_succ]
 go_wp2_with fail
 refine(CO (w.heap.size+2) v8 (CN T.t++[T.m,T.fa,T.ak,T.er]++AI T.rj++AI T.q0++AI T.q1++AI T.q2++AI T.q3) T.d0 _ o8 z8 (Zn rfl)).mono ?_
 rintro e X9 ⟨v9,rfl,o9,k,s⟩
 have A9:=A8.under k (by omega) s
 have R9:=R8.under k (by omega) s
 have L9:=L8.trans (k.mono (by omega))
 have Az9:=A9.lies
 have Rz9:=R9.lies
 clear k A8 R8 L8 s Az8 Rz8
 have z9:w.heap.size+2<=X9.heap.size:=by omega
 clear o8 z8
 go_wp2_with fail
 rw[rounds_succ]
 go_wp2_with fail
 refine(CO (w.heap.size+2) v9 (CN T.t++[T.m,T.fa,T.ak,T.er]++AI T.rj++AI T.q0++AI T.q1++AI T.q2++AI T.q3++AI T.d0) T.d1 _ o9 z9 (Zn rfl)).mono ?_
 rintro e X10 ⟨v10,rfl,o10,k,s⟩
 have A10:=A9.under k (by omega) s
 have R10:=R9.under k (by omega) s
 have L10:=L9.trans (k.mono (by omega))
 have Az10:=A10.lies
 have Rz10:=R10.lies
 clear k A9 R9 L9 s Az9 Rz9
 have z10:w.heap.size+2<=X10.heap.size:=by omega
 clear o9 z9
 go_wp2_with fail
 rw[rounds_succ]
 go_wp2_with fail
 refine(CO (w.heap.size+2) v10 (CN T.t++[T.m,T.fa,T.ak,T.er]++AI T.rj++AI T.q0++AI T.q1++AI T.q2++AI T.q3++AI T.d0++AI T.d1) T.d2 _ o10 z10 (Zn rfl)).mono ?_
 rintro e X11 ⟨v11,rfl,o11,k,s⟩
 have A11:=A10.under k (by omega) s
 have R11:=R10.under k (by omega) s
 have L11:=L10.trans (k.mono (by omega))
 have Az11:=A11.lies
 have Rz11:=R11.lies
 clear k A10 R10 L10 s Az10 Rz10
 have z11:w.heap.size+2<=X11.heap.size:=by omega
 clear o10 z10
 go_wp2_with fail
 rw[rounds_succ]
 rw[HL.out]at o11
 have hcv:=Wo o11 (by unfold tlL;simp) hrg
 rw[HS.out]at hcv
 clear o11
 have c0:X11.cell? ⟨w.heap.size+1,0,none⟩=some (.int .i64 0):=R11.c 0 (zD rfl)
 have c1:X11.cell? ⟨w.heap.size+1,1,none⟩=some (.string ⟨#[]⟩):=R11.c 1 (zD rfl)
 have f0:=R11.f 0 (zD rfl)
 have f1:=R11.f 1 (zD rfl)
 go_wp2_with (with_reducible refine BJ ?_)
 have d0:=AN.c ((R11.put 0 (zD rfl) (.int .i64 32) [.int .i64 32,.string ⟨#[]⟩] rfl).put 1 (zD rfl) (.string S) [.int .i64 32,.string S] rfl) 0 (zD rfl)
 have d1:=AN.c ((R11.put 0 (zD rfl) (.int .i64 32) [.int .i64 32,.string ⟨#[]⟩] rfl).put 1 (zD rfl) (.string S) [.int .i64 32,.string S] rfl) 1 (zD rfl)
 simp only[List.getElem_cons_zero,List.getElem_cons_succ]at d0 d1
 exact⟨bodyPost_ret (v:=.tuple #[.agg #[.int .i64 32,.string S],.bool true]) (by simp[results_cell_tmp Tryz.results57,asAddr,go_sem,d0,d1]) rfl ⟨rfl,CR (CR L11 _ _ (by omega) _) _ _ (by omega) _⟩⟩
theorem Wr(T:Tl)(w:World)(hg:GW w)(h:EA T=true):
    Calls Zm 34 #[.agg #[.int .i64 T.t,.int .i64 T.m,.int .i64 T.fa,.int .i64 T.ak,.int .i64 T.er,.int .i64 T.rj,.int .i64 T.q0,.int .i64 T.q1,.int .i64 T.q2,.int .i64 T.q3,.int .i64 T.d0,.int .i64 T.d1,.int .i64 T.d2]] w fun e w'=>e=.returned (.tuple #[.agg #[.int .i64 32,.string (Fh (tlL T))],.bool true])/\Below w.heap.size w w':=by
 have hm:=Aqp T
 rw[h]at hm
 have H:=ABo h
 clear h
 have HL:Hid (CN T.t++[T.m,T.fa,T.ak,T.er]++AI T.rj++AI T.q0++AI T.q1++AI T.q2++AI T.q3++AI T.d0++AI T.d1++AI T.d2=tlL T):=rfl
 have hrg:=Acw H
 have wm:IntKind.u8.wrap T.m=T.m:=by have:=H.m;rw[IntKind.wrap_u8];omega
 have wfa:IntKind.u8.wrap T.fa=T.fa:=by have:=H.fa;rw[IntKind.wrap_u8];omega
 have wak:IntKind.u8.wrap T.ak=T.ak:=by have:=H.ak;rw[IntKind.wrap_u8];omega
 have wer:IntKind.u8.wrap T.er=T.er:=by have:=H.er;rw[IntKind.wrap_u8];omega
 generalize hS:Fh (tlL T)=S
 have HS:Hid (Fh (tlL T)=S):=hS
 clear hS
 have hrj:=fun W=>Es T.rj W (by have:=H.rj;omega)
 have hq0:=fun W=>Es T.q0 W (by have:=H.q0;omega)
 have hq1:=fun W=>Es T.q1 W (by have:=H.q1;omega)
 have hq2:=fun W=>Es T.q2 W (by have:=H.q2;omega)
 have hq3:=fun W=>Es T.q3 W (by have:=H.q3;omega)
 have hd0:=fun W=>Es T.d0 W (by have:=H.d0;omega)
 have hd1:=fun W=>Es T.d1 W (by have:=H.d1;omega)
 have hd2:=fun W=>Es T.d2 W (by have:=H.d2;omega)
 clear H
 go_enter Tryz.func34,Tryz.ntmps34
 have A0:=(AH w w.heap.size [.int .i64 T.t,.int .i64 T.m,.int .i64 T.fa,.int .i64 T.ak,.int .i64 T.er,.int .i64 T.rj,.int .i64 T.q0,.int .i64 T.q1,.int .i64 T.q2,.int .i64 T.q3,.int .i64 T.d0,.int .i64 T.d1,.int .i64 T.d2] 95 rfl).alloc (.cells #[.int .i64 0,.string ⟨#[]⟩] 99)
 have R0:=AH (w.alloc (.cells #[.int .i64 T.t,.int .i64 T.m,.int .i64 T.fa,.int .i64 T.ak,.int .i64 T.er,.int .i64 T.rj,.int .i64 T.q0,.int .i64 T.q1,.int .i64 T.q2,.int .i64 T.q3,.int .i64 T.d0,.int .i64 T.d1,.int .i64 T.d2] 95)) (w.heap.size+1) [.int .i64 0,.string ⟨#[]⟩] 99 (by simp)
 have L0:=Cx (Cx (Below.refl w.heap.size w) (.cells #[.int .i64 T.t,.int .i64 T.m,.int .i64 T.fa,.int .i64 T.ak,.int .i64 T.er,.int .i64 T.rj,.int .i64 T.q0,.int .i64 T.q1,.int .i64 T.q2,.int .i64 T.q3,.int .i64 T.d0,.int .i64 T.d1,.int .i64 T.d2] 95)) (.cells #[.int .i64 0,.string ⟨#[]⟩] 99)
 go_wp2_with fail
 refine(hm _ ⟨(hg.1.alloc _).alloc _,(hg.2.alloc _).alloc _⟩).mono ?_
 rintro e X1 ⟨rfl,k⟩
 have A1:=A0.below k
 have R1:=R0.below k
 have L1:=FQ L0 k
 have Az1:=A1.lies
 have Rz1:=R1.lies
 clear k A0 R0 L0
 have z1:w.heap.size+2<=X1.heap.size:=by omega
 have o1:FG (w.heap.size+2) X1 (.slice none 0 0) []:=World.ownsRow_nil _ _ _ _
 go_wp2_with fail
 refine wp_loop_rounds 7 ?_
 have a0:X1.cell? ⟨w.heap.size,0,none⟩=some (.int .i64 T.t):=A1.c 0 (zD rfl)
 rw[rounds_succ]
 go_wp2_with (at_builtin;refine Bt rfl (.tmp 16) (.tmp 23) rfl (w.heap.size+2) (.slice none 0 0) ([]) ([IntKind.u8.wrap (T.t / 1099511627776)]) X1 rfl o1 rfl (Zn rfl) z1 ?_;intro v2 X2 o2 k s;have A2:=A1.under k (by omega) s;have R2:=R1.under k (by omega) s;have L2:=L1.trans (k.mono (by omega));have Az2:=A2.lies;have Rz2:=R2.lies;clear k A1 R1 L1 s Az1 Rz1;clear a0;have z2:w.heap.size+2<=X2.heap.size:=(by omega);clear o1 z1;rw[Zo]at o2;have a0:X2.cell? ⟨w.heap.size,0,none⟩=some (.int .i64 T.t):=A2.c 0 (zD rfl))
 rw[rounds_succ]
 go_wp2_with (at_builtin;refine Bt rfl (.tmp 16) (.tmp 23) rfl (w.heap.size+2) v2 ([IntKind.u8.wrap (T.t / 1099511627776)]) ([IntKind.u8.wrap (T.t / 4294967296)]) X2 rfl o2 rfl (Zn rfl) z2 ?_;intro v3 X3 o3 k s;have A3:=A2.under k (by omega) s;have R3:=R2.under k (by omega) s;have L3:=L2.trans (k.mono (by omega));have Az3:=A3.lies;have Rz3:=R3.lies;clear k A2 R2 L2 s Az2 Rz2;clear a0;have z3:w.heap.size+2<=X3.heap.size:=(by omega);clear o2 z2;simp only[Zp,Zo]at o3;have a0:X3.cell? ⟨w.heap.size,0,none⟩=some (.int .i64 T.t):=A3.c 0 (zD rfl))
 rw[rounds_succ]
 go_wp2_with (at_builtin;refine Bt rfl (.tmp 16) (.tmp 23) rfl (w.heap.size+2) v3 ([IntKind.u8.wrap (T.t / 1099511627776),IntKind.u8.wrap (T.t / 4294967296)]) ([IntKind.u8.wrap (T.t / 16777216)]) X3 rfl o3 rfl (Zn rfl) z3 ?_;intro v4 X4 o4 k s;have A4:=A3.under k (by omega) s;have R4:=R3.under k (by omega) s;have L4:=L3.trans (k.mono (by omega));have Az4:=A4.lies;have Rz4:=R4.lies;clear k A3 R3 L3 s Az3 Rz3;clear a0;have z4:w.heap.size+2<=X4.heap.size:=(by omega);clear o3 z3;simp only[Zp,Zo]at o4;have a0:X4.cell? ⟨w.heap.size,0,none⟩=some (.int .i64 T.t):=A4.c 0 (zD rfl))
 rw[rounds_succ]
 go_wp2_with (at_builtin;refine Bt rfl (.tmp 16) (.tmp 23) rfl (w.heap.size+2) v4 ([IntKind.u8.wrap (T.t / 1099511627776),IntKind.u8.wrap (T.t / 4294967296),IntKind.u8.wrap (T.t / 16777216)]) ([IntKind.u8.wrap (T.t / 65536)]) X4 rfl o4 rfl (Zn rfl) z4 ?_;intro v5 X5 o5 k s;have A5:=A4.under k (by omega) s;have R5:=R4.under k (by omega) s;have L5:=L4.trans (k.mono (by omega));have Az5:=A5.lies;have Rz5:=R5.lies;clear k A4 R4 L4 s Az4 Rz4;clear a0;have z5:w.heap.size+2<=X5.heap.size:=(by omega);clear o4 z4;simp only[Zp,Zo]at o5;have a0:X5.cell? ⟨w.heap.size,0,none⟩=some (.int .i64 T.t):=A5.c 0 (zD rfl))
 rw[rounds_succ]
 go_wp2_with (at_builtin;refine Bt rfl (.tmp 16) (.tmp 23) rfl (w.heap.size+2) v5 ([IntKind.u8.wrap (T.t / 1099511627776),IntKind.u8.wrap (T.t / 4294967296),IntKind.u8.wrap (T.t / 16777216),IntKind.u8.wrap (T.t / 65536)]) ([IntKind.u8.wrap (T.t / 256)]) X5 rfl o5 rfl (Zn rfl) z5 ?_;intro v6 X6 o6 k s;have A6:=A5.under k (by omega) s;have R6:=R5.under k (by omega) s;have L6:=L5.trans (k.mono (by omega));have Az6:=A6.lies;have Rz6:=R6.lies;clear k A5 R5 L5 s Az5 Rz5;clear a0;have z6:w.heap.size+2<=X6.heap.size:=(by omega);clear o5 z5;simp only[Zp,Zo]at o6;have a0:X6.cell? ⟨w.heap.size,0,none⟩=some (.int .i64 T.t):=A6.c 0 (zD rfl))
 rw[rounds_succ]
 go_wp2_with (at_builtin;refine Bt rfl (.tmp 16) (.tmp 23) rfl (w.heap.size+2) v6 ([IntKind.u8.wrap (T.t / 1099511627776),IntKind.u8.wrap (T.t / 4294967296),IntKind.u8.wrap (T.t / 16777216),IntKind.u8.wrap (T.t / 65536),IntKind.u8.wrap (T.t / 256)]) ([IntKind.u8.wrap T.t]) X6 rfl o6 rfl (Zn rfl) z6 ?_;intro v7 X7 o7 k s;have A7:=A6.under k (by omega) s;have R7:=R6.under k (by omega) s;have L7:=L6.trans (k.mono (by omega));have Az7:=A7.lies;have Rz7:=R7.lies;clear k A6 R6 L6 s Az6 Rz6;clear a0;have z7:w.heap.size+2<=X7.heap.size:=(by omega);clear o6 z6;simp only[Zp,Zo]at o7;have a1:X7.cell? ⟨w.heap.size,1,none⟩=some (.int .i64 T.m):=A7.c 1 (zD rfl);have a2:X7.cell? ⟨w.heap.size,2,none⟩=some (.int .i64 T.fa):=A7.c 2 (zD rfl);have a3:X7.cell? ⟨w.heap.size,3,none⟩=some (.int .i64 T.ak):=A7.c 3 (zD rfl);have a4:X7.cell? ⟨w.heap.size,4,none⟩=some (.int .i64 T.er):=A7.c 4 (zD rfl))
 have o7:FG (w.heap.size+2) X7 v7 (CN T.t):=o7
 rw[rounds_succ]
 go_wp2_with (at_builtin;refine Bt rfl (.tmp 25) (.tmp 38) rfl (w.heap.size+2) v7 (CN T.t) [T.m,T.fa,T.ak,T.er] X7 rfl o7 rfl (Zn rfl) z7 ?_;intro v8 X8 o8 k s;have A8:=A7.under k (by omega) s;have R8:=R7.under k (by omega) s;have L8:=L7.trans (k.mono (by omega));have Az8:=A8.lies;have Rz8:=R8.lies;clear k A7 R7 L7 s Az7 Rz7;clear a1 a2 a3 a4;have z8:w.heap.size+2<=X8.heap.size:=(by omega);clear o7 z7;have a5:X8.cell? ⟨w.heap.size,5,none⟩=some (.int .i64 T.rj):=A8.c 5 (zD rfl))
 refine(hrj _).mono ?_
 rintro e Y ⟨rfl,rfl⟩
 go_wp2_with (at_builtin;refine Bt rfl (.tmp 40) (.tmp 43) rfl (w.heap.size+2) v8 (CN T.t++[T.m,T.fa,T.ak,T.er]) (AI T.rj) X8 rfl o8 rfl (Zn rfl) z8 ?_;intro v9 X9 o9 k s;have A9:=A8.under k (by omega) s;have R9:=R8.under k (by omega) s;have L9:=L8.trans (k.mono (by omega));have Az9:=A9.lies;have Rz9:=R9.lies;clear k A8 R8 L8 s Az8 Rz8;clear a5;have z9:w.heap.size+2<=X9.heap.size:=(by omega);clear o8 z8;have a6:X9.cell? ⟨w.heap.size,6,none⟩=some (.int .i64 T.q0):=A9.c 6 (zD rfl))
 refine wp_loop_rounds 5 ?_
 rw[rounds_succ]
 go_wp2_with (first |(go_at_call 109;refine(hq0 _).mono ?_;rintro e Y ⟨rfl,rfl⟩)|(at_builtin;refine Bt rfl (.tmp 49) (.tmp 54) rfl (w.heap.size+2) v9 (CN T.t++[T.m,T.fa,T.ak,T.er]++AI T.rj) (AI T.q0) X9 rfl o9 rfl (Zn rfl) z9 ?_;intro v10 X10 o10 k s;have A10:=A9.under k (by omega) s;have R10:=R9.under k (by omega) s;have L10:=L9.trans (k.mono (by omega));have Az10:=A10.lies;have Rz10:=R10.lies;clear k A9 R9 L9 s Az9 Rz9;clear a6;have z10:w.heap.size+2<=X10.heap.size:=(by omega);clear o9 z9;have a7:X10.cell? ⟨w.heap.size,7,none⟩=some (.int .i64 T.q1):=A10.c 7 (zD rfl)))
 rw[rounds_succ]
 go_wp2_with (first |(go_at_call 109;refine(hq1 _).mono ?_;rintro e Y ⟨rfl,rfl⟩)|(at_builtin;refine Bt rfl (.tmp 49) (.tmp 54) rfl (w.heap.size+2) v10 (CN T.t++[T.m,T.fa,T.ak,T.er]++AI T.rj++AI T.q0) (AI T.q1) X10 rfl o10 rfl (Zn rfl) z10 ?_;intro v11 X11 o11 k s;have A11:=A10.under k (by omega) s;have R11:=R10.under k (by omega) s;have L11:=L10.trans (k.mono (by omega));have Az11:=A11.lies;have Rz11:=R11.lies;clear k A10 R10 L10 s Az10 Rz10;clear a7;have z11:w.heap.size+2<=X11.heap.size:=(by omega);clear o10 z10;have a8:X11.cell? ⟨w.heap.size,8,none⟩=some (.int .i64 T.q2):=A11.c 8 (zD rfl)))
 rw[rounds_succ]
 go_wp2_with (first |(go_at_call 109;refine(hq2 _).mono ?_;rintro e Y ⟨rfl,rfl⟩)|(at_builtin;refine Bt rfl (.tmp 49) (.tmp 54) rfl (w.heap.size+2) v11 (CN T.t++[T.m,T.fa,T.ak,T.er]++AI T.rj++AI T.q0++AI T.q1) (AI T.q2) X11 rfl o11 rfl (Zn rfl) z11 ?_;intro v12 X12 o12 k s;have A12:=A11.under k (by omega) s;have R12:=R11.under k (by omega) s;have L12:=L11.trans (k.mono (by omega));have Az12:=A12.lies;have Rz12:=R12.lies;clear k A11 R11 L11 s Az11 Rz11;clear a8;have z12:w.heap.size+2<=X12.heap.size:=(by omega);clear o11 z11;have a9:X12.cell? ⟨w.heap.size,9,none⟩=some (.int .i64 T.q3):=A12.c 9 (zD rfl)))
 rw[rounds_succ]
 go_wp2_with (first |(go_at_call 109;refine(hq3 _).mono ?_;rintro e Y ⟨rfl,rfl⟩)|(at_builtin;refine Bt rfl (.tmp 49) (.tmp 54) rfl (w.heap.size+2) v12 (CN T.t++[T.m,T.fa,T.ak,T.er]++AI T.rj++AI T.q0++AI T.q1++AI T.q2) (AI T.q3) X12 rfl o12 rfl (Zn rfl) z12 ?_;intro v13 X13 o13 k s;have A13:=A12.under k (by omega) s;have R13:=R12.under k (by omega) s;have L13:=L12.trans (k.mono (by omega));have Az13:=A13.lies;have Rz13:=R13.lies;clear k A12 R12 L12 s Az12 Rz12;clear a9;have z13:w.heap.size+2<=X13.heap.size:=(by omega);clear o12 z12;have a10:X13.cell? ⟨w.heap.size,10,none⟩=some (.int .i64 T.d0):=A13.c 10 (zD rfl)))
 rw[rounds_succ]
 go_wp2_with fail
 refine wp_loop_rounds 4 ?_
 rw[rounds_succ]
 go_wp2_with (first |(go_at_call 109;refine(hd0 _).mono ?_;rintro e Y ⟨rfl,rfl⟩)|(at_builtin;refine Bt rfl (.tmp 60) (.tmp 65) rfl (w.heap.size+2) v13 (CN T.t++[T.m,T.fa,T.ak,T.er]++AI T.rj++AI T.q0++AI T.q1++AI T.q2++AI T.q3) (AI T.d0) X13 rfl o13 rfl (Zn rfl) z13 ?_;intro v14 X14 o14 k s;have A14:=A13.under k (by omega) s;have R14:=R13.under k (by omega) s;have L14:=L13.trans (k.mono (by omega));have Az14:=A14.lies;have Rz14:=R14.lies;clear k A13 R13 L13 s Az13 Rz13;clear a10;have z14:w.heap.size+2<=X14.heap.size:=(by omega);clear o13 z13;have a11:X14.cell? ⟨w.heap.size,11,none⟩=some (.int .i64 T.d1):=A14.c 11 (zD rfl)))
 rw[rounds_succ]
 go_wp2_with (first |(go_at_call 109;refine(hd1 _).mono ?_;rintro e Y ⟨rfl,rfl⟩)|(at_builtin;refine Bt rfl (.tmp 60) (.tmp 65) rfl (w.heap.size+2) v14 (CN T.t++[T.m,T.fa,T.ak,T.er]++AI T.rj++AI T.q0++AI T.q1++AI T.q2++AI T.q3++AI T.d0) (AI T.d1) X14 rfl o14 rfl (Zn rfl) z14 ?_;intro v15 X15 o15 k s;have A15:=A14.under k (by omega) s;have R15:=R14.under k (by omega) s;have L15:=L14.trans (k.mono (by omega));have Az15:=A15.lies;have Rz15:=R15.lies;clear k A14 R14 L14 s Az14 Rz14;clear a11;have z15:w.heap.size+2<=X15.heap.size:=(by omega);clear o14 z14;have a12:X15.cell? ⟨w.heap.size,12,none⟩=some (.int .i64 T.d2):=A15.c 12 (zD rfl)))
 rw[rounds_succ]
 go_wp2_with (first |(go_at_call 109;refine(hd2 _).mono ?_;rintro e Y ⟨rfl,rfl⟩)|(at_builtin;refine Bt rfl (.tmp 60) (.tmp 65) rfl (w.heap.size+2) v15 (CN T.t++[T.m,T.fa,T.ak,T.er]++AI T.rj++AI T.q0++AI T.q1++AI T.q2++AI T.q3++AI T.d0++AI T.d1) (AI T.d2) X15 rfl o15 rfl (Zn rfl) z15 ?_;intro v16 X16 o16 k s;have A16:=A15.under k (by omega) s;have R16:=R15.under k (by omega) s;have L16:=L15.trans (k.mono (by omega));have Az16:=A16.lies;have Rz16:=R16.lies;clear k A15 R15 L15 s Az15 Rz15;clear a12;have z16:w.heap.size+2<=X16.heap.size:=(by omega);clear o15 z15))
 rw[rounds_succ]
 rw[HL.out]at o16
 have hcv:=Wo o16 (by unfold tlL;simp) hrg
 rw[HS.out]at hcv
 clear o16
 have c0:X16.cell? ⟨w.heap.size+1,0,none⟩=some (.int .i64 0):=R16.c 0 (zD rfl)
 have c1:X16.cell? ⟨w.heap.size+1,1,none⟩=some (.string ⟨#[]⟩):=R16.c 1 (zD rfl)
 have f0:=R16.f 0 (zD rfl)
 have f1:=R16.f 1 (zD rfl)
 go_wp2_with (with_reducible refine BJ ?_)
 have d0:=AN.c ((R16.put 0 (zD rfl) (.int .i64 32) [.int .i64 32,.string ⟨#[]⟩] rfl).put 1 (zD rfl) (.string S) [.int .i64 32,.string S] rfl) 0 (zD rfl)
 have d1:=AN.c ((R16.put 0 (zD rfl) (.int .i64 32) [.int .i64 32,.string ⟨#[]⟩] rfl).put 1 (zD rfl) (.string S) [.int .i64 32,.string S] rfl) 1 (zD rfl)
 simp only[List.getElem_cons_zero,List.getElem_cons_succ]at d0 d1
 exact⟨bodyPost_ret (v:=.tuple #[.agg #[.int .i64 32,.string S],.bool true]) (by simp[results_cell_tmp Tryz.results34,asAddr,go_sem,d0,d1]) rfl ⟨rfl,CR (CR L16 _ _ (by omega) _) _ _ (by omega) _⟩⟩
theorem Ayh(T:Tl)(w:World)(hg:GW w):
    Calls Zm 57 #[.agg #[.int .i64 T.t,.int .i64 T.m,.int .i64 T.fa,.int .i64 T.ak,.int .i64 T.er,.int .i64 T.rj,.int .i64 T.q0,.int .i64 T.q1,.int .i64 T.q2,.int .i64 T.q3,.int .i64 T.d0,.int .i64 T.d1,.int .i64 T.d2]] w fun e w'=>e=.returned (.tuple #[.agg #[.int .i64 (tlW T).1,.string (tlW T).2],.bool (EA T)])/\Below w.heap.size w w':=by
 unfold tlW
 cases h:EA T
 ·exact Wq (x:=txT T) h w hg
 ·exact Zg T w hg h
theorem Aqr(T:Tl)(w:World)(hg:GW w):
    Calls Zm 34 #[.agg #[.int .i64 T.t,.int .i64 T.m,.int .i64 T.fa,.int .i64 T.ak,.int .i64 T.er,.int .i64 T.rj,.int .i64 T.q0,.int .i64 T.q1,.int .i64 T.q2,.int .i64 T.q3,.int .i64 T.d0,.int .i64 T.d1,.int .i64 T.d2]] w fun e w'=>e=.returned (.tuple #[.agg #[.int .i64 (tlW T).1,.string (tlW T).2],.bool (EA T)])/\Below w.heap.size w w':=by
 unfold tlW
 cases h:EA T
 ·exact TI (x:=txT T) h w hg
 ·exact Wr T w hg h
end
section
open Go.RowKit
def AL8(P:Program)(tbl:List (Ct P))(id:Nat)(o:Oper)(vt:List Value)(m:Xm)(K:List Value->Xm->Prop):Prop:=
 match o.op with
 | .slice t x (some y) none none=>Hk (P6 x&&P6 y) (match P.underlying t,VE vt x,VE vt y with
  |some .string,.string s,.int .i64 i=>(0<=i/\i<=(s.size:Int))/\K (BO vt o.dst (.string (s.extract i.toNat s.size))) m
  |_,_,_=>False)
 |_=>vop P tbl id o vt m K
def Acx(P:Program)(tbl:List (Ct P))(ops:Array Oper)(ids:Nat->Nat)(K:List Value->Xm->Prop):List Nat->List Value->Xm->Prop
 |[],vt,m=>K vt m
 | i::rest,vt,m=>
  match ops[i]? with
  |none=>False
  |some o=>
   match o.guard with
   |none=>AL8 P tbl (ids i) o vt m (Acx P tbl ops ids K rest)
   |some _=>False
section
variable {P:Program} {tbl:List (Ct P)} {bs:List Nat} {w0:World} {rs:Xm} {Q:Exit->Act->World->Prop} {ops:Array Oper} {base:Nat} {K:List Value->Xm->Prop} {ds:List Deferred} {ln:Nat} {bl0:Bl}
theorem Iq(hK:∀bl vt m a w,K vt m->FR bl vt a.tmps->RW bs w0 bl m w->Le bl0 bl->bl.length=ln->m.length=ln->a.defers=ds->Q .normal a w):
    ∀ (is:List Nat) (bl:Bl) (vt:List Value) (m:Xm) (a:Act) (w:World),is.Nodup->Acx P tbl ops (EV base ops) K is vt m->FR bl vt a.tmps->RW bs w0 bl m w->Nw rs bl m->
      (∀i∈is,NA P rs ops (EV base ops) bl i)->Le bl0 bl->bl.length=ln->m.length=ln->a.defers=ds->wpOps P ops Q is a w
 |[],bl,vt,m,a,w,_,h,F,R,_,_,hle,hl,hml,hd=>hK bl vt m a w h F R hle hl hml hd
 | i ::rest,bl,vt,m,a,w,hnd,h,F,R,N,hf,hle,hl,hml,hd=>by
  rw[List.nodup_cons]at hnd
  unfold Acx at h
  cases ho:ops[i]? with
  |none=>
   rw[ho]at h
   exact h.elim
  | some o=>
   rw[ho]at h
   dsimp only at h
   cases hg:o.guard with
   |some _=>rw[hg]at h;exact h.elim
   | none=>
    rw[hg]at h
    dsimp only at h
    unfold AL8 at h
    split at h
    ·rename_i t x y hop
     rw[Bf]at h
     obtain⟨hx,h⟩:=h
     rw[Zs]at hx
     split at h
     case h_2=>exact h.elim
     rename_i s n hu hs hn
     have h1:=F.eval hx.1
     rw[hs]at h1
     have h1:a.eval x=.string s:=h1
     have h2:=F.eval hx.2
     rw[hn]at h2
     have h2:a.eval y=.int .i64 n:=h2
     have hr:=run_slice_string_from_if (P:=P) w t s .i64 n hu
     rw[if_pos h.1]at hr
     refine Gy ho hg (v:=.string (s.extract n.toNat s.size)) (w':=w) (by simp[execOp,hop,h1,h2,Instr.sliceAt,BQ hu w,hr]) ?_
     exact Iq hK rest bl _ m _ w hnd.2 h.2 (F.put (.same rfl) _) R N (fun j hj=>hf j (List.mem_cons_of_mem _ hj)) hle hl hml ((AL _ _ _).trans hd)
    ·rw[wpOps_cons]
     unfold wpOp
     rw[ho]
     dsimp only
     rw[show Region.wanted o (yielded ops a.tmps)=true by unfold Region.wanted;rw[hg],if_pos rfl]
     refine .inl (Oper.wp_mono ?_ (Ai4 (Q:=Q) h F R N (hf i List.mem_cons_self o ho)))
     rintro a' w' ⟨bl',v,m',hbl,hmm,hle',h1,h3,hdef,F',R',N',hK'⟩
     exact Iq hK rest bl' _ m' a' w' hnd.2 hK' F' R' N' (fun j hj=>(hf j (List.mem_cons_of_mem _ hj)).next ho (by rintro rfl;exact hnd.1 hj) h1 h3) (hle.trans hle') (hbl.trans hl) (hmm.trans hml) (hdef.trans hd)
def Aqs(P:Program)(tbl:List (Ct P))(ops:Array Oper)(draw:Bool)(K:List Value->Xm->Prop)(vt:List Value)(m:Xm):Prop:=
 Hk (Uo P ops&& !draw) (Acx P tbl ops (EV m.length ops) K (List.range ops.size) vt (m++Az P ops))
theorem Ws{id:Nat}{draw:Bool}{bl:Bl}{vt:List Value}{m:Xm}{a:Act}{w:World}(h:Aqs P tbl ops draw K vt m)(r:Rl bs w0 ds bl0 bl vt m a w)(hK:∀bl vt m a w,K vt m->Rl bs w0 ds bl0 bl vt m a w->Q .normal a w):(Code.region id ops draw).wp P Q a w:=by
 unfold Aqs at h
 rw[Bf,Zs]at h
 obtain⟨⟨hr,hd⟩,h⟩:=h
 cases draw
 ·refine wp_region (Iq (ds:=ds) (rs:=m++Az P ops) (ln:=m.length+(Az P ops).length) (fun bl vt m a w hk F R hle h1 h2 h3=>hK bl vt m a w hk ⟨F,R,hle,h1.trans h2.symm,h3⟩) _ _ vt _ a w List.nodup_range h (r.F.mono (Le.wide bl (Az P ops).length)) (r.R.wide _ _) (fun _ _=>rfl) (fun i _=>Hl r.len hr i) (r.le.trans (Le.wide bl _)) ?_ ?_ r.defers)
  ·rw[List.length_append,List.length_replicate,r.len]
  ·rw[List.length_append]
 ·cases hd
def Zh(P:Program)(tbl:List (Ct P))(dirty:Nat->List Nat)(id d:Nat)(v:Bool)(ops:Array Oper)(draw:Bool)(K:List Value->Xm->Prop)(vt:List Value)(m:Xm):Prop:=
 Ed P tbl dirty id ops draw (fun vt m=>vt.getD d undef=.bool v/\K (vt.set d (.bool v)) m) vt m
theorem KO(hm:P.follows .mixedOrders=true){dirty:Nat->List Nat}{id d:Nat}{v draw:Bool}{bl:Bl}{vt:List Value}{m:Xm}{a:Act}{w:World}(h:Zh P tbl dirty id d v ops draw K vt m)(r:Rl bs w0 ds bl0 bl vt m a w)(hK:∀bl vt m a w,K vt m->Rl bs w0 ds bl0 bl vt m a w->Q .normal a w):(Code.region id ops draw).wp P Q a w:=
 C8 hm (fun bl _ m a w hk hr=>hK bl _ m a w hk.2 ⟨hr.F.setSame hk.1,hr.R,hr.le,hr.len,hr.defers⟩) h r
end
abbrev V7:=Int×Int×Int×Int×Int×Int×Int
def Wt(a:Int)(k:Int):Bool:=let r1:=mulS false a (1099511627776-k);let r2:=mulS r1.2 a (1099511627776+k);if r2.2 then false else if r1.1≥7232738120604 then(decide (r2.1<=9211859050600))else false
def oAngC(a:Int):Bool:=if (-6908435304716)<=a then(decide (a<=6908435304716))else false
def De(o:V7):Bool:=if 0<=o.2.1 then if o.2.1<=109951162777 then let r1:=Wt o.1 o.2.1;if r1 then if 0<=o.2.2.1 then if o.2.2.1<=3454217652358 then let r2:=oAngC o.2.2.2.1;if r2 then let r3:=oAngC o.2.2.2.2.1;if r3 then let r4:=oAngC o.2.2.2.2.2.1;if r4 then let r5:=cRight o.2.2.2.2.2.2;r5 else false else false else false else false else false else false else false else false
def Acy(a:Int):Bool:=if a≥(-6908435304716)then(decide (a<=6908435304716))else false
def EM(o:V7):Bool:=if o.2.1<0 then false else if o.2.1>109951162777 then false else if o.2.2.1<0 then false else if o.2.2.1>3454217652358 then false else let r1:=Acy o.2.2.2.1;if r1 then let r2:=Acy o.2.2.2.2.1;if r2 then let r3:=Acy o.2.2.2.2.2.1;if r3 then let r4:=cRight o.2.2.2.2.2.2;if r4 then let r5:=mulS false o.1 (1099511627776-o.2.1);let r6:=mulS r5.2 o.1 (1099511627776+o.2.1);if r6.2 then false else if r5.1≥7232738120604 then(decide (r6.1<=9211859050600))else false else false else false else false else false
theorem Aqt(a:Int):Acy a=oAngC a:=rfl
theorem Zi(o:V7):EM o=De o:=by
 unfold EM De Wt
 simp only[Aqt]
 by_cases c1:o.2.1<0
 ·rw[if_pos c1,if_neg (by omega)]
 rw[if_neg c1,if_pos (show 0<=o.2.1 by omega)]
 by_cases c2:o.2.1>109951162777
 ·rw[if_pos c2,if_neg (by omega)]
 rw[if_neg c2,if_pos (show o.2.1<=109951162777 by omega)]
 by_cases c3:o.2.2.1<0
 ·rw[if_pos c3,if_neg (show ¬0<=o.2.2.1 by omega),ite_self]
 rw[if_neg c3,if_pos (show 0<=o.2.2.1 by omega)]
 by_cases c4:o.2.2.1>3454217652358
 ·rw[if_pos c4,if_neg (show ¬o.2.2.1<=3454217652358 by omega),ite_self]
 rw[if_neg c4,if_pos (show o.2.2.1<=3454217652358 by omega)]
 generalize oAngC o.2.2.2.1=x1
 generalize oAngC o.2.2.2.2.1=x2
 generalize oAngC o.2.2.2.2.2.1=x3
 generalize cRight o.2.2.2.2.2.2=x4
 generalize mulS false o.1 (1099511627776-o.2.1)=y1
 generalize mulS y1.2 o.1 (1099511627776+o.2.1)=y2
 by_cases d:y1.1≥7232738120604
 ·simp only[if_pos d]
  generalize decide (y2.1<=9211859050600)=x5
  cases x1<;>cases x2<;>cases x3<;>cases x4<;>cases x5<;>cases y2.2<;>rfl
 ·simp only[if_neg d]
  cases x1<;>cases x2<;>cases x3<;>cases x4<;>cases y2.2<;>rfl
def Ayi(Post:Value->Prop):List Bool->Prop
 |[]=>Post (.bool true)
 |[c]=>Post (.bool c)
 |c::d::cs=>AE c (Ayi Post (d::cs)) (Post (.bool false))
theorem TJ{Post:Value->Prop}:∀{cs:List Bool},Post (.bool (cs.all id))->Ayi Post cs
 |[],h=>h
 |[c],h=>by
  have e:([c].all id)=c:=by cases c<;>rfl
  rw[e]at h
  exact h
 |c::d::cs,h=>by
  cases c
  ·exact h
  ·exact TJ (cs:=d::cs) h
def TY(x:Tup 7):V7:=(x.1,x.2.1,x.2.2.1,x.2.2.2.1,x.2.2.2.2.1,x.2.2.2.2.2.1,x.2.2.2.2.2.2.1)
def AL9:Ct Zm:=Ak Zm 127 (Ac cI (Aa cI)) (fun bad x=>mulS bad x.1 x.2) cI (Ae Tryz.func127 (by kernel_rfl) (by kernel_rfl)) (fun b bad x w _ _ hw=>Aw b bad x.1 x.2 w hw)
def farW(a e:Int):List Bool:=[!(mulS (mulS false a (IntKind.i64.wrap (1099511627776-e))).2 a (IntKind.i64.wrap (1099511627776+e))).2,decide ((mulS false a (IntKind.i64.wrap (1099511627776-e))).1≥7232738120604),decide ((mulS (mulS false a (IntKind.i64.wrap (1099511627776-e))).2 a (IntKind.i64.wrap (1099511627776+e))).1<=9211859050600)]
theorem AGz:Ah Zm 206 (Ac cI (Aa cI)) (fun x=>(farW x.1 x.2).all id) cB:=fun x w hw=>by
 refine Bj (d:=Ac cI (Aa cI)) (k:=cB) (x:=x) (y:=(farW x.1 x.2).all id) (tbl:=[AL9]) (dirty:=fun _=>[]) (n:=4) xmixA Tryz.func206 rfl (fun Post hP=>?_) w hw
 exact Eq.mpr (β:=Ayi Post (farW x.1 x.2)) (by kernel_rfl) (TJ hP)
def AMa:Ct Zm:=Aq Zm 206 (Ac cI (Aa cI)) (fun x=>(farW x.1 x.2).all id) cB (Ae Tryz.func206 (by kernel_rfl) (by kernel_rfl)) AGz
theorem AG0:Ah Zm 207 (Aa cI) oAngC cB:=Av (tbl:=[]) (dirty:=fun _=>[]) (n:=4) xmixA Tryz.func207 rfl (fun x Post=>by
    refine Eq.trans (b:=?m) ?x (Eq.symm ?y)
    case y=>unfold oAngC;simp only[<-AX (K:=PJ cB Post)];exact rfl
    case x=>kernel_rfl)
def AMb:Ct Zm:=Aq Zm 207 (Aa cI) oAngC cB (Ae Tryz.func207 (by kernel_rfl) (by kernel_rfl)) AG0
def ABr:Ct Zm:=Aq Zm 9 (Aa cI) cRight cB (Ae Tryz.func9 (by kernel_rfl) (by kernel_rfl)) (fun x w _=>B4 x w)
def AG1(x:Tup 7):List Bool:=[decide (0<=x.2.1),decide (x.2.1<=109951162777),(farW x.1 x.2.1).all id,decide (0<=x.2.2.1),decide (x.2.2.1<=3454217652358),oAngC x.2.2.2.1,oAngC x.2.2.2.2.1,oAngC x.2.2.2.2.2.1,cRight x.2.2.2.2.2.2.1]
theorem AG2{a e:Int}(h0:0<=e)(h1:e<=109951162777):(farW a e).all id=Wt a e:=by
 have e1:IntKind.i64.wrap (1099511627776-e)=1099511627776-e:=by rw[IntKind.wrap_i64];omega
 have e2:IntKind.i64.wrap (1099511627776+e)=1099511627776+e:=by rw[IntKind.wrap_i64];omega
 unfold farW Wt
 rw[e1,e2]
 dsimp only
 generalize mulS false a (1099511627776-e)=r1
 generalize mulS r1.2 a (1099511627776+e)=r2
 cases r2.2
 ·by_cases h:r1.1≥7232738120604
  ·rw[decide_eq_true h];simp[h]
  ·rw[decide_eq_false h];simp[h]
 ·rfl
theorem AG3(x:Tup 7):(AG1 x).all id=De (TY x):=by
 unfold AG1 De TY
 dsimp only
 by_cases h0:0<=x.2.1
 ·by_cases h1:x.2.1<=109951162777
  ·rw[AG2 h0 h1,decide_eq_true h0,decide_eq_true h1,if_pos h0,if_pos h1]
   cases Wt x.1 x.2.1
   ·rfl
   by_cases h2:0<=x.2.2.1
   ·by_cases h3:x.2.2.1<=3454217652358
    ·rw[decide_eq_true h2,decide_eq_true h3,if_pos h2,if_pos h3]
     cases oAngC x.2.2.2.1
     ·rfl
     cases oAngC x.2.2.2.2.1
     ·rfl
     cases oAngC x.2.2.2.2.2.1
     ·rfl
     cases cRight x.2.2.2.2.2.2.1<;>rfl
    ·rw[decide_eq_true h2,decide_eq_false h3,if_pos h2,if_neg h3];rfl
   ·rw[decide_eq_false h2,if_neg h2];rfl
  ·rw[decide_eq_true h0,decide_eq_false h1,if_pos h0,if_neg h1];rfl
 ·rw[decide_eq_false h0,if_neg h0];rfl
theorem Ayj:Ah Zm 120 (Aa (cT 7)) (fun x=>De (TY x)) cB:=fun x w hw=>by
 refine Bj (d:=Aa (cT 7)) (k:=cB) (x:=x) (y:=De (TY x)) (tbl:=[AMa,AMb,ABr]) (dirty:=fun _=>[]) (n:=4) xmixA Tryz.func120 rfl (fun Post hP=>?_) w hw
 refine Eq.mpr (β:=Ayi Post (AG1 x)) (by kernel_rfl) (TJ ?_)
 rw[AG3]
 exact hP
theorem Aqu{k:Int}{s:ByteArray}(h:DY k s 0=true):Mw k s=EC k s 0:=by
 unfold DY at h
 unfold Mw EC
 by_cases c1:k=1
 ·rw[if_pos c1]at h ⊢
  rw[if_pos c1]
  unfold ABq
  rw[if_pos h]
 rw[if_neg c1]at h ⊢
 rw[if_neg c1]
 by_cases c3:k=3
 ·rw[if_pos c3,if_pos c3]
 rw[if_neg c3]at h ⊢
 rw[if_neg c3]
 unfold Ph at h
 unfold AL5
 rw[if_pos (by simp at h;exact h.1)]
theorem Zj(k:Int)(s:ByteArray):EC k (s.extract 6 s.size) 0=EC k s 6:=by
 unfold EC
 simp only[Wh]
theorem Mx(k:Int)(s:ByteArray):DY k (s.extract 6 s.size) 0=DY k s 6:=by
 unfold DY
 simp only[Wh]
def bsOf(n:Nat)(f:Nat->UInt8):ByteArray:=⟨⟨(List.range n).map f⟩⟩
theorem Acz(s:ByteArray):s=bsOf s.size (fun i=>s.data.toList.getD i 0):=by
 obtain⟨⟨l⟩⟩:=s
 unfold bsOf
 congr 2
 refine List.ext_getElem (by simp;rfl) (fun i h1 h2=>?_)
 simp[h1]
theorem GR(n:Nat)(f:Nat->UInt8):(bsOf n f).size=n:=by
 show((List.range n).map f).length=n
 simp
abbrev EQ:Dc (Tup 5×Bool):=Au (cT 5) cB
def zero5:Tup 5×Bool:=((0,0,0,0,0,()),false)
def BI(x:Fra):Tup 5×Bool:=(((Rj x.1 x.2).1,(Rj x.1 x.2).2.1,(Rj x.1 x.2).2.2.1,(Rj x.1 x.2).2.2.2.1,(Rj x.1 x.2).2.2.2.2,()),C7 x.1 x.2)
theorem Gj(k:Int)(s:ByteArray):BI (k,s)=if C7 k s then((k,CM s,(EC k s 6).1,(EC k s 6).2.1,(EC k s 6).2.2,()),true)else zero5:=by
 unfold BI Rj
 dsimp only
 cases C7 k s<;>rfl
theorem Rm{k:Int}{s:ByteArray}(hf:Ez k s=true):C7 k s=(cRight (CM s)&&DY k s 6):=by
 unfold C7
 rw[hf,Zt]
def AMc:Ct Zm:=Aq Zm 198 (Aa cI) EL cI (Ae Tryz.func198 (by kernel_rfl) (by kernel_rfl)) (fun x w _=>Calls.mono (Wm x w) (by rintro e w' ⟨rfl,rfl⟩;exact⟨rfl,Below.refl _ _⟩))
def AMd:Ct Zm:=FO Zm 199 (Aa cS) (fun s K=>s.size=6/\K (.int .i64 (CM s))) (fun _ _ _ hK hs=>⟨hs.1,hK _ hs.2⟩) (Ae Tryz.func199 (by kernel_rfl) (by kernel_rfl))
 (fun s w _ K hs=>Calls.mono (Wl s w hs.1) (by rintro e w' ⟨rfl,hb⟩;exact⟨_,rfl,rfl,hs.2,hb⟩))
def AMe(k:Int)(s:ByteArray):Prop:=6<=s.size/\(k≠1->k≠3->12<=s.size)
def AMf:Ct Zm:=FO Zm 200 (Ac cI (Aa cS)) (fun x K=>AMe x.1 x.2/\K (BP.enc (v3T (Mw x.1 x.2),DY x.1 x.2 0))) (fun _ _ _ hK hs=>⟨hs.1,hK _ hs.2⟩) (Ae Tryz.func200 (by kernel_rfl) (by kernel_rfl))
 (fun x w hw K hs=>Calls.mono (Ahg x.1 x.2 w hw hs.1.1 hs.1.2) (by rintro e w' ⟨rfl,hb⟩;exact⟨_,rfl,rfl,hs.2,hb⟩))
abbrev snT:List (Ct Zm):=[AMc,AMd,AMf,ABr]
def snO:Ov:=fun id=>match id with
 |2=>some (Zh Zm snT (fun _=>[]) 2 21 true)
 |_=>none
theorem AMh(w:World):D5 Zm snO [] w [] [] (An Zm 114):=by
 refine CV (ns:=[(2,Cg Zm 114 2,false)]) (by kernel_rfl) ?_
 intro r hr
 rcases List.mem_cons.1 hr with rfl |hr
 ·intro R hR K Q bl vt m a w h r hK
  cases hR
  exact KO xmixA h r hK
 ·cases hr
def snX(Post:Value->Prop)(b:Bool):Prop:=Value.bool b=.bool true/\PJ EQ Post zero5
theorem Zk(k:Int)(s:ByteArray)(h:Ez k s=false)(w:World)(hw:GW w):Calls Zm 114 ((Aa AU).enc (k,s)).toArray w fun e w'=>e=.returned (EQ.enc zero5)/\Below w.heap.size w w':=by
 refine Gc (d:=Aa AU) (k:=EQ) (x:=(k,s)) (y:=zero5) (tbl:=snT) (dirty:=fun _=>[]) (n:=4) (ov:=snO) xmixA (by kernel_rfl) (by kernel_rfl) AMh ?_ w hw
 refine Eq.mpr (β:=AE (decide (EL k=0)) (snX (fun v=>v=EQ.enc zero5) true) (snX (fun v=>v=EQ.enc zero5) (!decide ((s.size:Int)=IntKind.i64.wrap (6+IntKind.i64.wrap (EL k*2)))))) (by kernel_rfl) ?_
 by_cases c0:EL k=0
 ·rw[decide_eq_true c0]
  exact⟨rfl,rfl⟩
 ·rw [decide_eq_false c0]
  refine⟨?_,rfl⟩
  have hn:(s.size:Int)≠IntKind.i64.wrap (6+IntKind.i64.wrap (EL k*2)):=by
   unfold Ez at h
   simp only[Bool.or_eq_false_iff,Bool.and_eq_false_iff,decide_eq_false_iff_not]at h
   unfold EL at c0 ⊢
   split
   ·rw[IntKind.wrap_i64,IntKind.wrap_i64]
    omega
   ·split
    ·rw[IntKind.wrap_i64,IntKind.wrap_i64]
     omega
    ·rename_i h1 h2
     rw[if_neg h1,if_neg h2]at c0
     exact absurd rfl c0
  rw[decide_eq_false hn]
  rfl
def snB(k:Int)(a b:ByteArray)(Post:Value->Prop):Prop:=
 a.size=6/\AMe k b/\AE (!DY k b 0) (PJ EQ Post zero5) (AE (!cRight (CM a)) (PJ EQ Post zero5) (PJ EQ Post ((k,CM a,v3T (Mw k b)),true)))
theorem Zl{k:Int}{s:ByteArray}{Post:Value->Prop}(hf:Ez k s=true)(h6:12<=s.size)(h12:k≠1->k≠3->18<=s.size)(hP:PJ EQ Post (BI (k,s))):snB k (s.extract 0 6) (s.extract 6 s.size) Post:=by
 refine⟨by rw[Zq];omega,⟨by rw[Zq];omega,fun a b=>by have:=h12 a b;rw[Zq];omega⟩,?_⟩
 rw[Gj,Rm hf]at hP
 rw[Mx,Ag9]
 cases hs:DY k s 6
 ·rw[hs,Bool.and_false]at hP
  exact hP
 ·rw[hs,Bool.and_true]at hP
  have hv:Mw k (s.extract 6 s.size)=EC k s 6:=by rw[Aqu (by rw[Mx];exact hs),Zj]
  rw[hv]
  cases hc:cRight (CM s)
  ·rw[hc]at hP;exact hP
  ·rw[hc]at hP;exact hP
theorem Ayk(f:Nat->UInt8)(w:World)(hw:GW w):Calls Zm 114 ((Aa AU).enc (1,bsOf 12 f)).toArray w fun e w'=>e=.returned (EQ.enc (BI (1,bsOf 12 f)))/\Below w.heap.size w w':=by
 refine Bj (d:=Aa AU) (k:=EQ) (x:=(1,bsOf 12 f)) (y:=BI (1,bsOf 12 f)) (tbl:=snT) (dirty:=fun _=>[]) (n:=4) xmixA Tryz.func114 rfl (fun Post hP=>?_) w hw
 exact Eq.mpr (β:=snB 1 ((bsOf 12 f).extract 0 6) ((bsOf 12 f).extract 6 (bsOf 12 f).size) Post) (by kernel_rfl) (Zl rfl (by rw[GR];decide) (fun _ _=>by rw[GR];first |decide |contradiction) hP)
theorem Ayl(f:Nat->UInt8)(w:World)(hw:GW w):Calls Zm 114 ((Aa AU).enc (3,bsOf 12 f)).toArray w fun e w'=>e=.returned (EQ.enc (BI (3,bsOf 12 f)))/\Below w.heap.size w w':=by
 refine Bj (d:=Aa AU) (k:=EQ) (x:=(3,bsOf 12 f)) (y:=BI (3,bsOf 12 f)) (tbl:=snT) (dirty:=fun _=>[]) (n:=4) xmixA Tryz.func114 rfl (fun Post hP=>?_) w hw
 exact Eq.mpr (β:=snB 3 ((bsOf 12 f).extract 0 6) ((bsOf 12 f).extract 6 (bsOf 12 f).size) Post) (by kernel_rfl) (Zl rfl (by rw[GR];decide) (fun _ _=>by rw[GR];first |decide |contradiction) hP)
theorem Aym(f:Nat->UInt8)(w:World)(hw:GW w):Calls Zm 114 ((Aa AU).enc (2,bsOf 18 f)).toArray w fun e w'=>e=.returned (EQ.enc (BI (2,bsOf 18 f)))/\Below w.heap.size w w':=by
 refine Bj (d:=Aa AU) (k:=EQ) (x:=(2,bsOf 18 f)) (y:=BI (2,bsOf 18 f)) (tbl:=snT) (dirty:=fun _=>[]) (n:=4) xmixA Tryz.func114 rfl (fun Post hP=>?_) w hw
 exact Eq.mpr (β:=snB 2 ((bsOf 18 f).extract 0 6) ((bsOf 18 f).extract 6 (bsOf 18 f).size) Post) (by kernel_rfl) (Zl rfl (by rw[GR];decide) (fun _ _=>by rw[GR];first |decide |contradiction) hP)
theorem Ayn:Ah Zm 114 (Aa AU) BI (Au (cT 5) cB):=fun x w hw=>by
 obtain⟨k,s⟩:=x
 cases hf:Ez k s
 ·have hr:BI (k,s)=zero5:=by
   have h0:C7 k s=false:=by unfold C7;rw[hf];rfl
   rw[Gj,h0]
   rfl
  rw[hr]
  exact Zk k s hf w hw
 ·have hb:=Acz s
  unfold Ez at hf
  simp only[Bool.or_eq_true,Zs,decide_eq_true_eq]at hf
  generalize (fun i=>s.data.toList.getD i 0)=f at hb
  rcases hf with (⟨rfl,hs⟩|⟨rfl,hs⟩)|⟨rfl,hs⟩
  ·rw[hs]at hb;rw[hb];exact Ayk f w hw
  ·rw[hs]at hb;rw[hb];exact Ayl f w hw
  ·rw[hs]at hb;rw[hb];exact Aym f w hw
def numK(s:ByteArray)(i:Nat):Nat->Nat
 |0=>0
 |k+1=>numK s i k*256+bt s (i+k)
theorem KP(s:ByteArray)(i:Nat):∀k,numK s i k<256^k
 |0=>by show 0<1;decide
 |k+1=>by
  have h:=KP s i k
  have:=Fg s (i+k)
  show numK s i k*256+bt s (i+k)<256^k*256
  omega
theorem Rn(s:ByteArray)(n i:Nat):∀k,numK (s.extract n s.size) i k=numK s (n+i) k
 |0=>rfl
 |k+1=>by
  show numK _ i k*256+bt _ (i+k)=numK s (n+i) k*256+bt s (n+i+k)
  rw[Rn s n i k,TE,Nat.add_assoc]
def onumS(s:ByteArray)(i:Nat):Int:=IntKind.i64.wrap (numK s i 8:Nat)
theorem Ro(s:ByteArray)(n i:Nat):onumS (s.extract n s.size) i=onumS s (n+i):=by
 unfold onumS
 rw[Rn]
def D4(c:Int):Int:=if c=1∨c=2∨c=4 then 2 else if c=3 then 58 else 0
def z7:V7:=(0,0,0,0,0,0,0)
def Ahh(s:ByteArray):V7:=(onumS s 2,onumS s 10,onumS s 18,onumS s 26,onumS s 34,onumS s 42,onumS s 50)
def Cs(k:Int)(s:ByteArray):(Int×Int×V7)×Int:=
 if s.size<2 then((0,0,z7),1)
 else if k≠16 then(((bt s 0:Nat),0,z7),1)
 else if D4 (bt s 1:Nat)=0 then(((bt s 0:Nat),0,z7),2)
 else if (s.size:Int)≠D4 (bt s 1:Nat)then(((bt s 0:Nat),0,z7),1)
 else if ((bt s 1:Nat):Int)≠3 then(((bt s 0:Nat),(bt s 1:Nat),z7),0)
 else if De (Ahh s)then(((bt s 0:Nat),3,Ahh s),0)
 else(((bt s 0:Nat),0,z7),3)
theorem ZA(c:Int)(w:World):Calls Zm 201 #[.int .i64 c] w fun e w'=>e=.returned (.int .i64 (D4 c))/\w=w':=by
 by_cases h1:c=1
 ·subst h1
  go_enter Tryz.func201,Tryz.ntmps201
  go_wp2
  go_ret
  exact⟨rfl,rfl⟩
 by_cases h2:c=2
 ·subst h2
  go_enter Tryz.func201,Tryz.ntmps201
  go_wp2
  go_ret
  exact⟨rfl,rfl⟩
 by_cases h4:c=4
 ·subst h4
  go_enter Tryz.func201,Tryz.ntmps201
  go_wp2
  go_ret
  exact⟨rfl,rfl⟩
 by_cases h3:c=3
 ·subst h3
  go_enter Tryz.func201,Tryz.ntmps201
  go_wp2
  go_ret
  exact⟨rfl,rfl⟩
 have e:D4 c=0:=by unfold D4;rw[if_neg (by omega),if_neg h3]
 rw[e]
 go_enter Tryz.func201,Tryz.ntmps201
 go_wp2
 go_ret
 exact⟨rfl,rfl⟩
theorem Wu(q c:Int)(o:V7)(x:Int)(w:World):Calls Zm 202 #[.agg #[.int .i64 q,.int .i64 c,.int .i64 o.1,.int .i64 o.2.1,.int .i64 o.2.2.1,.int .i64 o.2.2.2.1,.int .i64 o.2.2.2.2.1,.int .i64 o.2.2.2.2.2.1,.int .i64 o.2.2.2.2.2.2],.int .i64 x] w fun e w'=>e=.returned (.tuple #[.agg #[.int .i64 q,.int .i64 0,.int .i64 0,.int .i64 0,.int .i64 0,.int .i64 0,.int .i64 0,.int .i64 0,.int .i64 0],.int .i64 x])/\Below w.heap.size w w':=by
 go_enter Tryz.func202,Tryz.ntmps202
 go_wp2_with (with_reducible refine BJ ?_)
 refine⟨bodyPost_ret (v:=.tuple #[.agg #[.int .i64 q,.int .i64 0,.int .i64 0,.int .i64 0,.int .i64 0,.int .i64 0,.int .i64 0,.int .i64 0,.int .i64 0],.int .i64 x]) (by simp[results_cell_tmp Tryz.results202,asAddr,go_sem]) rfl ⟨rfl,?_⟩⟩
 exact Cx (Cx (Below.refl _ _) _) _
theorem AMi{a b:Nat}(ha:a<72057594037927936)(hb:b<256):bits .or .u64 ((a:Int)*256) (b:Int)=((a*256+b:Nat):Int):=by
 rw[show(a:Int)*256=((a*256:Nat):Int)by omega]
 show IntKind.u64.wrap ((BitVec.ofInt 64 ((a*256:Nat):Int)|||BitVec.ofInt 64 (b:Int)).toNat:Int)=_
 have e:=Nat.two_pow_add_eq_or_of_lt (i:=8) (show b<2^8 by omega) a
 rw[BitVec.toNat_or,ofInt_u64 _ (by omega),ofInt_u64 b (by omega),show a*256=2^8*a by omega,<-e]
 rw[IntKind.wrap_u64]
 omega
theorem ZB(s:ByteArray)(w:World)(h:8<=s.size):
    Calls Zm 263 #[.string s] w fun e w'=>e=.returned (.int .i64 (onumS s 0))/\w=w':=by
 go_enter Tryz.func263,Tryz.ntmps263
 go_wp2
 go_loop [3,5] (fun r i=>∃k:Nat,k<=8/\i=.int .i64 k/\r=.int .u64 (numK s 0 k:Nat)) (fun _ i=>8-(intOf i).toNat)
 case atStart=>exact⟨0,by omega,rfl,rfl⟩
 case round=>
  obtain⟨k,hk,rfl,rfl⟩:=hrel
  by_cases c:k<8
  ·have hi:=GQ (s:=s) (i:=(k:Int)) (n:=k) (by omega) rfl
   have hb:=Fg s k
   have ht:numK s 0 k<72057594037927936:=Nat.lt_of_lt_of_le (KP s 0 k) (show 256^k<=256^7 from Nat.pow_le_pow_right (by decide) (by omega))
   have HT:Hid (numK s 0 (k+1)=numK s 0 k*256+bt s k):=by show numK s 0 k*256+bt s (0+k)=_;rw[Nat.zero_add]
   generalize numK s 0 k=t at ht HT ⊢
   generalize bt s k=b at hi hb HT
   have ho:=AMi ht hb
   go_wp2
   go_round
   case rel=>exact⟨k+1,by omega,by go_num,by rw[HT.out];show _=Value.int .u64 ((t*256+b:Nat):Int);rw[show((t*256+b:Nat):Int)=(t:Int)*256+b by omega]⟩
   case measure=>simp[intOf];omega
  ·obtain rfl:k=8:=by omega
   have HT:Hid (onumS s 0=IntKind.i64.wrap (numK s 0 8:Nat)):=rfl
   have hl:=KP s 0 8
   generalize numK s 0 8=t at HT hl ⊢
   go_wp2
   go_ret
   exact⟨by rw[HT.out,IntWalk.i64_left];rfl,rfl⟩
theorem Fi(p:Nat)(hp:p<7)(s:ByteArray)(k:Nat)(w:World)(hs:s.size=56)(hc:w.cell? ⟨k,0,none⟩=some (.string s)):
    Calls Zm 262 #[.int .i64 p,.pointer (some ⟨k,0,none⟩)] w fun e w'=>e=.returned (.int .i64 (onumS s (8*p)))/\w=w':=by
 have hj:=fun W=>ZB (s.extract (8*p) s.size) W (by rw[Zq];omega)
 rw[Ro,Nat.add_zero]at hj
 have hsl:∀W:World,(Instr.slice 9 (.string s) (some (.int .i64 ((p:Int)*8))) none none).run Zm W=.ok (.string (s.extract (8*p) s.size)) W:=fun W=>by
  rw[run_slice_string_from_if W 9 s .i64 ((p:Int)*8) Tryz.underlying9,if_pos (by omega),show((p:Int)*8).toNat=8*p by omega]
 generalize s.extract (8*p) s.size=y at *
 generalize onumS s (8*p)=x at *
 go_enter Tryz.func262,Tryz.ntmps262
 go_wp2_with (go_at_call 263;refine(hj _).mono ?_;rintro e X ⟨rfl,rfl⟩)
 go_ret
 exact⟨rfl,rfl⟩
theorem TK(s:ByteArray)(w:World)(hs:s.size=56):
    Calls Zm 203 #[.string s] w fun e w'=>e=.returned (.agg #[.int .i64 (onumS s 0),.int .i64 (onumS s 8),.int .i64 (onumS s 16),.int .i64 (onumS s 24),.int .i64 (onumS s 32),.int .i64 (onumS s 40),.int .i64 (onumS s 48)])/\Below w.heap.size w w':=by
 have hmf:∀(fn:Fn) (first cap:Array Value) (W:World),(Instr.makeFunc fn first cap).run Zm W=.ok (.func fn first cap) W:=fun _ _ _ _=>rfl
 have A:=(AH w w.heap.size [.string s] 9 rfl).alloc (.cells #[.int .i64 0,.int .i64 0,.int .i64 0,.int .i64 0,.int .i64 0,.int .i64 0,.int .i64 0] 28)
 have c0:=A.c 0 (zD rfl)
 have C0:Hid _:=c0
 clear A c0
 have h0:=fun W c=>Fi 0 (by decide) s w.heap.size W hs c
 rw[show 8*0=0 from rfl]at h0
 generalize onumS s 0=x0 at h0 ⊢
 have h1:=fun W c=>Fi 1 (by decide) s w.heap.size W hs c
 rw[show 8*1=8 from rfl]at h1
 generalize onumS s 8=x1 at h1 ⊢
 have h2:=fun W c=>Fi 2 (by decide) s w.heap.size W hs c
 rw[show 8*2=16 from rfl]at h2
 generalize onumS s 16=x2 at h2 ⊢
 have h3:=fun W c=>Fi 3 (by decide) s w.heap.size W hs c
 rw[show 8*3=24 from rfl]at h3
 generalize onumS s 24=x3 at h3 ⊢
 have h4:=fun W c=>Fi 4 (by decide) s w.heap.size W hs c
 rw[show 8*4=32 from rfl]at h4
 generalize onumS s 32=x4 at h4 ⊢
 have h5:=fun W c=>Fi 5 (by decide) s w.heap.size W hs c
 rw[show 8*5=40 from rfl]at h5
 generalize onumS s 40=x5 at h5 ⊢
 have h6:=fun W c=>Fi 6 (by decide) s w.heap.size W hs c
 rw[show 8*6=48 from rfl]at h6
 generalize onumS s 48=x6 at h6 ⊢
 go_enter Tryz.func203,Tryz.ntmps203
 go_wp2_with fail
 refine(h0 _ C0.out).mono ?_
 rintro e X ⟨rfl,rfl⟩
 go_wp2_with fail
 refine(h1 _ C0.out).mono ?_
 rintro e X ⟨rfl,rfl⟩
 go_wp2_with fail
 refine(h2 _ C0.out).mono ?_
 rintro e X ⟨rfl,rfl⟩
 go_wp2_with fail
 refine(h3 _ C0.out).mono ?_
 rintro e X ⟨rfl,rfl⟩
 go_wp2_with fail
 refine(h4 _ C0.out).mono ?_
 rintro e X ⟨rfl,rfl⟩
 go_wp2_with fail
 refine(h5 _ C0.out).mono ?_
 rintro e X ⟨rfl,rfl⟩
 go_wp2_with fail
 refine(h6 _ C0.out).mono ?_
 rintro e X ⟨rfl,rfl⟩
 go_wp2_with (with_reducible refine BJ ?_)
 refine⟨bodyPost_ret (v:=.agg #[.int .i64 x0,.int .i64 x1,.int .i64 x2,.int .i64 x3,.int .i64 x4,.int .i64 x5,.int .i64 x6]) (by simp[results,Tryz.results203,asAddr,go_sem]) rfl ⟨rfl,?_⟩⟩
 exact Cx (Cx (Below.refl _ _) _) _
end
section
open Go.RowKit
abbrev Cp:Dc (Tup 9×Int):=Au (cT 9) cI
def IW(q c e:Int):Tup 9×Int:=((q,c,0,0,0,0,0,0,0,()),e)
def bI(b:UInt8):Int:=IntKind.i64.wrap ((b.toNat:Nat):Int)
theorem Wv(b:UInt8):bI b=(b.toNat:Nat):=by
 have:=b.toNat_lt
 unfold bI
 rw[IntKind.wrap_i64]
 omega
def ZC:Ct Zm:=Aq Zm 201 (Aa cI) D4 cI (Ae Tryz.func201 (by kernel_rfl) (by kernel_rfl)) (fun x w _=>Calls.mono (ZA x w) (by rintro e w' ⟨rfl,rfl⟩;exact⟨rfl,Below.refl _ _⟩))
def ZD:Ct Zm:=Aq Zm 202 (Ac (cT 9) (Aa cI)) (fun x=>IW x.1.1 0 x.2) Cp (Ae Tryz.func202 (by kernel_rfl) (by kernel_rfl)) (fun x w _=>Wu x.1.1 x.1.2.1 (TY x.1.2.2) x.2 w)
def ZE:Ct Zm:=Aq Zm 120 (Aa (cT 7)) (fun x=>De (TY x)) cB (Ae Tryz.func120 (by kernel_rfl) (by kernel_rfl)) Ayj
def elT(s:ByteArray):Tup 7:=(onumS s 0,onumS s 8,onumS s 16,onumS s 24,onumS s 32,onumS s 40,onumS s 48,())
def ZF:Ct Zm:=FO Zm 203 (Aa cS) (fun s K=>s.size=56/\K ((cT 7).enc (elT s))) (fun _ _ _ hK hs=>⟨hs.1,hK _ hs.2⟩) (Ae Tryz.func203 (by kernel_rfl) (by kernel_rfl))
 (fun s w _ K hs=>Calls.mono (TK s w hs.1) (by rintro e w' ⟨rfl,hb⟩;exact⟨_,rfl,rfl,hs.2,hb⟩))
def oxE(q c:Int)(s:ByteArray)(Post:Value->Prop):Prop:=
 (0<=(2:Int)/\(2:Int)<=(s.size:Int))/\(s.extract (2:Int).toNat s.size).size=56/\AE (!De (TY (elT (s.extract (2:Int).toNat s.size)))) (PJ Cp Post (IW q 0 3)) (PJ Cp Post ((q,c,elT (s.extract (2:Int).toNat s.size)),0))
def oxB(k q c:Int)(s:ByteArray)(Post:Value->Prop):Prop:=
 AE (decide ((s.size:Int)<2)) (PJ Cp Post (IW 0 0 1)) (AE (!decide (k=16)) (PJ Cp Post (IW q 0 1)) (AE (decide (D4 c=0)) (PJ Cp Post (IW q 0 2)) (AE (!decide ((s.size:Int)=D4 c)) (PJ Cp Post (IW q 0 1)) (AE (!decide (c=3)) (PJ Cp Post (IW q c 0)) (oxE q c s Post)))))
abbrev oxT:List (Ct Zm):=[ZC,ZD,ZE,ZF]
def oxO:Ov:=fun id=>match id with
 |13=>some (Aqs Zm oxT)
 |_=>none
theorem AMk(w:World):D5 Zm oxO [] w [] [] (An Zm 116):=by
 refine CV (ns:=[(13,Cg Zm 116 13,false)]) (by kernel_rfl) ?_
 intro r hr
 rcases List.mem_cons.1 hr with rfl |hr
 ·intro R hR K Q bl vt m a w h r hK
  cases hR
  exact Ws h r hK
 ·cases hr
theorem AG4(k:Int)(b0 b1:UInt8)(rest:List UInt8)(y:Tup 9×Int)(w:World)(hw:GW w)(h:∀Post:Value->Prop,PJ Cp Post y->oxB k (bI b0) (bI b1) ⟨⟨b0::b1::rest⟩⟩ Post):Calls Zm 116 ((Aa AU).enc (k,⟨⟨b0::b1::rest⟩⟩)).toArray w fun e w'=>e=.returned (Cp.enc y)/\Below w.heap.size w w':=by
 refine Gc (d:=Aa AU) (k:=Cp) (x:=(k,⟨⟨b0::b1::rest⟩⟩)) (y:=y) (tbl:=oxT) (dirty:=fun _=>[]) (n:=4) (ov:=oxO) xmixA (by kernel_rfl) (by kernel_rfl) AMk ?_ w hw
 exact Eq.mpr (β:=oxB k (bI b0) (bI b1) ⟨⟨b0::b1::rest⟩⟩ (fun v=>v=Cp.enc y)) (by kernel_rfl) (h _ rfl)
theorem Ww(k:Int)(s:ByteArray)(h:s=⟨⟨[]⟩⟩∨∃b,s=⟨⟨[b]⟩⟩)(w:World)(hw:GW w):Calls Zm 116 ((Aa AU).enc (k,s)).toArray w fun e w'=>e=.returned (Cp.enc (IW 0 0 1))/\Below w.heap.size w w':=by
 rcases h with rfl |⟨b,rfl⟩
 ·refine Bj (d:=Aa AU) (k:=Cp) (x:=(k,⟨⟨[]⟩⟩)) (y:=IW 0 0 1) (tbl:=[ZC,ZD,ZE,ZF]) (dirty:=fun _=>[]) (n:=4) xmixA Tryz.func116 rfl (fun Post hP=>?_) w hw
  exact Eq.mpr (β:=PJ Cp Post (IW 0 0 1)) (by kernel_rfl) hP
 ·refine Bj (d:=Aa AU) (k:=Cp) (x:=(k,⟨⟨[b]⟩⟩)) (y:=IW 0 0 1) (tbl:=[ZC,ZD,ZE,ZF]) (dirty:=fun _=>[]) (n:=4) xmixA Tryz.func116 rfl (fun Post hP=>?_) w hw
  exact Eq.mpr (β:=PJ Cp Post (IW 0 0 1)) (by kernel_rfl) hP
theorem Ahi(k:Int)(s:ByteArray)(w:World)(hw:GW w):
    Calls Zm 116 #[.agg #[.int .i64 k,.string s]] w fun e w'=>e=.returned (.tuple #[.agg #[.int .i64 (Cs k s).1.1,.int .i64 (Cs k s).1.2.1,.int .i64 (Cs k s).1.2.2.1,.int .i64 (Cs k s).1.2.2.2.1,.int .i64 (Cs k s).1.2.2.2.2.1,.int .i64 (Cs k s).1.2.2.2.2.2.1,.int .i64 (Cs k s).1.2.2.2.2.2.2.1,.int .i64 (Cs k s).1.2.2.2.2.2.2.2.1,.int .i64 (Cs k s).1.2.2.2.2.2.2.2.2],.int .i64 (Cs k s).2])/\Below w.heap.size w w':=by
 obtain⟨⟨l⟩⟩:=s
 match l with
 |[]=>exact Ww k _ (.inl rfl) w hw
 |[b]=>exact Ww k _ (.inr ⟨b,rfl⟩) w hw
 | b0::b1::rest=>
  refine AG4 k b0 b1 rest (((Cs k ⟨⟨b0::b1::rest⟩⟩).1.1,(Cs k ⟨⟨b0::b1::rest⟩⟩).1.2.1,(Cs k ⟨⟨b0::b1::rest⟩⟩).1.2.2.1,(Cs k ⟨⟨b0::b1::rest⟩⟩).1.2.2.2.1,(Cs k ⟨⟨b0::b1::rest⟩⟩).1.2.2.2.2.1,(Cs k ⟨⟨b0::b1::rest⟩⟩).1.2.2.2.2.2.1,(Cs k ⟨⟨b0::b1::rest⟩⟩).1.2.2.2.2.2.2.1,(Cs k ⟨⟨b0::b1::rest⟩⟩).1.2.2.2.2.2.2.2.1,(Cs k ⟨⟨b0::b1::rest⟩⟩).1.2.2.2.2.2.2.2.2,()),(Cs k ⟨⟨b0::b1::rest⟩⟩).2) w hw (fun Post hP=>?_)
  have e0:bI b0=(bt ⟨⟨b0::b1::rest⟩⟩ 0:Nat):=Wv b0
  have e1:bI b1=(bt ⟨⟨b0::b1::rest⟩⟩ 1:Nat):=Wv b1
  have hs:2<=(⟨⟨b0::b1::rest⟩⟩:ByteArray).size:=by show 2<=rest.length+1+1;omega
  generalize (⟨⟨b0::b1::rest⟩⟩:ByteArray)=s at *
  have hE:elT (s.extract 2 s.size)=(onumS s 2,onumS s 10,onumS s 18,onumS s 26,onumS s 34,onumS s 42,onumS s 50,()):=by
   unfold elT
   simp only[Ro]
   rfl
  rw[e0,e1]
  unfold oxB
  unfold Cs at hP
  rw[decide_eq_false (show ¬(s.size:Int)<2 by omega)]
  rw[if_neg (show ¬s.size<2 by omega)]at hP
  by_cases hk:k=16
  ·rw[decide_eq_true hk]
   rw[if_neg (show ¬k≠16 by omega)]at hP
   by_cases hz:D4 (bt s 1:Nat)=0
   ·rw[decide_eq_true hz];rw[if_pos hz]at hP;exact hP
   rw[decide_eq_false hz];rw[if_neg hz]at hP
   by_cases hl:(s.size:Int)=D4 (bt s 1:Nat)
   ·rw[decide_eq_true hl];rw[if_neg (fun z=>z hl)]at hP
    by_cases h3:((bt s 1:Nat):Int)=3
    ·rw[decide_eq_true h3];rw[if_neg (fun z=>z h3)]at hP
     have hs58:s.size=58:=by rw[h3]at hl;have:D4 3=58:=rfl;omega
     show oxE _ _ s Post
     unfold oxE
     have e2:((2:Int).toNat)=2:=rfl
     rw[e2,hE,h3]
     refine⟨⟨by omega,by omega⟩,by rw[Zq];omega,?_⟩
     show AE (!De (Ahh s)) (PJ Cp Post (IW (bt s 0:Nat) 0 3)) (PJ Cp Post (((bt s 0:Nat),3,onumS s 2,onumS s 10,onumS s 18,onumS s 26,onumS s 34,onumS s 42,onumS s 50,()),0))
     cases hr:De (Ahh s)
     ·rw[hr]at hP;exact hP
     ·rw[hr]at hP;exact hP
    ·rw[decide_eq_false h3];rw[if_pos h3]at hP;exact hP
   ·rw[decide_eq_false hl];rw[if_pos hl]at hP;exact hP
  ·rw[decide_eq_false hk];rw[if_pos hk]at hP;exact hP
def ZG(p:Tup 6):Pl:=⟨p.1,p.2.1,p.2.2.1,p.2.2.2.1,p.2.2.2.2.1,p.2.2.2.2.2.1⟩
def plT(p:Pl):Tup 6:=(p.mode,p.calm,p.good,p.miss,p.lost,p.faults,())
def Ahj(s:See):Sn:=⟨s.1,s.2.1,s.2.2.1,s.2.2.2.1,s.2.2.2.2.1,s.2.2.2.2.2.1,s.2.2.2.2.2.2.1,s.2.2.2.2.2.2.2⟩
def Ir(x:Tup 6×See):Tup 6:=plT (nextW (ZG x.1) (Ahj x.2))
theorem Aqv:Ah Zm 9 (Aa cI) cRight cB:=fun x w _=>B4 x w
def KQ(x:Tup 4×Tup 3):Tup 4×Tup 3:=Pk (WI (qT x.1) (mT x.2))
theorem Ahk:Ah Zm 55 (Ac (cT 4) (Aa (cT 3))) KQ (Au (cT 4) (cT 3)):=Ze
def tlOf(x:Tel):Tl:=⟨x.1,x.2.1,x.2.2.1,x.2.2.2.1,x.2.2.2.2.1,x.2.2.2.2.2.1,x.2.2.2.2.2.2.1,x.2.2.2.2.2.2.2.1,x.2.2.2.2.2.2.2.2.1,x.2.2.2.2.2.2.2.2.2.1,x.2.2.2.2.2.2.2.2.2.2.1,x.2.2.2.2.2.2.2.2.2.2.2.1,x.2.2.2.2.2.2.2.2.2.2.2.2.1⟩
def Is(x:Tel):Fra×Bool:=(tlW (tlOf x),EA (tlOf x))
theorem Aqw:Ah Zm 57 (Aa (cT 13)) Is (Au AU cB):=fun x w hw=>Ayh (tlOf x) w hw
def KR(x:Fra):ByteArray×Bool:=if 0<=x.1/\x.1<=255/\x.2.size<=64 then(⟨(CH (UInt8.ofNat x.1.toNat) x.2.data.toList).toArray⟩,true)else(noBytes,false)
theorem Ayo:Ah Zm 58 (Aa AU) KR (Au cS cB):=fun x w _=>by
 by_cases h:0<=x.1/\x.1<=255/\x.2.size<=64
 ·have e:((UInt8.ofNat x.1.toNat).toNat:Int)=x.1:=by
   rw[ofNat_toNat (by omega)]
   omega
  have h1:=Vt (UInt8.ofNat x.1.toNat) x.2 w h.2.2
  rw[e]at h1
  refine Calls.mono h1 ?_
  rintro _ w' ⟨s,rfl,hs,hb⟩
  refine⟨?_,hb⟩
  have hs:s=⟨(CH (UInt8.ofNat x.1.toNat) x.2.data.toList).toArray⟩:=by
   rw[<-hs]
  unfold KR
  rw[if_pos h,hs]
  rfl
 ·refine Calls.mono (Aat x.1 x.2 w h) ?_
  rintro _ w' ⟨rfl,hb⟩
  refine⟨?_,hb⟩
  unfold KR
  rw[if_neg h]
  rfl
def Md(x:Tup 5×Int):Bool:=if x.1.2.1<=x.2 then decide (IntKind.u64.wrap (IntKind.u64.wrap x.2-IntKind.u64.wrap x.1.2.1)<=500)else false
theorem fresh_ok:Ah Zm 115 (Ac (cT 5) (Aa cI)) Md cB:=Av (tbl:=[]) (dirty:=fun _=>[]) (n:=4) xmixA Tryz.func115 rfl (fun x Post=>by
    refine Eq.trans (b:=?m) ?x (Eq.symm ?y)
    case y=>unfold Md;simp only[<-AX (K:=PJ cB Post)];exact rfl
    case x=>kernel_rfl)
def oreadT(x:Fra):Tup 9×Int:=(((Cs x.1 x.2).1.1,(Cs x.1 x.2).1.2.1,(Cs x.1 x.2).1.2.2.1,(Cs x.1 x.2).1.2.2.2.1,(Cs x.1 x.2).1.2.2.2.2.1,(Cs x.1 x.2).1.2.2.2.2.2.1,(Cs x.1 x.2).1.2.2.2.2.2.2.1,(Cs x.1 x.2).1.2.2.2.2.2.2.2.1,(Cs x.1 x.2).1.2.2.2.2.2.2.2.2,()),(Cs x.1 x.2).2)
theorem Aqx:Ah Zm 116 (Aa AU) oreadT (Au (cT 9) cI):=fun x w hw=>Ahi x.1 x.2 w hw
structure FsIs(F:Fs):Prop where
 ok:FsOk F
 right:F.right=cRight
 next:F.next=Ir
 counts:F.counts=KQ
 write:F.write=Is
 wrap:F.wrap=KR
 read:F.read=BI
 fresh:F.fresh=Md
 oread:F.oread=oreadT
def stepF(F:Fs)(c:Cra)(t:Int)(b:ByteArray):Cra×ByteArray:=Ot F (fun _=>takeW F c t b) c t b
theorem Wx{F:Fs}(h:FsOk F)(c:Cra)(t:Int)(b:ByteArray)(hs:c.2.2.1.size+b.size<=5000)(w:World)(hw:GW w):
    Calls Zm 7 #[cCra.enc c,.int .i64 t,.string b] w fun e w'=>e=.returned (.tuple #[cCra.enc (stepF F c t b).1,.string (stepF F c t b).2])/\Below w.heap.size w w':=
 Avi F h (c,t,b) (takeW F c t b) (fun w hw=>Amh F h (c,t,b) hs w hw) w hw
theorem Ahl:Ah Zm 104 (Aa cI) (fun x=>Cw x true) cI:=Av (tbl:=[]) (dirty:=fun _=>[]) (n:=4) Pf Tryz.func104 rfl (fun x Post=>by
    refine Eq.trans (b:=?m) ?x (Eq.symm ?y)
    case y=>unfold Cw;simp only[if_true,<-AX (K:=PJ cI Post)];exact rfl
    case x=>kernel_rfl)
def Wy:Ct Zm:=Aq Zm 104 (Aa cI) (fun x=>Cw x true) cI (Ae Tryz.func104 (by kernel_rfl) (by kernel_rfl)) Ahl
theorem AG5:Ah Zm 103 (Ac cI (Aa cI)) (fun x=>(⟨x.1,0,0,0,0,x.2⟩:Pl)) cPl:=Av (tbl:=[]) (dirty:=fun _=>[]) (n:=4) Pf Tryz.func103 rfl (fun x Post=>by kernel_rfl)
def ABs:Ct Zm:=Aq Zm 103 (Ac cI (Aa cI)) (fun x=>(⟨x.1,0,0,0,0,x.2⟩:Pl)) cPl (Ae Tryz.func103 (by kernel_rfl) (by kernel_rfl)) AG5
def ABt(p:Pl)(s:Sn):Pl:=bif s.gap then Dd 1 p else MK p s
theorem Aqy:Ah Zm 105 (Ac cPl (Aa cSn)) (fun x=>ABt x.1 x.2) cPl:=Av (tbl:=[Wy,ABs]) (dirty:=fun _=>[]) (n:=4) Pf Tryz.func105 rfl (fun x Post=>by
    obtain⟨⟨M,c,g,i,l,f⟩,gap,gyro,slow,pair,lit,bad,pass,o⟩:=x
    cases gap
    case true=>kernel_rfl
    cases bad
    case true=>kernel_rfl
    cases gyro
    · cases pair
      ·exact Eq.trans (b:=AE (decide (3<=Cw l true)) (PJ cPl Post (Dd 2 ⟨M,c,g,i,l,f⟩)) (PJ cPl Post ⟨M,c,g,i,Cw l true,f⟩)) (by kernel_rfl) (AX (K:=PJ cPl Post))
      cases lit
      ·exact Eq.trans (b:=AE (decide (3<=Cw l true)) (PJ cPl Post (Dd 2 ⟨M,c,g,i,l,f⟩)) (PJ cPl Post ⟨M,c,g,i,Cw l true,f⟩)) (by kernel_rfl) (AX (K:=PJ cPl Post))
      cases pass
      ·exact Eq.trans (b:=AE (decide (3<=Cw l true)) (PJ cPl Post (Dd 2 ⟨M,c,g,i,l,f⟩)) (AE (decide (5<=Cw i true)) (PJ cPl Post (Dd 8 ⟨M,c,g,i,l,f⟩)) (PJ cPl Post ⟨M,c,g,Cw i true,Cw l true,f⟩))) (by kernel_rfl) (by rw[AX (K:=PJ cPl Post),AX (K:=PJ cPl Post)];rfl)
      ·exact Eq.trans (b:=AE (decide (3<=Cw l true)) (PJ cPl Post (Dd 2 ⟨M,c,g,i,l,f⟩)) (PJ cPl Post ⟨M,c,g,0,Cw l true,f⟩)) (by kernel_rfl) (AX (K:=PJ cPl Post))
    · cases pair
      ·kernel_rfl
      cases lit
      ·kernel_rfl
      cases pass
      ·exact Eq.trans (b:=AE (decide (5<=Cw i true)) (PJ cPl Post (Dd 8 ⟨M,c,g,i,l,f⟩)) (PJ cPl Post ⟨M,c,g,Cw i true,0,f⟩)) (by kernel_rfl) (AX (K:=PJ cPl Post))
      ·kernel_rfl)
def Ayp:Ct Zm:=Aq Zm 105 (Ac cPl (Aa cSn)) (fun x=>ABt x.1 x.2) cPl (Ae Tryz.func105 (by kernel_rfl) (by kernel_rfl)) Aqy
theorem Aqz:Ah Zm 29 (Ac cPl (Aa cSn)) (fun x=>nextW x.1 x.2) cPl:=Av (tbl:=[Wy,ABs,Ayp]) (dirty:=fun _=>[]) (n:=4) Pf Tryz.func29 rfl (fun x Post=>by
    obtain⟨⟨M,c,g,i,l,f⟩,gap,gyro,slow,pair,lit,bad,pass,o⟩:=x
    refine Eq.trans (b:=AE (decide (o=1)) (PJ cPl Post (Za 3 ⟨M,c,g,i,l,f⟩)) (PJ cPl Post (Pd ⟨M,c,g,i,l,f⟩ ⟨gap,gyro,slow,pair,lit,bad,pass,o⟩))) ?x Ja
    rcases M with n |n
    · rcases n with _ |_ |_ |_ |n
      · cases gyro
        ·show _=_;kernel_rfl
        cases slow
        ·show _=_;kernel_rfl
        · refine Eq.trans (b:=AE (decide (o=1)) (PJ cPl Post (Za 3 ⟨0,c,g,i,l,f⟩)) (AE (decide (3<=Cw c true)) (PJ cPl Post (Za 1 ⟨0,c,g,i,l,f⟩)) (PJ cPl Post ⟨0,Cw c true,g,i,l,f⟩))) ?z0 ?w0
          case z0=>show _=_;kernel_rfl
          case w0=>rw[AX (K:=PJ cPl Post)];rfl
      · cases gap
        case true=>show _=_;kernel_rfl
        cases gyro
        ·show _=_;kernel_rfl
        cases slow
        ·show _=_;kernel_rfl
        cases pair
        ·show _=_;kernel_rfl
        cases lit
        ·show _=_;kernel_rfl
        · refine Eq.trans (b:=AE (decide (o=1)) (PJ cPl Post (Za 3 ⟨1,c,g,i,l,f⟩)) (AE (decide (2<=Cw g true)) (PJ cPl Post (Za 2 ⟨1,c,g,i,l,f⟩)) (PJ cPl Post ⟨1,c,Cw g true,i,l,f⟩))) ?z1 ?w1
          case z1=>show _=_;kernel_rfl
          case w1=>rw[AX (K:=PJ cPl Post)];rfl
      ·show _=_;kernel_rfl
      · refine Eq.trans (b:=AE (decide (o=1)) (PJ cPl Post (Za 3 ⟨3,c,g,i,l,f⟩)) (AE (decide (o=2)) (PJ cPl Post ⟨0,0,0,0,0,0⟩) (PJ cPl Post ⟨3,c,g,i,l,f⟩))) ?z ?w
        case z=>show _=_;kernel_rfl
        case w=>rw[Ja (K:=PJ cPl Post)];rfl
      ·show _=_;kernel_rfl
    ·show _=_;kernel_rfl)
structure EB(F:Fs):Prop where
 bad:∀(p:Tup 6) (s:See) (b:Bool),p.1=2->s.1=false->s.2.2.2.2.2.1=true->F.next (p,FD s b)=F.next (p,s)/\(F.next (p,s)).1≠2
 pair:∀(p:Tup 6) (s:See),(F.next (p,s)).1=2->p.1≠2->s.2.2.2.1=true
section
variable {F D:Fs}
theorem Ayq(S:Ft F D)(N:EB F)(c:Cra)(g1 g2:Tup 43)(s:See)(b:Bool)(x:Hea)(y:Sky)(t:Int)(sd:Tup 6)(hm:c.2.2.2.1.1=2)(hg:s.1=false)(hb:s.2.2.2.2.2.1=true)
    (hw:Ge F (Ib (setGue c g1) t (planW F (setGue c g1) s x y).1 (planW F (setGue c g1) s x y).2)):e50 D (setGue c g2) t sd (Bm x) (FD s b)=IT F (setGue c g1) s x y t:=by
 obtain⟨e1,e2⟩:=N.bad c.2.2.2.1 s b hm hg hb
 unfold IT e50 e51
 unfold planW at hw ⊢
 rw[S.next]
 change (if (F.next (c.2.2.2.1,FD s b)).1=2 then _ else e58 D (Cv (setGue c g2) (F.next (c.2.2.2.1,FD s b))) t)=_
 rw[e1,if_neg e2]
 rw[show(!decide ((F.next ((setGue c g1).2.2.2.1,s)).1=2))=true by rw[decide_eq_false (show ¬(F.next ((setGue c g1).2.2.2.1,s)).1=2 from e2)];rfl]at hw ⊢
 exact XZ S (Cv (setGue c g2) (F.next (c.2.2.2.1,s))) t e2 hw
theorem Nj(S:Ft F D)(N:EB F)(c:Cra)(e:See)(x:Hea)(y:Sky)(t:Int)(sd:Tup 6)(gD gF:Tup 43)(fl pD pF:Bool)(hm:c.2.2.2.1.1=2)(hg:e.1=false)(h:fl=false->gD=gF/\pD=pF)
    (hw:Ge F (IT F (setGue c (LB F e gF fl pF).1) (LB F e gF fl pF).2 x y t).1):XY D c t sd (Bm x) (FD e pD) gD fl=IT F (setGue c (LB F e gF fl pF).1) (LB F e gF fl pF).2 x y t:=by
 unfold XY
 cases fl
 ·obtain⟨rfl,rfl⟩:=h rfl
  rw[S.spread.flag]
  unfold LB at hw ⊢
  cases e1:(F.spread false gD).2
  ·rw[e1]at hw
   rw[S.spread.val _ e1]
   exact M9 S (setGue c gD) _ x y t sd (fun _ h=>absurd hm h) hw
  ·rw[e1]at hw
   exact M9 S (setGue c gD) _ x y t sd (fun _ h=>absurd hm h) hw
 ·rw[(S.spread.bad gD).2]
  unfold LB at hw ⊢
  rw[(S.spread.bad gF).1]at hw ⊢
  exact Ayq S N c gF gD (Ow (FD e pF) true) pD x y t sd hm hg rfl hw
theorem Ac0(S:Ft F D)(N:EB F)(c:Cra)(e:See)(x:Hea)(y:Sky)(t:Int)(sd:Tup 6)(rD rF:Tup 43×Bool)(hm:c.2.2.2.1.1=2)(hg:e.1=false)(hs:e.2.2.2.1=true->sd=y.2.2)(hf:rD.2=rF.2)(hv:rF.2=false->rD.1=rF.1)
    (hw:Ge F (IT F (setGue c (Oh F e x y rF).1) (Oh F e x y rF).2 x y t).1):Ae6 D c t sd (Bm x) e rD=IT F (setGue c (Oh F e x y rF).1) (Oh F e x y rF).2 x y t:=by
 obtain⟨gD,fD⟩:=rD
 obtain⟨gF,fl⟩:=rF
 dsimp only at hf hv
 subst hf
 unfold Ae6
 unfold Oh at hw ⊢
 dsimp only at hw ⊢
 cases e1:e.2.2.2.1
 ·rw[e1]at hw
  exact Nj S N c e x y t sd gD gF fD e.2.2.2.2.2.2.1 _ hm hg (fun h=>⟨hv h,rfl⟩) hw
 ·rw[e1]at hw
  cases e2:e.2.2.2.2.1
  ·rw[e2]at hw
   exact Nj S N c e x y t sd gD gF fD e.2.2.2.2.2.2.1 _ hm hg (fun h=>⟨hv h,rfl⟩) hw
  ·rw[e2]at hw
   have hsd:=hs e1
   subst hsd
   cases fD
   ·have hv:=hv rfl
    subst hv
    have k:=S.meet.flag (gD,y.2.2,Bm x)
    have kv:=S.meet.val (gD,y.2.2,Bm x)
    simp only[if_true]
    rw[k]
    exact Nj S N c e x y t y.2.2 _ _ _ _ _ hm hg (fun h=>by rw[kv h];exact⟨rfl,rfl⟩) hw
   ·have k1:=(S.meet.bad (gD,y.2.2,Bm x)).2
    have k2:=(S.meet.bad (gF,y.2.2,Bm x)).1
    simp only[if_true]at hw ⊢
    rw[k2]at hw ⊢
    rw[k1]
    exact Nj S N c e x y t y.2.2 _ _ true _ _ hm hg (fun h=>by cases h) hw
end
theorem Ahm{p:Pl}{s:Sn}(b:Bool)(hm:p.mode=2)(hg:s.gap=false)(hb:s.bad=true):nextW p {s with pass:=b}=nextW p s/\(nextW p s).mode≠2:=by
 unfold nextW Pd MK
 dsimp only
 rw[hm,hg,hb]
 by_cases h:s.order=1
 ·rw[if_pos h,if_pos h]
  exact⟨rfl,by show(3:Int)≠2;decide⟩
 ·rw[if_neg h,if_neg h]
  exact⟨rfl,by show(1:Int)≠2;decide⟩
theorem ZH{p:Pl}{s:Sn}(h:(nextW p s).mode=2)(hm:p.mode≠2):s.pair=true:=by
 unfold nextW Pd at h
 split at h
 ·exact absurd h (by show(3:Int)≠2;decide)
 split at h
 ·unfold Rh at h
  split at h
  ·exact absurd h (by show(0:Int)≠2;decide)
  ·exact absurd h hm
 split at h
 ·unfold Zb at h
  split at h
  ·exact absurd h (by show(1:Int)≠2;decide)
  ·exact absurd h hm
 split at h
 ·cases hg:s.gap
  ·rw[hg]at h
   simp only[cond_false]at h
   unfold TA at h
   cases hb:s.gyro&& !s.slow
   ·rw[hb]at h
    simp only[cond_false]at h
    cases hp:s.pair
    ·rw[hp]at h
     simp only[Bool.and_false,Bool.false_and,TB]at h
     rw[if_neg (by decide)]at h
     exact absurd h hm
    ·rfl
   ·rw[hb]at h
    exact absurd h (by show(0:Int)≠2;decide)
  ·rw[hg]at h
   exact absurd h (by show(1:Int)≠2;decide)
 exact absurd h (by show(3:Int)≠2;decide)
def plA(p:Tup 6):Pl:=⟨p.1,p.2.1,p.2.2.1,p.2.2.2.1,p.2.2.2.2.1,p.2.2.2.2.2.1⟩
def plB(p:Pl):Tup 6:=(p.mode,p.calm,p.good,p.miss,p.lost,p.faults,())
def snA(s:See):Sn:=⟨s.1,s.2.1,s.2.2.1,s.2.2.2.1,s.2.2.2.2.1,s.2.2.2.2.2.1,s.2.2.2.2.2.2.1,s.2.2.2.2.2.2.2⟩
def Aq0(x:Tup 6×See):Tup 6:=plB (nextW (plA x.1) (snA x.2))
theorem Ahn:Ah Zm 53 (Ac (cT 6) (Aa cSee)) Aq0 (cT 6)/\Ah Zm 29 (Ac (cT 6) (Aa cSee)) Aq0 (cT 6):=
 ⟨fun x w hw=>Ax7 (plA x.1,snA x.2) w hw,fun x w hw=>Aqz (plA x.1,snA x.2) w hw⟩
theorem Aq1{F:Fs}(h:F.next=Aq0):EB F:=by
 refine⟨fun p s b hm hg hb=>?_,fun p s hn hm=>?_⟩
 ·obtain⟨e,k⟩:=Ahm (p:=plA p) (s:=snA s) b hm hg hb
  rw[h]
  exact⟨congrArg plB e,k⟩
 ·rw[h]at hn
  exact ZH (p:=plA p) (s:=snA s) hn hm
def fresA(x:Tup 5×Int):Bool:=if x.1.2.1>x.2 then false else decide (IntKind.u64.wrap (IntKind.u64.wrap x.2-IntKind.u64.wrap x.1.2.1)<=500)
def Ac1(x:Tup 5×Int):Bool:=if x.1.2.1<=x.2 then decide (IntKind.u64.wrap (IntKind.u64.wrap x.2-IntKind.u64.wrap x.1.2.1)<=500)else false
theorem Ac2:Ac1=fresA:=by
 funext x
 unfold fresA Ac1
 by_cases h:x.1.2.1<=x.2
 ·rw[if_pos h,if_neg (by omega)]
 ·rw[if_neg h,if_pos (by omega)]
theorem Aq2:Ah Zm 62 (Ac (cT 5) (Aa cI)) fresA cB:=Av (tbl:=[]) (dirty:=fun _=>[]) (n:=4) xmixA Tryz.func62 rfl (fun x Post=>by
    refine Eq.trans (b:=?m) ?x (Eq.symm ?y)
    case y=>unfold fresA;simp only[<-AB2 (K:=PJ cB Post)];exact rfl
    case x=>kernel_rfl)
theorem Aq3:Ah Zm 115 (Ac (cT 5) (Aa cI)) Ac1 cB:=Av (tbl:=[]) (dirty:=fun _=>[]) (n:=4) xmixA Tryz.func115 rfl (fun x Post=>by
    refine Eq.trans (b:=?m) ?x (Eq.symm ?y)
    case y=>unfold Ac1;simp only[<-AX (K:=PJ cB Post)];exact rfl
    case x=>kernel_rfl)
theorem ZI:Ah Zm 115 (Ac (cT 5) (Aa cI)) fresA cB/\Ah Zm 62 (Ac (cT 5) (Aa cI)) fresA cB:=⟨Ac2▸Aq3,Aq2⟩
theorem KS{n:Nat}(h:n<256):(UInt8.ofNat n).toNat=n:=by
 rw[UInt8.toNat_ofNat']
 omega
def My(x:Fra):ByteArray×Bool:=if 0<=x.1/\x.1<=255/\x.2.size<=64 then(⟨(CH (UInt8.ofNat x.1.toNat) x.2.data.toList).toArray⟩,true)else(noBytes,false)
theorem Aq4:Ah Zm 58 (Aa AU) My (Au cS cB):=fun x w _=>by
 by_cases h:0<=x.1/\x.1<=255/\x.2.size<=64
 ·have e:((UInt8.ofNat x.1.toNat).toNat:Int)=x.1:=by
   rw[KS (by omega)]
   omega
  have h1:=Vt (UInt8.ofNat x.1.toNat) x.2 w h.2.2
  rw[e]at h1
  refine Calls.mono h1 ?_
  rintro _ w' ⟨s,rfl,hs,hb⟩
  refine⟨?_,hb⟩
  have hs:s=⟨(CH (UInt8.ofNat x.1.toNat) x.2.data.toList).toArray⟩:=by
   rw[<-hs]
  unfold My
  rw[if_pos h,hs]
  rfl
 ·refine Calls.mono (Aat x.1 x.2 w h) ?_
  rintro _ w' ⟨rfl,hb⟩
  refine⟨?_,hb⟩
  unfold My
  rw[if_neg h]
  rfl
theorem Aho:Ah Zm 35 (Aa AU) My (Au cS cB):=fun x w _=>by
 by_cases h:0<=x.1/\x.1<=255/\x.2.size<=64
 ·have e:((UInt8.ofNat x.1.toNat).toNat:Int)=x.1:=by
   rw[KS (by omega)]
   omega
  have h1:=QR (UInt8.ofNat x.1.toNat) x.2 w h.2.2
  rw[e]at h1
  refine Calls.mono h1 ?_
  rintro _ w' ⟨s,rfl,hs,hb⟩
  refine⟨?_,hb⟩
  have hs:s=⟨(CH (UInt8.ofNat x.1.toNat) x.2.data.toList).toArray⟩:=by
   rw[<-hs]
  unfold My
  rw[if_pos h,hs]
  rfl
 ·refine Calls.mono (Vu x.1 x.2 w h) ?_
  rintro _ w' ⟨rfl,hb⟩
  refine⟨?_,hb⟩
  unfold My
  rw[if_neg h]
  rfl
theorem Ahp:Ah Zm 58 (Aa AU) My (Au cS cB)/\Ah Zm 35 (Aa AU) My (Au cS cB):=⟨Aq4,Aho⟩
def WJ(s:ByteArray)(i:Int):Prop:=0<=i/\i<100/\i.toNat+1<s.size
theorem AMn{n:Nat}{f:Nat->UInt8}{i:Nat}(h:i<n):bt (bsOf n f) i=(f i).toNat:=by
 unfold bt bsOf
 simp[h]
def PZ(f:Nat->UInt8):Nat->Int
 |0=>0
 |k+1=>IntKind.i64.wrap (IntKind.i64.wrap (PZ f k*256)+bI (f k))
theorem Ac3{n:Nat}{f:Nat->UInt8}(hn:6<=n):∀k,k<=6->PZ f k=(tickK (bsOf n f) k:Nat)
 |0,_=>rfl
 |k+1,hk=>by
  have ih:=Ac3 (f:=f) hn k (by omega)
  have hl:=Aqj (bsOf n f) (k:=k) (by omega)
  have hb:bI (f k)=(bt (bsOf n f) k:Nat):=by rw[Wv,AMn (by omega)]
  have hb2:=Fg (bsOf n f) k
  have e:tickK (bsOf n f) (k+1)=tickK (bsOf n f) k*256+bt (bsOf n f) k:=rfl
  show IntKind.i64.wrap (IntKind.i64.wrap (PZ f k*256)+bI (f k))=_
  rw[ih,hb,e,IntKind.wrap_i64,IntKind.wrap_i64]
  omega
def APq:Ct Zm:=Ak Zm 79 (Ac cI (Ac cI (Aa cI))) (fun bad x=>Ar bad x.1 x.2.1 x.2.2) cI (Ae Tryz.func79 (by kernel_rfl) (by kernel_rfl)) (fun b bad x w _ _ hw=>Lv b bad x.1 x.2.1 x.2.2 w hw)
def APr:Ct Zm:=Ak Zm 70 (Ac cI (Aa cI)) (fun bad x=>AA bad x.1 x.2) cI (Ae Tryz.func70 (by kernel_rfl) (by kernel_rfl)) (fun b bad x w _ _ hw=>Oa b bad x.1 x.2 w hw)
def APs:Ct Zm:=Ak Zm 65 (Ac cI (Ac cI (Aa cI))) (fun bad x=>Af bad x.1 x.2.1 x.2.2) cI (Ae Tryz.func65 (by kernel_rfl) (by kernel_rfl)) (fun b bad x w _ _ hw=>F7 b bad x.1 x.2.1 x.2.2 w hw)
def APt:Ct Zm:=Ak Zm 68 Mi (fun _ _=>((),true)) cU (Ae Tryz.func68 (by kernel_rfl) (by kernel_rfl)) (fun b bad _ w _ _ hw=>Lw b bad w hw)
theorem Ayr:Ai Zm 192 (Aa cV3) (fun bad x=>Ew bad x) cV3:=AZ (tbl:=[]) (dirty:=fun _=>[]) (n:=8) xmixA Tryz.func192 rfl (fun bad x Post=>by cases bad<;>kernel_rfl)
def APu:Ct Zm:=Ak Zm 192 (Aa cV3) (fun bad x=>Ew bad x) cV3 (Ae Tryz.func192 (by kernel_rfl) (by kernel_rfl)) Ayr
theorem Ays:Ai Zm 23 (Aa cV3) (fun bad x=>S6 bad x) cI:=AZ (tbl:=[APq]) (dirty:=fun _=>[]) (n:=8) xmixA Tryz.func23 rfl (fun bad x Post=>by kernel_rfl)
def AMo:Ct Zm:=Ak Zm 23 (Aa cV3) (fun bad x=>S6 bad x) cI (Ae Tryz.func23 (by kernel_rfl) (by kernel_rfl)) Ays
theorem Ayt:Ai Zm 97 (Aa cV3) (fun bad x=>FL bad x) cV3:=AZ (tbl:=[APr,APt,APu,AMo]) (dirty:=fun _=>[]) (n:=8) xmixA Tryz.func97 rfl (fun bad x Post=>by
    refine Eq.trans (b:=?m) ?x (Eq.symm ?y)
    case y=>unfold FL;simp only[<-Hj (K:=PK cV3 Post)];exact rfl
    case x=>kernel_rfl)
def APv:Ct Zm:=Ak Zm 97 (Aa cV3) (fun bad x=>FL bad x) cV3 (Ae Tryz.func97 (by kernel_rfl) (by kernel_rfl)) Ayt
def APw:Ct Zm:=FO Zm 175 (Ac cS (Aa cI)) (fun x K=>WJ x.1 x.2/\K (.int .i64 (sg (cnt x.1 x.2.toNat)))) (fun _ _ _ hK hs=>⟨hs.1,hK _ hs.2⟩) (Ae Tryz.func175 (by kernel_rfl) (by kernel_rfl))
 (fun x w _ K hs=>Calls.mono (Wn x.1 x.2 x.2.toNat w (by have:=hs.1.1;omega) hs.1.2.2 (by have:=hs.1.2.1;omega)) (by rintro e w' ⟨rfl,hb⟩;exact⟨_,rfl,rfl,hs.2,hb⟩))
def APx:Ct Zm:=FO Zm 176 (Ac cS (Aa cI)) (fun x K=>WJ x.1 x.2/\K (.int .i64 (cnt x.1 x.2.toNat:Nat))) (fun _ _ _ hK hs=>⟨hs.1,hK _ hs.2⟩) (Ae Tryz.func176 (by kernel_rfl) (by kernel_rfl))
 (fun x w _ K hs=>Calls.mono (Pi x.1 x.2 x.2.toNat w (by have:=hs.1.1;omega) hs.1.2.2 (by have:=hs.1.2.1;omega)) (by rintro e w' ⟨rfl,hb⟩;exact⟨_,rfl,rfl,hs.2,hb⟩))
abbrev eTb:List (Ct Zm):=[txD,APw,APx,APs,AMo,APv]
def enO:Ov:=fun id=>match id with
 |5=>some (Zh Zm eTb (fun _=>[]) 5 35 true)
 |_=>none
theorem AMq(w:World):D5 Zm enO [] w [] [] (An Zm 61):=by
 refine CV (ns:=[(5,Cg Zm 61 5,false)]) (by kernel_rfl) ?_
 intro r hr
 rcases List.mem_cons.1 hr with rfl |hr
 ·intro R hR K Q bl vt m a w h r hK
  cases hR
  exact KO xmixA h r hK
 ·cases hr
def enX(Post:Value->Prop)(b:Bool):Prop:=Value.bool b=.bool true/\PJ EQ Post zero5
def enN(k:Int)(s:ByteArray)(Post:Value->Prop)(n:Int):Prop:=AE (decide (k<1)) (enX Post true) (AE (decide (k>3)) (enX Post true) (enX Post (!decide ((s.size:Int)=n))))
theorem Ahq(k:Int)(s:ByteArray)(h:Ez k s=false)(w:World)(hw:GW w):Calls Zm 61 ((Aa AU).enc (k,s)).toArray w fun e w'=>e=.returned (EQ.enc zero5)/\Below w.heap.size w w':=by
 refine Gc (d:=Aa AU) (k:=EQ) (x:=(k,s)) (y:=zero5) (tbl:=eTb) (dirty:=fun _=>[]) (n:=8) (ov:=enO) xmixA (by kernel_rfl) (by kernel_rfl) AMq ?_ w hw
 refine Eq.mpr (β:=AE (decide (k=2)) (enN k s (fun v=>v=EQ.enc zero5) 18) (enN k s (fun v=>v=EQ.enc zero5) 12)) (by kernel_rfl) ?_
 have key:∀n:Int,(¬k<1->¬k>3->(s.size:Int)≠n)->enN k s (fun v=>v=EQ.enc zero5) n:=by
  intro n hn
  unfold enN
  by_cases h1:k<1
  ·rw[decide_eq_true h1];exact⟨rfl,rfl⟩
  rw[decide_eq_false h1]
  by_cases h3:k>3
  ·rw[decide_eq_true h3];exact⟨rfl,rfl⟩
  rw[decide_eq_false h3]
  refine⟨?_,rfl⟩
  rw[decide_eq_false (hn h1 h3)]
  rfl
 unfold Ez at h
 simp only[Bool.or_eq_false_iff,Bool.and_eq_false_iff,decide_eq_false_iff_not]at h
 by_cases h2:k=2
 ·rw[decide_eq_true h2]
  exact key 18 (fun _ _=>by omega)
 ·rw[decide_eq_false h2]
  exact key 12 (fun _ _=>by omega)
def Ayu(s:ByteArray)(i:Int)(A C:Prop):Prop:=WJ s i/\AE (decide (sg (cnt s i.toNat)>30000)) A (AE (decide (sg (cnt s i.toNat)< -30000)) A C)
theorem TL{s:ByteArray}{i:Int}{A C:Prop}(hp:WJ s i)(h:if DW (sg (cnt s i.toNat))then C else A):Ayu s i A C:=by
 refine⟨hp,?_⟩
 unfold DW at h
 by_cases h1:sg (cnt s i.toNat)>30000
 ·rw[decide_eq_true h1];rw[if_neg (by simp;omega)]at h;exact h
 ·rw[decide_eq_false h1]
  by_cases h2:sg (cnt s i.toNat)< -30000
  ·rw[decide_eq_true h2];rw[if_neg (by simp;omega)]at h;exact h
  ·rw[decide_eq_false h2];rw[if_pos (by simp;omega)]at h;exact h
theorem TM{n:Nat}(f:Nat->UInt8)(hn:6<=n):PZ f 6=CM (bsOf n f):=Ac3 hn 6 (by decide)
theorem TN{k:Int}{s:ByteArray}{Post:Value->Prop}{C:Prop}(hf:Ez k s=true)(hP:PJ EQ Post (BI (k,s)))(h:PJ EQ Post (if DY k s 6 then((k,CM s,(EC k s 6).1,(EC k s 6).2.1,(EC k s 6).2.2,()),true)else zero5)->C):AE (!cRight (CM s)) (PJ EQ Post zero5) C:=by
 rw[Gj,Rm hf]at hP
 cases hc:cRight (CM s)
 ·rw[hc]at hP;exact hP
 ·rw[hc,Zt]at hP;exact h hP
theorem JG{n:Nat}{f:Nat->UInt8}{i:Int}(h0:0<=i)(h1:i<100)(h:i.toNat+1<n):WJ (bsOf n f) i:=⟨h0,h1,by rw[GR];exact h⟩
theorem AG6(f:Nat->UInt8)(w:World)(hw:GW w):Calls Zm 61 ((Aa AU).enc (1,bsOf 12 f)).toArray w fun e w'=>e=.returned (EQ.enc (BI (1,bsOf 12 f)))/\Below w.heap.size w w':=by
 refine Bj (d:=Aa AU) (k:=EQ) (x:=(1,bsOf 12 f)) (y:=BI (1,bsOf 12 f)) (tbl:=eTb) (dirty:=fun _=>[]) (n:=8) xmixA Tryz.func61 rfl (fun Post hP=>?_) w hw
 refine Eq.mpr (β:=AE (!cRight (PZ f 6)) (PJ EQ Post zero5) (Ayu (bsOf 12 f) 6 (PJ EQ Post zero5) (Ayu (bsOf 12 f) 8 (PJ EQ Post zero5) (Ayu (bsOf 12 f) 10 (PJ EQ Post zero5) (PJ EQ Post ((1,PZ f 6,IntKind.i64.wrap (sg (cnt (bsOf 12 f) (6:Int).toNat)*33554432),IntKind.i64.wrap (sg (cnt (bsOf 12 f) (8:Int).toNat)*33554432),IntKind.i64.wrap (sg (cnt (bsOf 12 f) (10:Int).toNat)*33554432),()),true)))))) (by kernel_rfl) ?_
 rw[TM f (show 6<=12 by decide)]
 refine TN rfl hP (fun hP=>?_)
 have t6:WJ (bsOf 12 f) 6:=JG (by decide) (by decide) (by decide)
 have t8:WJ (bsOf 12 f) 8:=JG (by decide) (by decide) (by decide)
 have t10:WJ (bsOf 12 f) 10:=JG (by decide) (by decide) (by decide)
 generalize bsOf 12 f=s at *
 have hP:PJ EQ Post (if DX (sg (cnt s 6)) (sg (cnt s 8)) (sg (cnt s 10))then((1,CM s,sg (cnt s 6)*33554432,sg (cnt s 8)*33554432,sg (cnt s 10)*33554432,()),true)else zero5):=hP
 have e:∀n:Int,DW n=true->IntKind.i64.wrap (n*33554432)=n*33554432:=fun n h=>by
  unfold DW at h
  have:=of_decide_eq_true h
  rw[IntKind.wrap_i64]
  omega
 unfold DX at hP
 refine TL t6 ?_
 show if DW (sg (cnt s 6))then _ else _
 cases g6:DW (sg (cnt s 6))
 ·rw[g6]at hP;exact hP
 refine TL t8 ?_
 show if DW (sg (cnt s 8))then _ else _
 cases g8:DW (sg (cnt s 8))
 ·rw[g6,g8]at hP;exact hP
 refine TL t10 ?_
 show if DW (sg (cnt s 10))then PJ EQ Post ((1,CM s,IntKind.i64.wrap (sg (cnt s 6)*33554432),IntKind.i64.wrap (sg (cnt s 8)*33554432),IntKind.i64.wrap (sg (cnt s 10)*33554432),()),true)else _
 cases g10:DW (sg (cnt s 10))
 ·rw[g6,g8,g10]at hP;exact hP
 rw[g6,g8,g10]at hP
 rw[e _ g6,e _ g8,e _ g10]
 exact hP
theorem AG7(f:Nat->UInt8)(w:World)(hw:GW w):Calls Zm 61 ((Aa AU).enc (3,bsOf 12 f)).toArray w fun e w'=>e=.returned (EQ.enc (BI (3,bsOf 12 f)))/\Below w.heap.size w w':=by
 refine Bj (d:=Aa AU) (k:=EQ) (x:=(3,bsOf 12 f)) (y:=BI (3,bsOf 12 f)) (tbl:=eTb) (dirty:=fun _=>[]) (n:=8) xmixA Tryz.func61 rfl (fun Post hP=>?_) w hw
 refine Eq.mpr (β:=AE (!cRight (PZ f 6)) (PJ EQ Post zero5) (WJ (bsOf 12 f) 6/\WJ (bsOf 12 f) 8/\WJ (bsOf 12 f) 10/\AE (decide (magN (sg (cnt (bsOf 12 f) 6)) (sg (cnt (bsOf 12 f) 8)) (sg (cnt (bsOf 12 f) 10))<1099511627776)) (PJ EQ Post zero5) (AE (decide (magN (sg (cnt (bsOf 12 f) 6)) (sg (cnt (bsOf 12 f) 8)) (sg (cnt (bsOf 12 f) 10))>131941395333120)) (PJ EQ Post zero5) (PJ EQ Post ((3,PZ f 6,(KN (sg (cnt (bsOf 12 f) 6)) (sg (cnt (bsOf 12 f) 8)) (sg (cnt (bsOf 12 f) 10))).1.1,(KN (sg (cnt (bsOf 12 f) 6)) (sg (cnt (bsOf 12 f) 8)) (sg (cnt (bsOf 12 f) 10))).1.2.1,(KN (sg (cnt (bsOf 12 f) 6)) (sg (cnt (bsOf 12 f) 8)) (sg (cnt (bsOf 12 f) 10))).1.2.2,()),true))))) (by kernel_rfl) ?_
 rw[TM f (show 6<=12 by decide)]
 refine TN rfl hP (fun hP=>⟨JG (by decide) (by decide) (by decide),JG (by decide) (by decide) (by decide),JG (by decide) (by decide) (by decide),?_⟩)
 generalize bsOf 12 f=s at *
 have hP:PJ EQ Post (if Ri (sg (cnt s 6)) (sg (cnt s 8)) (sg (cnt s 10))then((3,CM s,(KN (sg (cnt s 6)) (sg (cnt s 8)) (sg (cnt s 10))).1.1,(KN (sg (cnt s 6)) (sg (cnt s 8)) (sg (cnt s 10))).1.2.1,(KN (sg (cnt s 6)) (sg (cnt s 8)) (sg (cnt s 10))).1.2.2,()),true)else zero5):=hP
 unfold Ri at hP
 generalize magN (sg (cnt s 6)) (sg (cnt s 8)) (sg (cnt s 10))=N at *
 by_cases h1:N<1099511627776
 ·rw[decide_eq_true h1];rw[decide_eq_false (show ¬1099511627776<=N by omega)]at hP;exact hP
 rw[decide_eq_false h1]
 rw[decide_eq_true (show 1099511627776<=N by omega)]at hP
 by_cases h2:N>131941395333120
 ·rw[decide_eq_true h2];rw[decide_eq_false (show ¬N<=131941395333120 by omega)]at hP;exact hP
 ·rw[decide_eq_false h2];rw[decide_eq_true (show N<=131941395333120 by omega)]at hP;exact hP
def Ayv(s:ByteArray)(i j:Int)(seen:Bool)(C:Bool->Prop):Prop:=WJ s i/\WJ s j/\AE seen (C true) (AE (decide (((cnt s i.toNat:Nat):Int)≥2000)) (C true) (C (decide (((cnt s j.toNat:Nat):Int)≥2000))))
theorem TP{s:ByteArray}{i j:Int}{seen:Bool}{C:Bool->Prop}(hi:WJ s i)(hj:WJ s j)(h:C (seen||decide (((cnt s i.toNat:Nat):Int)≥2000)||decide (((cnt s j.toNat:Nat):Int)≥2000))):Ayv s i j seen C:=by
 refine⟨hi,hj,?_⟩
 cases seen
 ·cases k:decide (((cnt s i.toNat:Nat):Int)≥2000)
  ·rw[k]at h
   exact h
  ·rw[k]at h
   exact h
 ·exact h
def Ahr(s:ByteArray):V3:=(IntKind.i64.wrap (IntKind.i64.wrap (((cnt s (6:Int).toNat:Nat):Int)-((cnt s (8:Int).toNat:Nat):Int))*16777216),IntKind.i64.wrap (IntKind.i64.wrap (((cnt s (10:Int).toNat:Nat):Int)-((cnt s (12:Int).toNat:Nat):Int))*16777216),IntKind.i64.wrap (IntKind.i64.wrap (((cnt s (14:Int).toNat:Nat):Int)-((cnt s (16:Int).toNat:Nat):Int))*16777216))
def AG8(s:ByteArray)(t:Int)(Post:Value->Prop)(b:Bool):Prop:=AE (!b) (PJ EQ Post zero5) (AE (FL false (Ahr s)).2 (PJ EQ Post zero5) (PJ EQ Post ((2,t,(FL false (Ahr s)).1.1,(FL false (Ahr s)).1.2.1,(FL false (Ahr s)).1.2.2,()),true)))
theorem AG9(f:Nat->UInt8)(w:World)(hw:GW w):Calls Zm 61 ((Aa AU).enc (2,bsOf 18 f)).toArray w fun e w'=>e=.returned (EQ.enc (BI (2,bsOf 18 f)))/\Below w.heap.size w w':=by
 refine Bj (d:=Aa AU) (k:=EQ) (x:=(2,bsOf 18 f)) (y:=BI (2,bsOf 18 f)) (tbl:=eTb) (dirty:=fun _=>[]) (n:=8) xmixA Tryz.func61 rfl (fun Post hP=>?_) w hw
 refine Eq.mpr (β:=AE (!cRight (PZ f 6)) (PJ EQ Post zero5) (Ayv (bsOf 18 f) 6 8 false fun b=>Ayv (bsOf 18 f) 10 12 b fun b=>Ayv (bsOf 18 f) 14 16 b fun b=>AG8 (bsOf 18 f) (PZ f 6) Post b)) (by kernel_rfl) ?_
 rw[TM f (show 6<=18 by decide)]
 refine TN rfl hP (fun hP=>?_)
 have t:∀i:Int,0<=i->i<=16->WJ (bsOf 18 f) i:=fun i h0 h1=>JG h0 (by omega) (by omega)
 refine TP (t _ (by decide) (by decide)) (t _ (by decide) (by decide)) (TP (t _ (by decide) (by decide)) (t _ (by decide) (by decide)) (TP (t _ (by decide) (by decide)) (t _ (by decide) (by decide)) ?_))
 generalize bsOf 18 f=s at *
 have hv:Ahr s=sunD (cnt s 6:Nat) (cnt s 8:Nat) (cnt s 10:Nat) (cnt s 12:Nat) (cnt s 14:Nat) (cnt s 16:Nat):=by
  have e:∀a b:Nat,a<65536->b<65536->IntKind.i64.wrap (IntKind.i64.wrap ((a:Int)-(b:Int))*16777216)=((a:Int)-b)*16777216:=fun a b ha hb=>by
   rw[IntKind.wrap_i64,IntKind.wrap_i64]
   omega
  unfold Ahr sunD
  rw[e _ _ (Do _ _) (Do _ _),e _ _ (Do _ _) (Do _ _),e _ _ (Do _ _) (Do _ _)]
  rfl
 have hP:PJ EQ Post (if Ph (cnt s 6:Nat) (cnt s 8:Nat) (cnt s 10:Nat) (cnt s 12:Nat) (cnt s 14:Nat) (cnt s 16:Nat)then((2,CM s,(vUnitS false (sunD (cnt s 6:Nat) (cnt s 8:Nat) (cnt s 10:Nat) (cnt s 12:Nat) (cnt s 14:Nat) (cnt s 16:Nat))).1.1,(vUnitS false (sunD (cnt s 6:Nat) (cnt s 8:Nat) (cnt s 10:Nat) (cnt s 12:Nat) (cnt s 14:Nat) (cnt s 16:Nat))).1.2.1,(vUnitS false (sunD (cnt s 6:Nat) (cnt s 8:Nat) (cnt s 10:Nat) (cnt s 12:Nat) (cnt s 14:Nat) (cnt s 16:Nat))).1.2.2,()),true)else zero5):=hP
 unfold Ph Aha at hP
 show AG8 s (CM s) Post (lit (cnt s 6:Nat) (cnt s 8:Nat) (cnt s 10:Nat) (cnt s 12:Nat) (cnt s 14:Nat) (cnt s 16:Nat))
 unfold AG8
 rw[hv,Am9]
 generalize sunD (cnt s 6:Nat) (cnt s 8:Nat) (cnt s 10:Nat) (cnt s 12:Nat) (cnt s 14:Nat) (cnt s 16:Nat)=D at hP ⊢
 cases hl:lit (cnt s 6:Nat) (cnt s 8:Nat) (cnt s 10:Nat) (cnt s 12:Nat) (cnt s 14:Nat) (cnt s 16:Nat)
 ·rw[hl]at hP;exact hP
 ·rw[hl]at hP
  cases hu:(vUnitS false D).2
  ·rw[hu]at hP;exact hP
  ·rw[hu]at hP;exact hP
theorem Aq5(k:Int)(s:ByteArray)(w:World)(hw:GW w):Calls Zm 61 ((Aa AU).enc (k,s)).toArray w fun e w'=>e=.returned (EQ.enc (BI (k,s)))/\Below w.heap.size w w':=by
 cases hf:Ez k s
 ·have hr:BI (k,s)=zero5:=by
   have h0:C7 k s=false:=by unfold C7;rw[hf];rfl
   rw[Gj,h0]
   rfl
  rw[hr]
  exact Ahq k s hf w hw
 ·have hb:=Acz s
  unfold Ez at hf
  simp only[Bool.or_eq_true,Zs,decide_eq_true_eq]at hf
  generalize (fun i=>s.data.toList.getD i 0)=f at hb
  rcases hf with (⟨rfl,hs⟩|⟨rfl,hs⟩)|⟨rfl,hs⟩
  ·rw[hs]at hb;rw[hb];exact AG6 f w hw
  ·rw[hs]at hb;rw[hb];exact AG7 f w hw
  ·rw[hs]at hb;rw[hb];exact AG9 f w hw
end
end Go.Proofs.YtoadcnhcfodkgaaGreatDoor
