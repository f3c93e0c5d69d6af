/-
A part.
A part.
A part.
A part.
A part.
A part.
A part.
-/
import Derived.Test.YtgmpfeaanjnhaaaGreatDoorU02
namespace Go.Proofs.YtgmpfeaanjnhaaaGreatDoor
open Go.RowKit
section
variable {P:Program} {τ:Nat->Int}
theorem N6{S:Sem Value}{v:Value}:qrun P (S >>= fun z=>pure (Next.value z))=some (Next.value v)↔qrun P S=some v:=by
 rw[AI]
 cases h:qrun P S with
 |none=>simp
 | some u=>
  show some (Next.value u)=some (Next.value v)↔some u=some v
  constructor
  ·intro e
   cases e
   rfl
  ·intro e
   cases e
   rfl
theorem Iq{o:Oper}{at' vt:List Value}{S S':Sem Value}{r:Value}(hS:execOp (VE at') o=S >>= fun z=>pure (Next.value z))(hS':execOp (VE vt) o=S' >>= fun z=>pure (Next.value z))
    (h:Bj P o (VE at')=some r) (hg:∀x∈o.op.operands,G2 τ (VE at' x) (VE vt x)) (hn:qrun P S=some r->∃v,qrun P S'=some v/\G2 τ r v):∃v,Bj P o (VE vt)=some v/\G2 τ r v:=by
 obtain⟨hp,hq,hr⟩:=Aa9 h
 rw[hS,N6]at hq
 obtain⟨v,hv,g⟩:=hn hq
 exact⟨v,DJ (fun x hx=>by rw[(hg x hx).isP];exact hp x hx) (by rw[hS',N6];exact hv) (by rw[g.isP];exact hr),g⟩
theorem Ai2{x:Value}{cs:Array Value}(h:qrun P (asAgg x)=some cs):x=.agg cs:=by
 unfold asAgg at h
 split at h
 ·cases h;rfl
 ·cases h
theorem XB{t:TypeId}{x v r:Value}{f:Nat}(h:qrun P (Instr.field t x f)=some r)(g:G2 τ x v):∃u,qrun P (Instr.field t v f)=some u/\G2 τ r u:=by
 unfold Instr.field at h ⊢
 rw[AI]at h ⊢
 cases hu:qrun P (underlying t)with
 |none=>rw[hu]at h;cases h
 | some d=>
  rw[hu]at h
  simp only[Option.bind_some]at h ⊢
  split at h
  ·split at h
   ·rw[AI]at h ⊢
    cases hx:qrun P (asAgg x)with
    |none=>rw[hx]at h;cases h
    |some cs=>
     rw[hx]at h
     obtain rfl:=Ai2 hx
     obtain⟨l,rfl,gl⟩:=g.agg
     obtain⟨u,hu,gu⟩:=PV h gl
     exact⟨u,hu,gu.g2⟩
   ·cases h
  ·cases h
theorem Abe{α:Type}(k:IntKind)(i:Int)(n:Nat)(c:BoundsCode):qrun P (boundsPanic (α:=α) k i n c)=none:=by
 unfold boundsPanic
 dsimp only
 split<;>rfl
theorem XC{t:TypeId}{x v r:Value}{k:IntKind}{i:Int}(h:qrun P (Instr.index t x (.int k i))=some r)(hx:∃cs,x=.agg cs)(g:G2 τ x v):∃u,qrun P (Instr.index t v (.int k i))=some u/\G2 τ r u:=by
 obtain⟨cs,rfl⟩:=hx
 obtain⟨l,rfl,gl⟩:=g.agg
 unfold Instr.index at h ⊢
 rw[AI]at h ⊢
 change (Option.bind (some (k,i)) _)=_ at h
 change ∃u,(Option.bind (some (k,i)) _)=_/\_
 simp only[Option.bind_some]at h ⊢
 rw[AI]at h ⊢
 cases hu:qrun P (underlying t)with
 |none=>rw[hu]at h;cases h
 | some d=>
  rw[hu]at h
  simp only[Option.bind_some]at h ⊢
  split at h
  ·rename_i vv len elem cs' e2
   cases e2
   split at h
   ·rename_i hi
    rw[if_pos hi]
    rw[AI]at h ⊢
    cases hs:qrun P (sizeOf elem)with
    |none=>rw[hs]at h;cases h
    |some n=>
     rw[hs]at h
     obtain⟨u,hu,gu⟩:=PV h gl
     exact⟨u,hu,gu.g2⟩
   ·rw[Abe]at h
    cases h
  ·rename_i e
   cases e
  ·cases h
theorem PW{a b:Value}{rs:List Value}{v r:Value}{i:Nat}(h:qrun P (Instr.extract (.tuple ⟨a::b::rs⟩) i)=some r)(g:G2 τ (.tuple ⟨a::b::rs⟩) v):∃u,qrun P (Instr.extract v i)=some u/\G2 τ r u:=by
 obtain⟨l,rfl,gl⟩:=g
 unfold Instr.extract at h ⊢
 dsimp only at h ⊢
 split at h
 ·rename_i w hw
  cases h
  obtain⟨u,hu,gu⟩:=gl.get i r (by simpa using hw)
  refine⟨u,?_,gu.g2⟩
  have:(⟨l⟩:Array Value)[i]? =some u:=by simpa using hu
  rw[this]
  rfl
 ·cases h
def El:Value->Bool
 | .tuple ⟨_::_::_⟩=>false
 |_=>true
theorem IZ{t v:Value}(g:G2 τ t v)(hm:El t=true):As (G0 τ) t.cells.toList v.cells.toList:=by
 unfold G2 at g
 split at g
 ·cases hm
 ·unfold G1 at g
  split at g
  ·obtain⟨l,rfl,gl⟩:=g
   exact gl
  ·rename_i hn
   have h1:t.cells=#[t]:=by
    unfold Value.cells
    split
    ·exact absurd rfl (hn _)
    ·rfl
   have h2:v.cells=#[v]:=by
    unfold G0 at g
    split at g
    ·obtain⟨x,rfl⟩:=g;rfl
    ·obtain⟨x,rfl,_⟩:=g;rfl
    ·obtain⟨x,rfl⟩:=g;rfl
    ·rw[g];rfl
    ·rw[g.1];exact h1
   rw[h1,h2]
   exact⟨g,trivial⟩
theorem PX(off:Nat):∀(l l':List Value),As (G0 τ) l l'->∀(n:Nat) (cs cs':Array Value),As (G0 τ) cs.toList cs'.toList->
    As (G0 τ) ((l.zipIdx n).foldl (fun cs (x:Value×Nat)=>cs.setIfInBounds (off+x.2) x.1) cs).toList ((l'.zipIdx n).foldl (fun cs (x:Value×Nat)=>cs.setIfInBounds (off+x.2) x.1) cs').toList
 |[],[],_,_,_,_,h=>h
 |a::l,b::l',g,n,cs,cs',h=>by
  simp only[List.zipIdx_cons,List.foldl_cons]
  exact PX off l l' g.2 (n+1) _ _ (by simpa using h.set (off+n) a b g.1)
 |[],_::_,g,_,_,_,_=>g.elim
 |_::_,[],g,_,_,_,_=>g.elim
theorem KN(place:Nat->Option (Nat×Nat)):∀(ps ps':List (Nat×Value)),As (fun p q:Nat×Value=>p.1=q.1/\As (G0 τ) p.2.cells.toList q.2.cells.toList) ps ps'->∀(cs cs':Array Value) (r:Array Value),As (G0 τ) cs.toList cs'.toList->
    Instr.fill place cs ps=some r->∃r',Instr.fill place cs' ps'=some r'/\As (G0 τ) r.toList r'.toList
 |[],[],_,cs,cs',r,g,h=>by
  simp only[Instr.fill,Option.some.injEq]at h
  subst h
  exact⟨cs',rfl,g⟩
 | (i,v)::ps,(j,u)::ps',gp,cs,cs',r,g,h=>by
  obtain⟨⟨rfl,gv⟩,gp⟩:=gp
  have hl:=gv.len
  have hc:=g.len
  simp only[Array.length_toList]at hl hc
  unfold Instr.fill at h ⊢
  dsimp only at h ⊢
  split at h
  ·cases h
  ·rename_i off size hp
   split at h
   ·cases h
   ·rename_i hcond
    rw[<-hl,<-hc,if_neg hcond]
    refine KN place ps ps' gp _ _ r ?_ h
    have:=PX off _ _ gv 0 cs cs' g
    rw[<-Array.foldl_toList,<-Array.foldl_toList,Array.toList_zipIdx,Array.toList_zipIdx]
    exact this
 |[],_::_,g,_,_,_,_,_=>g.elim
 |_::_,[],g,_,_,_,_,_=>g.elim
def Si(P:Program)(t:TypeId):Bool:=
 match qrun P (zeroValue t)with
 |some z=>z.cells.toList.all GO
 |none=>false
theorem XD{t:TypeId}{ps ps':Array (Nat×Value)}{r:Value}(hz:Si P t=true)(h:qrun P (Instr.build t ps)=some r)(g:As (fun p q:Nat×Value=>p.1=q.1/\As (G0 τ) p.2.cells.toList q.2.cells.toList) ps.toList ps'.toList):
    ∃u,qrun P (Instr.build t ps')=some u/\G2 τ r u:=by
 unfold Si at hz
 unfold Instr.build at h ⊢
 rw[AI]at h ⊢
 cases h0:qrun P (zeroValue t)with
 |none=>rw[h0]at h;cases h
 | some z=>
  rw[h0]at h hz
  dsimp only at hz
  have gz:As (G0 τ) z.cells.toList z.cells.toList:=As.refl _ (fun a ha=>Fh (List.all_eq_true.1 hz a ha))
  simp only[Option.bind_some]at h ⊢
  rw[AI]at h ⊢
  cases hu:qrun P (underlying t)with
  |none=>rw[hu]at h;cases h
  | some d=>
   rw[hu]at h
   simp only[Option.bind_some]at h ⊢
   split at h
   ·rw[AI]at h ⊢
    generalize qrun P _=pl at h ⊢
    cases pl with
    |none=>cases h
    | some places=>
     simp only[Option.bind_some]at h ⊢
     split at h
     ·rename_i cells hf
      cases h
      obtain⟨r',hr',gr⟩:=KN (τ:=τ) _ _ _ g _ _ _ gz hf
      rw[hr']
      exact⟨.agg r',rfl,⟨r'.toList,rfl,gr⟩⟩
     ·cases h
   ·rw[AI]at h ⊢
    generalize qrun P _=pl at h ⊢
    cases pl with
    |none=>cases h
    | some size=>
     simp only[Option.bind_some]at h ⊢
     split at h
     ·rename_i cells hf
      cases h
      obtain⟨r',hr',gr⟩:=KN (τ:=τ) _ _ _ g _ _ _ gz hf
      rw[hr']
      exact⟨.agg r',rfl,⟨r'.toList,rfl,gr⟩⟩
     ·cases h
   ·cases h
theorem MY{t:TypeId}{l l':List Value}{off:Nat}{r:Value}(h:FD P t l off=some r)(g:As (G0 τ) l l'):∃v,FD P t l' off=some v/\G2 τ r v:=by
 unfold FD at h ⊢
 split at h
 ·split at h
  ·rename_i n hn
   split at h
   ·rename_i hl
    cases h
    have:=g.len
    rw[if_pos (by omega)]
    refine⟨_,rfl,⟨_,rfl,?_⟩⟩
    have:=(g.drop off).take n
    simpa using this
   ·cases h
  ·cases h
 ·obtain⟨v,hv,gv⟩:=g.get off r h
  exact⟨v,hv,gv.g2⟩
 ·cases h
def Abf(c a b:Value):Option Value:=
 match c with
 | .bool x=>(match x with
  |true=>some a
  |false=>some b)
 | c =>if Ds c then(if Ds a&&Ds b then some unkB else match Dr a,Dr b with
     |some k,some k'=>if k=k' then some (unk k)else none
     |_,_=>none)else none
theorem Ao2(a b:Value):PH (.bool true) a b=some a:=by cases a<;>cases b<;>rfl
theorem Ao3(a b:Value):PH (.bool false) a b=some b:=by cases a<;>cases b<;>rfl
theorem Abg{c a b vc va vb r:Value}(h:Abf c a b=some r)(gc:G2 τ c vc)(ga:G2 τ a va)(gb:G2 τ b vb):∃v,PH vc va vb=some v/\G2 τ r v:=by
 unfold Abf at h
 split at h
 ·rename_i x
  obtain rfl:=gc.bool
  cases x with
  |true=>cases h;exact⟨va,Ao2 va vb,ga⟩
  |false=>cases h;exact⟨vb,Ao3 va vb,gb⟩
 ·split at h
  ·rename_i hb
   obtain⟨x,rfl⟩:=C8 hb gc
   split at h
   ·rename_i hab
    rw[Bool.and_eq_true]at hab
    obtain⟨p,rfl⟩:=C8 hab.1 ga
    obtain⟨q,rfl⟩:=C8 hab.2 gb
    cases h
    exact⟨_,rfl,.unkB⟩
   ·split at h
    ·rename_i k k' hk hk'
     obtain⟨p,rfl⟩:=C7 hk ga
     obtain⟨q,rfl⟩:=C7 hk' gb
     split at h
     ·rename_i e
      subst e
      cases h
      cases x
      ·exact⟨_,rfl,.unk⟩
      ·exact⟨_,rfl,.unk⟩
     ·cases h
    ·cases h
  ·cases h
end
def Ir(r:Option Value):Option Value:=
 match r with
 |some v=>if JA v then some v else none
 |none=>none
def Fi(o:Oper)(ρ:Operand->Value):Bool:=o.op.operands.all fun x=>JA (ρ x)
def Ao4(b:Builtin)(l:List Value):Option Value:=
 match b,l with
 | .max,x::r=>(match Dr x with
  |some k=>if r.all (fun y=>Dr y==some k)then some (unk k)else none
  |none=>none)
 | .min,x::r=>(match Dr x with
  |some k=>if r.all (fun y=>Dr y==some k)then some (unk k)else none
  |none=>none)
 |_,_=>none
def aq(P:Program)(cl:Nat->Bool)(id:Nat)(o:Oper)(ρ:Operand->Value)(m:Xm):Option Value:=
 if o.op.operands.all Z7 then
  match o.op with
  | .move x=>some (ρ x)
  | .assign x=>some (ρ x)
  | .pick c a b=>Abf (ρ c) (ρ a) (ρ b)
  | .load t x=>
   match ρ x with
   | .pointer (some ⟨k,off,none⟩)=>if cl k then(match m[k]? with
    |some l=>(match FD P t l off with
     |some v=>if isP v then none else some v
     |none=>none)
    |none=>none)else none
   |_=>none
  | .fieldAddr s x f=>
   match ρ x with
   | .pointer (some ⟨k,off,none⟩)=>(match Ky P s f with
    |some d=>some (.pointer (some ⟨k,off+d,none⟩))
    |none=>none)
   |_=>none
  | .indexAddr t x ix=>
   match ρ x with
   | .pointer (some ⟨k,off,none⟩)=>(match IV P t (ρ ix)with
    |some d=>some (.pointer (some ⟨k,off+d,none⟩))
    |none=>none)
   |_=>none
  | .nilCheck x=>
   match ρ x with
   | .pointer (some a)=>some (.pointer (some a))
   |_=>none
  | .alloc _=>some (.pointer (some ⟨id,0,none⟩))
  | .store _ _ _=>none
  | .box _ _=>none
  | .select _ _=>none
  | .call c=>
   match c.callee with
   | .builtin b=>if Fi o ρ then Ir (Bj P o ρ)else Ao4 b (c.args.toList.map ρ)
   |_=>none
  | .binOp op t x y _=>
   match KA P op t (ρ x) (ρ y)with
   |some v=>some v
   |none=>if Fi o ρ then Ir (Bj P o ρ)else Ao0 P op t (ρ x) (ρ y)
  | .unOp op _ x=>if Fi o ρ then Ir (Bj P o ρ)else aUn op (ρ x)
  | .convert s d x=>if Fi o ρ then Ir (Bj P o ρ)else Aba P s d (ρ x)
  | .field _ _ _=>Bj P o ρ
  | .index _ x ix=>(match ρ x,ρ ix with
   | .agg _,.int _ _=>Bj P o ρ
   |_,_=>if Fi o ρ then Ir (Bj P o ρ)else none)
  | .extract x _=>(match ρ x with
   | .tuple ⟨_::_::_⟩=>Bj P o ρ
   |_=>none)
  | .build t ps=>if Si P t&&ps.toList.all (fun p=>El (ρ p.2))then Bj P o ρ else none
  |_=>if Fi o ρ then Ir (Bj P o ρ)else none
 else none
section
variable {P:Program} {τ:Nat->Int}
theorem Abh{r:Option Value}{v:Value}(h:Ir r=some v):r=some v/\JA v=true:=by
 unfold Ir at h
 split at h
 ·split at h
  ·cases h
   exact⟨rfl,by assumption⟩
  ·cases h
 ·cases h
theorem Ani(k:IntKind):∀(r:List Value),(∀v∈r,∃x,v=.int k x)->∀a:Int,∃z,qrun P (r.foldlM Builtin.max2 (.int k a))=some (.int k z)
 |[],_,a=>⟨a,rfl⟩
 |v::r,h,a=>by
  obtain⟨x,rfl⟩:=h v List.mem_cons_self
  obtain⟨z,hz⟩:=Ani k r (fun v hv=>h v (List.mem_cons_of_mem _ hv)) (if x>a then x else a)
  exact⟨z,by rw[List.foldlM_cons,AI];exact hz⟩
theorem Anj(k:IntKind):∀(r:List Value),(∀v∈r,∃x,v=.int k x)->∀a:Int,∃z,qrun P (r.foldlM Builtin.min2 (.int k a))=some (.int k z)
 |[],_,a=>⟨a,rfl⟩
 |v::r,h,a=>by
  obtain⟨x,rfl⟩:=h v List.mem_cons_self
  obtain⟨z,hz⟩:=Anj k r (fun v hv=>h v (List.mem_cons_of_mem _ hv)) (if x<a then x else a)
  exact⟨z,by rw[List.foldlM_cons,AI];exact hz⟩
theorem Is{o:Oper}{c:Call}{b:Builtin}(hop:o.op=.call c)(hc:c.callee=.builtin b)(ρ:Operand->Value):execOp ρ o=builtin b c.argTypes o.type (c.args.map fun | .const _=>true |_=>false) (c.args.map ρ):=by
 simp only[execOp,hop,resolve,hc]
 rfl
theorem Ai3{o:Oper}{c:Call}{b:Builtin}(hop:o.op=.call c)(hc:c.callee=.builtin b){at' vt:List Value}{r:Value}(h:Ao4 b (c.args.toList.map (VE at'))=some r)(hg:∀x∈o.op.operands,G2 τ (VE at' x) (VE vt x)):∃v,Bj P o (VE vt)=some v/\G2 τ r v:=by
 have hmem:∀x∈c.args.toList,x∈o.op.operands:=fun x hx=>by
  simp only[hop,Op.operands,Call.operands]
  exact Array.mem_append_right _ (by simpa using hx)
 have key:∀(k:IntKind) (x:Operand) (l:List Operand),c.args.toList=x::l->Dr (VE at' x)=some k->(l.map (VE at')).all (fun y=>Dr y==some k)=true->(∃a,VE vt x=.int k a)/\∀v∈l.map (VE vt),∃a,v=.int k a:=by
  intro k x l hl hk hall
  refine⟨C7 hk (hg x (hmem x (by rw[hl];exact List.mem_cons_self))),fun v hv=>?_⟩
  obtain⟨y,hy,rfl⟩:=List.mem_map.1 hv
  have h2:=List.all_eq_true.1 hall (VE at' y) (List.mem_map.2 ⟨y,hy,rfl⟩)
  exact C7 (by simpa using h2) (hg y (hmem y (by rw[hl];exact List.mem_cons_of_mem _ hy)))
 have hp:∀(k:IntKind) (x:Operand) (l:List Operand),c.args.toList=x::l->(∃a,VE vt x=.int k a)->(∀v∈l.map (VE vt),∃a,v=.int k a)->∀z∈o.op.operands,isP (VE vt z)=false:=by
  intro k x l hl h1 h2 z hz
  have hz:z∈c.args.toList:=by
   simp only[hop,Op.operands,Call.operands,hc]at hz
   simpa using hz
  rw[hl]at hz
  rcases List.mem_cons.1 hz with rfl |hz
  ·obtain⟨a,e⟩:=h1
   rw[e];rfl
  ·obtain⟨a,e⟩:=h2 _ (List.mem_map.2 ⟨z,hz,rfl⟩)
   rw[e];rfl
 unfold Ao4 at h
 split at h
 ·rename_i x r' hl
  obtain⟨y,l,hcl,rfl,rfl⟩:=List.map_eq_cons_iff.1 hl
  split at h
  ·rename_i k hk
   split at h
   ·rename_i hall
    cases h
    obtain⟨h1,h2⟩:=key k y l hcl hk hall
    have h0:=hp k y l hcl h1 h2
    obtain⟨a,ea⟩:=h1
    obtain⟨z,hz⟩:=Ani (P:=P) k _ h2 a
    refine⟨.int k z,DJ h0 ?_ rfl,.unk⟩
    rw[Is hop hc]
    show qrun P (Builtin.max_ _ _ _ >>= fun z=>pure (Next.value z))=_
    rw[N6]
    unfold Builtin.max_
    rw[Array.toList_map,hcl,List.map_cons,ea]
    exact hz
   ·cases h
  ·cases h
 ·rename_i x r' hl
  obtain⟨y,l,hcl,rfl,rfl⟩:=List.map_eq_cons_iff.1 hl
  split at h
  ·rename_i k hk
   split at h
   ·rename_i hall
    cases h
    obtain⟨h1,h2⟩:=key k y l hcl hk hall
    have h0:=hp k y l hcl h1 h2
    obtain⟨a,ea⟩:=h1
    obtain⟨z,hz⟩:=Anj (P:=P) k _ h2 a
    refine⟨.int k z,DJ h0 ?_ rfl,.unk⟩
    rw[Is hop hc]
    show qrun P (Builtin.min_ _ _ _ >>= fun z=>pure (Next.value z))=_
    rw[N6]
    unfold Builtin.min_
    rw[Array.toList_map,hcl,List.map_cons,ea]
    exact hz
   ·cases h
  ·cases h
 ·cases h
theorem Abi{cl:Nat->Bool}{id:Nat}{o:Oper}{at' vt:List Value}{am m:Xm}{r:Value}(h:aq P cl id o (VE at') am=some r)(F:GF τ at' vt)(M:GM τ am m):∃v,vq P cl id o (VE vt) m=some v/\G2 τ r v:=by
 unfold aq at h
 split at h
 case isFalse=>cases h
 rename_i hok
 have hev:∀x∈o.op.operands,G2 τ (VE at' x) (VE vt x):=fun x hx=>F.ev (Array.all_eq_true_iff_forall_mem.1 hok x hx)
 have hokX:o.op.operands.all Pr=true:=Array.all_eq_true_iff_forall_mem.2 (fun x hx=>ED (Array.all_eq_true_iff_forall_mem.1 hok x hx))
 have hreal:(∀cs b,o.op≠.select cs b)->Fi o (VE at')=true->Ir (Bj P o (VE at'))=some r->Bj P o (VE vt)=some r/\G2 τ r r:=fun hs ha hr=>by
  obtain⟨h1,h2⟩:=Abh hr
  have agree:∀x∈o.op.operands,VE at' x=VE vt x:=fun x hx=>(KJ _ _ (Array.all_eq_true_iff_forall_mem.1 ha x hx) (hev x hx)).symm
  refine⟨?_,BF h2⟩
  rw[<-h1]
  unfold Bj
  have e:o.op.operands.all (fun x=>!isP (VE vt x))=o.op.operands.all (fun x=>!isP (VE at' x)):=by
   rw[Bool.eq_iff_iff,Array.all_eq_true_iff_forall_mem,Array.all_eq_true_iff_forall_mem]
   exact⟨fun h x hx=>by rw[agree x hx];exact h x hx,fun h x hx=>by rw[<-agree x hx];exact h x hx⟩
  rw[e,execOp_congr o hs agree]
 unfold vq
 rw[if_pos hokX]
 cases hop:o.op<;>rw[hop]at h<;>dsimp only at h ⊢
 case move x=>cases h;exact⟨_,rfl,hev x (by simp[hop,Op.operands])⟩
 case assign x=>cases h;exact⟨_,rfl,hev x (by simp[hop,Op.operands])⟩
 case pick c a b=>exact Abg h (hev c (by simp[hop,Op.operands])) (hev a (by simp[hop,Op.operands])) (hev b (by simp[hop,Op.operands]))
 case load t x=>
  have h1:=hev x (by simp[hop,Op.operands])
  split at h
  ·rename_i k off hx
   rw[hx]at h1
   rw[h1.ptr]
   dsimp only
   split at h
   ·rename_i hc
    rw[if_pos hc]
    split at h
    ·rename_i l hl
     obtain⟨l',hl',gl⟩:=M.g k l hl
     rw[hl']
     dsimp only
     split at h
     ·rename_i u hu
      obtain⟨v,hv,gv⟩:=MY hu gl
      rw[hv]
      dsimp only
      split at h
      ·cases h
      ·rename_i hp
       cases h
       rw[if_neg (by rw[gv.isP];exact hp)]
       exact⟨v,rfl,gv⟩
     ·cases h
    ·cases h
   ·cases h
  ·cases h
 case fieldAddr s x f=>
  have h1:=hev x (by simp[hop,Op.operands])
  split at h
  ·rename_i k off hx
   rw[hx]at h1
   rw[h1.ptr]
   dsimp only
   split at h
   ·rename_i d hd
    cases h
    rw[hd]
    exact⟨_,rfl,rfl,rfl⟩
   ·cases h
  ·cases h
 case indexAddr t x ix=>
  have h1:=hev x (by simp[hop,Op.operands])
  have h2:=hev ix (by simp[hop,Op.operands])
  split at h
  ·rename_i k off hx
   rw[hx]at h1
   rw[h1.ptr]
   dsimp only
   split at h
   ·rename_i d hd
    cases h
    have e:VE vt ix=VE at' ix:=by
     unfold IV at hd
     split at hd
     ·rename_i e
      rw[e]at h2 ⊢
      exact h2.int
     ·cases hd
    rw[e,hd]
    exact⟨_,rfl,rfl,rfl⟩
   ·cases h
  ·cases h
 case nilCheck x=>
  have h1:=hev x (by simp[hop,Op.operands])
  split at h
  ·rename_i b hx
   rw[hx]at h1
   rw[h1.ptr]
   cases h
   exact⟨_,rfl,rfl,rfl⟩
  ·cases h
 case alloc t=>cases h;exact⟨_,rfl,rfl,rfl⟩
 case store=>cases h
 case box=>cases h
 case select=>cases h
 case call c=>
  split at h
  ·rename_i b hc
   rw[hc]
   dsimp only
   split at h
   ·rename_i ha
    obtain⟨h1,h2⟩:=hreal (by rw[hop];simp) ha h
    exact⟨r,h1,h2⟩
   ·exact Ai3 hop hc h hev
  ·cases h
 case binOp op t x y t2=>
  have h1:=hev x (by simp[hop,Op.operands])
  have h2:=hev y (by simp[hop,Op.operands])
  split at h
  ·rename_i u hn
   cases h
   have hn2:=hn
   unfold KA at hn2
   split at hn2
   ·rename_i b e1 e2
    rw[e1]at h1
    rw[e2]at h2
    rw[h1.ptr,h2.ptr,<-e1,<-e2,hn]
    refine⟨r,rfl,?_⟩
    split at hn2
    ·cases hn2;exact⟨rfl,rfl⟩
    ·cases hn2;exact⟨rfl,rfl⟩
    ·cases hn2
   ·cases hn2
  ·rename_i hn
   split at h
   ·rename_i ha
    obtain⟨e1,e2⟩:=hreal (by rw[hop];simp) ha h
    have ex:VE vt x=VE at' x:=KJ _ _ (Array.all_eq_true_iff_forall_mem.1 ha x (by simp[hop,Op.operands])) h1
    have ey:VE vt y=VE at' y:=KJ _ _ (Array.all_eq_true_iff_forall_mem.1 ha y (by simp[hop,Op.operands])) h2
    have q:=PM hop e1
    rw[ex,ey]at q
    rw[ex,ey,hn]
    exact⟨r,q,e2⟩
   ·obtain⟨e1,v,hv,gv⟩:=Ai0 hop h h1 h2
    rw[e1]
    exact⟨v,PM hop hv,gv⟩
 case unOp op t x=>
  split at h
  ·rename_i ha
   obtain⟨h1,h2⟩:=hreal (by rw[hop];simp) ha h
   exact⟨r,h1,h2⟩
  ·exact Ao1 hop h (hev x (by simp[hop,Op.operands]))
 case convert s d x=>
  split at h
  ·rename_i ha
   obtain⟨h1,h2⟩:=hreal (by rw[hop];simp) ha h
   exact⟨r,h1,h2⟩
  ·exact Abc hop h (hev x (by simp[hop,Op.operands]))
 case field t x f=>
  exact Iq (S:=Instr.field t (VE at' x) f) (S':=Instr.field t (VE vt x) f) (by simp only[execOp,hop]) (by simp only[execOp,hop]) h hev (fun hq=>XB hq (hev x (by simp[hop,Op.operands])))
 case index t x ix=>
  have h1:=hev x (by simp[hop,Op.operands])
  have h2:=hev ix (by simp[hop,Op.operands])
  split at h
  ·rename_i cs k i e1 e2
   rw[e2]at h2
   have e3:=h2.int
   refine Iq (S:=Instr.index t (VE at' x) (VE at' ix)) (S':=Instr.index t (VE vt x) (VE vt ix)) (by simp only[execOp,hop]) (by simp only[execOp,hop]) h hev (fun hq=>?_)
   rw[e2]at hq
   rw[e3]
   exact XC hq ⟨cs,e1⟩ h1
  ·split at h
   ·rename_i ha
    obtain⟨h1,h2⟩:=hreal (by rw[hop];simp) ha h
    exact⟨r,h1,h2⟩
   ·cases h
 case extract x i=>
  have h1:=hev x (by simp[hop,Op.operands])
  split at h
  ·rename_i a b rs e1
   refine Iq (S:=Instr.extract (VE at' x) i) (S':=Instr.extract (VE vt x) i) (by simp only[execOp,hop]) (by simp only[execOp,hop]) h hev (fun hq=>?_)
   rw[e1]at hq h1
   exact PW hq h1
  ·cases h
 case build t ps=>
  split at h
  ·rename_i hc
   rw[Bool.and_eq_true]at hc
   refine Iq (S:=Instr.build t (ps.map fun(i,x)=>(i,VE at' x))) (S':=Instr.build t (ps.map fun(i,x)=>(i,VE vt x))) (by simp only[execOp,hop]) (by simp only[execOp,hop]) h hev (fun hq=>?_)
   refine XD hc.1 hq ?_
   have hall:=List.all_eq_true.1 hc.2
   have hmem:∀p∈ps.toList,G2 τ (VE at' p.2) (VE vt p.2):=fun p hp=>hev p.2 (by
    simp only[hop,Op.operands]
    exact List.mem_toArray.2 (List.mem_map.2 ⟨p,hp,rfl⟩))
   rw[Array.toList_map,Array.toList_map]
   revert hall hmem
   generalize ps.toList=l
   induction l with
   |nil=>intros;trivial
   |cons p l ih=>
    intro hall hmem
    exact⟨⟨rfl,IZ (hmem p List.mem_cons_self) (hall p List.mem_cons_self)⟩,ih (fun q hq=>hall q (List.mem_cons_of_mem _ hq)) (fun q hq=>hmem q (List.mem_cons_of_mem _ hq))⟩
  ·cases h
 all_goals
  split at h
  ·rename_i ha
   obtain⟨h1,h2⟩:=hreal (by rw[hop];simp) ha h
   exact⟨r,h1,h2⟩
  ·cases h
end
def er0(t:Value):Value:=
 match MU t with
 |some (none,_+1)=>unk .i64
 |_=>t
def er1:Value->Value
 | .agg cs=>.agg ⟨cs.toList.map er0⟩
 |t=>er0 t
def er2:Value->Value
 | .tuple ⟨a::b::r⟩=>.tuple ⟨(a::b::r).map er1⟩
 |t=>er1 t
section
variable {τ τ':Nat->Int}
theorem N7{t v:Value}(g:G0 τ t v):G0 τ' (er0 t) v:=by
 unfold er0
 unfold G0 at g
 split
 ·rename_i i e
  rw[e]at g
  exact⟨_,g⟩
 ·rename_i hn
  unfold G0
  split at g
  ·exact g
  ·exact g
  ·exact g
  ·rename_i i e
   exact absurd e (hn i)
  ·exact g
theorem As.er{R S:Value->Value->Prop}{f:Value->Value}(hi:∀t v,R t v->S (f t) v):∀{l m:List Value},As R l m->As S (l.map f) m
 |[],[],_=>trivial
 |_::_,_::_,h=>⟨hi _ _ h.1,As.er hi h.2⟩
 |[],_::_,h=>h.elim
 |_::_,[],h=>h.elim
theorem Abj{t v:Value}(g:G1 τ t v):G1 τ' (er1 t) v:=by
 unfold G1 at g
 split at g
 ·obtain⟨l,rfl,gl⟩:=g
  exact⟨l,rfl,gl.er (fun _ _ h=>N7 h)⟩
 ·unfold er1
  split
  ·exact absurd g.plain (by simp[plain])
  ·exact(N7 g).g1
theorem N8{t v:Value}(g:G2 τ t v):G2 τ' (er2 t) v:=by
 unfold G2 at g
 split at g
 ·obtain⟨l,rfl,gl⟩:=g
  exact⟨l,rfl,gl.er (fun _ _ h=>Abj h)⟩
 ·unfold er2
  split
  ·exact absurd (G0.plain g) (by simp[plain])
  ·exact(Abj g).g2
theorem GF.er{at' vt:List Value}(h:GF τ at' vt):GF τ' (at'.map er2) vt:=by
 refine⟨by rw[List.length_map];exact h.len,fun t=>?_⟩
 have:=h.g t
 simp only[List.getD_eq_getElem?_getD]at this ⊢
 rw[List.getElem?_map]
 cases e:at'[t]? with
 |none=>
  rw[e]at this
  exact N8 this
 |some x=>
  rw[e]at this
  exact N8 this
def erM(m:Xm):Xm:=m.map (List.map er0)
theorem GM.er{am m:Xm}(h:GM τ am m):GM τ' (erM am) m:=by
 refine⟨by simp[erM,h.len],fun k l hl=>?_⟩
 unfold erM at hl
 rw[List.getElem?_map]at hl
 obtain⟨x,hx,rfl⟩:=Option.map_eq_some_iff.1 hl
 obtain⟨l',h1,h2⟩:=h.g k x hx
 exact⟨l',h1,h2.er (fun _ _ h=>N7 h)⟩
def eqV:Value->Value->Bool
 | .int k n,.int k' n'=>decide (k=k')&&decide (n=n')
 | .bool a,.bool b=>a==b
 | .tuple ⟨[]⟩,.tuple ⟨[]⟩=>true
 |_,_=>false
theorem Ao5{a b:Value}(h:eqV a b=true):a=b:=by
 unfold eqV at h
 split at h
 ·simp only[Bool.and_eq_true,decide_eq_true_eq]at h
  rw[h.1,h.2]
 ·rw[eq_of_beq h]
 ·rfl
 ·cases h
def le0(t s:Value):Bool:=
 match MU s with
 |some (some k,0)=>(match Dr t with
  |some k'=>decide (k'=k)
  |none=>false)
 | some (some k,n+1)=>(match t with
  | .int k' x=>decide (k'=k)&&decide (loN n<=x)&&decide (x<=n)
  |t=>(match MU t with
   |some (some k',j+1)=>decide (k'=k)&&decide (j<=n)
   |_=>false))
 |some (none,0)=>Ds t
 |some (none,i+1)=>(match MU t with
  |some (none,j)=>Nat.beq j (i+1)
  |_=>false)
 |none=>eqV t s
def PY{α:Type}(p:α->α->Bool):List α->List α->Bool
 |[],[]=>true
 |a::l,b::m=>p a b&&PY p l m
 |_,_=>false
def le1(t s:Value):Bool:=
 match s with
 | .agg cs=>(match t with
  | .agg ds=>PY le0 ds.toList cs.toList
  |_=>false)
 |s=>plain t&&le0 t s
def le2(t s:Value):Bool:=
 match s with
 | .tuple ⟨a::b::r⟩=>(match t with
  | .tuple ⟨c::d::q⟩=>PY le1 (c::d::q) (a::b::r)
  |_=>false)
 |s=>El t&&le1 t s
theorem Ao6{j n:Nat}(h:j<=n):loN n<=loN j:=by
 unfold loN
 cases h1:Nat.blt n 4611686018427387904<;>cases h2:Nat.blt j 4611686018427387904
 ·exact Int.le_refl _
 ·exact(by decide:(-9223372036854775808:Int)<=0)
 ·have h3:=Eq.mp Nat.blt_eq h1
  have h4:Nat.blt j 4611686018427387904=true:=Eq.mpr Nat.blt_eq (by omega)
  rw[h4]at h2
  cases h2
 ·exact Int.le_refl _
theorem N9{t s v:Value}(h:le0 t s=true)(g:G0 τ t v):G0 τ s v:=by
 unfold le0 at h
 unfold G0
 split at h
 ·rename_i k e
  rw[e]
  split at h
  ·rename_i k' hk
   have:k'=k:=by simpa using h
   subst this
   exact MW hk g
  ·cases h
 ·rename_i k n e
  rw[e]
  split at h
  ·rename_i k' x
   simp only[Bool.and_eq_true,decide_eq_true_eq]at h
   obtain⟨⟨rfl,h1⟩,h2⟩:=h
   exact⟨x,g.1,h1,h2⟩
  ·split at h
   ·rename_i k' j hj
    simp only[Bool.and_eq_true,decide_eq_true_eq]at h
    obtain⟨rfl,h1⟩:=h
    unfold G0 at g
    rw[hj]at g
    obtain⟨x,e1,e2,e3⟩:=g
    exact⟨x,e1,Int.le_trans (Ao6 h1) e2,by omega⟩
   ·cases h
 ·rename_i e
  rw[e]
  exact IY h g
 ·rename_i i e
  rw[e]
  split at h
  ·rename_i j hj
   have:=Nat.eq_of_beq_eq_true h
   subst this
   unfold G0 at g
   rw[hj]at g
   exact g
  ·cases h
 ·rename_i e
  rw[e]
  have:=Ao5 h
  subst this
  exact⟨g.eq e,g.plain⟩
theorem J5{p:Value->Value->Bool}{R:Value->Value->Prop}(hp:∀t s v,p t s=true->R t v->R s v):∀{l m vs:List Value},PY p l m=true->As R l vs->As R m vs
 |[],[],[],_,_=>trivial
 |a::l,b::m,v::vs,h,g=>by
  simp only[PY,Bool.and_eq_true]at h
  exact⟨hp a b v h.1 g.1,J5 hp h.2 g.2⟩
 |[],_::_,_,h,_=>by cases h
 |_::_,[],_,h,_=>by cases h
 |[],[],_::_,_,g=>g.elim
 |_::_,_::_,[],_,g=>g.elim
theorem Abl{t s v:Value}(h:le1 t s=true)(g:G1 τ t v):G1 τ s v:=by
 unfold le1 at h
 split at h
 ·split at h
  ·obtain⟨l,rfl,gl⟩:=g
   exact⟨l,rfl,J5 (R:=G0 τ) (fun _ _ _ h g=>N9 h g) h gl⟩
  ·cases h
 ·rw[Bool.and_eq_true]at h
  have g0:G0 τ t v:=by
   unfold G1 at g
   split at g
   ·cases h.1
   ·exact g
  exact(N9 h.2 g0).g1
theorem KO{t s v:Value}(h:le2 t s=true)(g:G2 τ t v):G2 τ s v:=by
 unfold le2 at h
 split at h
 ·split at h
  ·obtain⟨l,rfl,gl⟩:=g
   exact⟨l,rfl,J5 (R:=G1 τ) (fun _ _ _ h g=>Abl h g) h gl⟩
  ·cases h
 ·rw[Bool.and_eq_true]at h
  have g1:G1 τ t v:=by
   unfold G2 at g
   split at g
   ·cases h.1
   ·exact g
  exact(Abl h.2 g1).g2
theorem Abm{l m vs:List Value}(h:PY le2 l m=true)(g:As (G2 τ) l vs):As (G2 τ) m vs:=J5 (R:=G2 τ) (fun _ _ _ h g=>KO h g) h g
def PZ(t:Value):Bool:=le2 (er2 t) t
theorem It{t v:Value}(h:PZ t=true)(g:G2 τ t v):G2 τ' t v:=KO h (N8 g)
def KP(l:List Value):Bool:=l.all PZ
theorem Gt:∀{l vs:List Value},KP l=true->As (G2 τ) l vs->As (G2 τ') l vs
 |[],[],_,_=>trivial
 |a::l,v::vs,h,g=>by
  simp only[KP,List.all_cons,Bool.and_eq_true]at h
  exact⟨It h.1 g.1,Gt h.2 g.2⟩
 |[],_::_,_,g=>g.elim
 |_::_,[],_,g=>g.elim
end
structure ACt(P:Program)(nq:(Nat->Int)->Prop) where
 ct:Ct P
 flow:Bool
 sa:List Value
 sr:Value
 fb:Value
 tout:Bool
 okF:flow=true->∀(k:Nat) (rest:List Value) (m:Xm) (bad:Bool) (τ:Nat->Int),m[k]? =some [.bool bad]->As (G2 τ) sa rest->
  ∃v bad' τ',(∀K:Value->Xm->Prop,K v (m.set k [.bool bad'])->ct.sp (.pointer (some ⟨k,0,none⟩)::rest) m K)/\G0 τ' fb (.bool bad')/\(bad=true->bad'=true)/\(tout=true->bad'=true∨nq τ'∨(τ'=τ/\bad=false))/\G2 τ' sr v/\(tout=false->τ'=τ)
 okP:flow=false->∀(args:List Value) (m:Xm) (τ:Nat->Int),As (G2 τ) sa args->∃v,(∀K:Value->Xm->Prop,K v m->ct.sp args m K)/\G2 τ sr v
def Abn{P:Program}{nq:(Nat->Int)->Prop}(fl:Bool)(c:ACt P nq)(args:List Value)(m:Xm):Option (Value×Xm×Bool):=
 match c.flow with
 | true=>
  (match args with
  | .pointer (some ⟨k,0,none⟩)::rest=>(match m[k]? with
   | some [b]=>
    (match Ds b&&PY le2 rest c.sa with
    | true=>
     (match fl&&Nat.beq k 0 with
     |true=>(match c.tout with
      |true=>some (c.sr,(erM m).set k [c.fb],true)
      |false=>some (c.sr,m.set k [c.fb],false))
     |false=>some (er2 c.sr,m.set k [er0 c.fb],false))
    |false=>none)
   |_=>none)
  |_=>none)
 |false=>(match PY le2 args c.sa with
  |true=>some (c.sr,m,false)
  |false=>none)
def Inv(NQ:(Nat->Int)->Prop)(fl b0:Bool)(τ:Nat->Int)(m:Xm):Prop:=fl=true->∃b,m[0]? =some [.bool b]/\(b0=true->b=true)/\(b=true∨NQ τ)
theorem Abo{P:Program}{nq NQ:(Nat->Int)->Prop}(hNQ:∀τ,nq τ->NQ τ){fl b0 e:Bool}{c:ACt P nq}{args vargs:List Value}{am am' m:Xm}{t:Value}{τ:Nat->Int}(h:Abn fl c args am=some (t,am',e))(ga:As (G2 τ) args vargs)(M:GM τ am m)(I:Inv NQ fl b0 τ m):
    ∃v m' τ',(∀K:Value->Xm->Prop,K v m'->c.ct.sp vargs m K)/\G2 τ' t v/\GM τ' am' m'/\Inv NQ fl b0 τ' m'/\(e=false->τ'=τ)/\(e=true->fl=true):=by
 unfold Abn at h
 split at h
 ·rename_i hfl
  split at h
  ·rename_i k rest
   match vargs,ga with
   |v0::vrest,ga=>
   obtain⟨g0,gr⟩:=ga
   have e0:=g0.ptr
   subst e0
   split at h
   ·rename_i b hb
    obtain⟨l',hl',gl⟩:=M.g k _ hb
    match l',gl with
    |[x],gl=>
    split at h
    ·rename_i hc
     rw[Bool.and_eq_true]at hc
     obtain⟨bad,rfl⟩:=IY hc.1 gl.1
     have gs:=Abm hc.2 gr
     split at h
     ·rename_i hk
      rw[Bool.and_eq_true]at hk
      have hk0:=Nat.eq_of_beq_eq_true hk.2
      subst hk0
      obtain⟨b,h1,h2,h3⟩:=I hk.1
      rw[hl']at h1
      cases h1
      obtain⟨v,bad',τ',hsp,gf,hst,hq,gv,hτ⟩:=c.okF hfl 0 vrest m bad τ hl' gs
      have hlen:0<m.length:=(List.getElem?_eq_some_iff.1 hl').1
      have hI:(bad'=true∨NQ τ')->Inv NQ fl b0 τ' (m.set 0 [.bool bad']):=fun hq _=>⟨bad',List.getElem?_set_self hlen,fun e=>hst (h2 e),hq⟩
      split at h
      ·rename_i ht
       cases h
       exact⟨v,_,τ',hsp,gv,(M.er).set 0 ⟨gf,trivial⟩,hI ((hq ht).elim .inl fun z=>z.elim (fun z=>.inr (hNQ τ' z)) fun z=>h3.elim (fun e=>.inl (hst e)) fun e=>.inr (z.1▸e)),(fun e=>by cases e),fun _=>hk.1⟩
      ·rename_i ht
       cases h
       obtain rfl:=hτ ht
       exact⟨v,_,τ',hsp,gv,M.set 0 ⟨gf,trivial⟩,hI (h3.imp hst id),fun _=>rfl,(fun e=>by cases e)⟩
     ·rename_i hk
      cases h
      obtain⟨v,bad',τ',hsp,gf,hst,hq,gv,hτ⟩:=c.okF hfl k vrest m bad τ hl' gs
      refine⟨v,_,τ,hsp,N8 gv,M.set k ⟨N7 gf,trivial⟩,fun hf=>?_,fun _=>rfl,(fun e=>by cases e)⟩
      obtain⟨b,h1,h2,h3⟩:=I hf
      have hne:k≠0:=by
       rintro rfl
       rw[hf]at hk
       cases hk
      exact⟨b,by rw[List.getElem?_set_ne hne];exact h1,h2,h3⟩
    ·cases h
   ·cases h
  ·cases h
 ·rename_i hfl
  split at h
  ·rename_i hc
   cases h
   obtain⟨v,hsp,gv⟩:=c.okP hfl vargs m τ (Abm hc ga)
   exact⟨v,m,τ,hsp,gv,M,I,fun _=>rfl,(fun e=>by cases e)⟩
  ·cases h
def P1(t:Value):Bool:=G6 t||(MU t).isSome
def Sj(P:Program)(t:TypeId)(l:List Value)(off:Nat)(v:Value):Option (List Value):=
 match qrun P (sizeOf t)with
 |some n=>if El v&&(v.cells.size==n)&&decide (off+v.cells.toList.length<=l.length)&&v.cells.toList.all P1 then some (FP l off v.cells.toList)else none
 |none=>none
section
variable {P:Program} {nq NQ:(Nat->Int)->Prop} {τ:Nat->Int}
theorem Abp{t v:Value}(h:P1 t=true)(g:G0 τ t v):G6 v=true:=by
 unfold G0 at g
 split at g
 ·obtain⟨x,rfl⟩:=g;rfl
 ·obtain⟨x,rfl,_⟩:=g;rfl
 ·obtain⟨x,rfl⟩:=g;rfl
 ·rw[g];rfl
 ·rename_i e
  rw[g.1]
  simpa [P1,e]using h
theorem I4:∀{l vs:List Value},l.all P1=true->As (G0 τ) l vs->vs.all G6=true
 |[],[],_,_=>rfl
 |a::l,v::vs,h,g=>by
  simp only[List.all_cons,Bool.and_eq_true]at h ⊢
  exact⟨Abp h.1 g.1,I4 h.2 g.2⟩
 |[],_::_,_,g=>g.elim
 |_::_,[],_,g=>g.elim
theorem MZ:∀(xs ys l m:List Value) (o:Nat),As (G0 τ) xs ys->As (G0 τ) l m->As (G0 τ) (FP l o xs) (FP m o ys)
 |[],[],_,_,_,_,h=>h
 |_::xs,_::ys,_,_,o,g,h=>MZ xs ys _ _ (o+1) g.2 (h.set o _ _ g.1)
 |[],_::_,_,_,_,g,_=>g.elim
 |_::_,[],_,_,_,g,_=>g.elim
theorem XE{t:TypeId}{l l' r:List Value}{off:Nat}{x v:Value}(h:Sj P t l off x=some r)(gl:As (G0 τ) l l')(g:G2 τ x v):∃r',G8 P t l' off v=some r'/\As (G0 τ) r r':=by
 unfold Sj at h
 unfold G8
 split at h
 ·rename_i n hn
  split at h
  ·rename_i hc
   cases h
   simp only[Bool.and_eq_true,beq_iff_eq,decide_eq_true_eq]at hc
   have gc:=IZ g hc.1.1.1
   have e1:=gc.len
   have e2:=gl.len
   have e3:v.cells.size=x.cells.size:=by simpa using e1.symm
   refine⟨FP l' off v.cells.toList,?_,MZ _ _ _ _ off gc gl⟩
   rw[hn]
   dsimp only
   rw[if_pos]
   simp only[Bool.and_eq_true,beq_iff_eq,decide_eq_true_eq]
   exact⟨⟨by rw[e3];exact hc.1.1.2,by rw[<-e1,<-e2];exact hc.1.2⟩,I4 hc.2 gc⟩
  ·cases h
 ·cases h
def aa(P:Program)(fl:Bool)(tbl:List (ACt P nq))(id:Nat)(o:Oper)(ρ:Operand->Value)(m:Xm):Option (Value×Xm×Bool):=
 match o.op.operands.all Z7,o.op with
 | true,.store t x y=>
  (match ρ x with
  | .pointer (some ⟨k,off,none⟩)=>(match m[k]? with
   |some l=>(match isP (ρ y)||(fl&&Nat.beq k 0),Sj P t l off (ρ y)with
    |false,some l'=>some (undef,m.set k l',false)
    |_,_=>none)
   |none=>none)
  |_=>none)
 |true,.box _ x=>(match isP (ρ x)|| !El (ρ x)||(fl&&Nat.beq id 0),(ρ x).cells.toList.all P1 with
     |false,true=>some (.pointer (some ⟨id,0,none⟩),m.set id (ρ x).cells.toList,false)
     |_,_=>none)
 |true,.load _ _=>
  (match aq P (fun _=>true) id o ρ m with
  |some v=>some (v,m,false)
  |none=>none)
 | true,.call c=>
  (match c.callee with
  | .value (.func n)=>(match tbl.find? (fun a=>a.ct.fn==n)with
   |some a=>Abn fl a (c.args.toList.map ρ) m
   |none=>none)
  |_=>none)
 |_,_=>none
def XF(tbl:List (ACt P nq)):List (Ct P):=tbl.map (·.ct)
theorem VO:∀(tbl:List (ACt P nq)) (n:Nat) (a:ACt P nq),tbl.find? (fun a=>a.ct.fn==n)=some a->(XF tbl).find? (fun ct=>ct.fn==n)=some a.ct
 |[],_,_,h=>by cases h
 | x::tbl,n,a,h=>by
  unfold XF
  rw[List.map_cons,List.find?_cons]
  rw[List.find?_cons]at h
  split at h
  ·cases h
   rfl
  ·exact VO tbl n a h
theorem KQ{at' vt:List Value}(F:GF τ at' vt):∀(l:List Operand),(∀x∈l,Z7 x=true)->As (G2 τ) (l.map (VE at')) (l.map (VE vt))
 |[],_=>trivial
 |x::l,h=>⟨F.ev (h x List.mem_cons_self),KQ F l (fun y hy=>h y (List.mem_cons_of_mem _ hy))⟩
theorem M4{v:Value}(h:isP v=false)(l:List Value):G9 (v::l)=G9 l:=by
 cases v with
 |pointer a=>
  cases a with
  |none=>rfl
  |some a=>cases h
 |_=>rfl
theorem KR:∀{l m:List Value},As (G2 τ) l m->G9 m=G9 l
 |[],[],_=>rfl
 | a::l,b::m,g=>by
  have ih:G9 m=G9 l:=KR g.2
  have hp:=g.1.isP
  cases ha:isP a with
  | true=>
   match a,ha,g.1 with
   | .nilIface,_,g1=>
    have e:b=.nilIface:=g1.1
    rw[e]
    exact ih
   | .slice (some x) n c,_,g1=>
    have e:b=.slice (some x) n c:=g1.1
    rw[e]
    exact ih
   | .pointer (some x),_,g1=>
    rw[g1.ptr]
    show x.block::G9 m=x.block::G9 l
    rw[ih]
  |false=>
   rw[ha]at hp
   rw[M4 ha,M4 hp,ih]
 |[],_::_,g=>g.elim
 |_::_,[],g=>g.elim
theorem Ank(hNQ:∀τ,nq τ->NQ τ){fl b0 e:Bool}{tbl:List (ACt P nq)}{id:Nat}{o:Oper}{at' vt:List Value}{am am' m:Xm}{r:Value}(h:aa P fl tbl id o (VE at') am=some (r,am',e))(F:GF τ at' vt)(M:GM τ am m)(I:Inv NQ fl b0 τ m):
    ∃v m' τ',(∀K:Value->Xm->Prop,K v m'->va P (XF tbl) id o (VE vt) m K)/\G2 τ' r v/\GM τ' am' m'/\Inv NQ fl b0 τ' m'/\(e=false->τ'=τ):=by
 unfold aa at h
 split at h
 ·rename_i t x y hok hop
  have hX:o.op.operands.all Pr=true:=Array.all_eq_true_iff_forall_mem.2 (fun x hx=>ED (Array.all_eq_true_iff_forall_mem.1 hok x hx))
  have hev:∀x∈o.op.operands,G2 τ (VE at' x) (VE vt x):=fun x hx=>F.ev (Array.all_eq_true_iff_forall_mem.1 hok x hx)
  have h1:=hev x (by simp[hop,Op.operands])
  have h2:=hev y (by simp[hop,Op.operands])
  split at h
  ·rename_i k off hx
   rw[hx]at h1
   split at h
   ·rename_i l hl
    obtain⟨l',hl',gl⟩:=M.g k l hl
    split at h
    ·rename_i r' hp hst
     cases h
     rw[Bool.or_eq_false_iff]at hp
     obtain⟨s,hs,gs⟩:=XE hst gl h2
     refine⟨undef,m.set k s,τ,fun K hK=>?_,BF rfl,M.set k gs,fun hf=>?_,fun _=>rfl⟩
     ·unfold va
      rw[hX,hop]
      dsimp only
      rw[h1.ptr]
      dsimp only
      rw[hl']
      dsimp only
      rw[h2.isP,hp.1,hs]
      exact hK
     ·obtain⟨b,i1,i2,i3⟩:=I hf
      have hne:k≠0:=by
       rintro rfl
       rw[hf]at hp
       cases hp.2
      exact⟨b,by rw[List.getElem?_set_ne hne];exact i1,i2,i3⟩
    ·cases h
   ·cases h
  ·cases h
 ·rename_i t x hok hop
  have hX:o.op.operands.all Pr=true:=Array.all_eq_true_iff_forall_mem.2 (fun x hx=>ED (Array.all_eq_true_iff_forall_mem.1 hok x hx))
  have h1:=F.ev (Array.all_eq_true_iff_forall_mem.1 hok x (by simp[hop,Op.operands]))
  split at h
  ·rename_i hp hc
   cases h
   simp only[Bool.or_eq_false_iff,Bool.not_eq_false']at hp
   have gc:=IZ h1 hp.1.2
   refine⟨.pointer (some ⟨id,0,none⟩),m.set id (VE vt x).cells.toList,τ,fun K hK=>?_,⟨rfl,rfl⟩,M.set id gc,fun hf=>?_,fun _=>rfl⟩
   ·unfold va
    rw[hX,hop]
    dsimp only
    rw[h1.isP,hp.1.1,I4 hc gc]
    exact hK
   ·obtain⟨b,i1,i2,i3⟩:=I hf
    have hne:id≠0:=by
     rintro rfl
     rw[hf]at hp
     cases hp.2
    exact⟨b,by rw[List.getElem?_set_ne hne];exact i1,i2,i3⟩
  ·cases h
 ·rename_i t x hok hop
  have hX:o.op.operands.all Pr=true:=Array.all_eq_true_iff_forall_mem.2 (fun x hx=>ED (Array.all_eq_true_iff_forall_mem.1 hok x hx))
  split at h
  ·rename_i v hv
   cases h
   obtain⟨u,hu,gu⟩:=Abi hv F M
   refine⟨u,m,τ,fun K hK=>?_,gu,M,I,fun _=>rfl⟩
   unfold va
   rw[hX,hop]
   dsimp only
   rw[hu]
   exact hK
  ·cases h
 ·rename_i c hok hop
  have hX:o.op.operands.all Pr=true:=Array.all_eq_true_iff_forall_mem.2 (fun x hx=>ED (Array.all_eq_true_iff_forall_mem.1 hok x hx))
  split at h
  ·rename_i n hcal
   split at h
   ·rename_i a ha
    have ga:=KQ F c.args.toList (fun x hx=>Array.all_eq_true_iff_forall_mem.1 hok x (by
     simp only[hop,Op.operands,Call.operands]
     exact Array.mem_append_right _ (by simpa using hx)))
    obtain⟨v,m',τ',hsp,gv,M',I',he,_⟩:=Abo hNQ h ga M I
    refine⟨v,m',τ',fun K hK=>?_,gv,M',I',he⟩
    unfold va
    rw[hX,hop]
    dsimp only
    rw[hcal]
    dsimp only
    rw[VO tbl n a ha]
    exact hsp K hK
   ·cases h
  ·cases h
 ·cases h
theorem Ao7{id:Nat}{o:Oper}{at' vt:List Value}(F:GF τ at' vt)(hok:o.op.operands.all Z7=true):vw id o (VE vt)=vw id o (VE at'):=by
 have hev:∀x∈o.op.operands,G2 τ (VE at' x) (VE vt x):=fun x hx=>F.ev (Array.all_eq_true_iff_forall_mem.1 hok x hx)
 unfold vw
 split
 ·rename_i t x y hop
  exact KR (l:=[VE at' x]) (m:=[VE vt x]) ⟨hev x (by simp[hop,Op.operands]),trivial⟩
 ·rfl
 ·rename_i c hop
  exact KR (KQ F c.args.toList (fun x hx=>Array.all_eq_true_iff_forall_mem.1 hok x (by
        simp only[hop,Op.operands,Call.operands]
        exact Array.mem_append_right _ (by simpa using hx))))
 ·rfl
theorem Abq{fl e:Bool}{tbl:List (ACt P nq)}{id:Nat}{o:Oper}{ρ:Operand->Value}{am am':Xm}{r:Value}(h:aa P fl tbl id o ρ am=some (r,am',e)):o.op.operands.all Z7=true:=by
 cases hc:o.op.operands.all Z7 with
 |true=>rfl
 |false=>
  unfold aa at h
  rw[hc]at h
  cases h
theorem VP{fl e:Bool}{tbl:List (ACt P nq)}{cl:Nat->Bool}{id:Nat}{o:Oper}{at' vt:List Value}{am am' m:Xm}{r:Value}(h:aa P fl tbl id o (VE at') am=some (r,am',e))(hq:aq P cl id o (VE at') am=none)(F:GF τ at' vt):vq P cl id o (VE vt) m=none:=by
 have hok:=Abq h
 have hX:o.op.operands.all Pr=true:=Array.all_eq_true_iff_forall_mem.2 (fun x hx=>ED (Array.all_eq_true_iff_forall_mem.1 hok x hx))
 unfold vq
 rw[if_pos hX]
 unfold aa at h
 rw[hok]at h
 unfold aq at hq
 rw[if_pos hok]at hq
 cases hop:o.op<;>rw[hop]at h hq<;>dsimp only at h hq ⊢<;>try (cases h;done)
 case load t x=>
  have h1:=F.ev (Array.all_eq_true_iff_forall_mem.1 hok x (by simp[hop,Op.operands]))
  split at h
  ·rename_i v hv
   unfold aq at hv
   rw[if_pos hok,hop]at hv
   dsimp only at hv
   split at hv
   ·rename_i k off hx
    rw[hx]at h1 hq
    rw[h1.ptr]
    dsimp only at hq ⊢
    cases hc:cl k with
    |false=>rfl
    |true=>
     rw[if_pos hc]at hq
     rw[if_pos rfl]at hv
     rw[hq]at hv
     cases hv
   ·cases hv
  ·cases h
 case call c=>
  split at h
  ·rename_i n hcal
   rw[hcal]
  ·cases h
end
section
variable {P:Program} {nq NQ:(Nat->Int)->Prop} {τ:Nat->Int}
def forkM(fl:Bool)(o:Oper)(ρ:Operand->Value)(m:Xm):List Xm:=
 match o.op with
 | .load _ x=>(match ρ x with
  | .pointer (some ⟨0,0,none⟩)=>(match fl,m[0]? with
   |true,some [c]=>(match MU c with
    |some (none,0)=>[m.set 0 [.bool true],m.set 0 [.bool false]]
    |_=>[m])
   |_,_=>[m])
  |_=>[m])
 |_=>[m]
theorem GM.bool0{am m:Xm}(M:GM τ am m){b:Bool}(h:m[0]? =some [.bool b]):GM τ (am.set 0 [.bool b]) m:=by
 have e:m.set 0 [.bool b]=m:=by
  have hl:=(List.getElem?_eq_some_iff.1 h).1
  rw[<-(List.getElem?_eq_some_iff.1 h).2]
  exact List.set_getElem_self hl
 have:=M.set 0 (l:=[.bool b]) (l':=[.bool b]) ⟨⟨rfl,rfl⟩,trivial⟩
 rwa [e]at this
theorem P2{fl b0:Bool}{o:Oper}{ρ:Operand->Value}{am m:Xm}(M:GM τ am m)(I:Inv NQ fl b0 τ m):∃am'∈forkM fl o ρ am,GM τ am' m:=by
 have same:∃am'∈[am],GM τ am' m:=⟨am,List.mem_singleton.2 rfl,M⟩
 unfold forkM
 split
 ·split
  ·split
   ·split
    ·obtain⟨b,h,_⟩:=I rfl
     refine⟨am.set 0 [.bool b],?_,M.bool0 h⟩
     cases b<;>simp
    ·exact same
   ·exact same
  ·exact same
 ·exact same
def erIf(e:Bool)(at':List Value):List Value:=
 match e with
 |true=>at'.map er2
 |false=>at'
theorem GF.erIf{e:Bool}{τ':Nat->Int}{at' vt:List Value}(F:GF τ at' vt)(h:e=false->τ'=τ):GF τ' (erIf e at') vt:=by
 cases e with
 |true=>exact F.er
 |false=>rw[h rfl];exact F
def XG{α:Type}(f:α->Bool):List α->Bool
 |[]=>true
 |[x]=>f x
 |x::y::l=>f x&&XG f (y::l)
theorem J6{α:Type}{f:α->Bool}:∀{l:List α},XG f l=true->∀x∈l,f x=true
 |[],_,x,hx=>by cases hx
 |[y],h,x,hx=>by
  rw[List.mem_singleton.1 hx]
  exact h
 |y::z::l,h,x,hx=>by
  rw[XG,Bool.and_eq_true]at h
  rcases List.mem_cons.1 hx with rfl |hx
  ·exact h.1
  ·exact J6 h.2 x hx
def aop(P:Program)(fl:Bool)(tbl:List (ACt P nq))(id:Nat)(o:Oper)(at':List Value)(m:Xm)(K:List Value->Xm->Bool):Bool:=
 XG (fun m1=>
  match aq P (fun _=>true) id o (VE at') m1 with
  |some v=>K (BJ at' o.dst v) m1
  |none=>
   match aa P fl tbl id o (VE at') m1 with
   |some (v,m',e)=>K (BJ (erIf e at') o.dst v) m'
   |none=>false) (forkM fl o (VE at') m)
def Pnt(NQ:(Nat->Int)->Prop)(fl b0:Bool)(K:List Value->Xm->Bool)(S:(List Value->Xm->Prop)->Prop):Prop:=
 ∃vt' m' τ' at' am',K at' am'=true/\GF τ' at' vt'/\GM τ' am' m'/\Inv NQ fl b0 τ' m'/\∀K':List Value->Xm->Prop,K' vt' m'->S K'
theorem Ao8(hNQ:∀τ,nq τ->NQ τ){fl b0:Bool}{tbl:List (ACt P nq)}{id:Nat}{o:Oper}{at' vt:List Value}{am m:Xm}{K:List Value->Xm->Bool}(h:aop P fl tbl id o at' am K=true)(F:GF τ at' vt)(M:GM τ am m)(I:Inv NQ fl b0 τ m):
    Pnt NQ fl b0 K (Z6 P (XF tbl) id o vt m):=by
 obtain⟨am1,hm,M1⟩:=P2 (o:=o) (ρ:=VE at') M I
 have h1:=J6 h am1 hm
 split at h1
 ·rename_i v hv
  obtain⟨u,hu,gu⟩:=Abi hv F M1
  refine⟨_,m,τ,_,am1,h1,F.put o.dst gu,M1,I,fun K' hK=>?_⟩
  unfold Z6
  rw[hu]
  exact hK
 ·rename_i hq
  split at h1
  ·rename_i v am2 e ha
   obtain⟨u,m2,τ',hsp,gu,M2,I2,he⟩:=Ank hNQ ha F M1 I
   refine⟨_,m2,τ',_,am2,h1,(F.erIf he).put o.dst gu,M2,I2,fun K' hK=>?_⟩
   unfold Z6
   rw[VP (m:=m) ha hq F]
   exact hsp _ hK
  ·cases h1
def I5(P:Program)(fl:Bool)(tbl:List (ACt P nq))(ops:Array Oper)(ids:Nat->Nat)(K:List Value->Xm->Bool):List Nat->List Value->Xm->Bool
 |[],at',m=>K at' m
 | i ::rest,at',m=>
  match ops[i]? with
  |none=>I5 P fl tbl ops ids K rest at' m
  | some o=>
   match o.guard with
   |none=>aop P fl tbl (ids i) o at' m (I5 P fl tbl ops ids K rest)
   | some (g,want)=>
    match (ops[g]?).bind (·.dst)with
    |none=>false
    | some d=>
     match at'.getD d undef with
     | .bool x=>(match x==want with
      |true=>aop P fl tbl (ids i) o (at'.set d (.bool x)) m (I5 P fl tbl ops ids K rest)
      |false=>I5 P fl tbl ops ids K rest (BJ (at'.set d (.bool x)) o.dst undef) m)
     | .tuple ⟨[]⟩=>I5 P fl tbl ops ids K rest (BJ at' o.dst undef) m
     |c=>Ds c&&aop P fl tbl (ids i) o (at'.set d (.bool want)) m (I5 P fl tbl ops ids K rest)&&I5 P fl tbl ops ids K rest (BJ (at'.set d (.bool !want)) o.dst undef) m
theorem VR{ops:Array Oper}{tbl:List (Ct P)}{ids:Nat->Nat}{K:List Value->Xm->Prop}{i:Nat}{rest:List Nat}{vt:List Value}{m:Xm}{o:Oper}(ho:ops[i]? =some o){g:Nat}{want:Bool}(hg:o.guard=some (g,want)){d:Nat}(hd:(ops[g]?).bind (·.dst)=some d){x:Bool}(hx:vt.getD d undef=.bool x)
    (h:match x==want with
      |true=>Z6 P tbl (ids i) o (vt.set d (.bool x)) m (D5 P tbl ops ids K rest)
      |false=>D5 P tbl ops ids K rest (BJ (vt.set d (.bool x)) o.dst undef) m):D5 P tbl ops ids K (i::rest) vt m:=by
 unfold D5
 rw[ho]
 dsimp only
 rw[hg]
 dsimp only
 rw[hd]
 dsimp only
 rw[hx]
 cases x<;>cases want<;>exact h
theorem Iu(hNQ:∀τ,nq τ->NQ τ){fl b0:Bool}{tbl:List (ACt P nq)}{ops:Array Oper}{ids:Nat->Nat}{K:List Value->Xm->Bool}:∀(is:List Nat) (τ:Nat->Int) (at' vt:List Value) (am m:Xm),I5 P fl tbl ops ids K is at' am=true->GF τ at' vt->GM τ am m->Inv NQ fl b0 τ m->
    Pnt NQ fl b0 K (fun K'=>D5 P (XF tbl) ops ids K' is vt m)
 |[],τ,at',vt,am,m,h,F,M,I=>⟨vt,m,τ,at',am,h,F,M,I,fun _ hK=>hK⟩
 | i ::rest,τ,at',vt,am,m,h,F,M,I=>by
  unfold I5 at h
  split at h
  ·rename_i ho
   obtain⟨vt',m',τ',at2,am2,h1,F1,M1,I1,hs⟩:=Iu hNQ rest τ at' vt am m h F M I
   refine⟨vt',m',τ',at2,am2,h1,F1,M1,I1,fun K' hK=>?_⟩
   unfold D5
   rw[ho]
   exact hs K' hK
  ·rename_i o ho
   have one:∀(at1 vt1:List Value),aop P fl tbl (ids i) o at1 am (I5 P fl tbl ops ids K rest)=true->GF τ at1 vt1->Pnt NQ fl b0 K (fun K'=>Z6 P (XF tbl) (ids i) o vt1 m (D5 P (XF tbl) ops ids K' rest)):=by
    intro at1 vt1 h1 F1
    obtain⟨vt',m',τ',at2,am2,h2,F2,M2,I2,hs⟩:=Ao8 hNQ h1 F1 M I
    obtain⟨vt3,m3,τ3,at3,am3,h3,F3,M3,I3,hs3⟩:=Iu hNQ rest τ' at2 vt' am2 m' h2 F2 M2 I2
    exact⟨vt3,m3,τ3,at3,am3,h3,F3,M3,I3,fun K' hK=>hs _ (hs3 K' hK)⟩
   split at h
   ·rename_i hg
    obtain⟨vt',m',τ',at2,am2,h2,F2,M2,I2,hs⟩:=one at' vt h F
    refine⟨vt',m',τ',at2,am2,h2,F2,M2,I2,fun K' hK=>?_⟩
    unfold D5
    rw[ho]
    dsimp only
    rw[hg]
    exact hs K' hK
   ·rename_i g want hg
    split at h
    ·cases h
    ·rename_i d hd
     have side:∀x:Bool,vt.getD d undef=.bool x->(match x==want with
      |true=>aop P fl tbl (ids i) o (at'.set d (.bool x)) am (I5 P fl tbl ops ids K rest)
      |false=>I5 P fl tbl ops ids K rest (BJ (at'.set d (.bool x)) o.dst undef) am)=true->Pnt NQ fl b0 K (fun K'=>D5 P (XF tbl) ops ids K' (i::rest) vt m):=by
      intro x hx hh
      have F1:GF τ (at'.set d (.bool x)) (vt.set d (.bool x)):=F.set d ⟨rfl,rfl⟩
      cases hw:(x==want)with
      |true=>
       rw[hw]at hh
       obtain⟨vt',m',τ',at2,am2,h2,F2,M2,I2,hs⟩:=one _ _ hh F1
       exact⟨vt',m',τ',at2,am2,h2,F2,M2,I2,fun K' hK=>VR ho hg hd hx (by rw[hw];exact hs K' hK)⟩
      |false=>
       rw[hw]at hh
       obtain⟨vt',m',τ',at2,am2,h2,F2,M2,I2,hs⟩:=Iu hNQ rest τ _ _ am m hh (F1.put o.dst (BF (t:=undef) rfl)) M I
       exact⟨vt',m',τ',at2,am2,h2,F2,M2,I2,fun K' hK=>VR ho hg hd hx (by rw[hw];exact hs K' hK)⟩
     have gd:=F.g d
     split at h
     ·rename_i x hx
      rw[hx]at gd
      exact side x gd.bool h
     ·rename_i hx
      rw[hx]at gd
      have gd:vt.getD d undef=.tuple ⟨[]⟩:=gd.1
      obtain⟨vt',m',τ',at2,am2,h2,F2,M2,I2,hs⟩:=Iu hNQ rest τ _ _ am m h (F.put o.dst (BF (t:=undef) rfl)) M I
      refine⟨vt',m',τ',at2,am2,h2,F2,M2,I2,fun K' hK=>?_⟩
      unfold D5
      rw[ho]
      dsimp only
      rw[hg]
      dsimp only
      rw[hd]
      dsimp only
      rw[gd]
      exact hs K' hK
     ·rename_i c hc1 hc
      simp only[Bool.and_eq_true]at h
      obtain⟨x,hx⟩:=C8 h.1.1 gd
      refine side x hx ?_
      cases x<;>cases want<;>first |exact h.1.2 |exact h.2
def forkG(ops:Array Oper)(o:Oper)(at':List Value):List (List Value):=
 match o.guard with
 |none=>[at']
 | some (g,_)=>
  match (ops[g]?).bind (·.dst)with
  |none=>[]
  | some d=>
   match at'.getD d undef with
   | .bool _=>[at']
   | .tuple ⟨[]⟩=>[at']
   |c=>(match Ds c with
    |true=>[at'.set d (.bool true),at'.set d (.bool false)]
    |false=>[])
def Oa(ops:Array Oper)(o:Oper)(at':List Value):Bool:=
 match o.guard with
 |none=>true
 | some (g,want)=>
  match (ops[g]?).bind (·.dst)with
  |none=>false
  |some d=>
   match at'.getD d undef with
   | .bool x=>x==want
   |_=>false
theorem GF.setSame{at' vt:List Value}(F:GF τ at' vt){d:Nat}{t:Value}(g:G2 τ t (vt.getD d undef)):GF τ (at'.set d t) vt:=by
 refine⟨by rw[List.length_set];exact F.len,fun i=>?_⟩
 have hl:=F.len
 by_cases e:d=i
 ·subst e
  by_cases hd:d<at'.length
  ·rw[List.getD_eq_getElem?_getD,List.getElem?_set_self hd]
   exact g
  ·have:=F.g d
   rw[List.getD_eq_getElem?_getD,List.getElem?_eq_none (by omega)]at this
   rw[List.getD_eq_getElem?_getD,List.getElem?_eq_none (by rw[List.length_set];omega)]
   exact this
 ·have:=F.g i
  rw[List.getD_eq_getElem?_getD]at this ⊢
  rw[List.getElem?_set_ne e]
  exact this
theorem Abr{ops:Array Oper}{o:Oper}{at' vt:List Value}(F:GF τ at' vt)(hne:forkG ops o at'≠[]):∃at1∈forkG ops o at',GF τ at1 vt/\Region.wanted o (Bb ops vt)=Oa ops o at1:=by
 unfold forkG at hne ⊢
 unfold Region.wanted Oa
 split at hne
 ·rename_i hg
  refine⟨at',List.mem_singleton.2 rfl,F,?_⟩
  rw[hg]
 ·rename_i g want hg
  rw[hg]
  dsimp only
  split at hne
  ·exact absurd rfl hne
  ·rename_i d hd
   have gd:=F.g d
   have yv:∀x,vt.getD d undef=.bool x->Bb ops vt g=some x:=fun x hx=>by
    unfold Bb
    rw[hd]
    dsimp only
    rw[hx]
    rfl
   have fin:∀x,(some x==some want)=(x==want):=fun x=>by cases x<;>cases want<;>rfl
   split at hne
   ·rename_i x hx
    rw[hx]at gd
    refine⟨at',List.mem_singleton.2 rfl,F,?_⟩
    rw[yv x gd.bool,hx]
    exact fin x
   ·rename_i hx
    rw[hx]at gd
    have gd:vt.getD d undef=.tuple ⟨[]⟩:=gd.1
    refine⟨at',List.mem_singleton.2 rfl,F,?_⟩
    have y0:Bb ops vt g=none:=by
     unfold Bb
     rw[hd]
     dsimp only
     rw[gd]
     rfl
    rw[y0,hx]
    rfl
   ·rename_i c hc1 hc
    split at hne
    ·rename_i hb
     obtain⟨x,hx⟩:=C8 hb gd
     refine⟨at'.set d (.bool x),by cases x<;>simp,F.setSame (by rw[hx];exact⟨rfl,rfl⟩),?_⟩
     rw[yv x hx]
     by_cases hl:d<at'.length
     ·rw[List.getD_eq_getElem?_getD,List.getElem?_set_self hl]
      exact fin x
     ·have e0:at'.getD d undef=undef:=by rw[List.getD_eq_getElem?_getD,List.getElem?_eq_none (Nat.le_of_not_lt hl)];rfl
      rw[e0]at hb
      cases hb
    ·exact absurd rfl hne
def Ao9{α:Type}:List α->Bool
 |[]=>false
 |_::_=>true
def P3(P:Program)(fl:Bool)(tbl:List (ACt P nq))(ops:Array Oper)(ids:Nat->Nat)(cl dd:Nat->Bool)(two:Bool)(K:List Value->Xm->Bool):List Stp->List Value->Xm->Bool
 |[],at',m=>K at' m
 | (j,fr,al)::js,at',m=>
  match ops[j]? with
  |none=>false
  | some o=>Ao9 (forkG ops o at')&&XG (fun at1=>XG (fun m1=>
   match (match Oa ops o at1 with
    |true=>aq P (lco cl dd two o) (ids j) o (VE at1) m1
    |false=>some undef)with
   |some v=>fr&&P3 P fl tbl ops ids cl dd two K js (BJ at1 o.dst v) m1
   |none=>
    (match al&&(vw (ids j) o (VE at1)).all (fun k=>!gco cl dd two o k),aa P fl tbl (ids j) o (VE at1) m1 with
    |true,some (v,m',e)=>P3 P fl tbl ops ids cl dd two K js (BJ (erIf e at1) o.dst v) m'
    |_,_=>false)) (forkM fl o (VE at1) m)) (forkG ops o at')
theorem KS(hNQ:∀τ,nq τ->NQ τ){fl b0:Bool}{tbl:List (ACt P nq)}{ops:Array Oper}{ids:Nat->Nat}{cl dd:Nat->Bool}{two:Bool}{K:List Value->Xm->Bool}:∀(js:List Stp) (τ:Nat->Int) (at' vt:List Value) (am m:Xm),P3 P fl tbl ops ids cl dd two K js at' am=true->GF τ at' vt->GM τ am m->Inv NQ fl b0 τ m->
    Pnt NQ fl b0 K (fun K'=>Im P (XF tbl) ops ids cl dd two K' js vt m)
 |[],τ,at',vt,am,m,h,F,M,I=>⟨vt,m,τ,at',am,h,F,M,I,fun _ hK=>hK⟩
 | (j, fr,al)::js,τ,at',vt,am,m,h,F,M,I=>by
  unfold P3 at h
  split at h
  ·cases h
  ·rename_i o ho
   rw[Bool.and_eq_true]at h
   have hne:forkG ops o at'≠[]:=fun e=>by rw[e]at h;cases h.1
   obtain⟨at1,ha1,F1,hw⟩:=Abr F hne
   obtain⟨am1,hm1,M1⟩:=P2 (o:=o) (ρ:=VE at1) M I
   have h1:=J6 (J6 h.2 at1 ha1) am1 hm1
   split at h1
   ·rename_i v hv
    have hq:∃u,RE P ops ids cl dd two j o vt m=some u/\G2 τ v u:=by
     unfold RE
     rw[hw]
     split at hv
     ·rename_i hwt
      rw[hwt]
      exact Abi hv F1 M1
     ·rename_i hwt
      rw[hwt]
      cases hv
      exact⟨undef,rfl,BF rfl⟩
    obtain⟨u,hu,gu⟩:=hq
    rw[Bool.and_eq_true]at h1
    obtain⟨vt',m',τ',at2,am2,h2,F2,M2,I2,hs⟩:=KS hNQ js τ _ _ am1 m h1.2 (F1.put o.dst gu) M1 I
    refine⟨vt',m',τ',at2,am2,h2,F2,M2,I2,fun K' hK=>?_⟩
    unfold Im
    rw[ho]
    dsimp only
    rw[KH,hu]
    dsimp only
    rw[Be]
    exact⟨h1.1,hs K' hK⟩
   ·rename_i hv
    split at hv
    ·rename_i hwt
     split at h1
     ·rename_i v am2 e hb ha
      rw[Bool.and_eq_true]at hb
      obtain⟨u,m2,τ',hsp,gu,M2,I2,he⟩:=Ank hNQ ha F1 M1 I
      obtain⟨vt',m',τ3,at3,am3,h3,F3,M3,I3,hs⟩:=KS hNQ js τ' _ _ am2 m2 h1 ((F1.erIf he).put o.dst gu) M2 I2
      refine⟨vt',m',τ3,at3,am3,h3,F3,M3,I3,fun K' hK=>?_⟩
      unfold Im
      rw[ho]
      dsimp only
      have hq:RE P ops ids cl dd two j o vt m=none:=by
       unfold RE
       rw[hw,hwt]
       exact VP (m:=m) ha hv F1
      rw[KH,hq]
      dsimp only
      rw[Be,Be]
      refine⟨hb.1,?_,hsp _ (hs K' hK)⟩
      rw[Ao7 F1 (Abq ha)]
      exact hb.2
     ·cases h1
    ·cases hv
theorem FY{at' vt:List Value}(F:GF τ at' vt)(ops:List Oper):∀(n:Nat) (x:Operand),FV ops vt n x=FV ops at' n x
 |0,_=>rfl
 | n +1,.tmp d=>by
  unfold FV
  split
  ·split
   ·exact FY F ops n _
   ·exact FY F ops n _
   ·exact FY F ops n _
   ·exact FY F ops n _
   ·rfl
  ·have g:=F.g d
   have hp:=g.isP
   cases ha:isP (at'.getD d undef)with
   | true=>
    generalize at'.getD d undef=x at *
    match x,ha,g with
    | .nilIface,_,g1=>
     have e:vt.getD d undef=.nilIface:=g1.1
     rw[e]
    | .slice (some b) n c,_,g1=>
     have e:vt.getD d undef=.slice (some b) n c:=g1.1
     rw[e]
    | .pointer (some a),_,g1=>rw[g1.ptr]
   | false=>
    rw[ha]at hp
    have e:∀v:Value,isP v=false->(match v with
     | .pointer (some a)=>some a.block
     |_=>none)=(none:Option Nat):=fun v hv=>by
     cases v with
     |pointer a=>
      cases a with
      |none=>rfl
      |some a=>cases hv
     |_=>rfl
    exact(e _ hp).trans (e _ ha).symm
 |_+1,.const _=>rfl
 |_+1,.global _=>rfl
 |_+1,.func _=>rfl
theorem XH{at' vt:List Value}(F:GF τ at' vt)(ops:List Oper):Cu ops vt=Cu ops at':=by
 unfold Cu
 congr 1
 funext o
 split
 ·exact FY F ops 6 _
 ·rfl
def J7:List Value->Bool
 |[c]=>Ds c
 |_=>false
def Ob(dirty:List Nat)(base:Nat)(m0:Xm)(k:Nat):Bool:=
 match (m0[k]?).map J7 with
 |some true=>Nat.blt k base&&dirty.contains (k+1000)
 |_=>Nat.blt k base&& !dirty.contains k
def ddA(dirty:List Nat)(base:Nat)(m0:Xm)(k:Nat):Bool:=
 match (m0[k]?).map J7 with
 |some true=>false
 |_=>Nat.blt k base&&dirty.contains k
theorem KT{l l':List Value}(g:As (G0 τ) l l'):(∃b,l'=[.bool b])↔J7 l=true:=by
 constructor
 ·rintro⟨b,rfl⟩
  match l,g with
  | [c],g=>
   show Ds c=true
   have:=g.1
   unfold G0 at this
   unfold Ds
   split at this
   ·obtain⟨x,e⟩:=this
    cases e
   ·obtain⟨x,e,_⟩:=this
    cases e
   ·rename_i e
    unfold MU at e
    split at e<;>cases e
    rfl
   ·cases this
   ·rw[<-this.1]
 ·intro h
  match l,l',g,h with
  |[c],[v],g,h=>
   obtain⟨b,e⟩:=IY h g.1
   exact⟨b,by rw[e]⟩
theorem M5{am m:Xm}(M:GM τ am m)(dirty:List Nat)(base k:Nat):Sa dirty base m k=Ob dirty base am k/\ddB dirty base m k=ddA dirty base am k:=by
 unfold Sa Ob ddB ddA
 cases hk:am[k]? with
 | none=>
  have:m[k]? =none:=by
   rw[List.getElem?_eq_none_iff]at hk ⊢
   rw[<-M.len]
   exact hk
  rw[this]
  exact⟨rfl,rfl⟩
 | some l=>
  obtain⟨l',hl',g⟩:=M.g k l hk
  rw[hl']
  cases hb:J7 l with
  |true=>
   obtain⟨b,rfl⟩:=(KT g).2 hb
   rw[Option.map_some,hb]
   exact⟨rfl,rfl⟩
  | false=>
   rw[Option.map_some,hb]
   have hn:∀b,l'≠[.bool b]:=fun b e=>by
    have:=(KT g).1 ⟨b,e⟩
    rw[hb]at this
    cases this
   constructor
   ·split
    ·rename_i e
     cases e
     exact absurd rfl (hn _)
    ·rfl
   ·split
    ·rename_i e
     cases e
     exact absurd rfl (hn _)
    ·rfl
def Oc(P:Program)(fl:Bool)(tbl:List (ACt P nq))(dirty:Nat->List Nat)(id:Nat)(ops:Array Oper)(draw:Bool)(K:List Value->Xm->Bool)(at':List Value)(m:Xm):Bool:=
 match PQ P ops&&(AK P ops).all (List.all · GO),draw with
 |true,false=>I5 P fl tbl ops (Ha m.length ops) K (List.range ops.size) at' (m++AK P ops)
 |true,true=>
  (match Region.noSelect ops,sch ops with
  |true,some js=>Nat.beq js.length ops.size&&P3 P fl tbl ops (Ha m.length ops) (Ob (dirty id++Cu ops.toList at') m.length (m++AK P ops)) (ddA (dirty id++Cu ops.toList at') m.length (m++AK P ops)) (MO ops) K js at' (m++AK P ops)
  |_,_=>false)
 |false,_=>false
theorem GM.wide{am m ns:Xm}(M:GM τ am m)(h:ns.all (List.all · GO)=true):GM τ (am++ns) (m++ns):=by
 refine⟨by simp[M.len],fun k l hl=>?_⟩
 by_cases hk:k<am.length
 ·rw[List.getElem?_append_left hk]at hl
  obtain⟨l',h1,g⟩:=M.g k l hl
  exact⟨l',by rw[List.getElem?_append_left (by rw[<-M.len];exact hk)];exact h1,g⟩
 ·rw[List.getElem?_append_right (by omega)]at hl
  refine⟨l,by rw[List.getElem?_append_right (by rw[<-M.len];omega),<-M.len];exact hl,As.refl l (fun a ha=>Fh ?_)⟩
  have:=List.all_eq_true.1 h l (List.mem_of_getElem? hl)
  exact List.all_eq_true.1 this a ha
theorem Inv.wide{fl b0:Bool}{m:Xm}(I:Inv NQ fl b0 τ m)(ns:Xm):Inv NQ fl b0 τ (m++ns):=fun hf=>by
 obtain⟨b,h1,h2⟩:=I hf
 exact⟨b,by rw[List.getElem?_append_left (List.getElem?_eq_some_iff.1 h1).1];exact h1,h2⟩
theorem Sk(hNQ:∀τ,nq τ->NQ τ){fl b0:Bool}{tbl:List (ACt P nq)}{dirty:Nat->List Nat}{id:Nat}{ops:Array Oper}{draw:Bool}{K:List Value->Xm->Bool}{at' vt:List Value}{am m:Xm}(h:Oc P fl tbl dirty id ops draw K at' am=true)(F:GF τ at' vt)(M:GM τ am m)(I:Inv NQ fl b0 τ m):
    Pnt NQ fl b0 K (fun K'=>D6 P (XF tbl) dirty id ops draw K' vt m):=by
 unfold Oc at h
 split at h
 ·rename_i hr
  rw[Bool.and_eq_true]at hr
  rw[M.len]at h
  obtain⟨vt',m',τ',at2,am2,h2,F2,M2,I2,hs⟩:=Iu hNQ _ τ at' vt _ _ h F (M.wide hr.2) (I.wide _)
  refine⟨vt',m',τ',at2,am2,h2,F2,M2,I2,fun K' hK=>?_⟩
  unfold D6
  rw[hr.1]
  exact hs K' hK
 ·rename_i hr
  rw[Bool.and_eq_true]at hr
  split at h
  ·rename_i js hn hsch
   have Mw:=M.wide hr.2
   rw[Bool.and_eq_true]at h
   obtain⟨hl,h⟩:=h
   rw[M.len,<-XH F,show Ob _ _ _=_ from(funext (fun k=>(M5 Mw (dirty id++Cu ops.toList vt) m.length k).1)).symm,show ddA _ _ _=_ from(funext (fun k=>(M5 Mw (dirty id++Cu ops.toList vt) m.length k).2)).symm]at h
   obtain⟨vt',m',τ',at2,am2,h2,F2,M2,I2,hs⟩:=KS hNQ _ τ at' vt _ _ h F Mw (I.wide _)
   refine⟨vt',m',τ',at2,am2,h2,F2,M2,I2,fun K' hK=>?_⟩
   unfold D6
   rw[hr.1]
   dsimp only
   rw[hn,hsch]
   dsimp only
   rw[Be]
   exact⟨hl,hs K' hK⟩
  ·cases h
 ·cases h
def nN(n:Nat)(K:Nat->Bool):Bool:=Nat.casesOn n (K 0) (fun m=>K (m+1))
def nI(x:Int)(K:Int->Bool):Bool:=Int.casesOn x (fun n=>nN n (fun n=>K (.ofNat n))) (fun n=>nN n (fun n=>K (.negSucc n)))
def nK(k:IntKind)(K:IntKind->Bool):Bool:=IntKind.casesOn k (K .i8) (K .i16) (K .i32) (K .i64) (K .u8) (K .u16) (K .u32) (K .u64)
def nB(b:Bool)(K:Bool->Bool):Bool:=Bool.casesOn b (K false) (K true)
def n0(v:Value)(K:Value->Bool):Bool:=
 match v with
 | .int k x=>nK k fun k=>nI x fun x=>K (.int k x)
 | .bool b=>nB b fun b=>K (.bool b)
 | .tuple ⟨[.int k x]⟩=>nK k fun k=>nI x fun x=>K (.tuple ⟨[.int k x]⟩)
 | .tuple ⟨[.bool b]⟩=>nB b fun b=>K (.tuple ⟨[.bool b]⟩)
 | .pointer (some ⟨b,o,none⟩)=>nN b fun b=>nN o fun o=>K (.pointer (some ⟨b,o,none⟩))
 |v=>K v
def nL:List Value->(List Value->Bool)->Bool
 |[],K=>K []
 |x::l,K=>n0 x fun x=>nL l fun l=>K (x::l)
def n1(v:Value)(K:Value->Bool):Bool:=
 match v with
 | .agg ⟨l⟩=>nL l fun l=>K (.agg ⟨l⟩)
 |v=>n0 v K
def nF:List Value->(List Value->Bool)->Bool
 |[],K=>K []
 |x::l,K=>n1 x fun x=>nF l fun l=>K (x::l)
theorem Abs(n:Nat)(K:Nat->Bool):nN n K=K n:=by cases n<;>rfl
theorem Atm(x:Int)(K:Int->Bool):nI x K=K x:=by
 cases x with
 |ofNat n=>exact Abs n (fun n=>K (.ofNat n))
 |negSucc n=>exact Abs n (fun n=>K (.negSucc n))
theorem Atn(k:IntKind)(K:IntKind->Bool):nK k K=K k:=by cases k<;>rfl
theorem Ato(b:Bool)(K:Bool->Bool):nB b K=K b:=by cases b<;>rfl
theorem Anl(v:Value)(K:Value->Bool):n0 v K=K v:=by
 unfold n0
 split<;>simp only[Atn,Atm,Ato,Abs]
theorem Anm:∀(l:List Value) (K:List Value->Bool),nL l K=K l
 |[],_=>rfl
 |x::l,K=>by
  show n0 x (fun x=>nL l fun l=>K (x::l))=_
  rw[Anl,Anm l]
theorem Atp(v:Value)(K:Value->Bool):n1 v K=K v:=by
 unfold n1
 split
 ·exact Anm _ _
 ·exact Anl _ _
theorem Ann:∀(l:List Value) (K:List Value->Bool),nF l K=K l
 |[],_=>rfl
 |x::l,K=>by
  show n1 x (fun x=>nF l fun l=>K (x::l))=_
  rw[Atp,Ann l]
def frc(K:List Value->Xm->Bool)(at':List Value)(m:Xm):Bool:=nF at' fun at'=>K at' m
theorem Apa(K:List Value->Xm->Bool)(at':List Value)(m:Xm):frc K at' m=K at' m:=by
 unfold frc
 rw[Ann]
theorem GF.vset{at' vt:List Value}(F:GF τ at' vt)(c:Operand)(b:Bool):GF τ (vset at' c b) (vset vt c b):=by
 cases c with
 |tmp t=>exact F.set t ⟨rfl,rfl⟩
 |_=>exact F
abbrev AQ:=Exit->List Value->Xm->Bool
def Abt:Nat->(AQ->List Value->Xm->Bool)->AQ->List Value->Xm->Bool
 |0,_,_,_,_=>false
 |n+1,G,Q,at',m=>G (fun e at2 m'=>match e with
  | .normal=>frc (Abt n G Q) at2 m'
  |e=>Q e at2 m') at' m
def Sl(P:Program)(fl:Bool)(tbl:List (ACt P nq))(dirty:Nat->List Nat)(n:Nat):Code->AQ->List Value->Xm->Bool
 | .skip,Q,at',m=>Q .normal at' m
 | .region id ops draw,Q,at',m=>Oc P fl tbl dirty id ops draw (Q .normal) at' m
 | .seq x y,Q,at',m=>Sl P fl tbl dirty n x (fun e at2 m'=>match e with
  | .normal=>Sl P fl tbl dirty n y Q at2 m'
  |e=>Q e at2 m') at' m
 | .cond c x y,Q,at',m=>(match Z7 c,VE at' c with
  |true,.bool true=>Sl P fl tbl dirty n x Q (vset at' c true) m
  |true,.bool false=>Sl P fl tbl dirty n y Q (vset at' c false) m
  |true,v=>Ds v&&Sl P fl tbl dirty n x Q (vset at' c true) m&&Sl P fl tbl dirty n y Q (vset at' c false) m
  |false,_=>false)
 | .block id c,Q,at',m=>Sl P fl tbl dirty n c (fun e at2 m'=>match e with
  | .exit id'=>if id'=id then Q .normal at2 m' else Q (.exit id') at2 m'
  |e=>Q e at2 m') at' m
 | .loop c,Q,at',m=>Abt n (Sl P fl tbl dirty n c) Q at' m
 | .exit id,Q,at',m=>Q (.exit id) at' m
 | .label _,Q,at',m=>Q .normal at' m
 | .ret,Q,at',m=>Q .ret at' m
 |_,_,_,_=>false
def Pe(NQ:(Nat->Int)->Prop)(fl b0:Bool)(Q:AQ)(S:VQ->Prop):Prop:=
 ∃e vt' m' τ' at' am',Q e at' am'=true/\GF τ' at' vt'/\GM τ' am' m'/\Inv NQ fl b0 τ' m'/\∀Q':VQ,Q' e vt' m'->S Q'
theorem Abu(hNQ:∀τ,nq τ->NQ τ){fl b0:Bool}{tbl:List (ACt P nq)}{dirty:Nat->List Nat}{n:Nat}:∀(c:Code) (Q:AQ) (τ:Nat->Int) (at' vt:List Value) (am m:Xm),Sl P fl tbl dirty n c Q at' am=true->GF τ at' vt->GM τ am m->Inv NQ fl b0 τ m->
    Pe NQ fl b0 Q (fun Q'=>MS P (XF tbl) dirty n c Q' vt m):=by
 intro c
 induction c with
 |skip=>intro Q τ at' vt am m h F M I;exact⟨.normal,vt,m,τ,at',am,h,F,M,I,fun _ hQ=>hQ⟩
 |region id ops draw=>
  intro Q τ at' vt am m h F M I
  obtain⟨vt',m',τ',at2,am2,h2,F2,M2,I2,hs⟩:=Sk hNQ h F M I
  exact⟨.normal,vt',m',τ',at2,am2,h2,F2,M2,I2,fun Q' hQ=>hs (Q' .normal) hQ⟩
 | seq x y ihx ihy=>
  intro Q τ at' vt am m h F M I
  obtain⟨e,vt',m',τ',at2,am2,h2,F2,M2,I2,hs⟩:=ihx _ τ at' vt am m h F M I
  cases e with
  |normal=>
   obtain⟨e,vt3,m3,τ3,at3,am3,h3,F3,M3,I3,hs3⟩:=ihy Q τ' at2 vt' am2 m' h2 F2 M2 I2
   exact⟨e,vt3,m3,τ3,at3,am3,h3,F3,M3,I3,fun Q' hQ=>hs _ (hs3 Q' hQ)⟩
  |exit id=>exact⟨_,vt',m',τ',at2,am2,h2,F2,M2,I2,fun Q' hQ=>hs _ hQ⟩
  |goto l=>exact⟨_,vt',m',τ',at2,am2,h2,F2,M2,I2,fun Q' hQ=>hs _ hQ⟩
  |ret=>exact⟨_,vt',m',τ',at2,am2,h2,F2,M2,I2,fun Q' hQ=>hs _ hQ⟩
  |panic ch=>exact⟨_,vt',m',τ',at2,am2,h2,F2,M2,I2,fun Q' hQ=>hs _ hQ⟩
  |outgrown=>exact⟨_,vt',m',τ',at2,am2,h2,F2,M2,I2,fun Q' hQ=>hs _ hQ⟩
 | cond c x y ihx ihy=>
  intro Q τ at' vt am m h F M I
  unfold Sl at h
  have go:∀b:Bool,Z7 c=true->VE vt c=.bool b->(match b with
   |true=>Sl P fl tbl dirty n x Q (vset at' c true) am
   |false=>Sl P fl tbl dirty n y Q (vset at' c false) am)=true->Pe NQ fl b0 Q (fun Q'=>MS P (XF tbl) dirty n (.cond c x y) Q' vt m):=by
   intro b hok hb hh
   cases b with
   |true=>
    obtain⟨e,vt',m',τ',at2,am2,h2,F2,M2,I2,hs⟩:=ihx Q τ _ _ am m hh (F.vset c true) M I
    refine⟨e,vt',m',τ',at2,am2,h2,F2,M2,I2,fun Q' hQ=>?_⟩
    unfold MS
    rw[ED hok,hb]
    exact hs Q' hQ
   |false=>
    obtain⟨e,vt',m',τ',at2,am2,h2,F2,M2,I2,hs⟩:=ihy Q τ _ _ am m hh (F.vset c false) M I
    refine⟨e,vt',m',τ',at2,am2,h2,F2,M2,I2,fun Q' hQ=>?_⟩
    unfold MS
    rw[ED hok,hb]
    exact hs Q' hQ
  split at h
  ·rename_i hok hv
   have g:=F.ev hok
   rw[hv]at g
   exact go true hok g.bool h
  ·rename_i hok hv
   have g:=F.ev hok
   rw[hv]at g
   exact go false hok g.bool h
  ·rename_i hok _ _
   have g:=F.ev hok
   simp only[Bool.and_eq_true]at h
   obtain⟨b,hb⟩:=C8 h.1.1 g
   refine go b hok hb ?_
   cases b
   ·exact h.2
   ·exact h.1.2
  ·cases h
 | block id c ih=>
  intro Q τ at' vt am m h F M I
  obtain⟨e,vt',m',τ',at2,am2,h2,F2,M2,I2,hs⟩:=ih _ τ at' vt am m h F M I
  cases e with
  | exit id'=>
   dsimp only at h2
   split at h2
   ·rename_i e
    refine⟨.normal,vt',m',τ',at2,am2,h2,F2,M2,I2,fun Q' hQ=>hs _ ?_⟩
    dsimp only
    rw[if_pos e]
    exact hQ
   ·rename_i e
    refine⟨.exit id',vt',m',τ',at2,am2,h2,F2,M2,I2,fun Q' hQ=>hs _ ?_⟩
    dsimp only
    rw[if_neg e]
    exact hQ
  |normal=>exact⟨_,vt',m',τ',at2,am2,h2,F2,M2,I2,fun Q' hQ=>hs _ hQ⟩
  |goto l=>exact⟨_,vt',m',τ',at2,am2,h2,F2,M2,I2,fun Q' hQ=>hs _ hQ⟩
  |ret=>exact⟨_,vt',m',τ',at2,am2,h2,F2,M2,I2,fun Q' hQ=>hs _ hQ⟩
  |panic ch=>exact⟨_,vt',m',τ',at2,am2,h2,F2,M2,I2,fun Q' hQ=>hs _ hQ⟩
  |outgrown=>exact⟨_,vt',m',τ',at2,am2,h2,F2,M2,I2,fun Q' hQ=>hs _ hQ⟩
 | loop c ih=>
  intro Q τ at' vt am m h F M I
  have key:∀k τ at' vt am m,Abt k (Sl P fl tbl dirty n c) Q at' am=true->GF τ at' vt->GM τ am m->Inv NQ fl b0 τ m->Pe NQ fl b0 Q (fun Q'=>Io k (MS P (XF tbl) dirty n c) Q' vt m):=by
   intro k
   induction k with
   |zero=>intro τ at' vt am m h;cases h
   | succ k ihk=>
    intro τ at' vt am m h F M I
    obtain⟨e,vt',m',τ',at2,am2,h2,F2,M2,I2,hs⟩:=ih _ τ at' vt am m h F M I
    cases e with
    |normal=>
     dsimp only at h2
     rw[Apa]at h2
     obtain⟨e,vt3,m3,τ3,at3,am3,h3,F3,M3,I3,hs3⟩:=ihk τ' at2 vt' am2 m' h2 F2 M2 I2
     exact⟨e,vt3,m3,τ3,at3,am3,h3,F3,M3,I3,fun Q' hQ=>hs _ (hs3 Q' hQ)⟩
    |exit id=>exact⟨_,vt',m',τ',at2,am2,h2,F2,M2,I2,fun Q' hQ=>hs _ hQ⟩
    |goto l=>exact⟨_,vt',m',τ',at2,am2,h2,F2,M2,I2,fun Q' hQ=>hs _ hQ⟩
    |ret=>exact⟨_,vt',m',τ',at2,am2,h2,F2,M2,I2,fun Q' hQ=>hs _ hQ⟩
    |panic ch=>exact⟨_,vt',m',τ',at2,am2,h2,F2,M2,I2,fun Q' hQ=>hs _ hQ⟩
    |outgrown=>exact⟨_,vt',m',τ',at2,am2,h2,F2,M2,I2,fun Q' hQ=>hs _ hQ⟩
  exact key n τ at' vt am m h F M I
 |exit id=>intro Q τ at' vt am m h F M I;exact⟨.exit id,vt,m,τ,at',am,h,F,M,I,fun _ hQ=>hQ⟩
 |label l=>intro Q τ at' vt am m h F M I;exact⟨.normal,vt,m,τ,at',am,h,F,M,I,fun _ hQ=>hQ⟩
 |ret=>intro Q τ at' vt am m h F M I;exact⟨.ret,vt,m,τ,at',am,h,F,M,I,fun _ hQ=>hQ⟩
 |goto l=>intro Q τ at' vt am m h;cases h
 |scope c _=>intro Q τ at' vt am m h;cases h
 |refuse s=>intro Q τ at' vt am m h;cases h
 |rangeFunc f ps x y _ _=>intro Q τ at' vt am m h;cases h
end
section
variable {P:Program} {nq NQ:(Nat->Int)->Prop} {τ:Nat->Int}
def XI(P:Program)(fn:Func)(at':List Value)(m:Xm):Option Value:=
 match Mr P at' m fn.results.toList with
 |some [v]=>some v
 |some vs=>if vs.all El then some (.tuple vs.toArray)else none
 |none=>none
theorem Sp{at' vt:List Value}{am m:Xm}(F:GF τ at' vt)(M:GM τ am m){r:ResultVar}{t:Value}(h:FW P at' am r=some t):∃v,FW P vt m r=some v/\G2 τ t v:=by
 cases r with
 | tmp i=>
  simp only[FW]at h ⊢
  have g:=F.g i
  split at h
  ·cases h
  ·rename_i hp
   cases h
   rw[if_neg (by rw[g.isP];exact hp)]
   exact⟨_,rfl,g⟩
 | cell p t=>
  simp only[FW]at h ⊢
  have g:=F.g p
  split at h
  ·rename_i k off hk
   rw[hk]at g
   rw[g.ptr]
   dsimp only
   split at h
   ·rename_i l hl
    obtain⟨l',hl',gl⟩:=M.g k l hl
    rw[hl']
    exact MY h gl
   ·cases h
  ·cases h
theorem P4{at' vt:List Value}{am m:Xm}(F:GF τ at' vt)(M:GM τ am m):∀(rs:List ResultVar) (ts:List Value),Mr P at' am rs=some ts->∃vs,Mr P vt m rs=some vs/\As (G2 τ) ts vs
 |[],ts,h=>by cases h;exact⟨[],rfl,trivial⟩
 | r::rs,ts,h=>by
  unfold Mr at h ⊢
  split at h
  ·rename_i t us h1 h2
   cases h
   obtain⟨v,hv,g⟩:=Sp F M h1
   obtain⟨vs,hvs,gs⟩:=P4 F M rs us h2
   rw[hv,hvs]
   exact⟨v::vs,rfl,g,gs⟩
  ·cases h
theorem Abv:∀{ts vs:List Value},ts.all El=true->As (G2 τ) ts vs->As (G1 τ) ts vs
 |[],[],_,_=>trivial
 |t::ts,v::vs,h,g=>by
  simp only[List.all_cons,Bool.and_eq_true]at h
  refine⟨?_,Abv h.2 g.2⟩
  have:=g.1
  unfold G2 at this
  split at this
  ·cases h.1
  ·exact this
 |[],_::_,_,g=>g.elim
 |_::_,[],_,g=>g.elim
theorem P5{fn:Func}{at' vt:List Value}{am m:Xm}(F:GF τ at' vt)(M:GM τ am m){t:Value}(h:XI P fn at' am=some t):∃v,N4 P fn vt m=some v/\G2 τ t v:=by
 unfold XI at h
 unfold N4
 cases hr:Mr P at' am fn.results.toList with
 |none=>rw[hr]at h;cases h
 | some ts=>
  obtain⟨vs,hvs,g⟩:=P4 F M _ _ hr
  rw[hr]at h
  rw[hvs]
  match ts,vs,g,h with
  |[a],[b],g,h=>cases h;exact⟨b,rfl,g.1⟩
  |[],[],g,h=>cases h;exact⟨_,rfl,BF rfl⟩
  | a::b::ts,c::d::vs,g,h=>
   simp only at h
   split at h
   ·rename_i hn
    cases h
    exact⟨_,rfl,⟨_,rfl,Abv hn g⟩⟩
   ·cases h
def zr0(t:Value):Value:=
 match MU t with
 |some (none,_+1)=>.int .i64 0
 |_=>t
def zr1:Value->Value
 | .agg cs=>.agg ⟨cs.toList.map zr0⟩
 |t=>zr0 t
def zr2:Value->Value
 | .tuple ⟨a::b::r⟩=>.tuple ⟨(a::b::r).map zr1⟩
 |t=>zr1 t
theorem Abw{t v:Value}(g:G0 τ (zr0 t) v):G0 (fun _=>0) t v:=by
 unfold zr0 at g
 split at g
 ·rename_i i e
  unfold G0
  rw[e]
  exact g.1
 ·rename_i hn
  unfold G0 at g ⊢
  split at g
  ·exact g
  ·exact g
  ·exact g
  ·rename_i i e
   exact absurd e (hn i)
  ·exact g
theorem As.zr{R S:Value->Value->Prop}{f:Value->Value}(hi:∀t v,R (f t) v->S t v):∀{l m:List Value},As R (l.map f) m->As S l m
 |[],[],_=>trivial
 |_::_,_::_,h=>⟨hi _ _ h.1,As.zr hi h.2⟩
 |[],_::_,h=>h.elim
 |_::_,[],h=>h.elim
theorem Abx{t v:Value}(g:G1 τ (zr1 t) v):G1 (fun _=>0) t v:=by
 unfold zr1 at g
 split at g
 ·obtain⟨l,rfl,gl⟩:=g
  exact⟨l,rfl,gl.zr (S:=G0 (fun _=>0)) (fun _ _ h=>Abw h)⟩
 ·rename_i hn
  have g0:G0 τ (zr0 t) v:=by
   unfold G1 at g
   split at g
   ·rename_i cs e
    exfalso
    unfold zr0 at e
    split at e
    ·cases e
    ·exact hn _ e
   ·exact g
  exact(Abw g0).g1
theorem Apc{t v:Value}(g:G2 τ (zr2 t) v):G2 (fun _=>0) t v:=by
 unfold zr2 at g
 split at g
 ·obtain⟨l,rfl,gl⟩:=g
  exact⟨l,rfl,gl.zr (S:=G1 (fun _=>0)) (fun _ _ h=>Abx h)⟩
 ·rename_i hn
  have g1:G1 τ (zr1 t) v:=by
   unfold G2 at g
   split at g
   ·rename_i a b r e
    exfalso
    unfold zr1 at e
    split at e
    ·cases e
    ·unfold zr0 at e
     split at e
     ·cases e
     ·exact hn _ _ _ e
   ·exact g
  exact(Abx g1).g2
def isT:Value->Bool
 | .bool true=>true
 |_=>false
def Ai4(P:Program)(fn:Func)(sr fb:Value)(at':List Value)(m:Xm):Bool:=
 match XI P fn at' m,m with
 |some t,[c]::_=>le0 c fb&&(le2 t sr||(isT c&&le2 t (zr2 sr)))
 |_,_=>false
def Atq(P:Program)(fn:Func)(sr fb:Value):AQ:=fun e at' m=>
 match e with
 | .normal=>Ai4 P fn sr fb at' m
 | .ret=>Ai4 P fn sr fb at' m
 |_=>false
def axF(P:Program)(tbl:List (ACt P nq))(dirty:Nat->List Nat)(n:Nat)(fn:Func)(c:Code)(sa:List Value)(sr fb:Value):Bool:=
 sa.all (fun x=>!isP x)&&Sl P true tbl dirty n c (Atq P fn sr fb) ((ptr 0::sa)++List.replicate (fn.ntmps-(ptr 0::sa).length) undef) [[unkB]]
def span1(t:Value):List Value:=
 match t with
 | .tuple ⟨[.int k (.negSucc n)]⟩=>bif Nat.blt n 4611686018427387904 then(List.range (n+1)).map (fun i=>.int k (.ofNat i))else [t]
 |t=>[t]
def spanL:List Value->List (List Value)
 |[]=>[[]]
 |t::l=>(span1 t).flatMap fun x=>(spanL l).map (x::·)
theorem Aby{t v:Value}(g:G2 τ t v):∃x∈span1 t,G2 τ x v:=by
 unfold span1
 split
 ·rename_i k n
  cases hb:Nat.blt n 4611686018427387904
  ·exact⟨_,List.mem_singleton.2 rfl,g⟩
  obtain⟨x,rfl,h0,h1⟩:=g
  unfold loN at h0
  rw[hb]at h0
  have h0:0<=x:=h0
  refine⟨.int k (.ofNat x.toNat),List.mem_map.2 ⟨x.toNat,List.mem_range.2 (by omega),rfl⟩,?_⟩
  have:Int.ofNat x.toNat=x:=by rw[Int.ofNat_eq_natCast];omega
  rw[this]
  exact⟨rfl,rfl⟩
 ·exact⟨_,List.mem_singleton.2 rfl,g⟩
theorem P6:∀{l vs:List Value},As (G2 τ) l vs->∃l'∈spanL l,As (G2 τ) l' vs
 |[],[],_=>⟨[],List.mem_singleton.2 rfl,trivial⟩
 |t::l,v::vs,g=>by
  obtain⟨x,hx,gx⟩:=Aby g.1
  obtain⟨l',hl,gl⟩:=P6 g.2
  exact⟨x::l',List.mem_flatMap.2 ⟨x,hx,List.mem_map.2 ⟨l',hl,rfl⟩⟩,gx,gl⟩
 |[],_::_,g=>g.elim
 |_::_,[],g=>g.elim
theorem noP:∀{sa rest:List Value},sa.all (fun x=>!isP x)=true->As (G2 τ) sa rest->∀v∈rest,isP v=false
 |[],[],_,_,v,hv=>by cases hv
 |a::sa,r::rest,h,g,v,hv=>by
  simp only[List.all_cons,Bool.and_eq_true,Bool.not_eq_true']at h
  rcases List.mem_cons.1 hv with rfl |hv
  ·rw[g.1.isP];exact h.1
  ·exact noP h.2 g.2 v hv
 |[],_::_,_,g,_,_=>g.elim
 |_::_,[],_,g,_,_=>g.elim
theorem VS(n t:Nat):((List.replicate n undef)[t]?).getD undef=undef:=by
 by_cases h:t<n
 ·rw[List.getElem?_eq_getElem (by simpa using h),List.getElem_replicate];rfl
 ·rw[List.getElem?_eq_none (by simpa using h)];rfl
theorem GF.start{sa vs:List Value}(g:As (G2 τ) sa vs)(n:Nat):GF τ (sa++List.replicate (n-sa.length) undef) (vs++List.replicate (n-vs.length) undef):=by
 have hl:=g.len
 refine⟨by simp[hl],fun t=>?_⟩
 simp only[List.getD_eq_getElem?_getD]
 by_cases ht:t<sa.length
 ·rw[List.getElem?_append_left ht,List.getElem?_append_left (by omega)]
  obtain⟨b,hb,gb⟩:=g.get t _ (List.getElem?_eq_getElem ht)
  rw[hb,List.getElem?_eq_getElem ht]
  exact gb
 ·rw[List.getElem?_append_right (by omega),List.getElem?_append_right (by omega),VS,VS]
  exact BF rfl
theorem Sq{tbl:List (Ct P)}{dirty:Nat->List Nat}{n:Nat}(hm:P.follows .mixedOrders=true){f:Nat}{fn:Func}{c:Code}(hf:P.funcs[f]? =some fn)(hb:fn.body=some c){rest:List Value}(hp:∀v∈rest,isP v=false){bad bad':Bool}{v0:Value}
    (h:MS P tbl dirty n c (Cv P fn (fun v m=>v=v0/\KI m=some bad')) ((ptr 0::rest)++List.replicate (fn.ntmps-(ptr 0::rest).length) undef) [[.bool bad]]) (b:Nat) (w:World) (hg:GW w) (hb1:7<b) (hw:Fl b bad w):
    Calls P f (ptr b::rest).toArray w fun e w'=>e=.returned v0/\Fl b bad' w'/\Aa b w w':=by
 have R:RW [b] w [some b] [[.bool bad]] w:=by
  refine⟨fun i B hi=>?_,fun i j B hi hj=>?_,fun i B hi=>?_,rfl,rfl,rfl,Nat.le_refl _,fun _ _ _=>rfl,hg,by simpa using hb1⟩
  ·match i,hi with
   |0,hi=>cases hi;exact⟨_,rfl,Sf hw⟩
  ·match i,j,hi,hj with
   |0,0,_,_=>rfl
  ·match i,hi with
   |0,hi=>cases hi;exact .inl List.mem_cons_self
 refine Calls.mono (Ip hm hf hb (vargs:=ptr 0::rest) R rfl (by simp) (fun i=>?_) h) ?_
 ·cases i with
  |zero=>exact⟨b,rfl,rfl⟩
  | succ i=>
   by_cases hi:i<rest.length
   ·have:=hp _ (List.getElem_mem hi)
    simp only[List.getD_eq_getElem?_getD,Array.getD_eq_getD_getElem?]
    simp[hi]
    exact .same this
   ·simp only[List.getD_eq_getElem?_getD,Array.getD_eq_getD_getElem?]
    simp[hi]
    rfl
 ·rintro e w' ⟨v,bl',m2,rfl,⟨rfl,h2⟩,R',hle⟩
  obtain⟨l,e,A⟩:=R'.arr 0 b (hle 0 b rfl)
  rw[Jz h2]at e
  cases e
  exact⟨rfl,N5 A,R'.os,R'.tape,R'.output,R'.size,fun i hi hb=>R'.block i hi (by simpa using hb)⟩
theorem KU{tbl:List (Ct P)}{dirty:Nat->List Nat}{n:Nat}(hm:P.follows .mixedOrders=true){f:Nat}{fn:Func}{c:Code}(hf:P.funcs[f]? =some fn)(hb:fn.body=some c){rest:List Value}(hp:∀v∈rest,isP v=false){v0:Value}
    (h:MS P tbl dirty n c (Cv P fn (fun v _=>v=v0)) (rest++List.replicate (fn.ntmps-rest.length) undef) []) (w:World) (hg:GW w):
    Calls P f rest.toArray w fun e w'=>e=.returned v0/\Below w.heap.size w w':=by
 have R:RW [] w [] [] w:=⟨fun i B hi=>(by cases hi),fun i j B hi=>(by cases hi),fun i B hi=>(by cases hi),rfl,rfl,rfl,Nat.le_refl _,fun _ _ _=>rfl,hg,fun b hb=>by cases hb⟩
 refine Calls.mono (Ip hm hf hb (vargs:=rest) R rfl (by simp) (fun i=>?_) h) ?_
 ·by_cases hi:i<rest.length
  ·have:=hp _ (List.getElem_mem hi)
   simp only[List.getD_eq_getElem?_getD,Array.getD_eq_getD_getElem?]
   simp[hi]
   exact .same this
  ·simp only[List.getD_eq_getElem?_getD,Array.getD_eq_getD_getElem?]
   simp[hi]
   rfl
 ·rintro e w' ⟨v,bl',m2,rfl,rfl,R',_⟩
  exact⟨rfl,R'.os,R'.tape,R'.output,R'.size,fun i hi=>R'.block i hi (by simp)⟩
theorem Abz(hNQ:∀τ,nq τ->NQ τ){tbl:List (ACt P nq)}{dirty:Nat->List Nat}{n:Nat}(hm:P.follows .mixedOrders=true){f:Nat}{fn:Func}{c:Code}(hf:P.funcs[f]? =some fn)(hb:fn.body=some c){sa:List Value}{sr fb:Value}(h:axF P tbl dirty n fn c sa sr fb=true)
    (bad:Bool) (rest:List Value) (τ:Nat->Int) (g:As (G2 τ) sa rest) (h0:bad=true∨NQ τ):
    ∃v bad' τ',(∀b w,GW w->7<b->Fl b bad w->Calls P f (ptr b::rest).toArray w fun e w'=>e=.returned v/\Fl b bad' w'/\Aa b w w')/\(bad=true->bad'=true)/\G0 τ' fb (.bool bad')/\G2 τ' sr v/\(bad'=true∨NQ τ'):=by
 unfold axF at h
 rw[Bool.and_eq_true]at h
 have M0:GM τ [[unkB]] [[.bool bad]]:=⟨rfl,fun k l hl=>by
  match k,hl with
  |0,hl=>cases hl;exact⟨_,rfl,⟨bad,rfl⟩,trivial⟩⟩
 obtain⟨e,vt,m,τ1,at1,am1,h1,F1,M1,I1,hs⟩:=Abu (NQ:=NQ) (b0:=bad) hNQ c _ τ _ _ _ [[.bool bad]] h.2 (GF.start (sa:=ptr 0::sa) (vs:=ptr 0::rest) ⟨⟨rfl,rfl⟩,g⟩ fn.ntmps) M0 (fun _=>⟨bad,rfl,id,h0⟩)
 ·obtain⟨b',i1,i2,i3⟩:=I1 rfl
  have chk:Ai4 P fn sr fb at1 am1=true/\∀Post,Cv P fn Post e vt m↔(match N4 P fn vt m with
      |some v=>Post v m
      |none=>False):=by
   unfold Atq at h1
   split at h1
   ·exact⟨h1,fun _=>Iff.rfl⟩
   ·exact⟨h1,fun _=>Iff.rfl⟩
   ·cases h1
  obtain⟨hc,hret⟩:=chk
  unfold Ai4 at hc
  split at hc
  ·rename_i t c' ms ht
   obtain⟨v,hv,gv⟩:=P5 F1 M1 ht
   have hflag:KI m=some b':=by
    match m,i1 with
    |l::_,i1=>
     have:l=[.bool b']:=by simpa using i1
     rw[this]
     rfl
   have hcalls:∀b w,GW w->7<b->Fl b bad w->Calls P f (ptr b::rest).toArray w fun e w'=>e=.returned v/\Fl b b' w'/\Aa b w w':=
    Sq hm hf hb (noP h.1 g) (hs _ ((hret _).2 (by rw[hv];exact⟨rfl,hflag⟩)))
   obtain⟨l',hl',gl⟩:=M1.g 0 [c'] rfl
   rw[i1]at hl'
   cases hl'
   rw[Bool.and_eq_true,Bool.or_eq_true]at hc
   rcases hc.2 with h2 |h2
   ·exact⟨v,b',τ1,hcalls,i2,N9 hc.1 gl.1,KO h2 gv,i3⟩
   ·rw[Bool.and_eq_true]at h2
    have e1:c'=.bool true:=by
     have:=h2.1
     unfold isT at this
     split at this
     ·rfl
     ·cases this
    subst e1
    have e2:b'=true:=by
     have:=gl.1.1
     cases this
     rfl
    subst e2
    exact⟨v,true,fun _=>0,hcalls,i2,N9 hc.1 ⟨rfl,rfl⟩,Apc (KO h2.2 gv),.inl rfl⟩
  ·cases hc
def Ats(P:Program)(fn:Func)(sr:Value):AQ:=fun e at' m=>
 match e with
 | .normal=>(match XI P fn at' m with
  |some t=>le2 t sr
  |none=>false)
 | .ret=>(match XI P fn at' m with
  |some t=>le2 t sr
  |none=>false)
 |_=>false
def axP(P:Program)(tbl:List (ACt P nq))(dirty:Nat->List Nat)(n:Nat)(fn:Func)(c:Code)(sa:List Value)(sr:Value):Bool:=
 sa.all (fun x=>!isP x)&&Sl P false tbl dirty n c (Ats P fn sr) (sa++List.replicate (fn.ntmps-sa.length) undef) []
theorem Ab0{tbl:List (ACt P nq)}{dirty:Nat->List Nat}{n:Nat}(hm:P.follows .mixedOrders=true){f:Nat}{fn:Func}{c:Code}(hf:P.funcs[f]? =some fn)(hb:fn.body=some c){sa:List Value}{sr:Value}(h:axP P tbl dirty n fn c sa sr=true)
    (rest:List Value) (τ:Nat->Int) (g:As (G2 τ) sa rest):∃v τ',(∀w,GW w->Calls P f rest.toArray w fun e w'=>e=.returned v/\Below w.heap.size w w')/\G2 τ' sr v:=by
 unfold axP at h
 rw[Bool.and_eq_true]at h
 obtain⟨e,vt,m,τ1,at1,am1,h1,F1,M1,I1,hs⟩:=Abu (nq:=nq) (NQ:=nq) (b0:=false) (fun _ h=>h) c _ τ _ _ _ [] h.2 (GF.start g fn.ntmps) ⟨rfl,fun k l hl=>(by cases hl)⟩ (fun e=>by cases e)
 have chk:∃t,XI P fn at1 am1=some t/\le2 t sr=true/\∀Post,Cv P fn Post e vt m↔(match N4 P fn vt m with
     |some v=>Post v m
     |none=>False):=by
  unfold Ats at h1
  split at h1
  ·split at h1
   ·rename_i t ht
    exact⟨t,ht,h1,fun _=>Iff.rfl⟩
   ·cases h1
  ·split at h1
   ·rename_i t ht
    exact⟨t,ht,h1,fun _=>Iff.rfl⟩
   ·cases h1
  ·cases h1
 obtain⟨t,ht,hle,hret⟩:=chk
 obtain⟨v,hv,gv⟩:=P5 F1 M1 ht
 exact⟨v,τ1,KU hm hf hb (noP h.1 g) (hs _ ((hret _).2 (by rw[hv]))),KO hle gv⟩
def BP(P:Program)(nq:(Nat->Int)->Prop)(f:Nat)(sa:List Value)(sr fb:Value)(g:Bool->List Value->Value×Bool):Prop:=
 ∀bad rest,As (G2 (fun _=>0)) sa rest->(∀b w,GW w->7<b->Fl b bad w->Calls P f (ptr b::rest).toArray w fun e w'=>e=.returned (g bad rest).1/\Fl b (g bad rest).2 w'/\Aa b w w')/\(bad=true->(g bad rest).2=true)/\
  ∃τ',G0 τ' fb (.bool (g bad rest).2)/\G2 τ' sr (g bad rest).1/\((g bad rest).2=true∨nq τ')
def Ps(P:Program)(f:Nat)(sa:List Value)(sr:Value)(g:List Value->Value):Prop:=
 ∀rest,As (G2 (fun _=>0)) sa rest->(∀w,GW w->Calls P f rest.toArray w fun e w'=>e=.returned (g rest)/\Below w.heap.size w w')/\∃τ',G2 τ' sr (g rest)
theorem Aj{tbl:List (ACt P nq)}{dirty:Nat->List Nat}{n:Nat}(hq:∃τ,nq τ)(hm:P.follows .mixedOrders=true){f:Nat}{fn:Func}{c:Code}(hf:P.funcs[f]? =some fn)(hb:fn.body=some c){sa:List Value}{sr fb:Value}(h:(KP sa&&(spanL sa).all fun s=>axF P tbl dirty n fn c s sr fb)=true):∃g,BP P nq f sa sr fb g:=by
 rw[Bool.and_eq_true]at h
 obtain⟨τ0,h0⟩:=hq
 have key:∀(x:Bool×List Value),∃y:Value×Bool,As (G2 (fun _=>0)) sa x.2->(∀b w,GW w->7<b->Fl b x.1 w->Calls P f (ptr b::x.2).toArray w fun e w'=>e=.returned y.1/\Fl b y.2 w'/\Aa b w w')/\(x.1=true->y.2=true)/\
  ∃τ',G0 τ' fb (.bool y.2)/\G2 τ' sr y.1/\(y.2=true∨nq τ'):=by
  intro x
  by_cases hx:As (G2 (fun _=>0)) sa x.2
  ·obtain⟨s,hs,gs⟩:=P6 (Gt (τ':=τ0) h.1 hx)
   obtain⟨v,bad',τ',h1,h2,h3,h4,h5⟩:=Abz (NQ:=nq) (fun _ h=>h) hm hf hb (List.all_eq_true.1 h.2 s hs) x.1 x.2 τ0 gs (.inr h0)
   exact⟨(v,bad'),fun _=>⟨h1,h2,τ',h3,h4,h5⟩⟩
  ·exact⟨(undef,false),fun e=>absurd e hx⟩
 exact⟨fun bad rest=>Classical.choose (key (bad,rest)),fun bad rest hr=>Classical.choose_spec (key (bad,rest)) hr⟩
theorem Cg{tbl:List (ACt P nq)}{dirty:Nat->List Nat}{n:Nat}(hm:P.follows .mixedOrders=true){f:Nat}{fn:Func}{c:Code}(hf:P.funcs[f]? =some fn)(hb:fn.body=some c){sa:List Value}{sr:Value}(h:axP P tbl dirty n fn c sa sr=true):∃g,Ps P f sa sr g:=by
 have key:∀x:List Value,∃y:Value,As (G2 (fun _=>0)) sa x->(∀w,GW w->Calls P f x.toArray w fun e w'=>e=.returned y/\Below w.heap.size w w')/\∃τ',G2 τ' sr y:=by
  intro x
  by_cases hx:As (G2 (fun _=>0)) sa x
  ·obtain⟨v,τ',h1,h2⟩:=Ab0 hm hf hb h x _ hx
   exact⟨v,fun _=>⟨h1,τ',h2⟩⟩
  ·exact⟨undef,fun e=>absurd e hx⟩
 exact⟨fun rest=>Classical.choose (key rest),fun rest hr=>Classical.choose_spec (key rest) hr⟩
def Axh(P:Program)(nq:(Nat->Int)->Prop)(f:Nat)(sa:List Value)(sr fb:Value)(h:∃g,BP P nq f sa sr fb g)(go:∀(args:Array Value) (w:World),(callFunc f args).run P w=.ok (.enter f args) w)(hp:sa.all (fun x=>!isP x)=true)(hr:isP sr=false):Ct P where
 fn:=f
 sp:=fun args m K=>match args with
  | .pointer (some ⟨k,0,none⟩)::rest=>∃bad,m[k]? =some [.bool bad]/\As (G2 (fun _=>0)) sa rest/\K (Classical.choose h bad rest).1 (m.set k [.bool (Classical.choose h bad rest).2])
  |_=>False
 go:=go
 mono:=fun hK hs=>by
  split at hs
  ·obtain⟨bad,h1,h2,h3⟩:=hs
   exact⟨bad,h1,h2,hK _ _ h3⟩
  ·exact hs
 keep:=fun{args m K} hs=>by
  split at hs
  ·rename_i k rest
   obtain⟨bad,h1,h2,h3⟩:=hs
   refine⟨bad,h1,h2,h3,List.length_set ..,fun k' hk'=>?_⟩
   have e:k≠k':=by rintro rfl;exact hk' (by simp[G9])
   rw[List.getElem?_set_ne e]
  ·exact hs
 ok :=fun{bs w0 bl m w args args' K} R hlen hv hs=>by
  split at hs
  ·rename_i k rest
   obtain⟨bad,hmk,hg,hK⟩:=hs
   obtain⟨B,hB,he⟩:=hv 0
   have hargs:args'=(ptr B::rest).toArray:=by
    refine Array.ext (by rw[hlen];simp) (fun i h1 h2=>?_)
    cases i with
    |zero=>
     simp only[Array.getD_eq_getD_getElem?,Array.getElem?_eq_getElem h1]at he
     simpa [ptr]using he
    |succ i=>
     have hi:i<rest.length:=by simp at hlen;omega
     have:=hv (i+1)
     simp only[List.getD_eq_getElem?_getD,Array.getD_eq_getD_getElem?,List.getElem?_cons_succ]at this
     rw[List.getElem?_eq_getElem hi,Array.getElem?_eq_getElem h1]at this
     have e:=this.plain (noP hp hg _ (List.getElem_mem hi))
     simp only[Option.getD_some]at e
     rw[e]
     simp
   obtain⟨l2,e2,A⟩:=R.arr k B hB
   have e2:m[k]? =some l2:=e2
   rw[hmk]at e2
   cases e2
   rw[hargs]
   obtain⟨hcl,_,τ',_,h4,_⟩:=Classical.choose_spec h bad rest hg
   refine Calls.mono (hcl B w R.gwAt (R.gt hB hmk (List.cons_ne_nil _ _)) (N5 A)) ?_
   rintro e w' ⟨rfl,F,Kp⟩
   exact⟨_,_,_,rfl,.same (by rw[h4.isP];exact hr),hK,R.flow hB hmk F Kp⟩
  ·exact hs.elim
def Att(P:Program)(f:Nat)(sa:List Value)(sr:Value)(h:∃g,Ps P f sa sr g)(go:∀(args:Array Value) (w:World),(callFunc f args).run P w=.ok (.enter f args) w)(hp:sa.all (fun x=>!isP x)=true)(hr:isP sr=false):Ct P where
 fn:=f
 sp:=fun args m K=>As (G2 (fun _=>0)) sa args/\K (Classical.choose h args) m
 go:=go
 mono:=fun hK hs=>⟨hs.1,hK _ _ hs.2⟩
 keep:=fun hs=>⟨hs.1,hs.2,rfl,fun _ _=>rfl⟩
 ok:=fun{bs w0 bl m w args args' K} R hlen hv hs=>by
  rw[Gs hlen hv (noP hp hs.1)]
  obtain⟨hcl,τ',h4⟩:=Classical.choose_spec h args hs.1
  refine Calls.mono (hcl w R.gwAt) ?_
  rintro e w' ⟨rfl,Kp⟩
  exact⟨_,_,_,rfl,.same (by rw[h4.isP];exact hr),hs.2,R.pure Kp⟩
def AL{f:Nat}{sa:List Value}{sr fb:Value}(tout:Bool)(go:∀(args:Array Value) (w:World),(callFunc f args).run P w=.ok (.enter f args) w)(h:∃g,BP P nq f sa sr fb g)(hk:(KP sa&&sa.all (fun x=>!isP x)&& !isP sr&&(tout||(PZ sr&&PZ fb)))=true):ACt P nq where
 ct:=Axh P nq f sa sr fb h go (by simp only[Bool.and_eq_true]at hk;exact hk.1.1.2) (by simp only[Bool.and_eq_true,Bool.not_eq_true']at hk;exact hk.1.2)
 flow:=true
 sa:=sa
 sr:=sr
 fb:=fb
 tout:=tout
 okF :=fun _ k rest m bad τ hm hg=>by
  simp only[Bool.and_eq_true,Bool.or_eq_true,Bool.not_eq_true']at hk
  have hr:As (G2 (fun _=>0)) sa rest:=Gt hk.1.1.1 hg
  obtain⟨h1,h2,τ',h3,h4,h5⟩:=Classical.choose_spec h bad rest hr
  cases tout with
  |true=>exact⟨_,_,τ',fun K hK=>⟨bad,hm,hr,hK⟩,h3,h2,fun _=>h5.imp id .inl,h4,(fun e=>by cases e)⟩
  | false=>
   have hn:=hk.2.resolve_left (by decide)
   exact⟨_,_,τ,fun K hK=>⟨bad,hm,hr,hK⟩,G0.g2 h3 |> It hn.2 |> fun g=>(by
    have hp:=h3.plain
    unfold G2 at g
    split at g
    ·cases hp
    ·unfold G1 at g
     split at g
     ·cases hp
     ·exact g),h2,(fun e=>by cases e),It hn.1 h4,fun _=>rfl⟩
 okP:=fun e=>by cases e
def Hc{f:Nat}{sa:List Value}{sr:Value}(go:∀(args:Array Value) (w:World),(callFunc f args).run P w=.ok (.enter f args) w)(h:∃g,Ps P f sa sr g)(hk:(KP sa&&sa.all (fun x=>!isP x)&& !isP sr&&PZ sr)=true):ACt P nq where
 ct:=Att P f sa sr h go (by simp only[Bool.and_eq_true]at hk;exact hk.1.1.2) (by simp only[Bool.and_eq_true,Bool.not_eq_true']at hk;exact hk.1.2)
 flow:=false
 sa:=sa
 sr:=sr
 fb:=unkB
 tout:=false
 okF:=fun e=>by cases e
 okP:=fun _ args m τ hg=>by
  simp only[Bool.and_eq_true,Bool.not_eq_true']at hk
  have hr:As (G2 (fun _=>0)) sa args:=Gt hk.1.1.1 hg
  obtain⟨h1,τ',h4⟩:=Classical.choose_spec h args hr
  exact⟨_,fun K hK=>⟨hr,hK⟩,It hk.2 h4⟩
end
def Sr{A:Type}(d:Dl A):Dc A where
 enc x:=.agg (d.enc x).toArray
 dec v:=match v with
  | .agg cs=>d.dec cs.toList
  |_=>none
 law v x h:=by
  split at h
  ·rename_i cs
   have:=d.law _ _ h
   rw[<-this]
  ·cases h
 np _:=rfl
def Tup:Nat->Type
 |0=>Unit
 |n+1=>Int×Tup n
def tEnc:(n:Nat)->Tup n->List Value
 |0,_=>[]
 |n+1,x=>.int .i64 x.1::tEnc n x.2
def Ss:(n:Nat)->List Value->Option (Tup n)
 |0,l=>(match l with
  |[]=>some ()
  |_=>none)
 | n+1,l=>(match l with
  | .int .i64 x::r=>(match Ss n r with
   |some y=>some (x,y)
   |none=>none)
  |_=>none)
theorem P7:∀(n:Nat) (l:List Value) (x:Tup n),Ss n l=some x->l=tEnc n x
 |0,l,x,h=>by
  unfold Ss at h
  split at h
  ·rfl
  ·cases h
 | n+1,l,x,h=>by
  unfold Ss at h
  split at h
  ·split at h
   ·rename_i y hy
    cases h
    rw[P7 n _ y hy]
    rfl
   ·cases h
  ·cases h
theorem VT:∀(n:Nat) (x:Tup n),∀v∈tEnc n x,isP v=false
 |0,_,v,h=>by cases h
 |n+1,x,v,h=>by
  rcases List.mem_cons.1 h with rfl |h
  ·rfl
  ·exact VT n x.2 v h
def dT(n:Nat):Dl (Tup n):=⟨tEnc n,Ss n,fun l x h=>P7 n l x h,VT n⟩
def cT(n:Nat):Dc (Tup n):=Sr (dT n)
theorem J8{τ:Nat->Int}:∀(n:Nat) (l:List Value),As (G0 τ) (List.replicate n (unk .i64)) l->∃x:Tup n,tEnc n x=l
 |0,[],_=>⟨(),rfl⟩
 |n+1,v::l,h=>by
  obtain⟨⟨x,rfl⟩,h2⟩:=h
  obtain⟨y,rfl⟩:=J8 n l h2
  exact⟨(x,y),rfl⟩
 |0,_::_,h=>h.elim
 |_+1,[],h=>h.elim
def JW{A B:Type}(n:Nat)(d:Dl A)(e:Dl B):Dl (A×B) where
 enc x:=d.enc x.1++e.enc x.2
 dec l:=match d.dec (l.take n),e.dec (l.drop n)with
  |some a,some b=>some (a,b)
  |_,_=>none
 law l x h:=by
  split at h
  ·rename_i a b h1 h2
   cases h
   rw[<-d.law _ _ h1,<-e.law _ _ h2,List.take_append_drop]
  ·cases h
 np x v hv:=by
  rcases List.mem_append.1 hv with h |h
  ·exact d.np x.1 v h
  ·exact e.np x.2 v h
def cS:Dc ByteArray where
 enc s:=.string s
 dec v:=match v with
  | .string s=>some s
  |_=>none
 law v x h:=by
  split at h
  ·cases h;rfl
  ·cases h
 np _:=rfl
def I6{A B C:Type}(c:Dc A)(d:Dc B)(e:Dc C):Dc (A×B×C) where
 enc p:=.tuple #[c.enc p.1,d.enc p.2.1,e.enc p.2.2]
 dec v:=match v with
  | .tuple ⟨[x,y,z]⟩=>(match c.dec x,d.dec y,e.dec z with
   |some a,some b,some c=>some (a,b,c)
   |_,_,_=>none)
  |_=>none
 law v x h:=by
  split at h
  ·split at h
   ·rename_i h1 h2 h3
    cases h
    rw[c.law _ _ h1,d.law _ _ h2,e.law _ _ h3]
   ·cases h
  ·cases h
 np _:=rfl
section
variable {P:Program} {nq:(Nat->Int)->Prop}
theorem BV{f:Nat}{sa:List Value}{sr fb:Value}(h:∃g,BP P nq f sa sr fb g){A R:Type}(d:Dl A)(c:Dc R)(hd:∀x,As (G2 (fun _=>0)) sa (d.enc x))(hc:∀τ v,G2 τ sr v->∃y,c.enc y=v):
    ∃g:Bool->A->R×Bool,Ba P f d g c/\∀bad x,(bad=true->(g bad x).2=true)/\∃τ',G2 τ' sr (c.enc (g bad x).1)/\((g bad x).2=true∨nq τ'):=by
 obtain⟨g,hg⟩:=h
 have key:∀x:Bool×A,∃y:R×Bool,c.enc y.1=(g x.1 (d.enc x.2)).1/\y.2=(g x.1 (d.enc x.2)).2:=by
  rintro⟨bad,x⟩
  obtain⟨_,_,τ',_,h4,_⟩:=hg bad (d.enc x) (hd x)
  obtain⟨y,hy⟩:=hc τ' _ h4
  exact⟨(y,(g bad (d.enc x)).2),hy,rfl⟩
 refine⟨fun bad x=>Classical.choose (key (bad,x)),fun b bad x w hw hb hf=>?_,fun bad x=>?_⟩
 ·obtain⟨e1,e2⟩:=Classical.choose_spec (key (bad,x))
  dsimp only at e1 e2 ⊢
  rw[e1,e2]
  exact(hg bad _ (hd x)).1 b w hw hb hf
 ·obtain⟨e1,e2⟩:=Classical.choose_spec (key (bad,x))
  obtain⟨_,h2,τ',_,h4,h5⟩:=hg bad _ (hd x)
  dsimp only at e1 e2 ⊢
  rw[e1,e2]
  exact⟨h2,τ',h4,h5⟩
theorem Od{τ:Nat->Int}:∀(n:Nat) (x:Tup n),As (G0 τ) (List.replicate n (unk .i64)) (tEnc n x)
 |0,_=>trivial
 |n+1,x=>⟨⟨x.1,rfl⟩,Od n x.2⟩
theorem Fj{τ:Nat->Int}(n:Nat)(x:Tup n):G2 τ (.agg ⟨List.replicate n (unk .i64)⟩) ((cT n).enc x):=⟨tEnc n x,rfl,Od n x⟩
theorem P8{τ:Nat->Int}(n:Nat)(v:Value)(h:G2 τ (.agg ⟨List.replicate n (unk .i64)⟩) v):∃y,(cT n).enc y=v:=by
 obtain⟨l,rfl,gl⟩:=h
 obtain⟨x,rfl⟩:=J8 n l gl
 exact⟨x,rfl⟩
theorem Ch{tbl:List (Ct P)}{dirty:Nat->List Nat}{n:Nat}(hm:P.follows .mixedOrders=true){f:Nat}{fn:Func}{c:Code}(hf:P.funcs[f]? =some fn)(hb:fn.body=some c){A R:Type}{d:Dl A}{k:Dc R}{x:A}{y:R}
    (h:∀Post:Value->Prop,PJ k Post y->MS P tbl dirty n c (Cv P fn (fun v _=>Post v)) (d.enc x++List.replicate (fn.ntmps-(d.enc x).length) undef) []) (w:World) (hg:GW w):Calls P f (d.enc x).toArray w fun e w'=>e=.returned (k.enc y)/\Below w.heap.size w w':=
 KU hm hf hb (d.np x) (h (fun v=>v=k.enc y) rfl) w hg
def Ai5(P:Program)(f:Nat){A R:Type}(d:Dl A)(c:Dc R)(x:A)(y:R)(go:∀(args:Array Value) (w:World),(callFunc f args).run P w=.ok (.enter f args) w)(h:∀w,GW w->Calls P f (d.enc x).toArray w fun e w'=>e=.returned (c.enc y)/\Below w.heap.size w w'):Ct P where
 fn:=f
 sp:=fun args m K=>args=d.enc x/\K (c.enc y) m
 go:=go
 mono:=fun hK hs=>⟨hs.1,hK _ _ hs.2⟩
 keep:=fun hs=>⟨hs.1,hs.2,rfl,fun _ _=>rfl⟩
 ok:=fun{bs w0 bl m w args args' K} R hlen hv hs=>by
  rw[Gs hlen hv (by rw[hs.1];exact d.np x),hs.1]
  refine Calls.mono (h w R.gwAt) ?_
  rintro e w' ⟨rfl,Kp⟩
  exact⟨_,_,_,rfl,.same (c.np _),hs.2,R.pure Kp⟩
end
end Go.Proofs.YtgmpfeaanjnhaaaGreatDoor
