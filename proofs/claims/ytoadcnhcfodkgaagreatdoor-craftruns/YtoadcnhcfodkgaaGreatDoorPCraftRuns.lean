import Derived.Test.YtoadcnhcfodkgaaGreatDoorTie
import Derived.Test.YtoadcnhcfodkgaaGreatDoorCards
import Derived.BigRegion
import Derived.SevenTiedAt
import Derived.Stop.Joined
import Derived.ChangeOld
import Derived.Below
import Derived.Test.YtoadcnhcfodkgaaGreatDoorU14
set_option maxRecDepth 100000
open Go.Proofs.Tryz renaming prog→Zm
namespace Go.Proofs.YtoadcnhcfodkgaaGreatDoor
open Go.ChangeShapes Go.WideShapes Go.ChangeAt Go.RowKit
theorem PG:ownKnob Zm.godebug=none:=by kernel_rfl
theorem KY(os:Os)(started:os.Started)(H:Type)(enc:TypeId×Value->H):
    ReturnsInHanded {} Tryz.checked os 3 .any (fun w args=>(Rows.craftRunsSpec.pre enc Zm Tryz.f3 [] false w args/\laidMetH Zm WG w)/\sizedMet enc Zm Tryz.f3 (OpenSpec.ofChange Rows.craftRunsSpec) false w args) (Rows.craftRunsSpec.post enc Zm Tryz.f3 false true false false):=by
 refine returnsInHanded_of_change_and (C:=Tryz.checked) (X:=fun w _=>laidMetH Zm WG w) (fun _ _ _ hh h=>h.of_heap hh) PG started (by kernel_rfl) Tryz.func3
  (ChangeSpec.witness_shaped (enc:=enc) (C:=Tryz.checked) (os:=os) (X:=fun w _=>laidMetH Zm WG w) false (World.doorLaid Zm 51 os) #[.int .i64 0,.slice none 0 0] 8 rfl (World.shaped_of_RefB (by kernel_rfl) (by kernel_rfl)) (by kernel_rfl) (by kernel_rfl) (by kernel_rfl) (Ar5 os _)) ?_
 intro W base args ds gs before hval0 hW _ hS hL _
 have hval:∀(j:Nat) t v,Tryz.f3.params[j]? =some t->args[j]? =some v->Value.okWide Zm W .any base t v:=hval0
 have hW':=hW
 obtain⟨p,q,hA0,hV,rfl,hfz,hnd⟩:=hW
 have hA:DataW.TrodAll enc Zm W 0 (fun _=>true) true Tryz.f3.params.toList args.toList ds p:=hA0
 rw[Tryz.params3]at hA hval
 obtain⟨v0,vs0,d0,ds0,p0,q0,hargs,rfl,rfl,h0,r0⟩:=trodAll_cons hA
 obtain⟨v1,vs1,d1,ds1,p1,q1,e1,rfl,rfl,h1,r1⟩:=trodAll_cons r0
 obtain⟨rfl,rfl,rfl⟩:=trodAll_nil r1
 subst e1
 obtain rfl:args=#[v0,v1]:=by cases args;simp_all
 obtain⟨rfl,rfl⟩:=trodVars_none hV
 have hG:=Azo hL
 have h1k:=h1
 obtain⟨t,rfl,rfl,rfl,w0⟩:=open_int Tryz.underlying2 (hval 0 2 v0 rfl rfl) h0
 obtain⟨B,ao,nn,cap,L,sl,rfl,hr,hsl,hsz⟩:=ZZ hG.1.lies (hval 1 22 v1 rfl rfl) h1
 clear hA0 hval0
 have hlt1:∀x∈p1,x.block<W.heap.size:=fun x hx=>by simpa using hW'.lt x (by simp[hx])
 obtain⟨F,D,k1,k2,k3,k4⟩:=Ay2
 have hS2:(DataW.weightsEach Zm [2,22] [.lit (.int .i64 t),d1]).all (·<=reachBytes)=true:=hS
 unfold DataW.weightsEach at hS2
 unfold DataW.weightsEach at hS2
 rw[List.all_append,Bool.and_eq_true,List.all_append,Bool.and_eq_true]at hS2
 have hz:=hsz hS2.2.1
 refine(PE ⟨k1,k2,k3,k4⟩ t W hG hr hsl (Nat.le_trans hz.1 (by decide)) (fun i hi=>Nat.le_trans (hz.2 i hi) (by decide))).mono fun e W' ⟨he,bel⟩=>?_
 subst he
 exact⟨_,rfl,_,_,_,[],_,[],hW',trodAll_mk1 (shut_bool Tryz.underlying4 _),(trodAll_cons_mk (shut_int Tryz.underlying2 w0) (trodAll_cons_mk (Below.trod Ar1 (by kernel_rfl) (of_decide_eq_true (by kernel_rfl)) h1k bel hlt1) trodAll_mk0)),rfl,bel.frame _,fun h=>by cases h⟩
theorem MB:Rows.CraftRunsSaid:=
 OpenClaim.holds_of_wide 3 Tryz.f3 rfl rfl rfl rfl rfl rfl rfl ⟨rfl,rfl,rfl,rfl,rfl⟩ rfl rfl rfl rfl rfl (by kernel_rfl) Tryz.func3 (by kernel_rfl)
  (of_decide_eq_true (by kernel_rfl)) (by unfold Func.isWrapper;first |(rw[if_pos (by decide+kernel)];kernel_rfl)|(rw[if_neg (by decide+kernel)];exact⟨rfl,rfl⟩))
  (fun os started H enc _=>KY os started H enc)
theorem CraftRuns_card:Rows.CraftRunsCardSaid:=
 Claim7.holds_tied_plain_at .later [] [.data,.data] true Rows.craftRunsCard.stood.harness Rows.craftRunsCard.stood.looks
  MB (fun _ h=>by cases h) (by kernel_rfl) (fun _ h=>by cases h) craftRuns_row_tie rfl ⟨rfl,rfl⟩ (by kernel_rfl) rfl
  (fun f fn hf hfn=>by
   obtain rfl:f=3:=Option.some.inj ((show Zm.funcNamed "alidade/alidadelaw18.CraftRuns" =some 3 by kernel_rfl).symm.trans hf) |>.symm
   obtain rfl:fn=Tryz.f3:=(Option.some.inj (Tryz.func3.symm.trans hfn)).symm
   exact⟨by kernel_rfl,fun j t ht=>by
    rw[Tryz.params3]at ht
    have hm:t∈[2,22]:=by simpa using Array.mem_of_getElem? ht
    have hall:([2,22].all fun u=>!Zm.wantsStandIn u)=true:=by kernel_rfl
    exact(show Zm.wantsStandIn t=false by simpa using List.all_eq_true.1 hall t hm)⟩)
  (by kernel_rfl)
#print axioms CraftRuns_card
end Go.Proofs.YtoadcnhcfodkgaaGreatDoor
