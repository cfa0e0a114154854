import Derived.Test.YtehmdohpmpbnnaaGreatDoorQ00
import Derived.Test.YtehmdohpmpbnnaaGreatDoorQ50
import Derived.Test.YtehmdohpmpbnnaaGreatDoorQ52
import Derived.OpenShut
import Derived.Carry
set_option linter.all false
set_option maxRecDepth 100000
set_option maxHeartbeats 8000000
namespace Go.Proofs.YtehmdohpmpbnnaaGreatDoor
open Go.Proofs.Tryz
open Go.ChangeAt Go.ChangeShapes Go.RowKit Go.WideElems Go.WideMaps Go.WideShapes
theorem Tryz.laidOut':laidOutB prog=true:=by kernel_rfl
theorem zNv(os:Os)(started:os.Started)(H:Type)(enc:TypeId×Value→H):
 ReturnsInHanded {} Tryz.checked os 6 .any (fun w args=>(Rows.flowsSpec.pre enc prog Tryz.f6 [] false w args∧laidMetH prog laidAll w)∧sizedMet enc prog Tryz.f6 (OpenSpec.ofChange Rows.flowsSpec) false w args)
  (Rows.flowsSpec.post enc prog Tryz.f6 false true false false):=by
 refine returnsInHanded_of_change_and (C:=Tryz.checked) (X:=fun w _=>laidMetH prog laidAll w) (fun _ _ _ hh h=>h.of_heap hh) Tryz.own started (by kernel_rfl) func6
  (ChangeSpec.witness_shaped (enc:=enc) (C:=Tryz.checked) (os:=os) (X:=fun w _=>laidMetH prog laidAll w) false (World.doorLaid prog 400 os) #[.slice none 0 0] 8 rfl (World.shaped_of_RefB (by kernel_rfl) (by kernel_rfl)) (by kernel_rfl) (by kernel_rfl) (by kernel_rfl) (zNf os _)) ?_
 intro W base args T c F D Z _ S f _;have N:=Z;obtain⟨p,q,L,i,rfl,k,l⟩:=Z;have K:DataW.TrodAll enc prog W 0 (fun _=>true) true Tryz.f6.params.toList args.toList T p:=L;have B:(DataW.weightsEach prog (Tryz.f6.params.toList++Rows.flowsSpec.plain.varTypes prog) (T++c)).all (· ≤reachBytes)=true:=S;have A:∀(j:Nat) t v,Tryz.f6.params[j]? =some t→args[j]? =some v→Value.okWide prog W .any base t v:=D;have R:=K.lt;rw[Tryz.params6]at K B A;obtain⟨⟨a,s,V⟩,O⟩:=zNe f;obtain⟨v,d,rfl,rfl,Y⟩:=trodAll_one K;obtain⟨rfl,rfl⟩:=trodVars_none i;obtain⟨G,J,I,rfl⟩:=okWide_slice underlying22 (A 0 22 v rfl rfl);have M:=Y;obtain⟨U,m⟩:=Y;obtain⟨u,E,g⟩:=zNa m (fun n hn=>by
  have:=List.all_eq_true.1 B n (DataW.weights_mem_each (j:=0) rfl rfl n hn);simpa using this)
 obtain rfl:Value.slice G J I=u:=by
  have e:(Value.slice G J I).cells.toList= [Value.slice G J I]:=rfl;rw[e]at E;exact(List.cons.inj E).1
 refine(zN4 W (fun w' hb=>zNu a s (V.below hb)) a s V O _ (fun w' hb=>g.below hb)).mono fun e W' ⟨he,hb⟩=>?_
 subst he;refine⟨_,rfl,_,_,_,[],p,[],N,?_,?_,?_,hb.frame _,fun h=>by cases h⟩
 ·exact trodAll_mk1 (shut_bool underlying4 true)
 ·show DataW.TrodAll enc prog W' 0 (fun b=>decide (b<W.heap.size)) true Tryz.f6.params.toList [Value.slice G J I] [d] p;rw[Tryz.params6];exact trodAll_mk1 (Below.trod Tryz.laidOut' (by kernel_rfl) (of_decide_eq_true (by kernel_rfl)) M hb (by simpa using R))
 rfl
theorem zNw:(Rows.flowsRow.inPlace == prog.inPlace 6)=true:=by kernel_rfl
theorem zNx:(Rows.flowsRow.unfollowed == prog.unfollowed 6)=true:=by kernel_rfl
theorem zNy:(Rows.flowsRow.recurses == prog.recurses 6)=true:=by kernel_rfl
theorem zNz:(Rows.flowsRow.named == prog.varsNamed 6)=true:=by kernel_rfl
theorem zP:mapsRowed prog=true:=by kernel_rfl
theorem zP0:joinedFacts prog 6 Tryz.f6 Rows.flowsSpec Rows.flowsRow=true:=by
 unfold joinedFacts;rw[zNw,zNx,zNy,zNz,zP,Tryz.laidOut'];kernel_rfl
theorem zP1:Rows.FlowsSaid:=
 OpenClaim.holds_of_wide 6 Tryz.f6 rfl rfl rfl rfl rfl rfl rfl ⟨rfl,rfl,rfl,rfl,rfl⟩ rfl rfl rfl rfl rfl (by kernel_rfl) func6 zP0
  (of_decide_eq_true (by kernel_rfl)) (by unfold Func.isWrapper;first|(rw[if_pos (by decide +kernel)];kernel_rfl)|(rw[if_neg (by decide +kernel)];exact⟨rfl,rfl⟩))
  (fun os started H enc _=>zNv os started H enc)
theorem flows_holds:Rows.FlowsCardSaid:=
 Claim7.holds_tied_plain_at .later [] [.handle,.data,.sentinel,.sentinel,.sentinel,.sentinel,.sentinel,.sentinel,.sentinel,.sentinel] true (true,"3f30d1e689fa4b57cbb8349d43a6c5bd43ebfe62a362f89810e6f85100425793") true
  zP1 (fun _ h=>by cases h) (by kernel_rfl) (fun _ h=>by cases h) flows_row_tie rfl ⟨rfl,rfl⟩ (by kernel_rfl) rfl
  (fun f fn hf hfn=>by
   obtain rfl:f=6:=Option.some.inj ((show prog.funcNamed "orderbook/orderbooklaw.Flows" =some 6 by kernel_rfl).symm.trans hf) |>.symm;obtain rfl:fn=Tryz.f6:=(Option.some.inj (func6.symm.trans hfn)).symm;exact⟨by kernel_rfl,fun j t ht=>by
    rw[Tryz.params6]at ht
    match j,ht with
    |0,ht=>simp at ht;subst ht;first|kernel_rfl|exact of_decide_eq_true (by kernel_rfl)|(refine⟨?_,?_⟩<;>first|kernel_rfl|exact of_decide_eq_true (by kernel_rfl))⟩)
  (by kernel_rfl)
end Go.Proofs.YtehmdohpmpbnnaaGreatDoor
