import Derived.Test.YtanfmhonjpjpoaaGreatDoorQ00
import Derived.Test.YtanfmhonjpjpoaaGreatDoorQ37
import Derived.Test.YtanfmhonjpjpoaaGreatDoorTie
import Derived.Test.YtanfmhonjpjpoaaGreatDoorCards
import Derived.LaidMore
import Derived.Stop.Joined
import Derived.SevenTiedAt
import Derived.OpenShut
import Derived.Carry
set_option linter.all false
set_option maxRecDepth 100000
set_option maxHeartbeats 8000000
namespace Go.Proofs.YtanfmhonjpjpoaaGreatDoor
section
open Go.ChangeShapes Go.Deep Go.RowKit Go.WideShapes
theorem Tryz.widthsAt:Tryz.prog.globalNamed "orderbook/orderbook.termWidths" =some 9:=by kernel_rfl
theorem Tryz.widthsType:(Tryz.prog.globals[9]?).map (·.type)=some 35:=by kernel_rfl
def widL:List Int:=[4,1,1,4,4,4,4,1,4]
theorem zPu: ∀j,j<9→widL[j]? =some (wid j):=by decide
theorem zPv{W:World}{r:List (String×DataW Unit)}(h:laidMet Tryz.prog (("orderbook/orderbook.termWidths",Rows.laid_orderbook_orderbook_termWidths)::r) W):Wids W∧laidMet Tryz.prog r W:=by
 obtain⟨ps,⟨g0,t0,cs0,f0,p0,q0,hg0,ht0,hv0,hd0,hq,rfl⟩,hnd,hrows⟩:=h;obtain rfl:=Option.some.inj (Tryz.widthsAt.symm.trans hg0);obtain rfl:=Option.some.inj (Tryz.widthsType.symm.trans ht0);refine⟨fun j hj=>?_,q0,hq,(List.nodup_append.1 hnd).2.1,fun b off hm=>hrows b off (List.mem_append_right _ hm)⟩;obtain⟨xs,m,-,hx,hlen,hxl,hf⟩:=DataW.trod_array Tryz.und9 hd0;rw[Tryz.cells3]at hf;have hfj:=hf j hj;rw[Nat.mul_one,List.getElem?_eq_getElem (show j<xs.length by omega)]at hfj;obtain⟨n,h1,h2,_⟩:=DataW.trod_int Tryz.underlying3 hfj;have hag:xs.map (·.1)=widL.map fun n=>DataW.lit (.int .i64 n):=by
  have:=(Prod.mk.inj hx).1;injection this with this;exact this.symm
 have hn:n=wid j:=by
  have e1:(xs.map (·.1))[j]? =some (DataW.lit (.int .i64 n)):=by
   rw[List.getElem?_map,List.getElem?_eq_getElem (show j<xs.length by omega),h2];rfl
  rw[hag,List.getElem?_map,zPu j hj]at e1;simp at e1;exact e1.symm
 have hc:=World.var?_cell hg0 hv0 j;rw[hc];have:=cell_of_cut h1;rw[hn]at this;simpa using this
def texts:Nat→List UInt8
 |0=> [97,32,99,111,110,102,105,103,32,116,104,97,116,32,109,97,121,32,110,111,116,32,98,101]
 |1=> [110,111,32,107,105,110,100,32,111,102,32,99,111,109,109,97,110,100]
 |2=> [97,32,110,117,109,98,101,114,32,116,104,97,116,32,104,97,115,32,110,111,32,114,111,111,109]
 |3=> [98,121,116,101,115,32,116,104,97,116,32,101,110,100,32,116,111,111,32,101,97,114,108,121]
 |4=> [110,111,32,102,114,97,109,101]
 |5=> [110,111,32,114,101,99,111,114,100]
 |6=> [97,32,114,101,99,111,114,100,32,116,104,97,116,32,105,115,32,110,111,116,32,116,104,101,32,110,101,120,116]
 |_=> [97,32,114,101,99,111,114,100,32,116,104,97,116,32,99,97,110,110,111,116,32,98,101]
theorem zPw(k:Nat):(texts k).length≠0∧(texts k).length≤1000:=by
 unfold texts;split<;>exact⟨by decide,by decide⟩
def laidAll:List (String×DataW Unit):=("errors.errorType",Rows.laid_errors_errorType)::("orderbook/orderbook.termWidths",Rows.laid_orderbook_orderbook_termWidths)::nine texts
theorem zPx{W:World}(h:laidMetH Tryz.prog laidAll W):(∃a s,Errs W a s)∧Wids W:=by
 have h':laidMet Tryz.prog (("orderbook/orderbook.termWidths",Rows.laid_orderbook_orderbook_termWidths)::nine texts) W∧handlesMet Tryz.prog [("errors.errorType",Rows.laid_errors_errorType)] W:=h;obtain⟨h1,h2⟩:=zPv h'.1;exact⟨zPp (fun k _=>zPw k) h2 (zPq h'.2),h1⟩
theorem zPy(os:Os)(args:Array Value):laidMetH Tryz.prog laidAll ((World.doorLaid Tryz.prog 400 os).forCall (fun _ _=>0) ⟨#[],args,[]⟩).memory:=
 laidMetH_of_parts3 (fuel:=8) (laidMet_of_run' 8 (by kernel_rfl) (by kernel_rfl)) (by kernel_rfl) (by kernel_rfl)
end
section
open Go.ChangeAt Go.ChangeShapes Go.RowKit Go.WideElems Go.WideMaps Go.WideShapes
theorem Tryz.laidOut':laidOutB Tryz.prog=true:=by kernel_rfl
theorem zPz(os:Os)(started:os.Started)(H:Type)(enc:TypeId×Value→H):
 ReturnsInHanded {} Tryz.checked os 4 .any (fun w args=>(Rows.fairSpec.pre enc Tryz.prog Tryz.f4 [] false w args∧laidMetH Tryz.prog laidAll w)∧sizedMet enc Tryz.prog Tryz.f4 (OpenSpec.ofChange Rows.fairSpec) false w args)
  (Rows.fairSpec.post enc Tryz.prog Tryz.f4 false true false false):=by
 refine returnsInHanded_of_change_and (C:=Tryz.checked) (X:=fun w _=>laidMetH Tryz.prog laidAll w) (fun _ _ _ hh h=>h.of_heap hh) Tryz.own started (by kernel_rfl) Tryz.func4
  (ChangeSpec.witness_shaped (enc:=enc) (C:=Tryz.checked) (os:=os) (X:=fun w _=>laidMetH Tryz.prog laidAll w) false (World.doorLaid Tryz.prog 400 os) #[.slice none 0 0] 8 rfl (World.shaped_of_RefB (by kernel_rfl) (by kernel_rfl)) (by kernel_rfl) (by kernel_rfl) (by kernel_rfl) (zPy os _)) ?_
 intro W base args ds gs before hval0 hW _ hwt hL _;have hW':=hW;obtain⟨p,q,hA0,hV,rfl,hfz,hnd⟩:=hW;have hA:DataW.TrodAll enc Tryz.prog W 0 (fun _=>true) true Tryz.f4.params.toList args.toList ds p:=hA0;have hwt':(DataW.weightsEach Tryz.prog (Tryz.f4.params.toList++Rows.fairSpec.plain.varTypes Tryz.prog) (ds++gs)).all (· ≤reachBytes)=true:=hwt;have hval: ∀(j:Nat) t v,Tryz.f4.params[j]? =some t→args[j]? =some v→Value.okWide Tryz.prog W .any base t v:=hval0;have hlt:=hA.lt;rw[Tryz.params4]at hA hwt' hval;obtain⟨⟨a,s,hE⟩,hWi⟩:=zPx hL;obtain⟨v,d,rfl,rfl,hT⟩:=trodAll_one hA;obtain⟨rfl,rfl⟩:=trodVars_none hV;obtain⟨sa,sl,sc,rfl⟩:=okWide_slice Tryz.underlying25 (hval 0 25 v rfl rfl);have hT':=hT;obtain⟨fuel,ht⟩:=hT;obtain⟨v',hv',hS⟩:=zPt ht (fun n hn=>by
  have:=List.all_eq_true.1 hwt' n (DataW.weights_mem_each (j:=0) rfl rfl n hn);simpa using this)
 obtain rfl:Value.slice sa sl sc=v':=by
  have e:(Value.slice sa sl sc).cells.toList= [Value.slice sa sl sc]:=rfl;rw[e]at hv';exact(List.cons.inj hv').1
 refine(zPo W a s hE hWi _ hS).mono fun e W' ⟨he,hb⟩=>?_
 subst he;refine⟨_,rfl,_,_,_,[],p,[],hW',?_,?_,?_,hb.frame _,fun h=>by cases h⟩
 ·exact trodAll_mk1 (shut_bool Tryz.underlying4 true)
 ·show DataW.TrodAll enc Tryz.prog W' 0 (fun b=>decide (b<W.heap.size)) true Tryz.f4.params.toList [Value.slice sa sl sc] [d] p;rw[Tryz.params4];exact trodAll_mk1 (Below.trod Tryz.laidOut' (by kernel_rfl) (of_decide_eq_true (by kernel_rfl)) hT' hb (by simpa using hlt))
 ·rfl
theorem zQ:(Rows.fairRow.inPlace == Tryz.prog.inPlace 4)=true:=by kernel_rfl
theorem zQ0:(Rows.fairRow.unfollowed == Tryz.prog.unfollowed 4)=true:=by kernel_rfl
theorem zQ1:(Rows.fairRow.recurses == Tryz.prog.recurses 4)=true:=by kernel_rfl
theorem zQ2:(Rows.fairRow.named == Tryz.prog.varsNamed 4)=true:=by kernel_rfl
theorem zQ3:mapsRowed Tryz.prog=true:=by kernel_rfl
theorem zQ4:joinedFacts Tryz.prog 4 Tryz.f4 Rows.fairSpec Rows.fairRow=true:=by
 unfold joinedFacts;rw[zQ,zQ0,zQ1,zQ2,zQ3,Tryz.laidOut'];kernel_rfl
theorem zQ5:Rows.FairSaid:=
 OpenClaim.holds_of_wide 4 Tryz.f4 rfl rfl rfl rfl rfl rfl rfl ⟨rfl,rfl,rfl,rfl,rfl⟩ rfl rfl rfl rfl rfl (by kernel_rfl) Tryz.func4 zQ4
  (of_decide_eq_true (by kernel_rfl)) (by unfold Func.isWrapper;first|(rw[if_pos (by decide +kernel)];kernel_rfl)|(rw[if_neg (by decide +kernel)];exact⟨rfl,rfl⟩))
  (fun os started H enc _=>zPz os started H enc)
theorem fair_holds:Rows.FairCardSaid:=
 Claim7.holds_tied_plain_at .later [] [.handle,.data,.sentinel,.sentinel,.sentinel,.sentinel,.sentinel,.sentinel,.sentinel,.sentinel] true (true,"ba089df535d814372fb8e864a9aa87426ca26846f337139202fa1b133f270f0b") true
  zQ5 (fun _ h=>by cases h) (by kernel_rfl) (fun _ h=>by cases h) fair_row_tie rfl ⟨rfl,rfl⟩ (by kernel_rfl) rfl
  (fun f fn hf hfn=>by
   obtain rfl:f=4:=Option.some.inj ((show Tryz.prog.funcNamed "orderbook/orderbookkeep.Fair" =some 4 by kernel_rfl).symm.trans hf) |>.symm;obtain rfl:fn=Tryz.f4:=(Option.some.inj (Tryz.func4.symm.trans hfn)).symm;exact⟨by kernel_rfl,fun j t ht=>by
    rw[Tryz.params4]at ht
    match j,ht with
    |0,ht=>simp at ht;subst ht;first|kernel_rfl|exact of_decide_eq_true (by kernel_rfl)|(refine⟨?_,?_⟩<;>first|kernel_rfl|exact of_decide_eq_true (by kernel_rfl))⟩)
  (by kernel_rfl)
end
end Go.Proofs.YtanfmhonjpjpoaaGreatDoor
