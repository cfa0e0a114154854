import Derived.Test.YtanfmhonjpjpoaaGreatDoorQ00
import Derived.Test.YtanfmhonjpjpoaaGreatDoorQ36
import Derived.Test.YtanfmhonjpjpoaaGreatDoorQ41
import Derived.Deep.Slices
import Derived.ChangeSame
import Derived.OpenShut
import Derived.SizedLaws
import Derived.Test.YtanfmhonjpjpoaaGreatDoorTie
import Derived.Test.YtanfmhonjpjpoaaGreatDoorCards
import Derived.LaidMore
import Derived.Stop.Joined
import Derived.SevenTiedAt
import Derived.Carry
set_option linter.all false
set_option maxRecDepth 100000
set_option maxHeartbeats 8000000
namespace Go.Proofs.YtanfmhonjpjpoaaGreatDoor
variable{cs:List Value}
section
open Go.ChangeShapes Go.Deep Go.RowKit Go.WideShapes
section
variable {H:Type} {enc:TypeId×Value→H} {w:World} {base:Nat} {spare:Nat→Bool} {held:Bool}
theorem Tryz.opFields:(Tryz.prog.fieldsOf 37).toList.map (fun f=>(f.type,f.offset))= [(3,0),(3,1),(3,2),(35,3)]:=by kernel_rfl
theorem Tryz.opStruct:Tryz.prog.underlying 37=some (.struct (Tryz.prog.fieldsOf 37)):=by kernel_rfl
theorem Tryz.cells3:Tryz.prog.cellsOf 3=1:=by kernel_rfl
theorem Tryz.cells9:Tryz.prog.cellsOf 35=9:=by kernel_rfl
theorem Tryz.cellsOp:Tryz.prog.cellsOf 37=12:=by kernel_rfl
theorem Tryz.und9:Tryz.prog.underlying 35=some (.array 9 3):=by kernel_rfl
theorem zS2{n:Int}(h:(Lit.int .i64 n).wf=true): -9223372036854775808≤n∧n≤9223372036854775807:=by
 simp[Lit.wf,IntKind.min,IntKind.max,IntKind.bits,IntKind.signed]at h;exact h
theorem zDa{n:Nat}{o:Nat}{y:Option (DataW H×List MemPlace)}(h:DataW.trod enc Tryz.prog w base spare held n 3 ((cs.drop o).take 1)=y)(hy:y.isSome=true): ∃x,cs[o]? =some (.int .i64 x)∧-9223372036854775808≤x∧x≤9223372036854775807:=by
 obtain⟨y',rfl⟩:=Option.isSome_iff_exists.1 hy;obtain⟨x,h1,_,h2⟩:=DataW.trod_int Tryz.underlying3 h;exact⟨x,cell_of_cut h1,zS2 h2⟩
theorem zS3{n:Nat}{y:DataW H×List MemPlace}(h:DataW.trod enc Tryz.prog w base spare held n 37 cs=some y):
 ∃(k a b:Int) (v:Nat→Int),cs[0]? =some (.int .i64 k)∧cs[1]? =some (.int .i64 a)∧cs[2]? =some (.int .i64 b)∧(∀j,j<9→cs[3+j]? =some (.int .i64 (v j))∧-9223372036854775808≤v j∧v j≤9223372036854775807)∧(-9223372036854775808≤a∧a≤9223372036854775807)∧(-9223372036854775808≤b∧b≤9223372036854775807):=by
 obtain⟨xs,m,-,hy,hlen,hxl,hf⟩:=DataW.trod_struct Tryz.opStruct h;have hfs:=Tryz.opFields;generalize Tryz.prog.fieldsOf 37=fs at *;have hsz:fs.size=4:=by
  have:=congrArg List.length hfs;simpa using this
 have hget: ∀j,j<4→∃f,fs[j]? =some f∧(fs.toList.map (fun f=>(f.type,f.offset)))[j]? =some (f.type,f.offset):=fun j hj=>by
  have hj':j<fs.size:=by omega
  exact⟨fs[j],Array.getElem?_eq_getElem hj',by simp[hj']⟩
 have hx: ∀j,j<4→(xs[j]?).isSome=true:=fun j hj=>by
  rw[List.getElem?_eq_getElem (by omega)];rfl
 obtain⟨f0,p0,q0⟩:=hget 0 (by omega);obtain⟨f1,p1,q1⟩:=hget 1 (by omega);obtain⟨f2,p2,q2⟩:=hget 2 (by omega);obtain⟨f5,p5,q5⟩:=hget 3 (by omega);rw[hfs]at q0 q1 q2 q5;simp only[List.getElem?_cons_zero,List.getElem?_cons_succ,Option.some.injEq,Prod.mk.injEq]at q0 q1 q2 q5;have g0:=hf 0 f0 p0;have g1:=hf 1 f1 p1;have g2:=hf 2 f2 p2;have g5:=hf 3 f5 p5;rw[←q0.1,←q0.2,Tryz.cells3]at g0;rw[←q1.1,←q1.2,Tryz.cells3]at g1;rw[←q2.1,←q2.2,Tryz.cells3]at g2;rw[←q5.1,←q5.2,Tryz.cells9]at g5;obtain⟨k,k1,_⟩:=zDa g0 (hx 0 (by omega));obtain⟨a,a1,a2⟩:=zDa g1 (hx 1 (by omega));obtain⟨b,b1,b2⟩:=zDa g2 (hx 2 (by omega));obtain⟨y5,e5⟩:=Option.isSome_iff_exists.1 (hx 3 (by omega));rw[e5]at g5;obtain⟨zs,m2,-,-,hzc,hzl,hz⟩:=DataW.trod_array Tryz.und9 g5;rw[Tryz.cells3]at hz;have each: ∀j,j<9→∃x,cs[3+j]? =some (.int .i64 x)∧-9223372036854775808≤x∧x≤9223372036854775807:=fun j hj=>by
  have hzj:=hz j hj;rw[Nat.mul_one]at hzj;obtain⟨x,x1,x2⟩:=zDa hzj (by rw[List.getElem?_eq_getElem (by omega)];rfl);refine⟨x,?_,x2⟩;rw[List.getElem?_take_of_lt hj,List.getElem?_drop]at x1;exact x1
 obtain⟨v,hv⟩:=choose_lt each;exact⟨k,a,b,v,k1,a1,b1,hv,a2,b2⟩
theorem Tryz.opBytes':decide (0<Tryz.prog.bytesOf 37)=true:=by kernel_rfl
theorem Tryz.opBytes:0<Tryz.prog.bytesOf 37:=of_decide_eq_true Tryz.opBytes'
theorem zS4{fuel:Nat}{x:DataW H×List MemPlace}(h:DataW.trod enc Tryz.prog w base spare held fuel 25 cs=some x)(hw: ∀n∈x.1.weights Tryz.prog 25,n≤reachBytes):
 ∃v,cs= [v]∧ScrK w v:=by
 rcases open_slice Tryz.underlying25 h with⟨h0,_⟩|⟨ad,L,c,m,n,Dt,Pl,rfl,hb,hl,hm,hmm,rfl,hx⟩
 ·exact⟨_,h0,.inl ⟨_,_,rfl⟩⟩
 have hlm:L≤m:=by rw[hmm];split<;>omega
 rw[Tryz.cellsOp]at hx;rcases Nat.eq_zero_or_pos L with rfl|hL0
 ·exact⟨_,rfl,.inl ⟨_,_,rfl⟩⟩
 have hLr:L≤reachBytes:=by
  have h1:=hw (((List.range L).map Dt).length*Tryz.prog.bytesOf 37+((List.range (m - L)).map fun j=>Dt (L+j)).length*Tryz.prog.bytesOf 37) (by
   rw[DataW.weights,Tryz.underlying25];rw[←Nat.add_mul];exact List.mem_cons_self)
  have h2:=Tryz.opBytes;simp only[List.length_map,List.length_range]at h1;exact Nat.le_trans (Nat.le_trans (Nat.le_mul_of_pos_right L h2) (Nat.le_add_right _ _)) h1
 obtain⟨g,o,sp⟩:=ad;have each: ∀i,i<L→∃q:(Int×Int×Int)×(Nat→Int),w.cell? ((⟨g,o,sp⟩:Addr).add (i*12))=some (.int .i64 q.1.1)∧w.cell? ((⟨g,o,sp⟩:Addr).add (i*12+1))=some (.int .i64 q.1.2.1)∧w.cell? ((⟨g,o,sp⟩:Addr).add (i*12+2))=some (.int .i64 q.1.2.2)∧(∀j,j<9→w.cell? ((⟨g,o,sp⟩:Addr).add (i*12+(3+j)))=some (.int .i64 (q.2 j))∧-9223372036854775808≤q.2 j∧q.2 j≤9223372036854775807)∧(-9223372036854775808≤q.1.2.1∧q.1.2.1≤9223372036854775807)∧(-9223372036854775808≤q.1.2.2∧q.1.2.2≤9223372036854775807):=fun i hi=>by
  obtain⟨cs',h1,h2⟩:=hx i (by omega);obtain⟨_,hlen,hcell⟩:=World.cells?_some h1;obtain⟨k,a,b,v,e0,e1,e2,e5,r1,r2⟩:=zS3 h2;have at': ∀j,j<12→w.cell? ((⟨g,o,sp⟩:Addr).add (i*12+j))=cs'[j]? :=fun j hj=>by
   have:=hcell j hj;rw[add_add]at this;exact this
  refine⟨((k,a,b),v),?_,(at' 1 (by omega)).trans e1,(at' 2 (by omega)).trans e2,fun j hj=>⟨(at' (3+j) (by omega)).trans (e5 j hj).1,(e5 j hj).2⟩,r1,r2⟩;have:=(at' 0 (by omega)).trans e0
  rwa [Nat.add_zero]at this
 obtain⟨q,hq⟩:=choose_lt each;obtain rfl:sp=none:=by
  have h0:=(hq 0 hL0).1;cases sp with
  |none=>rfl
  |some z=>
   exfalso;simp[World.cell?,Addr.add]at h0;split at h0<;>simp_all
 have hadd: ∀j,(⟨g,o,none⟩:Addr).add j=⟨g,o+j,none⟩:=fun j=>add_plain g o j
 refine⟨_,rfl,.inr ⟨g,o,L,c,fun i=>(q i).1.1,fun i=>(q i).1.2.1,fun i=>(q i).1.2.2,fun i=>(q i).2,rfl,?_,Nat.le_trans hLr (by unfold reachBytes;decide),fun i hi=>?_⟩⟩
 ·have h0:=(hq 0 hL0).1;rw[hadd]at h0;rcases Nat.lt_or_ge g w.heap.size with z|z
  ·exact z
  ·simp[World.cell?,Array.getElem?_eq_none z]at h0
 ·obtain⟨a1,a2,a3,a4,a5,a6⟩:=hq i hi;rw[hadd]at a1;rw[hadd,←Nat.add_assoc]at a2 a3;refine⟨a1,a2,a3,fun j hj=>⟨?_,(a4 j hj).2⟩,a5,a6⟩;have:=(a4 j hj).1
  rwa [hadd,←Nat.add_assoc]at this
end
theorem Tryz.widthsAt:Tryz.prog.globalNamed "orderbook/orderbook.termWidths" =some 9:=by kernel_rfl
theorem Tryz.widthsType:(Tryz.prog.globals[9]?).map (·.type)=some 35:=by kernel_rfl
def widL:List Int:=[4,1,1,4,4,4,4,1,4]
theorem zS5: ∀j,j<9→widL[j]? =some (wid j):=by decide
theorem zS6{W:World}{r:List (String×DataW Unit)}(h:laidMet Tryz.prog (("orderbook/orderbook.termWidths",Rows.laid_orderbook_orderbook_termWidths)::r) W):Wids W∧laidMet Tryz.prog r W:=by
 obtain⟨ps,⟨g0,t0,cs0,f0,p0,q0,hg0,ht0,hv0,hd0,hq,rfl⟩,hnd,hrows⟩:=h;obtain rfl:=Option.some.inj (Tryz.widthsAt.symm.trans hg0);obtain rfl:=Option.some.inj (Tryz.widthsType.symm.trans ht0);refine⟨fun j hj=>?_,q0,hq,(List.nodup_append.1 hnd).2.1,fun b off hm=>hrows b off (List.mem_append_right _ hm)⟩;obtain⟨xs,m,-,hx,hlen,hxl,hf⟩:=DataW.trod_array Tryz.und9 hd0;rw[Tryz.cells3]at hf;have hfj:=hf j hj;rw[Nat.mul_one,List.getElem?_eq_getElem (show j<xs.length by omega)]at hfj;obtain⟨n,h1,h2,_⟩:=DataW.trod_int Tryz.underlying3 hfj;have hag:xs.map (·.1)=widL.map fun n=>DataW.lit (.int .i64 n):=by
  have:=(Prod.mk.inj hx).1;injection this with this;exact this.symm
 have hn:n=wid j:=by
  have e1:(xs.map (·.1))[j]? =some (DataW.lit (.int .i64 n)):=by
   rw[List.getElem?_map,List.getElem?_eq_getElem (show j<xs.length by omega),h2];rfl
  rw[hag,List.getElem?_map,zS5 j hj]at e1;simp at e1;exact e1.symm
 have hc:=World.var?_cell hg0 hv0 j;rw[hc];have:=cell_of_cut h1;rw[hn]at this;simpa using this
def texts:Nat→List UInt8
 |0=> [97,32,99,111,110,102,105,103,32,116,104,97,116,32,109,97,121,32,110,111,116,32,98,101]
 |1=> [110,111,32,107,105,110,100,32,111,102,32,99,111,109,109,97,110,100]
 |2=> [97,32,110,117,109,98,101,114,32,116,104,97,116,32,104,97,115,32,110,111,32,114,111,111,109]
 |3=> [98,121,116,101,115,32,116,104,97,116,32,101,110,100,32,116,111,111,32,101,97,114,108,121]
 |4=> [110,111,32,102,114,97,109,101]
 |5=> [110,111,32,114,101,99,111,114,100]
 |6=> [97,32,114,101,99,111,114,100,32,116,104,97,116,32,105,115,32,110,111,116,32,116,104,101,32,110,101,120,116]
 |_=> [97,32,114,101,99,111,114,100,32,116,104,97,116,32,99,97,110,110,111,116,32,98,101]
theorem zS7(k:Nat):(texts k).length≠0∧(texts k).length≤1000:=by
 unfold texts;split<;>exact⟨by decide,by decide⟩
def laidAll:List (String×DataW Unit):=("errors.errorType",Rows.laid_errors_errorType)::("orderbook/orderbook.termWidths",Rows.laid_orderbook_orderbook_termWidths)::nine texts
theorem zS8{W:World}(h:laidMetH Tryz.prog laidAll W):(∃a s,Errs W a s)∧Wids W:=by
 have h':laidMet Tryz.prog (("orderbook/orderbook.termWidths",Rows.laid_orderbook_orderbook_termWidths)::nine texts) W∧handlesMet Tryz.prog [("errors.errorType",Rows.laid_errors_errorType)] W:=h;obtain⟨h1,h2⟩:=zS6 h'.1;exact⟨zRc (fun k _=>zS7 k) h2 (zRd h'.2),h1⟩
theorem zS9(os:Os)(args:Array Value):laidMetH Tryz.prog laidAll ((World.doorLaid Tryz.prog 400 os).forCall (fun _ _=>0) ⟨#[],args,[]⟩).memory:=
 laidMetH_of_parts3 (fuel:=8) (laidMet_of_run' 8 (by kernel_rfl) (by kernel_rfl)) (by kernel_rfl) (by kernel_rfl)
end
section
open Go.ChangeAt Go.ChangeShapes Go.RowKit Go.WideElems Go.WideMaps Go.WideShapes
theorem Tryz.laidOut':laidOutB Tryz.prog=true:=by kernel_rfl
theorem zSa(os:Os)(started:os.Started)(H:Type)(enc:TypeId×Value→H):
 ReturnsInHanded {} Tryz.checked os 5 .any (fun w args=>(Rows.agreeSpec.pre enc Tryz.prog Tryz.f5 [] false w args∧laidMetH Tryz.prog laidAll w)∧sizedMet enc Tryz.prog Tryz.f5 (OpenSpec.ofChange Rows.agreeSpec) false w args)
  (Rows.agreeSpec.post enc Tryz.prog Tryz.f5 false true false false):=by
 refine returnsInHanded_of_change_and (C:=Tryz.checked) (X:=fun w _=>laidMetH Tryz.prog laidAll w) (fun _ _ _ hh h=>h.of_heap hh) Tryz.own started (by kernel_rfl) Tryz.func5
  (ChangeSpec.witness_shaped (enc:=enc) (C:=Tryz.checked) (os:=os) (X:=fun w _=>laidMetH Tryz.prog laidAll w) false (World.doorLaid Tryz.prog 400 os) #[.slice none 0 0] 8 rfl (World.shaped_of_RefB (by kernel_rfl) (by kernel_rfl)) (by kernel_rfl) (by kernel_rfl) (by kernel_rfl) (zS9 os _)) ?_
 intro W base args ds gs before hval0 hW _ hwt hL _;have hW':=hW;obtain⟨p,q,hA0,hV,rfl,hfz,hnd⟩:=hW;have hA:DataW.TrodAll enc Tryz.prog W 0 (fun _=>true) true Tryz.f5.params.toList args.toList ds p:=hA0;have hwt':(DataW.weightsEach Tryz.prog (Tryz.f5.params.toList++Rows.agreeSpec.plain.varTypes Tryz.prog) (ds++gs)).all (· ≤reachBytes)=true:=hwt;have hval: ∀(j:Nat) t v,Tryz.f5.params[j]? =some t→args[j]? =some v→Value.okWide Tryz.prog W .any base t v:=hval0;have hlt:=hA.lt;rw[Tryz.params5]at hA hwt' hval;obtain⟨⟨a,s,hE⟩,hWi⟩:=zS8 hL;obtain⟨v,d,rfl,rfl,hT⟩:=trodAll_one hA;obtain⟨rfl,rfl⟩:=trodVars_none hV;obtain⟨sa,sl,sc,rfl⟩:=okWide_slice Tryz.underlying25 (hval 0 25 v rfl rfl);have hT':=hT;obtain⟨fuel,ht⟩:=hT;obtain⟨v',hv',hS⟩:=zS4 ht (fun n hn=>by
  have:=List.all_eq_true.1 hwt' n (DataW.weights_mem_each (j:=0) rfl rfl n hn);simpa using this)
 obtain rfl:Value.slice sa sl sc=v':=by
  have e:(Value.slice sa sl sc).cells.toList= [Value.slice sa sl sc]:=rfl;rw[e]at hv';exact(List.cons.inj hv').1
 refine(zS1 W a s hE hWi _ hS).mono fun e W' ⟨he,hb⟩=>?_
 subst he;refine⟨_,rfl,_,_,_,[],p,[],hW',?_,?_,?_,hb.frame _,fun h=>by cases h⟩
 ·exact trodAll_mk1 (shut_bool Tryz.underlying4 true)
 ·show DataW.TrodAll enc Tryz.prog W' 0 (fun b=>decide (b<W.heap.size)) true Tryz.f5.params.toList [Value.slice sa sl sc] [d] p;rw[Tryz.params5];exact trodAll_mk1 (Below.trod Tryz.laidOut' (by kernel_rfl) (of_decide_eq_true (by kernel_rfl)) hT' hb (by simpa using hlt))
 ·rfl
theorem zSb:(Rows.agreeRow.inPlace == Tryz.prog.inPlace 5)=true:=by kernel_rfl
theorem zSc:(Rows.agreeRow.unfollowed == Tryz.prog.unfollowed 5)=true:=by kernel_rfl
theorem zSd:(Rows.agreeRow.recurses == Tryz.prog.recurses 5)=true:=by kernel_rfl
theorem zSe:(Rows.agreeRow.named == Tryz.prog.varsNamed 5)=true:=by kernel_rfl
theorem zSf:mapsRowed Tryz.prog=true:=by kernel_rfl
theorem zSg:joinedFacts Tryz.prog 5 Tryz.f5 Rows.agreeSpec Rows.agreeRow=true:=by
 unfold joinedFacts;rw[zSb,zSc,zSd,zSe,zSf,Tryz.laidOut'];kernel_rfl
theorem zSh:Rows.AgreeSaid:=
 OpenClaim.holds_of_wide 5 Tryz.f5 rfl rfl rfl rfl rfl rfl rfl ⟨rfl,rfl,rfl,rfl,rfl⟩ rfl rfl rfl rfl rfl (by kernel_rfl) Tryz.func5 zSg
  (of_decide_eq_true (by kernel_rfl)) (by unfold Func.isWrapper;first|(rw[if_pos (by decide +kernel)];kernel_rfl)|(rw[if_neg (by decide +kernel)];exact⟨rfl,rfl⟩))
  (fun os started H enc _=>zSa os started H enc)
theorem agree_holds:Rows.AgreeCardSaid:=
 Claim7.holds_tied_plain_at .later [] [.handle,.data,.sentinel,.sentinel,.sentinel,.sentinel,.sentinel,.sentinel,.sentinel,.sentinel] true (true,"ba089df535d814372fb8e864a9aa87426ca26846f337139202fa1b133f270f0b") true
  zSh (fun _ h=>by cases h) (by kernel_rfl) (fun _ h=>by cases h) agree_row_tie rfl ⟨rfl,rfl⟩ (by kernel_rfl) rfl
  (fun f fn hf hfn=>by
   obtain rfl:f=5:=Option.some.inj ((show Tryz.prog.funcNamed "orderbook/orderbookkeep.Agree" =some 5 by kernel_rfl).symm.trans hf) |>.symm;obtain rfl:fn=Tryz.f5:=(Option.some.inj (Tryz.func5.symm.trans hfn)).symm;exact⟨by kernel_rfl,fun j t ht=>by
    rw[Tryz.params5]at ht
    match j,ht with
    |0,ht=>simp at ht;subst ht;first|kernel_rfl|exact of_decide_eq_true (by kernel_rfl)|(refine⟨?_,?_⟩<;>first|kernel_rfl|exact of_decide_eq_true (by kernel_rfl))⟩)
  (by kernel_rfl)
end
end Go.Proofs.YtanfmhonjpjpoaaGreatDoor
