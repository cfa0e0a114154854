import Derived.Test.YtehmdohpmpbnnaaGreatDoorQ00
import Derived.Test.YtehmdohpmpbnnaaGreatDoorQ49
import Derived.Test.YtehmdohpmpbnnaaGreatDoorTie
import Derived.Test.YtehmdohpmpbnnaaGreatDoorCards
import Derived.LaidMore
import Derived.Stop.Joined
import Derived.SevenTiedAt
set_option linter.all false
set_option maxRecDepth 100000
set_option maxHeartbeats 8000000
namespace Go.Proofs.YtehmdohpmpbnnaaGreatDoor
open Go.Proofs.Tryz
open Go.ChangeShapes Go.Deep Go.RowKit Go.WideShapes
theorem Tryz.widthsAt:prog.globalNamed "orderbook/orderbook.termWidths" =some 9:=by kernel_rfl
theorem Tryz.widthsType:(prog.globals[9]?).map (·.type)=some 27:=by kernel_rfl
def widL:List Int:=[4,1,1,4,4,4,4,1,4]
theorem zNb:∀j,j<9→widL[j]? =some (wid j):=by decide
theorem zNc{W:World}{r:List (String×DataW Unit)}(h:laidMet prog (("orderbook/orderbook.termWidths",Rows.laid_orderbook_orderbook_termWidths)::r) W):qx W∧laidMet prog r W:=by
 obtain⟨d,⟨Z,f,M,Y,c,X,C,I,J,G,T,rfl⟩,H,A⟩:=h;obtain rfl:=Option.some.inj (Tryz.widthsAt.symm.trans C);obtain rfl:=Option.some.inj (Tryz.widthsType.symm.trans I);refine⟨fun j hj=>?_,X,T,(List.nodup_append.1 H).2.1,fun b off hm=>A b off (List.mem_append_right _ hm)⟩;obtain⟨D,m,-,U,L,V,K⟩:=DataW.trod_array Tryz.und9 G;rw[Tryz.cells3]at K;have B:=K j hj;rw[Nat.mul_one,List.getElem?_eq_getElem (show j<D.length by omega)]at B;obtain⟨n,N,O,_⟩:=DataW.trod_int underlying3 B;have F:D.map (·.1)=widL.map fun n=>DataW.lit (.int .i64 n):=by
  have:=(Prod.mk.inj U).1;injection this with this;exact this.symm
 have S:n=wid j:=by
  have E:(D.map (·.1))[j]? =some (DataW.lit (.int .i64 n)):=by
   rw[List.getElem?_map,List.getElem?_eq_getElem (show j<D.length by omega),O];rfl
  rw[F,List.getElem?_map,zNb j hj]at E;simp at E;exact E.symm
 have R:=World.var?_cell C J j;rw[R];have:=cell_of_cut N;rw[S]at this;simpa using this
def texts:Nat→List UInt8
 |0=> [97,32,99,111,110,102,105,103,32,116,104,97,116,32,109,97,121,32,110,111,116,32,98,101]
 |1=> [110,111,32,107,105,110,100,32,111,102,32,99,111,109,109,97,110,100]
 |2=> [97,32,110,117,109,98,101,114,32,116,104,97,116,32,104,97,115,32,110,111,32,114,111,111,109]
 |3=> [98,121,116,101,115,32,116,104,97,116,32,101,110,100,32,116,111,111,32,101,97,114,108,121]
 |4=> [110,111,32,102,114,97,109,101]
 |5=> [110,111,32,114,101,99,111,114,100]
 |6=> [97,32,114,101,99,111,114,100,32,116,104,97,116,32,105,115,32,110,111,116,32,116,104,101,32,110,101,120,116]
 |_=> [97,32,114,101,99,111,114,100,32,116,104,97,116,32,99,97,110,110,111,116,32,98,101]
theorem zNd(k:Nat):(texts k).length≠0∧(texts k).length≤1000:=by
 unfold texts;split<;>exact⟨by decide,by decide⟩
def laidAll:List (String×DataW Unit):=("errors.errorType",Rows.laid_errors_errorType)::("orderbook/orderbook.termWidths",Rows.laid_orderbook_orderbook_termWidths)::nine texts
theorem zNe{W:World}(h:laidMetH prog laidAll W):(∃a s,lq W a s)∧qx W:=by
 have A:laidMet prog (("orderbook/orderbook.termWidths",Rows.laid_orderbook_orderbook_termWidths)::nine texts) W∧handlesMet prog [("errors.errorType",Rows.laid_errors_errorType)] W:=h;obtain⟨B,C⟩:=zNc A.1;exact⟨zN5 (fun k _=>zNd k) C (zN6 A.2),B⟩
theorem zNf(os:Os)(args:Array Value):laidMetH prog laidAll ((World.doorLaid prog 400 os).forCall (fun _ _=>0) ⟨#[],args,[]⟩).memory:=
 laidMetH_of_parts3 (fuel:=8) (laidMet_of_run' 8 (by kernel_rfl) (by kernel_rfl)) (by kernel_rfl) (by kernel_rfl)
end Go.Proofs.YtehmdohpmpbnnaaGreatDoor
