import Derived.Test.YtehmdohpmpbnnaaGreatDoorQ00
import Derived.Test.YtehmdohpmpbnnaaGreatDoorQ08
import Derived.Test.YtehmdohpmpbnnaaGreatDoorQ48
import Derived.Test.YtehmdohpmpbnnaaGreatDoorRows
import Derived.LaidLaws
import Derived.LaidHandle
import Derived.ProofKit
import Derived.Deep.Slices
import Derived.ChangeSame
import Derived.OpenShut
import Derived.SizedLaws
set_option linter.all false
set_option maxRecDepth 100000
set_option maxHeartbeats 8000000
namespace Go.Proofs.YtehmdohpmpbnnaaGreatDoor
variable{W w':World}{P:Program}{cs:List Value}{r:List (String×DataW Unit)}{s:ByteArray}
open Go.Proofs.Tryz
section
open Go.ChangeShapes Go.RowKit Go.WideShapes
theorem ve{n nm:String}{text:List UInt8}{ps:List MemPlace}{g:Nat}{ti tp te ts:TypeId}{ms:Array (String×TypeId)}{f:Field}
 (h:DataW.LaidVars P W ((n,.iface nm (.ptr (.agg [.lit (.string text)])))::r) ps)
 (hrows:∀b off,MemPlace.cell b off∈ps→(∃c t,W.heap[b]? =some (.cells c t (0,0)))∧∀u v,W.cell? (iA b off)=some (.iface u v)→Value.okWide P W .any 0 u v)
 (hg:P.globalNamed n=some g) (ht:(P.globals[g]?).map (·.type)=some ti) (hi:P.underlying ti=some (.interface ms)) (hrow:∀u,P.typeName? 3 u=some nm→u=tp)
 (hp:P.underlying tp=some (.pointer te)) (he:P.underlying te=some (.struct #[f])) (hft:f.type=ts) (hfo:f.offset=0) (hs:P.underlying ts=some .string) (hc:P.cellsOf te=1) (hcs:P.cellsOf ts=1):
 ∃(a:Addr) (s:ByteArray) (q:List MemPlace),W.cell? (iA g 0)=some (.iface tp (.pointer (some a)))∧W.cell? a=some (.string s)∧s.data.toList=text∧
  (∃c t,W.heap[a.block]? =some (.cells c t (0,0)))∧ps=.cell g 0::.cell a.block a.off::q∧DataW.LaidVars P W r q:=by
 obtain⟨S,U,D,R,T,N,A,H,B,F,K,J⟩:=h;obtain rfl:=Option.some.inj (hg.symm.trans A);obtain rfl:=Option.some.inj (ht.symm.trans H);subst J;obtain⟨M⟩:=D;have I:∀u v,M= [.iface u v]→Value.okWide P W .any 0 u v:=fun u v e=>by
  subst e;exact(hrows g 0 (by simp[MemPlace.row])).2 u v (by simpa using World.var?_cell A B 0)
 obtain⟨C,O,rfl,E,G,L,rfl⟩:=errorString_of_trod hi hrow hp he hft hfo hs hc hcs F I;refine⟨C,O,N,by simpa using World.var?_cell A B 0,E,G,(hrows C.block C.off (by simp[MemPlace.row])).1,by simp[MemPlace.row],K⟩
theorem fG{x y:MemPlace}{q:List MemPlace}
 (h:∀b off,MemPlace.cell b off∈x::y::q→(∃c t,W.heap[b]? =some (.cells c t (0,0)))∧∀u v,W.cell? (iA b off)=some (.iface u v)→Value.okWide P W .any 0 u v):
 ∀b off,MemPlace.cell b off∈q→(∃c t,W.heap[b]? =some (.cells c t (0,0)))∧∀u v,W.cell? (iA b off)=some (.iface u v)→Value.okWide P W .any 0 u v:=
 fun b off hm=>h b off (List.mem_cons_of_mem _ (List.mem_cons_of_mem _ hm))
theorem zPi{l:List UInt8}(h:s.data.toList=l):s.size=l.length:=by
 rw[←h,Array.length_toList];rfl
def nine(d:Nat→List UInt8):List (String×DataW Unit):=
 [("orderbook/orderbook.ErrConfig",.iface "*errors.errorString" (.ptr (.agg [.lit (.string (d 0))]))),("orderbook/orderbook.ErrKind",.iface "*errors.errorString" (.ptr (.agg [.lit (.string (d 1))]))),
  ("orderbook/orderbook.ErrRange",.iface "*errors.errorString" (.ptr (.agg [.lit (.string (d 2))]))),("orderbook/orderbook.ErrShort",.iface "*errors.errorString" (.ptr (.agg [.lit (.string (d 3))]))),
  ("orderbook/orderbook.ErrFrame",.iface "*errors.errorString" (.ptr (.agg [.lit (.string (d 4))]))),("orderbook/orderbook.ErrRecord",.iface "*errors.errorString" (.ptr (.agg [.lit (.string (d 5))]))),
  ("orderbook/orderbook.ErrGap",.iface "*errors.errorString" (.ptr (.agg [.lit (.string (d 6))]))),("orderbook/orderbook.ErrBroken",.iface "*errors.errorString" (.ptr (.agg [.lit (.string (d 7))])))]
theorem star: "*" ++ "errors.errorString" = "*errors.errorString" :=by decide
theorem Tryz.typeE(u:TypeId)(h:prog.typeName? 3 u=some "*errors.errorString"):u=309:=
 typeName_ptr_named (nm:= "errors.errorString") (by rw[star];kernel_rfl) (by kernel_rfl) (by decide) u (by rw[star];exact h)
theorem zN5{d:Nat→List UInt8}(hd:∀k,k<8→(d k).length≠0∧(d k).length≤1000)(h:laidMet prog (nine d) W)
 (hh:W.cell? (iA 8 0)=some (.iface 222 (.agg #[.pointer (some (iA 11 71))]))):∃a s,lq W a s:=by
 obtain⟨ps,hv,A,B⟩:=h;obtain⟨C,s0,q0,c0,t0,l0,r0,rfl,v⟩:=ve (g:=0) hv B (by kernel_rfl) (by kernel_rfl) underlying71 Tryz.typeE underlying309 underlying330 rfl rfl underlying9 (by kernel_rfl) (by kernel_rfl);have N:=fG B;obtain⟨D,s1,q1,c1,t1,l1,r1,rfl,K⟩:=ve (g:=1) v N (by kernel_rfl) (by kernel_rfl) underlying71 Tryz.typeE underlying309 underlying330 rfl rfl underlying9 (by kernel_rfl) (by kernel_rfl);have O:=fG N;obtain⟨E,s2,q2,c2,t2,l2,r2,rfl,L⟩:=ve (g:=2) K O (by kernel_rfl) (by kernel_rfl) underlying71 Tryz.typeE underlying309 underlying330 rfl rfl underlying9 (by kernel_rfl) (by kernel_rfl);have R:=fG O;obtain⟨F,s3,q3,n,t3,l3,r3,rfl,x⟩:=ve (g:=3) L R (by kernel_rfl) (by kernel_rfl) underlying71 Tryz.typeE underlying309 underlying330 rfl rfl underlying9 (by kernel_rfl) (by kernel_rfl);have S:=fG R
 obtain⟨G,s4,q4,p,t4,l4,r4,rfl,y⟩:=ve (g:=4) x S (by kernel_rfl) (by kernel_rfl) underlying71 Tryz.typeE underlying309 underlying330 rfl rfl underlying9 (by kernel_rfl) (by kernel_rfl);have T:=fG S;obtain⟨H,s5,q5,q,t5,l5,r5,rfl,z⟩:=ve (g:=5) y T (by kernel_rfl) (by kernel_rfl) underlying71 Tryz.typeE underlying309 underlying330 rfl rfl underlying9 (by kernel_rfl) (by kernel_rfl);have U:=fG T;obtain⟨I,s6,q6,t,t6,l6,r6,rfl,h6⟩:=ve (g:=6) z U (by kernel_rfl) (by kernel_rfl) underlying71 Tryz.typeE underlying309 underlying330 rfl rfl underlying9 (by kernel_rfl) (by kernel_rfl);have V:=fG U;obtain⟨J,s7,q7,u,t7,l7,r7,rfl,h7⟩:=ve (g:=7) h6 V (by kernel_rfl) (by kernel_rfl) underlying71 Tryz.typeE underlying309 underlying330 rfl rfl underlying9 (by kernel_rfl) (by kernel_rfl);have o8:=fG V;have A0:C≠D:=by rintro rfl;simp at A
 have A1:C≠E:=by rintro rfl;simp at A
 have A2:C≠F:=by rintro rfl;simp at A
 have A3:C≠G:=by rintro rfl;simp at A
 have A4:C≠H:=by rintro rfl;simp at A
 have A5:C≠I:=by rintro rfl;simp at A
 have A6:C≠J:=by rintro rfl;simp at A
 have A7:D≠E:=by rintro rfl;simp at A
 have A8:D≠F:=by rintro rfl;simp at A
 have A9:D≠G:=by rintro rfl;simp at A
 have Aa:D≠H:=by rintro rfl;simp at A
 have Ab:D≠I:=by rintro rfl;simp at A
 have Ac:D≠J:=by rintro rfl;simp at A
 have Ad:E≠F:=by rintro rfl;simp at A
 have Ae:E≠G:=by rintro rfl;simp at A
 have Af:E≠H:=by rintro rfl;simp at A
 have Ag:E≠I:=by rintro rfl;simp at A
 have Ah:E≠J:=by rintro rfl;simp at A
 have Ai:F≠G:=by rintro rfl;simp at A
 have Aj:F≠H:=by rintro rfl;simp at A
 have Ak:F≠I:=by rintro rfl;simp at A
 have Al:F≠J:=by rintro rfl;simp at A
 have Am:G≠H:=by rintro rfl;simp at A
 have An:G≠I:=by rintro rfl;simp at A
 have Ao:G≠J:=by rintro rfl;simp at A
 have Ap:H≠I:=by rintro rfl;simp at A
 have Aq:H≠J:=by rintro rfl;simp at A
 have Ar:I≠J:=by rintro rfl;simp at A
 have X:=hd 0 (by omega);have Y:=hd 1 (by omega);have Z:=hd 2 (by omega);have b:=hd 3 (by omega);have c:=hd 4 (by omega);have f:=hd 5 (by omega);have l:=hd 6 (by omega);have m:=hd 7 (by omega);rw[←l0,Array.length_toList]at X;rw[←l1,Array.length_toList]at Y;rw[←l2,Array.length_toList]at Z;rw[←l3,Array.length_toList]at b;rw[←l4,Array.length_toList]at c;rw[←l5,Array.length_toList]at f;rw[←l6,Array.length_toList]at l;rw[←l7,Array.length_toList]at m;refine⟨fun|0=>C|1=>D|2=>E|3=>F|4=>G|5=>H|6=>I|_=>J,fun|0=>s0|1=>s1|2=>s2|3=>s3|4=>s4|5=>s5|6=>s6|_=>s7,c0,c1,c2,n,p,q,t,u,hh,?_,?_,?_⟩
 ·intro i j hi hj M;have K:i=0∨i=1∨i=2∨i=3∨i=4∨i=5∨i=6∨i=7:=by omega
  have L:j=0∨j=1∨j=2∨j=3∨j=4∨j=5∨j=6∨j=7:=by omega
  rcases K with rfl|rfl|rfl|rfl|rfl|rfl|rfl|rfl<;>rcases L with rfl|rfl|rfl|rfl|rfl|rfl|rfl|rfl<;>first|exact absurd rfl M|assumption|(apply Ne.symm;assumption)
 ·intro k hk;have K:k=0∨k=1∨k=2∨k=3∨k=4∨k=5∨k=6∨k=7:=by omega
  rcases K with rfl|rfl|rfl|rfl|rfl|rfl|rfl|rfl
  ·exact r0
  ·exact r1
  ·exact r2
  ·exact r3
  ·exact r4
  ·exact r5
  ·exact r6
  exact r7
 intro k hk;have K:k=0∨k=1∨k=2∨k=3∨k=4∨k=5∨k=6∨k=7:=by omega
 rcases K with rfl|rfl|rfl|rfl|rfl|rfl|rfl|rfl
 ·exact⟨t0,X⟩
 ·exact⟨t1,Y⟩
 ·exact⟨t2,Z⟩
 ·exact⟨t3,b⟩
 ·exact⟨t4,c⟩
 ·exact⟨t5,f⟩
 ·exact⟨t6,l⟩
 exact⟨t7,m⟩
theorem Tryz.own:ownKnob prog.godebug=none:=by kernel_rfl
theorem Tryz.rt:(prog.cutTypes.find? (·.1 == "internal/reflectlite.rtype")).map (·.2)=some 222:=by kernel_rfl
theorem Tryz.oneRow:((List.range 342).filter fun t=>prog.rowNamed t [101,114,114,111,114])= [71]:=by kernel_rfl
theorem Tryz.size:prog.types.size=342:=by kernel_rfl
theorem Tryz.et:prog.globalNamed "errors.errorType" =some 8:=by kernel_rfl
theorem zN6(h:handlesMet prog (("errors.errorType",Rows.laid_errors_errorType)::r) W):
 W.cell? (iA 8 0)=some (.iface 222 (.agg #[.pointer (some (iA 11 71))])):=by
 obtain⟨A,u,J,D,E,F,G,B⟩:=h _ (List.mem_cons_self ..);have H:A= [101,114,114,111,114]:=(Option.some.inj D).symm;subst H;obtain rfl:=Option.some.inj (Tryz.rt.symm.trans E);have C:J∈(List.range 342).filter fun t=>prog.rowNamed t [101,114,114,111,114]:=List.mem_filter.2 ⟨List.mem_range.2 (by rw[←Tryz.size];exact F),G⟩
 rw[Tryz.oneRow]at C;obtain rfl:=List.mem_singleton.1 C;have I:typeHandle prog 71=.pointer (some (iA 11 71)):=by kernel_rfl
 rw[I]at B;simpa using World.var?_cell Tryz.et B 0
end
section
open Go.ChangeShapes Go.Deep Go.RowKit Go.WideShapes
section
variable {H:Type} {enc:TypeId×Value→H} {w:World} {base:Nat} {spare:Nat→Bool} {held:Bool}
theorem Tryz.opFields:(prog.fieldsOf 29).toList.map (fun f=>(f.type,f.offset))= [(3,0),(3,1),(3,2),(3,3),(9,4),(27,5)]:=by kernel_rfl
theorem Tryz.opStruct:prog.underlying 29=some (.struct (prog.fieldsOf 29)):=by kernel_rfl
theorem Tryz.cells3:prog.cellsOf 3=1:=by kernel_rfl
theorem Tryz.cellsS:prog.cellsOf 9=1:=by kernel_rfl
theorem Tryz.cells9:prog.cellsOf 27=9:=by kernel_rfl
theorem Tryz.cellsOp:prog.cellsOf 29=14:=by kernel_rfl
theorem Tryz.und9:prog.underlying 27=some (.array 9 3):=by kernel_rfl
theorem zN7{n:Int}(h:(Lit.int .i64 n).wf=true): -9223372036854775808≤n∧n≤9223372036854775807:=by
 simp[Lit.wf,IntKind.min,IntKind.max,IntKind.bits,IntKind.signed]at h;exact h
theorem zA7{n:Nat}{o:Nat}{y:Option (DataW H×List MemPlace)}(h:DataW.trod enc prog w base spare held n 3 ((cs.drop o).take 1)=y)(hy:y.isSome=true):∃x,cs[o]? =some (.int .i64 x)∧dK x:=by
 obtain⟨C,rfl⟩:=Option.isSome_iff_exists.1 hy;obtain⟨x,A,_,B⟩:=DataW.trod_int underlying3 h;exact⟨x,cell_of_cut A,zN7 B⟩
theorem zN8{n:Nat}{y:DataW H×List MemPlace}(h:DataW.trod enc prog w base spare held n 29 cs=some y):
 ∃(k a b d:Int) (s:ByteArray) (v:Nat→Int),cs[0]? =some (.int .i64 k)∧cs[1]? =some (.int .i64 a)∧cs[2]? =some (.int .i64 b)∧cs[3]? =some (.int .i64 d)∧cs[4]? =some (.string s)∧(∀j,j<9→cs[5+j]? =some (.int .i64 (v j))∧dK (v j))∧dK a∧dK b∧dK d∧s.size≤maxLen∧∃ds,y.1=.agg ds∧ds[4]? =some (.lit (.string s.data.toList)):=by
 obtain⟨g,m,-,hy,Y,A1,B⟩:=DataW.trod_struct Tryz.opStruct h;have E:=Tryz.opFields;generalize prog.fieldsOf 29=fs at *;have A0:fs.size=6:=by
  have:=congrArg List.length E;simpa using this
 have A:∀j,j<6→∃f,fs[j]? =some f∧(fs.toList.map (fun f=>(f.type,f.offset)))[j]? =some (f.type,f.offset):=fun j hj=>by
  have F:j<fs.size:=by omega
  exact⟨fs[j],Array.getElem?_eq_getElem F,by simp[F]⟩
 have C:∀j,j<6→(g[j]?).isSome=true:=fun j hj=>by
  rw[List.getElem?_eq_getElem (by omega)];rfl
 obtain⟨f0,p0,I⟩:=A 0 (by omega);obtain⟨f1,p1,J⟩:=A 1 (by omega);obtain⟨f2,p2,K⟩:=A 2 (by omega);obtain⟨f3,p3,L⟩:=A 3 (by omega);obtain⟨f4,p4,M⟩:=A 4 (by omega);obtain⟨f5,p5,N⟩:=A 5 (by omega);rw[E]at I J K L M N;simp only[List.getElem?_cons_zero,List.getElem?_cons_succ,Option.some.injEq,Prod.mk.injEq]at I J K L M N;have T:=B 0 f0 p0;have U:=B 1 f1 p1;have V:=B 2 f2 p2;have X:=B 3 f3 p3;have O:=B 4 f4 p4;have R:=B 5 f5 p5;rw[←I.1,←I.2,Tryz.cells3]at T;rw[←J.1,←J.2,Tryz.cells3]at U;rw[←K.1,←K.2,Tryz.cells3]at V;rw[←L.1,←L.2,Tryz.cells3]at X;rw[←M.1,←M.2,Tryz.cellsS]at O;rw[←N.1,←N.2,Tryz.cells9]at R;obtain⟨k,k1,_⟩:=zA7 T (C 0 (by omega));obtain⟨a,i,l⟩:=zA7 U (C 1 (by omega));obtain⟨b,p,q⟩:=zA7 V (C 2 (by omega));obtain⟨d,t,u⟩:=zA7 X (C 3 (by omega));obtain⟨y4,S⟩:=Option.isSome_iff_exists.1 (C 4 (by omega));rw[S]at O;obtain⟨s,s1,s3,s2⟩:=DataW.trod_string underlying9 O
 obtain⟨y5,z⟩:=Option.isSome_iff_exists.1 (C 5 (by omega));rw[z]at R;obtain⟨zs,m2,-,-,A2,A3,Z⟩:=DataW.trod_array Tryz.und9 R;rw[Tryz.cells3]at Z;have D:∀j,j<9→∃x,cs[5+j]? =some (.int .i64 x)∧dK x:=fun j hj=>by
  have G:=Z j hj;rw[Nat.mul_one]at G;obtain⟨x,c,x2⟩:=zA7 G (by rw[List.getElem?_eq_getElem (by omega)];rfl);refine⟨x,?_,x2⟩;rw[List.getElem?_take_of_lt hj,List.getElem?_drop]at c;exact c
 obtain⟨v,hv⟩:=choose_lt D;exact⟨k,a,b,d,s,v,k1,i,p,t,cell_of_cut s1,hv,l,q,u,s2,g.map (·.1),by rw[hy],by rw[List.getElem?_map,S,s3];rfl⟩
theorem rR{e:TypeId}:∀{l:List (DataW H)} {d:DataW H},d∈l→∀n∈d.weights P e,n∈DataW.weightsAll P e l
 |x::r,d,h,n,hn=>by
  rw[DataW.weightsAll];rcases List.mem_cons.1 h with rfl|h
  ·exact List.mem_append_left _ hn
  exact List.mem_append_right _ (rR h n hn)
theorem Tryz.opTypes:((prog.fieldsOf 29).toList.map (·.type))[4]? =some 9:=by kernel_rfl
theorem Tryz.opBytes':decide (0<prog.bytesOf 29)=true:=by kernel_rfl
theorem Tryz.opBytes:0<prog.bytesOf 29:=of_decide_eq_true Tryz.opBytes'
theorem zN9{ds:List (DataW H)}(h:ds[4]? =some (.lit (.string s.data.toList))):s.size∈(DataW.agg ds:DataW H).weights prog 29:=by
 have A:(DataW.agg ds:DataW H).weights prog 29=DataW.weightsEach prog ((prog.fieldsOf 29).toList.map (·.type)) ds:=by
  rw[DataW.weights,Tryz.opStruct]
 rw[A];refine DataW.weights_mem_each Tryz.opTypes h s.size ?_;rw[DataW.weights];simp
theorem zNa{fuel:Nat}{x:DataW H×List MemPlace}(h:DataW.trod enc prog w base spare held fuel 22 cs=some x)(hw:∀n∈x.1.weights prog 22,n≤reachBytes):
 ∃v,cs= [v]∧Script w v:=by
 rcases open_slice underlying22 h with⟨I,_⟩|⟨l,L,c,m,n,G,Pl,rfl,hb,hl,hm,U,rfl,f⟩
 ·exact⟨_,I,.inl ⟨_,_,rfl⟩⟩
 have A0:L≤m:=by rw[U];split<;>omega
 rw[Tryz.cellsOp]at f;rcases Nat.eq_zero_or_pos L with rfl|M
 ·exact⟨_,rfl,.inl ⟨_,_,rfl⟩⟩
 have N:∀n,n∈(((List.range L).map G).length*prog.bytesOf 29+((List.range (m - L)).map fun j=>G (L+j)).length*prog.bytesOf 29)::DataW.weightsAll prog 29 ((List.range L).map G)→n≤reachBytes:=fun n V=>by
  apply hw n;rw[DataW.weights,underlying22];rcases List.mem_cons.1 V with rfl|V
  ·rw[←Nat.add_mul];exact List.mem_cons_self
  exact List.mem_cons_of_mem _ (List.mem_append_left _ V)
 have T:L≤reachBytes:=by
  have O:=N (((List.range L).map G).length*prog.bytesOf 29+((List.range (m - L)).map fun j=>G (L+j)).length*prog.bytesOf 29) List.mem_cons_self;have S:=Tryz.opBytes;simp only[List.length_map,List.length_range]at O;exact Nat.le_trans (Nat.le_trans (Nat.le_mul_of_pos_right L S) (Nat.le_add_right _ _)) O
 obtain⟨g,o,E⟩:=l;have K:∀i,i<L→∃q:(Int×Int×Int×Int)×ByteArray×(Nat→Int),w.cell? ((⟨g,o,E⟩:Addr).add (i*14))=some (.int .i64 q.1.1)∧w.cell? ((⟨g,o,E⟩:Addr).add (i*14+1))=some (.int .i64 q.1.2.1)∧w.cell? ((⟨g,o,E⟩:Addr).add (i*14+2))=some (.int .i64 q.1.2.2.1)∧w.cell? ((⟨g,o,E⟩:Addr).add (i*14+3))=some (.int .i64 q.1.2.2.2)∧w.cell? ((⟨g,o,E⟩:Addr).add (i*14+4))=some (.string q.2.1)∧(∀j,j<9→w.cell? ((⟨g,o,E⟩:Addr).add (i*14+(5+j)))=some (.int .i64 (q.2.2 j))∧dK (q.2.2 j))∧dK q.1.2.1∧dK q.1.2.2.1∧dK q.1.2.2.2∧q.2.1.size≤reachBytes:=fun i B=>by
  obtain⟨R,O,S⟩:=f i (by omega);obtain⟨_,Z,J⟩:=World.cells?_some O;obtain⟨k,a,b,d,s,v,p,t,u,y,e4,Y,r1,r2,r4,-,ds,y1,y2⟩:=zN8 S;have r3:s.size≤reachBytes:=N _ (List.mem_cons_of_mem _ (rR (d:=G i) (List.mem_map.2 ⟨i,List.mem_range.2 B,rfl⟩) _ (by
   have X:G i=.agg ds:=y1;rw[X];exact zN9 y2)))
  have C:∀j,j<14→w.cell? ((⟨g,o,E⟩:Addr).add (i*14+j))=R[j]? :=fun j F=>by
   have:=J j F;rw[add_add]at this;exact this
  refine⟨((k,a,b,d),s,v),?_,(C 1 (by omega)).trans t,(C 2 (by omega)).trans u,(C 3 (by omega)).trans y,(C 4 (by omega)).trans e4,fun j F=>⟨(C (5+j) (by omega)).trans (Y j F).1,(Y j F).2⟩,r1,r2,r4,r3⟩;have:=(C 0 (by omega)).trans p
  rwa [Nat.add_zero]at this
 obtain⟨q,D⟩:=choose_lt K;obtain rfl:E=none:=by
  have I:=(D 0 M).1;cases E with
  |none=>rfl
  |some z=>
   exfalso;simp[World.cell?,Addr.add]at I;split at I<;>simp_all
 have A:∀j,(⟨g,o,none⟩:Addr).add j=⟨g,o+j,none⟩:=fun j=>add_plain g o j
 refine⟨_,rfl,.inr ?_⟩;refine⟨g,o,L,c,fun i=>(q i).1.1,fun i=>(q i).1.2.1,fun i=>(q i).1.2.2.1,fun i=>(q i).1.2.2.2,fun i=>(q i).2.1,fun i=>(q i).2.2,rfl,⟨?_,?_,?_,?_,?_,?_,fun i B=>(D i B).2.2.2.2.2.2.1,fun i B=>(D i B).2.2.2.2.2.2.2.1,fun i B=>(D i B).2.2.2.2.2.2.2.2.1,fun i j B F=>((D i B).2.2.2.2.2.1 j F).2,?_⟩,Nat.le_trans T (by unfold reachBytes;decide),fun i B=>Nat.le_trans (D i B).2.2.2.2.2.2.2.2.2 (by unfold reachBytes;decide)⟩
 ·intro i B;have:=(D i B).1
  rwa [A]at this
 ·intro i B;have:=(D i B).2.1
  rwa [A,←Nat.add_assoc]at this
 ·intro i B;have:=(D i B).2.2.1
  rwa [A,←Nat.add_assoc]at this
 ·intro i B;have:=(D i B).2.2.2.1
  rwa [A,←Nat.add_assoc]at this
 ·intro i B;have:=(D i B).2.2.2.2.1
  rwa [A,←Nat.add_assoc]at this
 ·intro i j B F;have:=((D i B).2.2.2.2.2.1 j F).1
  rwa [A,←Nat.add_assoc]at this
 have I:=(D 0 M).1;rw[A]at I;rcases Nat.lt_or_ge g w.heap.size with z|z
 ·exact z
 simp[World.cell?,Array.getElem?_eq_none z]at I
end
theorem Scr.below{w:World}{g o L:Nat}{K A B D:Nat→Int}{S:Nat→ByteArray}{V:Nat→Nat→Int}(h:Scr w g o L K A B D S V)(hb:Below w.heap.size w w'):Scr w' g o L K A B D S V:=by
 have C:∀j,w'.cell? ⟨g,j,none⟩=w.cell? ⟨g,j,none⟩:=fun j=>World.cell?_of_block (a:=⟨g,j,none⟩) (hb.block g h.lt)
 exact{ h with
  k:=fun i hi=>(C _).trans (h.k i hi),a:=fun i hi=>(C _).trans (h.a i hi),b:=fun i hi=>(C _).trans (h.b i hi),d:=fun i hi=>(C _).trans (h.d i hi),s:=fun i hi=>(C _).trans (h.s i hi),v:=fun i j hi hj=>(C _).trans (h.v i j hi hj),lt:=Nat.lt_of_lt_of_le h.lt hb.size }
theorem Script.below{w:World}{v:Value}(h:Script w v)(hb:Below w.heap.size w w'):Script w' v:=by
 rcases h with h|⟨g,o,L,c,K,A,B,D,S,V,C,E,F⟩
 ·exact .inl h
 exact .inr ⟨g,o,L,c,K,A,B,D,S,V,C,E.below hb,F⟩
end
end Go.Proofs.YtehmdohpmpbnnaaGreatDoor
