import Derived.Test.YtehmdohpmpbnnaaGreatDoorQ00
import Derived.Test.YtehmdohpmpbnnaaGreatDoorQ10
import Derived.Test.YtehmdohpmpbnnaaGreatDoorQ39
import Derived.Lib.ConvBytes
import Derived.Laws.CopyOwn
import Derived.Deep.AppendLies
set_option linter.all false
set_option maxRecDepth 100000
set_option maxHeartbeats 8000000
namespace Go.Proofs.YtehmdohpmpbnnaaGreatDoor
variable{w w0:World}{k n:Nat}{f:Nat→Int}{tag:Nat→Tag}{p:Option Addr}{ps:List Duo}{ws:List ByteArray}{left:Int}
open Go.Proofs.Tryz
open Go.Extern Go.RowKit
section
variable {w0 w:World} {n:Nat} {ws:List ByteArray} {left:Int}
theorem zM5(h:St w0 w n ws left)(a b d:Int)(s:ByteArray)(v:Nat→Int)(hn:n≤100000000)(ha:dK a)(hb:dK b)(hl:0<left):
 Cl 24 #[iP w0.heap.size,qJ 6 a b d s v] w fun e w'=>e=rV #[]∧Next w0 w' n:=by
 have l:=h.sum;have A4:=ql ws a;have T:Hd (St w0 (w.alloc (.cells (opC 6 a b d s v) 29)) n ws left):=h.below (gu _);clear h;generalize hta:dU ws a=ta at *;have J:=fun W=>Lib.run_convert_string_bytes (P:=prog) W 9 86 5 ta underlying9 underlying86 underlying5
 have A0:=T.lt;go_enter func24,ntmps24;go_wp2_with fail;refine(T.word a (by omega) ha.1 ha.2).mono ?_;rintro e w1 ⟨rfl,m,rfl⟩;rw[hta];have G:Hd (St w0 ((w.alloc (.cells (opC 6 a b d s v) 29)).drewN m) n ws left):=T.drewN m;have Z:((w.alloc (.cells (opC 6 a b d s v) 29)).drewN m).cell? (iA w.heap.size 2)=sI b:=oJ _ _ _ _ _ _ rfl;have c:((w.alloc (.cells (opC 6 a b d s v) 29)).drewN m).cell? (iA w.heap.size 3)=sI d:=oJ _ _ _ _ _ _ rfl;have u:((w.alloc (.cells (opC 6 a b d s v) 29)).drewN m).cell? (iA w.heap.size 0)=sI 6:=oJ _ _ _ _ _ _ rfl;have C:w.heap.size<((w.alloc (.cells (opC 6 a b d s v) 29)).drewN m).heap.size:=by
  show w.heap.size<(w.alloc _).heap.size;simp
 generalize (w.alloc (.cells (opC 6 a b d s v) 29)).drewN m=W at *;have K:=J W;have U:Hd (St w0 (Lib.bytesWorld W 5 ta) n ws left):=G.below ⟨rfl,rfl,rfl,by rw[Lib.bytesWorld_size];omega,fun k hk=>Lib.bytesWorld_at_old W _ ta k hk⟩;have V:Hd (Bw W (Lib.bytesWorld W 5 ta)):=⟨rfl,rfl,rfl,by rw[Lib.bytesWorld_size];omega,fun k hk=>Lib.bytesWorld_at_old W _ ta k hk⟩;have A2:(Lib.bytesWorld W 5 ta).cell? (iA w.heap.size 2)=sI b:=(Lib.bytesWorld_old W _ ta _ C).trans Z;have A3:(Lib.bytesWorld W 5 ta).cell? (iA w.heap.size 3)=sI d:=(Lib.bytesWorld_old W _ ta _ C).trans c;have H:Hd (∀j,j<ta.size→(Lib.bytesWorld W 5 ta).cell? (iA W.heap.size j)=some (.int .u8 (ta.data.toList.getD j 0).toNat)):=fun j hj=>Lib.bytesWorld_cell W _ ta j hj
 have Y:Hd (∀j,j<ta.size→(Lib.bytesWorld W 5 ta).frozen? (iA W.heap.size j)=false):=fun j hj=>by
  simp only[World.frozen?,Lib.bytesWorld_at_new,Lib.bytesCells];simp;omega
 clear J;generalize hgc:grownCap W ta.size 0 5=gc at *;by_cases t:ta.size=0
 ·have A:(convert 86 9 (sL W.heap.size 0 gc)).run prog (Lib.bytesWorld W 5 ta)=.ok (.string ⟨#[]⟩) (Lib.bytesWorld W 5 ta):=run_convert_bytes_back (Lib.bytesWorld W 5 ta) 86 9 5 (iA W.heap.size 0) gc [] underlying86 underlying5 underlying9 (fun j hj=>absurd hj (by simp));rw[t]at K;go_wp2_with fail;refine(U.keep ⟨#[]⟩ (by omega) (by decide) (by omega)).mono ?_;rintro e D ⟨rfl,B,C⟩;have E:Hd (Next w0 D n):=Next.of B;clear B;go_wp2;go_end0;exact⟨rfl,E.o⟩
 have y:(0:Int)<(ta.size:Int):=by omega
 have F:=fun W=>eH b (ta.size:Int) W hb.1 hb.2 (by omega) (by omega)
 have L:=fT b (ta.size:Int) (by omega);obtain⟨q,i⟩:∃q:Nat,aC b (ta.size:Int)=q:=⟨(aC b (ta.size:Int)).toNat,by omega⟩;rw[i]at L F;have M:q<ta.size:=by omega
 have A1:(q:Int)<(ta.size:Int):=by omega
 have S:Hd (∀W,Cl 23 #[iV b,iV (ta.size:Int)] W fun e w'=>e=.returned (iV (q:Int))∧w'=W):=F;clear F L i;have g:=H.o q M;have x:=Y.o q M;go_wp2_with fail;clear K;generalize Lib.bytesWorld W 5 ta=X at *;refine(S.o _).mono ?_;rintro e D ⟨rfl,rfl⟩;go_wp2_with fail;generalize (ta.data.toList.getD q 0)=bq at *;have N:0≤bits .xor .u8 (bq.toNat:Int) (d % 256)∧bits .xor .u8 (bq.toNat:Int) (d % 256)<256:=by
  have e:bits .xor .u8 (bq.toNat:Int) (d % 256)=IntKind.u8.wrap (bits .xor .u8 (bq.toNat:Int) (d % 256)):=by
   show IntKind.u8.wrap _=IntKind.u8.wrap (IntKind.u8.wrap _);rw[IntKind.wrap_u8,IntKind.wrap_u8];omega
  rw[IntKind.wrap_u8]at e;omega
 have A:∀z:Int,0≤z→z<256→(convert 86 9 (sL W.heap.size ta.size gc)).run prog (D.setCell (iA W.heap.size q) (.int .u8 z)).drew=.ok (.string ⟨(ta.data.toList.set q (UInt8.ofNat z.toNat)).toArray⟩) (D.setCell (iA W.heap.size q) (.int .u8 z)).drew:=fun z z0 z1=>by
  have hl:(ta.data.toList.set q (UInt8.ofNat z.toNat)).length=ta.size:=by simp
  rw[←hl];refine run_convert_bytes_back _ 86 9 5 (iA W.heap.size 0) gc _ underlying86 underlying5 underlying9 (fun j hj=>?_);rw[Addr.add_lit,Nat.zero_add];show(D.setCell (iA W.heap.size q) (.int .u8 z)).cell? (iA W.heap.size j)=_;by_cases e:q=j
  ·subst e;rw[World.cell?_setCell_same _ _ _ g];simp;omega
  rw[aB _ _ _ _ _ e,H.o j (by rw[hl]at hj;exact hj),List.getElem_set_ne e]
  congr 3
  rw[List.getD_eq_getElem?_getD,List.getElem?_eq_getElem (by rw[hl]at hj;simpa using hj)];rfl
 have I:=A _ N.1 N.2;have R:Hd (St w0 (D.setCell (iA W.heap.size q) (.int .u8 (bits .xor .u8 (bq.toNat:Int) (d % 256)))).drew n ws left):=by
  refine St.drew ?_;exact G.below (Below.setCell (V.o) (p:=(iA W.heap.size q)) (Nat.le_refl _) _)
 have f:(⟨(ta.data.toList.set q (UInt8.ofNat (bits .xor .u8 (bq.toNat:Int) (d % 256)).toNat)).toArray⟩:ByteArray).size≤1000000000:=by
  show(ta.data.toList.set q _).toArray.size≤_;simp;omega
 generalize (⟨(ta.data.toList.set q (UInt8.ofNat (bits .xor .u8 (bq.toNat:Int) (d % 256)).toNat)).toArray⟩:ByteArray)=tn at *;have O:Hd ((convert 86 9 (sL W.heap.size ta.size gc)).run prog (D.setCell (iA W.heap.size q) (.int .u8 (bits .xor .u8 (bq.toNat:Int) (d % 256)))).drew=.ok (.string tn) (D.setCell (iA W.heap.size q) (.int .u8 (bits .xor .u8 (bq.toNat:Int) (d % 256)))).drew):=I;clear A I;go_region_law(fail);all_goals
  go_wp2_with fail;rw[O.o];go_wp2_with fail;refine(R.keep tn (by omega) f (by omega)).mono ?_;rintro e w3 ⟨rfl,B,C⟩;have E:Hd (Next w0 w3 n):=Next.of B;clear B;go_wp2;go_end0;exact⟨rfl,E.o⟩
end
theorem vw.list{g:Nat}{T:TypeId}(h:vw w g T k f):∀j u,((List.range (7*k)).map fun j=>iV (f j))[j]? =some u→w.cell? (iA g j)=some u:=fun j u hj=>by
 have hlt:j<7*k:=by
  have:=(List.getElem?_eq_some_iff.1 hj).1;simpa using this
 rw[List.getElem?_map,List.getElem?_range hlt]at hj;rw[h.cell j hlt];exact hj
theorem copy7{c c' H:Nat}{cur:Array Value}{sT T:TypeId}(hund:prog.underlying sT=some (.slice T))(hinf:(prog.info? T).map (·.size)=some 7)(h2:k=0∨∃g,p=some (iA g 0)∧vw w g T k f)(hH:w.heap[H]? =some (.cells cur T (0,0)))(hs:cur.size=k*7)(ty:TypeId):
 ∃w',(Builtin.copy_ #[sT,sT] ty #[sL H k c',.slice p k c]).run prog w=.ok (goInt k) w'∧w'.os=w.os∧w'.tape=w.tape∧w'.output=w.output∧w'.heap.size=w.heap.size∧(∀b,b≠H→w'.heap[b]? =w.heap[b]?)∧vw w' H T k f:=by
 cases B:prog.info? T with
 |none=>rw[B]at hinf;simp at hinf
 |some i=>
  have I:i.size=7:=by rw[B]at hinf;simpa using hinf
  rcases h2 with rfl|⟨g,rfl,G⟩
  ·refine⟨w,?_,rfl,rfl,rfl,rfl,fun _ _=>rfl,⟨cur,hH,by omega,fun j hj=>absurd hj (by omega)⟩⟩;cases p with
   |none=>simp[Builtin.copy_,run_underlying hund,Builtin.lenOf,Builtin.firstCells,sizeOf,typeInfo,B,storeCells]
   |some ad=>
    have A:=run_loadCells_list (P:=prog) w ad [] (fun j v hj=>by simp at hj);simp[Builtin.copy_,run_underlying hund,Builtin.lenOf,Builtin.firstCells,sizeOf,typeInfo,B,storeCells]at A⊢;simp[A,storeCells]
  have E:=G.list;generalize hcs:((List.range (7*k)).map fun j=>iV (f j))=cs at E;have J:cs.length=7*k:=by rw[←hcs];simp
  have K:∀u∈cs,∃x,u=iV x:=fun u hu=>by
   rw[←hcs]at hu;obtain⟨j,_,rfl⟩:=List.mem_map.1 hu;exact⟨_,rfl⟩
  have L:∀j,j<7*k→cs[j]? =sI (f j):=fun j hj=>by rw[←hcs,List.getElem?_map,List.getElem?_range hj];rfl
  have A:=run_loadCells_list (P:=prog) w (iA g 0) cs (fun j v hj=>by rw[Addr.add_lit,Nat.zero_add];exact E j v hj);have C:=run_storeCells_at prog H 0 T cs 0 cur w hH (by simp;omega) (fun v hv=>by obtain⟨x,rfl⟩:=K v hv;rfl);refine⟨w.setRow H (List.take (0+0) cur.toList++cs++List.drop (0+0+cs.length) cur.toList).toArray,?_,?_,?_,?_,?_,?_,?_⟩;rotate_left
  ·rfl
  ·rfl
  ·rfl
  ·simp[World.setRow]
  ·intro b F;exact setRow_other w H b _ F
  ·refine⟨_,setRow_heap w H cur _ _ _ hH,?_,fun j hj=>?_⟩
   ·simp;omega
   have D:j<cs.length:=by omega
   have:=L j hj;simp;rw[List.getElem?_append_left D];exact this
  have e:Nat.min k k*7=cs.length:=by rw[J];simp;omega
  simp only[Nat.zero_add]at C A⊢;simp[Builtin.copy_,run_underlying hund,Builtin.lenOf,Builtin.firstCells,sizeOf,typeInfo,B,I,show k*7=cs.length by omega,A,C]
def tV(tag:Nat→Tag)(w0 w:World)(T:TypeId)(p:Option Addr)(k:Nat)(f:Nat→Int):Prop:=k=0∨∃g,p=some (iA g 0)∧tag g=.own∧w0.heap.size<g∧vw w g T k f
theorem tV.below{w':World}{T:TypeId}(h:tV tag w0 w T p k f)(hb:Below w.heap.size w w'):tV tag w0 w' T p k f:=by
 rcases h with h|⟨g,B,C,D,A⟩
 ·exact .inl h
 exact .inr ⟨g,B,C,D,A.of_block (hb.block g A.lt)⟩
theorem tV.cells{T:TypeId}(h:tV tag w0 w T p k f):k=0∨∃g,p=some (iA g 0)∧vw w g T k f:=by
 rcases h with h|⟨g,A,C,D,B⟩
 ·exact .inl h
 exact .inr ⟨g,A,B⟩
theorem tC{w2 w3:World}{T:TypeId}(hT:T=55∨T=121){m H:Nat}(h:tV tag w0 w2 T p k f)(hH:vw w2 H T k f)(ht:tag H=.own)(hH0:w0.heap.size<H)(hne:∀g,p=some (iA g 0)→0<k→g≠H)(hb:∀g,vw w2 g T k f→w3.heap[g]? =w2.heap[g]?){j0 j1:Nat}(hj:j0≠j1)(c c':Nat):
 ∃tag',Retag tag tag' w0 w2 m∧fK tag' (.lst m j0) T w3 (.slice p k c) k f∧fK tag' (.lst m j1) T w3 (sL H k c') k f:=by
 rcases h with rfl|⟨g,rfl,G,I,B⟩
 ·exact⟨tag,fun _=>.inl rfl,⟨_,_,rfl,.inl rfl⟩,⟨_,_,rfl,.inl rfl⟩⟩
 by_cases J:k=0
 ·subst J;exact⟨tag,fun _=>.inl rfl,⟨_,_,rfl,.inl rfl⟩,⟨_,_,rfl,.inl rfl⟩⟩
 have D:g≠H:=hne g rfl (by omega);refine⟨fun x=>if x=g then .lst m j0 else if x=H then .lst m j1 else tag x,fun x=>?_,⟨_,_,rfl,.inr ⟨g,rfl,if_pos rfl,B.of_block (hb g B)⟩⟩,⟨_,_,rfl,.inr ⟨H,rfl,by show(if H=g then Tag.lst m j0 else if H=H then Tag.lst m j1 else tag H)=_;rw[if_neg (fun e=>D (Eq.symm e)),if_pos rfl],hH.of_block (hb H hH)⟩⟩⟩;by_cases C:x=g
 ·subst C;obtain⟨A,E,_⟩:=id B;exact .inr ⟨G,I,B.lt,⟨j0,if_pos rfl⟩,A,T,E,hT⟩
 by_cases F:x=H
 ·subst F;obtain⟨A,E,_⟩:=id hH;exact .inr ⟨ht,hH0,hH.lt,⟨j1,by show(if x=g then Tag.lst m j0 else if x=x then Tag.lst m j1 else tag x)=_;rw[if_neg C,if_pos rfl]⟩,A,T,E,hT⟩
 exact .inl (by show(if x=g then Tag.lst m j0 else if x=H then Tag.lst m j1 else tag x)=_;rw[if_neg C,if_neg F])
theorem Tryz.infoRecB:(prog.info? 55).map (fun i=>(i.size,i.bytes))=some (7,56):=by kernel_rfl
theorem Tryz.zeroRecB:(prog.info? 55).map (fun i=>i.zero)=some (some (.agg #[iV 0,iV 0,iV 0,iV 0,iV 0,iV 0,iV 0])):=by kernel_rfl
theorem Tryz.infoList:(prog.info? 66).map (fun i=>(i.size,i.bytes))=some (4,96):=by kernel_rfl
theorem Tryz.zeroList:(prog.info? 66).map (fun i=>i.zero)=some (some (.agg #[.slice none 0 0,.slice none 0 0,.slice none 0 0,.slice none 0 0])):=by kernel_rfl
theorem tF{base:Nat}{e:TypeId}{size g cap:Nat}{xs:List Value}(h:w.ownsRow base e size (sL g n cap) n xs):∃cur,w.heap[g]? =some (.cells cur e (0,0))∧cur.size=cap*size:=by
 rcases h.2 with⟨e,-⟩|⟨J,C,cur,e,K,E,F,G,B,H⟩
 ·cases e
 injection e with A I D;injection A with A;injection A with A;subst A;subst D;exact⟨cur,E,B⟩
theorem rP(h:wu tag ps w0 w n ws left)(hn:n≤100000000)(p:Option Addr)(k:Nat)(f:Nat→Int)(hk:k≤1000000000)(hv:tV tag w0 w 55 p k f)(hp:p=none→k=0):
 Cl 67 #[iP w0.heap.size,.slice p k k] w fun e w'=>e=rV #[]∧∃tag',wu tag' ps w0 w' (n+1) ws left:=by
 obtain⟨i0,hi,Ad,A4,Ae⟩:=qh Tryz.infoRecB Tryz.zeroRecB;obtain⟨i1,hj,Aa,Ab,Ac⟩:=qh Tryz.infoList Tryz.zeroList;have A5:Hd ((prog.info? 55).map (·.size)=some 7):=by show Option.map _ _=_;rw[hi];simp[A4]
 have HS:Hd (wu tag ps w0 w n ws left):=h;have HV:Hd (tV tag w0 w 55 p k f):=hv;have i:=h.lt;have A7:Hd (tag w.heap.size=.own):=h.tup _ (Nat.le_refl _);have A6:Hd (∀g,p=some (iA g 0)→0<k→g≠w.heap.size):=fun g e h0=>by
  rcases hv with d|⟨g',d,_,_,h4⟩
  ·omega
  rw[e]at d;injection d with d;injection d with d;have:=h4.lt;omega
 clear h hv;have A8:i0.bytes*k≤281474976710656:=by rw[Ae];omega
 have A9:k≤maxLen:=by unfold maxLen;omega
 have C:Hd (i0.bytes*k≤281474976710656∧k≤maxLen∧prog.info? 55=some i0∧i0.zero=some (.agg #[iV 0,iV 0,iV 0,iV 0,iV 0,iV 0,iV 0])∧i0.size=7):=⟨A8,A9,hi,Ad,A4⟩;have E:Hd (prog.info? 66=some i1∧i1.zero=some (.agg #[.slice none 0 0,.slice none 0 0,.slice none 0 0,.slice none 0 0])∧i1.size=4∧i1.bytes=96):=⟨hj,Aa,Ab,Ac⟩;clear A8 A9 hi Ad A4 Ae hj Aa Ab Ac;rcases p with _|ad
 ·obtain rfl:=hp rfl;clear hp;go_enter func67,ntmps67;go_wp2_with(at_make;refine wpList_make_full _ rfl _ _ 51 rfl (w0.heap.size+1) 55 i0 _ 7 underlying51 C.2.2.1 C.2.2.2.1 C.2.2.2.2 _ _ _ _ 0 rfl rfl rfl rfl C.1 C.2.1 i ?_);intro w1 G A;have D:Bw w w1:=⟨A.os,A.tape,A.output,A.size,fun b hb=>A.block b hb (by simp)⟩;obtain⟨A2,O,N⟩:=tF G;obtain⟨w2,T,x1,x2,x3,x4,x5,x6⟩:=copy7 (c:=0) (c':=0) (f:=f) underlying51 A5.o (HV.o.below D).cells O N 3;have U:Bw w w2:=⟨x1.trans D.os,x2.trans D.tape,x3.trans D.output,by rw[x4];exact D.size,fun b hb=>(x5 b (by omega)).trans (D.block b hb)⟩;have J:Hd (wu tag ps w0 w2 n ws left):=HS.below U;have A1:Hd (tV tag w0 w2 55 none 0 f):=HV.below U;have A0:Hd (vw w2 w.heap.size 55 0 f):=x6;have L:Hd ((Builtin.copy_ #[51,51] 3 #[sL w.heap.size 0 0,.slice none 0 0]).run prog w1=.ok (goInt (0:Nat)) w2):=T;clear G A D O N T x1 x2 x3 x4 x5 x6 U A2;go_wp2_with fail
  rw[L.o];clear L;obtain⟨v,m,xs,X⟩:=J.o.lx;have V:=X.cell;have A3:=X.len;have R:=J.lt;have I:Hd (LX tag w0 w2 n v m xs):=X;have z:Hd (∀o,(w2.alloc o).ownsRow (w0.heap.size+1) 66 4 v m xs):=fun o=>X.row.alloc o
  have S:∀q,v.ownBlock=some q→w0.heap.size+1≤q:=fun q hq=>(X.row.lt q hq).1
  have K:Hd (some w0.heap.size≠v.ownBlock):=fun e=>by have:=S _ e.symm;omega
  have l:Hd (∀(j:Nat) (u:Value),[.slice none 0 0,sL w.heap.size 0 0,.slice none 0 0,.slice none 0 0][j]? =some u→(w2.alloc (.cells #[.slice none 0 0,sL w.heap.size 0 0,.slice none 0 0,.slice none 0 0] 66)).cell? (Addr.add (iA w2.heap.size 0) j)=some u):=fun j u hj=>by
   rw[Addr.add_lit,Nat.zero_add,World.cell?_alloc_at _ _ _ _ rfl];simpa using hj
  have s:Hd (∀u∈([.slice none 0 0,sL w.heap.size 0 0,.slice none 0 0,.slice none 0 0]:List Value),u.oneCell'=true):=List.forall_mem_cons.2 ⟨rfl,List.forall_mem_cons.2 ⟨rfl,List.forall_mem_cons.2 ⟨rfl,List.forall_mem_cons.2 ⟨rfl,fun u hu=>by cases hu⟩⟩⟩⟩;have t:Hd (m+1≤maxLen):=by show m+1≤maxLen;unfold maxLen;omega
  have x:Hd ((m+1)* 96≤140737488355328):=by show(m+1)* 96≤140737488355328;omega
  have y:Hd (∀o,w0.heap.size+1≤(w2.alloc o).heap.size):=fun o=>by simp;omega
  clear X S;go_wp2_with(at_builtin;refine wpList_append_lies _ rfl _ _ 35 rfl (w0.heap.size+1) 66 i1 (.agg #[.slice none 0 0,.slice none 0 0,.slice none 0 0,.slice none 0 0]) 4 96 underlying35 E.1 E.2.1 E.2.2.1 E.2.2.2 rfl (by decide) _ _ _ rfl (z.o _) (iA w2.heap.size 0) 1 1 [.slice none 0 0,sL w.heap.size 0 0,.slice none 0 0,.slice none 0 0] rfl rfl l.o s.o (by decide) t.o x.o (y.o _) (w2.heap.size+1) (by simp) ?_);intro g' Z w3 H B M _;have F:∀b,b<w2.heap.size→some b≠v.ownBlock→w3.heap[b]? =w2.heap[b]? :=fun b d h2=>(B.block b (by simp;omega) h2).trans (Below.heap_alloc _ _ _ d)
  have Ah:w3.cell? (iA w0.heap.size 6)=some v:=(World.cell?_of_block (a:=(iA w0.heap.size 6)) (F _ R K.o)).trans V;have Ag:w3.frozen? (iA w0.heap.size 6)=false:=(World.frozen?_of_block (a:=(iA w0.heap.size 6)) (F _ R K.o)).trans (J.dz 6);obtain⟨tag',hT,r1,r2⟩:=tC (w3:=w3) (m:=m) (by decide) A1.o A0.o A7.o i A6.o (fun g hg=>F g hg.lt (fun e=>by
   obtain⟨cu,t1⟩:=cB I.o.row e.symm;obtain⟨Af,t2,_⟩:=hg;exact absurd (xu t1 t2) (by decide))) (show 0≠1 by decide) 0 0
  have Y:Hd (∃tag',wu tag' ps w0 (w3.setCell (iA w0.heap.size 6) (sL g' (m+1) Z)) (n+1) ws left):=⟨tag',J.sV V I.row I.ok A3 ⟨I.vt,B.os,B.tape,B.output,Nat.le_trans (by simp) B.size,F,fun q hq=>by
   have:g'=q:=by simpa [Value.ownBlock] using hq
   subst this;rcases M with h|h
   ·exact .inl h
   exact .inr (by omega)⟩ H hT ⟨0,f,0,f,hk,by omega,r1,r2,fK.nil _ _ _ _ f,fK.nil _ _ _ _ f⟩⟩
  clear H B F V M hT r1 r2;go_wp2;go_end0;exact⟨rfl,Y.o⟩
 clear hp;go_enter func67,ntmps67;go_wp2_with(at_make;refine wpList_make_full _ rfl _ _ 51 rfl (w0.heap.size+1) 55 i0 _ 7 underlying51 C.2.2.1 C.2.2.2.1 C.2.2.2.2 _ _ _ _ k rfl rfl rfl rfl C.1 C.2.1 i ?_);intro w1 G A;have D:Bw w w1:=⟨A.os,A.tape,A.output,A.size,fun b hb=>A.block b hb (by simp)⟩;obtain⟨A2,O,N⟩:=tF G;obtain⟨w2,T,x1,x2,x3,x4,x5,x6⟩:=copy7 (c:=k) (c':=k) (f:=f) underlying51 A5.o (HV.o.below D).cells O N 3;have U:Bw w w2:=⟨x1.trans D.os,x2.trans D.tape,x3.trans D.output,by rw[x4];exact D.size,fun b hb=>(x5 b (by omega)).trans (D.block b hb)⟩;have J:Hd (wu tag ps w0 w2 n ws left):=HS.below U;have A1:Hd (tV tag w0 w2 55 (some ad) k f):=HV.below U;have A0:Hd (vw w2 w.heap.size 55 k f):=x6;have L:Hd ((Builtin.copy_ #[51,51] 3 #[sL w.heap.size k k,.slice (some ad) k k]).run prog w1=.ok (goInt (k:Nat)) w2):=T;clear G A D O N T x1 x2 x3 x4 x5 x6 U A2;go_wp2_with fail;rw[L.o]
 clear L;obtain⟨v,m,xs,X⟩:=J.o.lx;have V:=X.cell;have A3:=X.len;have R:=J.lt;have I:Hd (LX tag w0 w2 n v m xs):=X;have z:Hd (∀o,(w2.alloc o).ownsRow (w0.heap.size+1) 66 4 v m xs):=fun o=>X.row.alloc o
 have S:∀q,v.ownBlock=some q→w0.heap.size+1≤q:=fun q hq=>(X.row.lt q hq).1
 have K:Hd (some w0.heap.size≠v.ownBlock):=fun e=>by have:=S _ e.symm;omega
 have l:Hd (∀(j:Nat) (u:Value),[.slice (some ad) k k,sL w.heap.size k k,.slice none 0 0,.slice none 0 0][j]? =some u→(w2.alloc (.cells #[.slice (some ad) k k,sL w.heap.size k k,.slice none 0 0,.slice none 0 0] 66)).cell? (Addr.add (iA w2.heap.size 0) j)=some u):=fun j u hj=>by
  rw[Addr.add_lit,Nat.zero_add,World.cell?_alloc_at _ _ _ _ rfl];simpa using hj
 have s:Hd (∀u∈([.slice (some ad) k k,sL w.heap.size k k,.slice none 0 0,.slice none 0 0]:List Value),u.oneCell'=true):=List.forall_mem_cons.2 ⟨rfl,List.forall_mem_cons.2 ⟨rfl,List.forall_mem_cons.2 ⟨rfl,List.forall_mem_cons.2 ⟨rfl,fun u hu=>by cases hu⟩⟩⟩⟩;have t:Hd (m+1≤maxLen):=by show m+1≤maxLen;unfold maxLen;omega
 have x:Hd ((m+1)* 96≤140737488355328):=by show(m+1)* 96≤140737488355328;omega
 have y:Hd (∀o,w0.heap.size+1≤(w2.alloc o).heap.size):=fun o=>by simp;omega
 clear X S;go_wp2_with(at_builtin;refine wpList_append_lies _ rfl _ _ 35 rfl (w0.heap.size+1) 66 i1 (.agg #[.slice none 0 0,.slice none 0 0,.slice none 0 0,.slice none 0 0]) 4 96 underlying35 E.1 E.2.1 E.2.2.1 E.2.2.2 rfl (by decide) _ _ _ rfl (z.o _) (iA w2.heap.size 0) 1 1 [.slice (some ad) k k,sL w.heap.size k k,.slice none 0 0,.slice none 0 0] rfl rfl l.o s.o (by decide) t.o x.o (y.o _) (w2.heap.size+1) (by simp) ?_);intro g' Z w3 H B M _;have F:∀b,b<w2.heap.size→some b≠v.ownBlock→w3.heap[b]? =w2.heap[b]? :=fun b d h2=>(B.block b (by simp;omega) h2).trans (Below.heap_alloc _ _ _ d)
 have Ah:w3.cell? (iA w0.heap.size 6)=some v:=(World.cell?_of_block (a:=(iA w0.heap.size 6)) (F _ R K.o)).trans V;have Ag:w3.frozen? (iA w0.heap.size 6)=false:=(World.frozen?_of_block (a:=(iA w0.heap.size 6)) (F _ R K.o)).trans (J.dz 6);obtain⟨tag',hT,r1,r2⟩:=tC (w3:=w3) (m:=m) (by decide) A1.o A0.o A7.o i A6.o (fun g hg=>F g hg.lt (fun e=>by
  obtain⟨cu,t1⟩:=cB I.o.row e.symm;obtain⟨Af,t2,_⟩:=hg;exact absurd (xu t1 t2) (by decide))) (show 0≠1 by decide) k k
 have Y:Hd (∃tag',wu tag' ps w0 (w3.setCell (iA w0.heap.size 6) (sL g' (m+1) Z)) (n+1) ws left):=⟨tag',J.sV V I.row I.ok A3 ⟨I.vt,B.os,B.tape,B.output,Nat.le_trans (by simp) B.size,F,fun q hq=>by
  have:g'=q:=by simpa [Value.ownBlock] using hq
  subst this;rcases M with h|h
  ·exact .inl h
  exact .inr (by omega)⟩ H hT ⟨k,f,0,f,hk,by omega,r1,r2,fK.nil _ _ _ _ f,fK.nil _ _ _ _ f⟩⟩
 clear H B F V M hT r1 r2;go_wp2;go_end0;exact⟨rfl,Y.o⟩
theorem Tryz.infoOSt:(prog.info? 121).map (fun i=>(i.size,i.bytes))=some (7,56):=by kernel_rfl
theorem Tryz.zeroOSt:(prog.info? 121).map (fun i=>i.zero)=some (some (.agg #[iV 0,iV 0,iV 0,iV 0,iV 0,iV 0,iV 0])):=by kernel_rfl
theorem vK(h:wu tag ps w0 w n ws left)(hn:n≤100000000)(p:Option Addr)(k:Nat)(f:Nat→Int)(hk:k≤1000000000)(hv:tV tag w0 w 121 p k f)(hp:p=none→k=0):
 Cl 46 #[iP w0.heap.size,.slice p k k] w fun e w'=>e=rV #[]∧(∃tag',wu tag' ps w0 w' (n+1) ws left)∧OpK w w'∧w'.cell? (iA w0.heap.size 5)=w.cell? (iA w0.heap.size 5):=by
 obtain⟨i0,hi,Ai,A9,Aj⟩:=qh Tryz.infoOSt Tryz.zeroOSt;obtain⟨i1,hj,Af,Ag,Ah⟩:=qh Tryz.infoList Tryz.zeroList;have Aa:Hd ((prog.info? 121).map (·.size)=some 7):=by show Option.map _ _=_;rw[hi];simp[A9]
 have HS:Hd (wu tag ps w0 w n ws left):=h;have HV:Hd (tV tag w0 w 121 p k f):=hv;have t:=h.lt;have Ac:Hd (tag w.heap.size=.own):=h.tup _ (Nat.le_refl _);have Ab:Hd (∀g,p=some (iA g 0)→0<k→g≠w.heap.size):=fun g e h0=>by
  rcases hv with s|⟨l,s,_,_,h4⟩
  ·omega
  rw[e]at s;injection s with s;injection s with s;have:=h4.lt;omega
 clear h hv;have Ad:i0.bytes*k≤281474976710656:=by rw[Aj];omega
 have Ae:k≤maxLen:=by unfold maxLen;omega
 have C:Hd (i0.bytes*k≤281474976710656∧k≤maxLen∧prog.info? 121=some i0∧i0.zero=some (.agg #[iV 0,iV 0,iV 0,iV 0,iV 0,iV 0,iV 0])∧i0.size=7):=⟨Ad,Ae,hi,Ai,A9⟩;have F:Hd (prog.info? 66=some i1∧i1.zero=some (.agg #[.slice none 0 0,.slice none 0 0,.slice none 0 0,.slice none 0 0])∧i1.size=4∧i1.bytes=96):=⟨hj,Af,Ag,Ah⟩;clear Ad Ae hi Ai A9 Aj hj Af Ag Ah;rcases p with _|ad
 ·obtain rfl:=hp rfl;clear hp;go_enter func46,ntmps46;go_wp2_with(at_make;refine wpList_make_full _ rfl _ _ 64 rfl (w0.heap.size+1) 121 i0 _ 7 underlying64 C.2.2.1 C.2.2.2.1 C.2.2.2.2 _ _ _ _ 0 rfl rfl rfl rfl C.1 C.2.1 t ?_);intro w1 M A;have D:Bw w w1:=⟨A.os,A.tape,A.output,A.size,fun b hb=>A.block b hb (by simp)⟩;obtain⟨i,T,S⟩:=tF M;obtain⟨w2,V,x1,x2,x3,x4,x5,x6⟩:=copy7 (c:=0) (c':=0) (f:=f) underlying64 Aa.o (HV.o.below D).cells T S 3;have K:Bw w w2:=⟨x1.trans D.os,x2.trans D.tape,x3.trans D.output,by rw[x4];exact D.size,fun b hb=>(x5 b (by omega)).trans (D.block b hb)⟩;have I:Hd (wu tag ps w0 w2 n ws left):=HS.below K;have d:Hd (OpK w w2∧w2.cell? (iA w0.heap.size 5)=w.cell? (iA w0.heap.size 5)):=⟨OpK.below K,World.cell?_of_block (a:=(iA w0.heap.size 5)) (K.block _ (by omega))⟩;have A5:Hd (tV tag w0 w2 121 none 0 f):=HV.below K;have A4:Hd (vw w2 w.heap.size 121 0 f):=x6
  have O:Hd ((Builtin.copy_ #[64,64] 3 #[sL w.heap.size 0 0,.slice none 0 0]).run prog w1=.ok (goInt (0:Nat)) w2):=V;clear M A D T S V x1 x2 x3 x4 x5 x6 K i;go_wp2_with fail;rw[O.o];clear O;obtain⟨v,m,xs,Y⟩:=I.o.lx;have X:=Y.cell;have A7:=Y.len;have L:=I.lt;have H:Hd (LX tag w0 w2 n v m xs):=Y;have A3:Hd (∀o,(w2.alloc o).ownsRow (w0.heap.size+1) 66 4 v m xs):=fun o=>Y.row.alloc o
  have U:∀q,v.ownBlock=some q→w0.heap.size+1≤q:=fun q hq=>(Y.row.lt q hq).1
  have G:Hd (some w0.heap.size≠v.ownBlock):=fun e=>by have:=U _ e.symm;omega
  have x:Hd (∀(j:Nat) (u:Value),[.slice none 0 0,.slice none 0 0,.slice none 0 0,sL w.heap.size 0 0][j]? =some u→(w2.alloc (.cells #[.slice none 0 0,.slice none 0 0,.slice none 0 0,sL w.heap.size 0 0] 66)).cell? (Addr.add (iA w2.heap.size 0) j)=some u):=fun j u hj=>by
   rw[Addr.add_lit,Nat.zero_add,World.cell?_alloc_at _ _ _ _ rfl];simpa using hj
  have y:Hd (∀u∈([.slice none 0 0,.slice none 0 0,.slice none 0 0,sL w.heap.size 0 0]:List Value),u.oneCell'=true):=List.forall_mem_cons.2 ⟨rfl,List.forall_mem_cons.2 ⟨rfl,List.forall_mem_cons.2 ⟨rfl,List.forall_mem_cons.2 ⟨rfl,fun u hu=>by cases hu⟩⟩⟩⟩;have z:Hd (m+1≤maxLen):=by show m+1≤maxLen;unfold maxLen;omega
  have A0:Hd ((m+1)* 96≤140737488355328):=by show(m+1)* 96≤140737488355328;omega
  have A1:Hd (∀o,w0.heap.size+1≤(w2.alloc o).heap.size):=fun o=>by simp;omega
  clear Y U;go_wp2_with(at_builtin;refine wpList_append_lies _ rfl _ _ 35 rfl (w0.heap.size+1) 66 i1 (.agg #[.slice none 0 0,.slice none 0 0,.slice none 0 0,.slice none 0 0]) 4 96 underlying35 F.1 F.2.1 F.2.2.1 F.2.2.2 rfl (by decide) _ _ _ rfl (A3.o _) (iA w2.heap.size 0) 1 1 [.slice none 0 0,.slice none 0 0,.slice none 0 0,sL w.heap.size 0 0] rfl rfl x.o y.o (by decide) z.o A0.o (A1.o _) (w2.heap.size+1) (by simp) ?_);intro l J w3 N B R _;have E:∀b,b<w2.heap.size→some b≠v.ownBlock→w3.heap[b]? =w2.heap[b]? :=fun b s h2=>(B.block b (by simp;omega) h2).trans (Below.heap_alloc _ _ _ s)
  have Am:w3.cell? (iA w0.heap.size 6)=some v:=(World.cell?_of_block (a:=(iA w0.heap.size 6)) (E _ L G.o)).trans X;have Al:w3.frozen? (iA w0.heap.size 6)=false:=(World.frozen?_of_block (a:=(iA w0.heap.size 6)) (E _ L G.o)).trans (I.dz 6);obtain⟨tag',hT,r1,r2⟩:=tC (w3:=w3) (m:=m) (by decide) A5.o A4.o Ac.o t Ab.o (fun g hg=>E g hg.lt (fun e=>by
   obtain⟨cu,t1⟩:=cB H.o.row e.symm;obtain⟨Ak,t2,_⟩:=hg;exact absurd (xu t1 t2) (by decide))) (show 2≠3 by decide) 0 0
  have A2:Hd (OpK w (w3.setCell (iA w0.heap.size 6) (sL l (m+1) J))∧(w3.setCell (iA w0.heap.size 6) (sL l (m+1) J)).cell? (iA w0.heap.size 5)=w.cell? (iA w0.heap.size 5)):=by
   refine⟨d.1.trans fun k i hb=>?_,(aB _ _ _ _ _ (by decide)).trans ((World.cell?_of_block (a:=(iA w0.heap.size 5)) (E _ L G.o)).trans d.2)⟩;have A6:k<w2.heap.size:=(Array.getElem?_eq_some_iff.1 hb).1;have A8:k≠w0.heap.size:=fun e=>by
    obtain⟨c,b1⟩:=I.o.blk;rw[e]at hb;exact absurd (xu b1 hb) (by decide)
   rw[Below.heap_setCell _ _ _ _ A8,E k A6 (fun e=>by
    obtain⟨c,b1⟩:=cB H.o.row e.symm;exact absurd (xu b1 hb) (by decide))]
   exact hb
  have Z:Hd (∃tag',wu tag' ps w0 (w3.setCell (iA w0.heap.size 6) (sL l (m+1) J)) (n+1) ws left):=⟨tag',I.sV X H.row H.ok A7 ⟨H.vt,B.os,B.tape,B.output,Nat.le_trans (by simp) B.size,E,fun q hq=>by
   have:l=q:=by simpa [Value.ownBlock] using hq
   subst this;rcases R with h|h
   ·exact .inl h
   exact .inr (by omega)⟩ N hT ⟨0,f,0,f,by omega,hk,fK.nil _ _ _ _ f,fK.nil _ _ _ _ f,r1,r2⟩⟩
  clear N B E X R hT r1 r2;go_wp2;go_end0;exact⟨rfl,Z.o,A2.o⟩
 clear hp;go_enter func46,ntmps46;go_wp2_with(at_make;refine wpList_make_full _ rfl _ _ 64 rfl (w0.heap.size+1) 121 i0 _ 7 underlying64 C.2.2.1 C.2.2.2.1 C.2.2.2.2 _ _ _ _ k rfl rfl rfl rfl C.1 C.2.1 t ?_);intro w1 M A;have D:Bw w w1:=⟨A.os,A.tape,A.output,A.size,fun b hb=>A.block b hb (by simp)⟩;obtain⟨i,T,S⟩:=tF M;obtain⟨w2,V,x1,x2,x3,x4,x5,x6⟩:=copy7 (c:=k) (c':=k) (f:=f) underlying64 Aa.o (HV.o.below D).cells T S 3;have K:Bw w w2:=⟨x1.trans D.os,x2.trans D.tape,x3.trans D.output,by rw[x4];exact D.size,fun b hb=>(x5 b (by omega)).trans (D.block b hb)⟩;have I:Hd (wu tag ps w0 w2 n ws left):=HS.below K;have d:Hd (OpK w w2∧w2.cell? (iA w0.heap.size 5)=w.cell? (iA w0.heap.size 5)):=⟨OpK.below K,World.cell?_of_block (a:=(iA w0.heap.size 5)) (K.block _ (by omega))⟩;have A5:Hd (tV tag w0 w2 121 (some ad) k f):=HV.below K;have A4:Hd (vw w2 w.heap.size 121 k f):=x6
 have O:Hd ((Builtin.copy_ #[64,64] 3 #[sL w.heap.size k k,.slice (some ad) k k]).run prog w1=.ok (goInt (k:Nat)) w2):=V;clear M A D T S V x1 x2 x3 x4 x5 x6 K i;go_wp2_with fail;rw[O.o];clear O;obtain⟨v,m,xs,Y⟩:=I.o.lx;have X:=Y.cell;have A7:=Y.len;have L:=I.lt;have H:Hd (LX tag w0 w2 n v m xs):=Y;have A3:Hd (∀o,(w2.alloc o).ownsRow (w0.heap.size+1) 66 4 v m xs):=fun o=>Y.row.alloc o
 have U:∀q,v.ownBlock=some q→w0.heap.size+1≤q:=fun q hq=>(Y.row.lt q hq).1
 have G:Hd (some w0.heap.size≠v.ownBlock):=fun e=>by have:=U _ e.symm;omega
 have x:Hd (∀(j:Nat) (u:Value),[.slice none 0 0,.slice none 0 0,.slice (some ad) k k,sL w.heap.size k k][j]? =some u→(w2.alloc (.cells #[.slice none 0 0,.slice none 0 0,.slice (some ad) k k,sL w.heap.size k k] 66)).cell? (Addr.add (iA w2.heap.size 0) j)=some u):=fun j u hj=>by
  rw[Addr.add_lit,Nat.zero_add,World.cell?_alloc_at _ _ _ _ rfl];simpa using hj
 have y:Hd (∀u∈([.slice none 0 0,.slice none 0 0,.slice (some ad) k k,sL w.heap.size k k]:List Value),u.oneCell'=true):=List.forall_mem_cons.2 ⟨rfl,List.forall_mem_cons.2 ⟨rfl,List.forall_mem_cons.2 ⟨rfl,List.forall_mem_cons.2 ⟨rfl,fun u hu=>by cases hu⟩⟩⟩⟩;have z:Hd (m+1≤maxLen):=by show m+1≤maxLen;unfold maxLen;omega
 have A0:Hd ((m+1)* 96≤140737488355328):=by show(m+1)* 96≤140737488355328;omega
 have A1:Hd (∀o,w0.heap.size+1≤(w2.alloc o).heap.size):=fun o=>by simp;omega
 clear Y U;go_wp2_with(at_builtin;refine wpList_append_lies _ rfl _ _ 35 rfl (w0.heap.size+1) 66 i1 (.agg #[.slice none 0 0,.slice none 0 0,.slice none 0 0,.slice none 0 0]) 4 96 underlying35 F.1 F.2.1 F.2.2.1 F.2.2.2 rfl (by decide) _ _ _ rfl (A3.o _) (iA w2.heap.size 0) 1 1 [.slice none 0 0,.slice none 0 0,.slice (some ad) k k,sL w.heap.size k k] rfl rfl x.o y.o (by decide) z.o A0.o (A1.o _) (w2.heap.size+1) (by simp) ?_);intro l J w3 N B R _;have E:∀b,b<w2.heap.size→some b≠v.ownBlock→w3.heap[b]? =w2.heap[b]? :=fun b s h2=>(B.block b (by simp;omega) h2).trans (Below.heap_alloc _ _ _ s)
 have Am:w3.cell? (iA w0.heap.size 6)=some v:=(World.cell?_of_block (a:=(iA w0.heap.size 6)) (E _ L G.o)).trans X;have Al:w3.frozen? (iA w0.heap.size 6)=false:=(World.frozen?_of_block (a:=(iA w0.heap.size 6)) (E _ L G.o)).trans (I.dz 6);obtain⟨tag',hT,r1,r2⟩:=tC (w3:=w3) (m:=m) (by decide) A5.o A4.o Ac.o t Ab.o (fun g hg=>E g hg.lt (fun e=>by
  obtain⟨cu,t1⟩:=cB H.o.row e.symm;obtain⟨Ak,t2,_⟩:=hg;exact absurd (xu t1 t2) (by decide))) (show 2≠3 by decide) k k
 have A2:Hd (OpK w (w3.setCell (iA w0.heap.size 6) (sL l (m+1) J))∧(w3.setCell (iA w0.heap.size 6) (sL l (m+1) J)).cell? (iA w0.heap.size 5)=w.cell? (iA w0.heap.size 5)):=by
  refine⟨d.1.trans fun k i hb=>?_,(aB _ _ _ _ _ (by decide)).trans ((World.cell?_of_block (a:=(iA w0.heap.size 5)) (E _ L G.o)).trans d.2)⟩;have A6:k<w2.heap.size:=(Array.getElem?_eq_some_iff.1 hb).1;have A8:k≠w0.heap.size:=fun e=>by
   obtain⟨c,b1⟩:=I.o.blk;rw[e]at hb;exact absurd (xu b1 hb) (by decide)
  rw[Below.heap_setCell _ _ _ _ A8,E k A6 (fun e=>by
   obtain⟨c,b1⟩:=cB H.o.row e.symm;exact absurd (xu b1 hb) (by decide))]
  exact hb
 have Z:Hd (∃tag',wu tag' ps w0 (w3.setCell (iA w0.heap.size 6) (sL l (m+1) J)) (n+1) ws left):=⟨tag',I.sV X H.row H.ok A7 ⟨H.vt,B.os,B.tape,B.output,Nat.le_trans (by simp) B.size,E,fun q hq=>by
  have:l=q:=by simpa [Value.ownBlock] using hq
  subst this;rcases R with h|h
  ·exact .inl h
  exact .inr (by omega)⟩ N hT ⟨0,f,k,f,by omega,hk,fK.nil _ _ _ _ f,fK.nil _ _ _ _ f,r1,r2⟩⟩
 clear N B E X R hT r1 r2;go_wp2;go_end0;exact⟨rfl,Z.o,A2.o⟩
end Go.Proofs.YtehmdohpmpbnnaaGreatDoor
