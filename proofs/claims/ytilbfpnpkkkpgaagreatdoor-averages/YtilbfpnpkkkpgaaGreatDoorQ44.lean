import Derived.Test.YtilbfpnpkkkpgaaGreatDoorQ00
import Derived.Test.YtilbfpnpkkkpgaaGreatDoorQ13
import Derived.Test.YtilbfpnpkkkpgaaGreatDoorQ39
import Derived.Test.YtilbfpnpkkkpgaaGreatDoorQ40
import Derived.Lib.ConvBytes
import Derived.Laws.CopyOwn
import Derived.Deep.AppendLies
set_option linter.all false
set_option maxRecDepth 100000
set_option maxHeartbeats 8000000
namespace Go.Proofs.YtilbfpnpkkkpgaaGreatDoor
variable{w w0:World}{k n:Nat}{f:Nat→Int}{tag:Nat→Tag}{p:Option Addr}{ps:List Duo}{ws:List ByteArray}{left:Int}
open Go.Extern Go.RowKit
section
variable {w0 w:World} {n:Nat} {ws:List ByteArray} {left:Int}
theorem zQz(h:St w0 w n ws left)(a b d:Int)(s:ByteArray)(v:Nat→Int)(hn:n≤100000000)(ha:I64 a)(hb:I64 b)(hl:0<left):
 Cl 38 #[iP w0.heap.size,opV 6 a b d s v] w fun e w'=>e=rV #[]∧Next w0 w' n:=by
 have hsum:=h.sum;have hz1:=zAc ws a;have HS:Hid (St w0 (w.alloc (.cells (opC 6 a b d s v) 79)) n ws left):=h.below (zA0 _);clear h;generalize hta:wordAt ws a=ta at *;have hcv:=fun W=>Lib.run_convert_string_bytes (P:=Tryz.prog) W 9 64 5 ta Tryz.underlying9 Tryz.underlying64 Tryz.underlying5
 have hlt:=HS.lt;go_enter Tryz.func38,Tryz.ntmps38;go_wp2_with fail;refine(HS.word a (by omega) ha.1 ha.2).mono ?_;rintro e w1 ⟨rfl,m,rfl⟩;rw[hta];have HS1:Hid (St w0 ((w.alloc (.cells (opC 6 a b d s v) 79)).drewN m) n ws left):=HS.drewN m;have hb2:((w.alloc (.cells (opC 6 a b d s v) 79)).drewN m).cell? (iA w.heap.size 2)=sI b:=zBz _ _ _ _ _ _ rfl;have hb3:((w.alloc (.cells (opC 6 a b d s v) 79)).drewN m).cell? (iA w.heap.size 3)=sI d:=zBz _ _ _ _ _ _ rfl;have hb0:((w.alloc (.cells (opC 6 a b d s v) 79)).drewN m).cell? (iA w.heap.size 0)=sI 6:=zBz _ _ _ _ _ _ rfl;have hsz:w.heap.size<((w.alloc (.cells (opC 6 a b d s v) 79)).drewN m).heap.size:=by
  show w.heap.size<(w.alloc _).heap.size;simp
 generalize (w.alloc (.cells (opC 6 a b d s v) 79)).drewN m=W at *;have hcw:=hcv W;have HS2:Hid (St w0 (Lib.bytesWorld W 5 ta) n ws left):=HS1.below ⟨rfl,rfl,rfl,by rw[Lib.bytesWorld_size];omega,fun k hk=>Lib.bytesWorld_at_old W _ ta k hk⟩;have HXB:Hid (Bw W (Lib.bytesWorld W 5 ta)):=⟨rfl,rfl,rfl,by rw[Lib.bytesWorld_size];omega,fun k hk=>Lib.bytesWorld_at_old W _ ta k hk⟩;have hx2:(Lib.bytesWorld W 5 ta).cell? (iA w.heap.size 2)=sI b:=(Lib.bytesWorld_old W _ ta _ hsz).trans hb2;have hx3:(Lib.bytesWorld W 5 ta).cell? (iA w.heap.size 3)=sI d:=(Lib.bytesWorld_old W _ ta _ hsz).trans hb3;have HXJ:Hid (∀j,j<ta.size→(Lib.bytesWorld W 5 ta).cell? (iA W.heap.size j)=some (.int .u8 (ta.data.toList.getD j 0).toNat)):=fun j hj=>Lib.bytesWorld_cell W _ ta j hj
 have HXF:Hid (∀j,j<ta.size→(Lib.bytesWorld W 5 ta).frozen? (iA W.heap.size j)=false):=fun j hj=>by
  simp only[World.frozen?,Lib.bytesWorld_at_new,Lib.bytesCells];simp;omega
 clear hcv;generalize hgc:grownCap W ta.size 0 5=gc at *;by_cases h0:ta.size=0
 ·have hback:(convert 64 9 (sL W.heap.size 0 gc)).run Tryz.prog (Lib.bytesWorld W 5 ta)=.ok (.string ⟨#[]⟩) (Lib.bytesWorld W 5 ta):=run_convert_bytes_back (Lib.bytesWorld W 5 ta) 64 9 5 (iA W.heap.size 0) gc [] Tryz.underlying64 Tryz.underlying5 Tryz.underlying9 (fun j hj=>absurd hj (by simp));rw[h0]at hcw;go_wp2_with fail;refine(HS2.keep ⟨#[]⟩ (by omega) (by decide) (by omega)).mono ?_;rintro e w2 ⟨rfl,hS2,hsz⟩;have HS3:Hid (Next w0 w2 n):=Next.of hS2;clear hS2;go_wp2;go_end0;exact⟨rfl,HS3.out⟩
 ·have hgt:(0:Int)<(ta.size:Int):=by omega
  have hpk:=fun W=>zAs b (ta.size:Int) W hb.1 hb.2 (by omega) (by omega)
  have hpb:=zAm b (ta.size:Int) (by omega);obtain⟨q,hq⟩: ∃q:Nat,pickN b (ta.size:Int)=q:=⟨(pickN b (ta.size:Int)).toNat,by omega⟩;rw[hq]at hpb hpk;have hq2:q<ta.size:=by omega
  have hqI:(q:Int)<(ta.size:Int):=by omega
  have HPK:Hid (∀W,Cl 37 #[iV b,iV (ta.size:Int)] W fun e w'=>e=.returned (iV (q:Int))∧w'=W):=hpk;clear hpk hpb hq;have hxq:=HXJ.out q hq2;have hfq:=HXF.out q hq2;go_wp2_with fail;clear hcw;generalize Lib.bytesWorld W 5 ta=X at *;refine(HPK.out _).mono ?_;rintro e w2 ⟨rfl,rfl⟩;go_wp2_with fail;generalize (ta.data.toList.getD q 0)=bq at *;have hzb:0≤bits .xor .u8 (bq.toNat:Int) (d % 256)∧bits .xor .u8 (bq.toNat:Int) (d % 256)<256:=by
   have e:bits .xor .u8 (bq.toNat:Int) (d % 256)=IntKind.u8.wrap (bits .xor .u8 (bq.toNat:Int) (d % 256)):=by
    show IntKind.u8.wrap _=IntKind.u8.wrap (IntKind.u8.wrap _);rw[IntKind.wrap_u8,IntKind.wrap_u8];omega
   rw[IntKind.wrap_u8]at e;omega
  have hback: ∀z:Int,0≤z→z<256→(convert 64 9 (sL W.heap.size ta.size gc)).run Tryz.prog (w2.setCell (iA W.heap.size q) (.int .u8 z)).drew=.ok (.string ⟨(ta.data.toList.set q (UInt8.ofNat z.toNat)).toArray⟩) (w2.setCell (iA W.heap.size q) (.int .u8 z)).drew:=fun z z0 z1=>by
   have hl:(ta.data.toList.set q (UInt8.ofNat z.toNat)).length=ta.size:=by simp
   rw[←hl];refine run_convert_bytes_back _ 64 9 5 (iA W.heap.size 0) gc _ Tryz.underlying64 Tryz.underlying5 Tryz.underlying9 (fun j hj=>?_);rw[Addr.add_lit,Nat.zero_add];show(w2.setCell (iA W.heap.size q) (.int .u8 z)).cell? (iA W.heap.size j)=_;by_cases e:q=j
   ·subst e;rw[World.cell?_setCell_same _ _ _ hxq];simp;omega
   ·rw[zBy _ _ _ _ _ e,HXJ.out j (by rw[hl]at hj;exact hj),List.getElem_set_ne e]
    congr 3
    rw[List.getD_eq_getElem?_getD,List.getElem?_eq_getElem (by rw[hl]at hj;simpa using hj)];rfl
  have hbk:=hback _ hzb.1 hzb.2;have HKP:Hid (St w0 (w2.setCell (iA W.heap.size q) (.int .u8 (bits .xor .u8 (bq.toNat:Int) (d % 256)))).drew n ws left):=by
   refine St.drew ?_;exact HS1.below (Below.setCell (HXB.out) (p:=(iA W.heap.size q)) (Nat.le_refl _) _)
  have hsl:(⟨(ta.data.toList.set q (UInt8.ofNat (bits .xor .u8 (bq.toNat:Int) (d % 256)).toNat)).toArray⟩:ByteArray).size≤1000000000:=by
   show(ta.data.toList.set q _).toArray.size≤_;simp;omega
  generalize (⟨(ta.data.toList.set q (UInt8.ofNat (bits .xor .u8 (bq.toNat:Int) (d % 256)).toNat)).toArray⟩:ByteArray)=tn at *;have HBK:Hid ((convert 64 9 (sL W.heap.size ta.size gc)).run Tryz.prog (w2.setCell (iA W.heap.size q) (.int .u8 (bits .xor .u8 (bq.toNat:Int) (d % 256)))).drew=.ok (.string tn) (w2.setCell (iA W.heap.size q) (.int .u8 (bits .xor .u8 (bq.toNat:Int) (d % 256)))).drew):=hbk;clear hback hbk;go_region_law(fail);all_goals
   go_wp2_with fail;rw[HBK.out];go_wp2_with fail;refine(HKP.keep tn (by omega) hsl (by omega)).mono ?_;rintro e w3 ⟨rfl,hS2,hsz⟩;have HS3:Hid (Next w0 w3 n):=Next.of hS2;clear hS2;go_wp2;go_end0;exact⟨rfl,HS3.out⟩
end
theorem Cells7.list{g:Nat}{T:TypeId}(h:Cells7 w g T k f): ∀j u,((List.range (7*k)).map fun j=>iV (f j))[j]? =some u→w.cell? (iA g j)=some u:=fun j u hj=>by
 have hlt:j<7*k:=by
  have:=(List.getElem?_eq_some_iff.1 hj).1;simpa using this
 rw[List.getElem?_map,List.getElem?_range hlt]at hj;rw[h.cell j hlt];exact hj
theorem copy7{c c' H:Nat}{cur:Array Value}{sT T:TypeId}(hund:Tryz.prog.underlying sT=some (.slice T))(hinf:(Tryz.prog.info? T).map (·.size)=some 7)(h2:k=0∨∃g,p=some (iA g 0)∧Cells7 w g T k f)(hH:w.heap[H]? =some (.cells cur T (0,0)))(hs:cur.size=k*7)(ty:TypeId):
 ∃w',(Builtin.copy_ #[sT,sT] ty #[sL H k c',.slice p k c]).run Tryz.prog w=.ok (goInt k) w'∧w'.os=w.os∧w'.tape=w.tape∧w'.output=w.output∧w'.heap.size=w.heap.size∧(∀b,b≠H→w'.heap[b]? =w.heap[b]?)∧Cells7 w' H T k f:=by
 cases hq:Tryz.prog.info? T with
 |none=>rw[hq]at hinf;simp at hinf
 |some i=>
  have hi:i.size=7:=by rw[hq]at hinf;simpa using hinf
  rcases h2 with rfl|⟨g,rfl,hg⟩
  ·refine⟨w,?_,rfl,rfl,rfl,rfl,fun _ _=>rfl,⟨cur,hH,by omega,fun j hj=>absurd hj (by omega)⟩⟩;cases p with
   |none=>simp[Builtin.copy_,run_underlying hund,Builtin.lenOf,Builtin.firstCells,sizeOf,typeInfo,hq,storeCells]
   |some ad=>
    have hl:=run_loadCells_list (P:=Tryz.prog) w ad [] (fun j v hj=>by simp at hj);simp[Builtin.copy_,run_underlying hund,Builtin.lenOf,Builtin.firstCells,sizeOf,typeInfo,hq,storeCells]at hl⊢;simp[hl,storeCells]
  ·have l3:=hg.list;generalize hcs:((List.range (7*k)).map fun j=>iV (f j))=cs at l3;have l1:cs.length=7*k:=by rw[←hcs];simp
   have l2: ∀u∈cs,∃x,u=iV x:=fun u hu=>by
    rw[←hcs]at hu;obtain⟨j,_,rfl⟩:=List.mem_map.1 hu;exact⟨_,rfl⟩
   have l4: ∀j,j<7*k→cs[j]? =sI (f j):=fun j hj=>by rw[←hcs,List.getElem?_map,List.getElem?_range hj];rfl
   have hl:=run_loadCells_list (P:=Tryz.prog) w (iA g 0) cs (fun j v hj=>by rw[Addr.add_lit,Nat.zero_add];exact l3 j v hj);have hst:=run_storeCells_at Tryz.prog H 0 T cs 0 cur w hH (by simp;omega) (fun v hv=>by obtain⟨x,rfl⟩:=l2 v hv;rfl);refine⟨w.setRow H (List.take (0+0) cur.toList++cs++List.drop (0+0+cs.length) cur.toList).toArray,?_,?_,?_,?_,?_,?_,?_⟩;rotate_left
   ·rfl
   ·rfl
   ·rfl
   ·simp[World.setRow]
   ·intro b hb;exact setRow_other w H b _ hb
   ·refine⟨_,setRow_heap w H cur _ _ _ hH,?_,fun j hj=>?_⟩
    ·simp;omega
    ·have hj':j<cs.length:=by omega
     have:=l4 j hj;simp;rw[List.getElem?_append_left hj'];exact this
   ·have e:Nat.min k k*7=cs.length:=by rw[l1];simp;omega
    simp only[Nat.zero_add]at hst hl⊢;simp[Builtin.copy_,run_underlying hund,Builtin.lenOf,Builtin.firstCells,sizeOf,typeInfo,hq,hi,show k*7=cs.length by omega,hl,hst]
def Free(tag:Nat→Tag)(w0 w:World)(T:TypeId)(p:Option Addr)(k:Nat)(f:Nat→Int):Prop:=k=0∨∃g,p=some (iA g 0)∧tag g=.own∧w0.heap.size<g∧Cells7 w g T k f
theorem Free.below{w':World}{T:TypeId}(h:Free tag w0 w T p k f)(hb:Below w.heap.size w w'):Free tag w0 w' T p k f:=by
 rcases h with h|⟨g,h1,h2,h3,h4⟩
 ·exact .inl h
 ·exact .inr ⟨g,h1,h2,h3,h4.of_block (hb.block g h4.lt)⟩
theorem Free.cells{T:TypeId}(h:Free tag w0 w T p k f):k=0∨∃g,p=some (iA g 0)∧Cells7 w g T k f:=by
 rcases h with h|⟨g,h1,h2,h3,h4⟩
 ·exact .inl h
 ·exact .inr ⟨g,h1,h4⟩
theorem zD8{w2 w3:World}{T:TypeId}(hT:T=43∨T=178){m H:Nat}(h:Free tag w0 w2 T p k f)(hH:Cells7 w2 H T k f)(ht:tag H=.own)(hH0:w0.heap.size<H)(hne: ∀g,p=some (iA g 0)→0<k→g≠H)(hb: ∀g,Cells7 w2 g T k f→w3.heap[g]? =w2.heap[g]?){j0 j1:Nat}(hj:j0≠j1)(c c':Nat):
 ∃tag',Retag tag tag' w0 w2 m∧Half tag' (.lst m j0) T w3 (.slice p k c) k f∧Half tag' (.lst m j1) T w3 (sL H k c') k f:=by
 rcases h with rfl|⟨g,rfl,h2,h3,h4⟩
 ·exact⟨tag,fun _=>.inl rfl,⟨_,_,rfl,.inl rfl⟩,⟨_,_,rfl,.inl rfl⟩⟩
 ·by_cases hk:k=0
  ·subst hk;exact⟨tag,fun _=>.inl rfl,⟨_,_,rfl,.inl rfl⟩,⟨_,_,rfl,.inl rfl⟩⟩
  ·have hgH:g≠H:=hne g rfl (by omega);refine⟨fun x=>if x=g then .lst m j0 else if x=H then .lst m j1 else tag x,fun x=>?_,⟨_,_,rfl,.inr ⟨g,rfl,if_pos rfl,h4.of_block (hb g h4)⟩⟩,⟨_,_,rfl,.inr ⟨H,rfl,by show(if H=g then Tag.lst m j0 else if H=H then Tag.lst m j1 else tag H)=_;rw[if_neg (fun e=>hgH (Eq.symm e)),if_pos rfl],hH.of_block (hb H hH)⟩⟩⟩;by_cases e1:x=g
   ·subst e1;obtain⟨cur,q1,_⟩:=id h4;exact .inr ⟨h2,h3,h4.lt,⟨j0,if_pos rfl⟩,cur,T,q1,hT⟩
   ·by_cases e2:x=H
    ·subst e2;obtain⟨cur,q1,_⟩:=id hH;exact .inr ⟨ht,hH0,hH.lt,⟨j1,by show(if x=g then Tag.lst m j0 else if x=x then Tag.lst m j1 else tag x)=_;rw[if_neg e1,if_pos rfl]⟩,cur,T,q1,hT⟩
    ·exact .inl (by show(if x=g then Tag.lst m j0 else if x=H then Tag.lst m j1 else tag x)=_;rw[if_neg e1,if_neg e2])
theorem Tryz.infoRecB:(Tryz.prog.info? 43).map (fun i=>(i.size,i.bytes))=some (7,56):=by kernel_rfl
theorem Tryz.zeroRecB:(Tryz.prog.info? 43).map (fun i=>i.zero)=some (some (.agg #[iV 0,iV 0,iV 0,iV 0,iV 0,iV 0,iV 0])):=by kernel_rfl
theorem Tryz.infoList:(Tryz.prog.info? 110).map (fun i=>(i.size,i.bytes))=some (4,96):=by kernel_rfl
theorem Tryz.zeroList:(Tryz.prog.info? 110).map (fun i=>i.zero)=some (some (.agg #[.slice none 0 0,.slice none 0 0,.slice none 0 0,.slice none 0 0])):=by kernel_rfl
theorem zD9{base:Nat}{e:TypeId}{size g cap:Nat}{xs:List Value}(h:w.ownsRow base e size (sL g n cap) n xs): ∃cur,w.heap[g]? =some (.cells cur e (0,0))∧cur.size=cap*size:=by
 rcases h.2 with⟨e,-⟩|⟨g',cap',cur,e,hg,hh,hle,hmx,hsz,htk⟩
 ·cases e
 ·injection e with e1 e2 e3;injection e1 with e1;injection e1 with e1;subst e1;subst e3;exact⟨cur,hh,hsz⟩
theorem zH2(h:StT tag ps w0 w n ws left)(hn:n≤100000000)(p:Option Addr)(k:Nat)(f:Nat→Int)(hk:k≤1000000000)(hv:Free tag w0 w 43 p k f)(hp:p=none→k=0):
 Cl 115 #[iP w0.heap.size,.slice p k k] w fun e w'=>e=rV #[]∧∃tag',StT tag' ps w0 w' (n+1) ws left:=by
 obtain⟨i0,hi,hz0,hz1,hz2⟩:=zAa Tryz.infoRecB Tryz.zeroRecB;obtain⟨i1,hj,hy0,hy1,hy2⟩:=zAa Tryz.infoList Tryz.zeroList;have HI7:Hid ((Tryz.prog.info? 43).map (·.size)=some 7):=by show Option.map _ _=_;rw[hi];simp[hz1]
 have HS:Hid (StT tag ps w0 w n ws left):=h;have HV:Hid (Free tag w0 w 43 p k f):=hv;have hlt:=h.lt;have HTH:Hid (tag w.heap.size=.own):=h.tup _ (Nat.le_refl _);have HNE:Hid (∀g,p=some (iA g 0)→0<k→g≠w.heap.size):=fun g e h0=>by
  rcases hv with h1|⟨g',h1,_,_,h4⟩
  ·omega
  ·rw[e]at h1;injection h1 with h1;injection h1 with h1;have:=h4.lt;omega
 clear h hv;have hb0:i0.bytes*k≤281474976710656:=by rw[hz2];omega
 have hb1:k≤maxLen:=by unfold maxLen;omega
 have HBND:Hid (i0.bytes*k≤281474976710656∧k≤maxLen∧Tryz.prog.info? 43=some i0∧i0.zero=some (.agg #[iV 0,iV 0,iV 0,iV 0,iV 0,iV 0,iV 0])∧i0.size=7):=⟨hb0,hb1,hi,hz0,hz1⟩;have HLST:Hid (Tryz.prog.info? 110=some i1∧i1.zero=some (.agg #[.slice none 0 0,.slice none 0 0,.slice none 0 0,.slice none 0 0])∧i1.size=4∧i1.bytes=96):=⟨hj,hy0,hy1,hy2⟩;clear hb0 hb1 hi hz0 hz1 hz2 hj hy0 hy1 hy2;rcases p with _|ad
 ·obtain rfl:=hp rfl;clear hp;go_enter Tryz.func115,Tryz.ntmps115;go_wp2_with(at_make;refine wpList_make_full _ rfl _ _ 39 rfl (w0.heap.size+1) 43 i0 _ 7 Tryz.underlying39 HBND.2.2.1 HBND.2.2.2.1 HBND.2.2.2.2 _ _ _ _ 0 rfl rfl rfl rfl HBND.1 HBND.2.1 hlt ?_);intro w1 hown1 hgrow1;have hB1:Bw w w1:=⟨hgrow1.os,hgrow1.tape,hgrow1.output,hgrow1.size,fun b hb=>hgrow1.block b hb (by simp)⟩;obtain⟨cur,hcur,hcsz⟩:=zD9 hown1;obtain⟨w2,hrun,x1,x2,x3,x4,x5,x6⟩:=copy7 (c:=0) (c':=0) (f:=f) Tryz.underlying39 HI7.out (HV.out.below hB1).cells hcur hcsz 3;have hB2:Bw w w2:=⟨x1.trans hB1.os,x2.trans hB1.tape,x3.trans hB1.output,by rw[x4];exact hB1.size,fun b hb=>(x5 b (by omega)).trans (hB1.block b hb)⟩;have HS2:Hid (StT tag ps w0 w2 n ws left):=HS.below hB2;have HR2:Hid (Free tag w0 w2 43 none 0 f):=HV.below hB2;have HQ2:Hid (Cells7 w2 w.heap.size 43 0 f):=x6
  have HRUN:Hid ((Builtin.copy_ #[39,39] 3 #[sL w.heap.size 0 0,.slice none 0 0]).run Tryz.prog w1=.ok (goInt (0:Nat)) w2):=hrun;clear hown1 hgrow1 hB1 hcur hcsz hrun x1 x2 x3 x4 x5 x6 hB2 cur;go_wp2_with fail;rw[HRUN.out];clear HRUN;obtain⟨v,m,xs,hX⟩:=HS2.out.lx;have hc6:=hX.cell;have hmL:=hX.len;have hlt2:=HS2.lt;have HLX:Hid (LX tag w0 w2 n v m xs):=hX;have HOL:Hid (∀o,(w2.alloc o).ownsRow (w0.heap.size+1) 110 4 v m xs):=fun o=>hX.row.alloc o
  have hrow: ∀q,v.ownBlock=some q→w0.heap.size+1≤q:=fun q hq=>(hX.row.lt q hq).1
  have HFAR:Hid (some w0.heap.size≠v.ownBlock):=fun e=>by have:=hrow _ e.symm;omega
  have HC1:Hid (∀(j:Nat) (u:Value),[.slice none 0 0,sL w.heap.size 0 0,.slice none 0 0,.slice none 0 0][j]? =some u→(w2.alloc (.cells #[.slice none 0 0,sL w.heap.size 0 0,.slice none 0 0,.slice none 0 0] 110)).cell? (Addr.add (iA w2.heap.size 0) j)=some u):=fun j u hj=>by
   rw[Addr.add_lit,Nat.zero_add,World.cell?_alloc_at _ _ _ _ rfl];simpa using hj
  have HC2:Hid (∀u∈([.slice none 0 0,sL w.heap.size 0 0,.slice none 0 0,.slice none 0 0]:List Value),u.oneCell'=true):=List.forall_mem_cons.2 ⟨rfl,List.forall_mem_cons.2 ⟨rfl,List.forall_mem_cons.2 ⟨rfl,List.forall_mem_cons.2 ⟨rfl,fun u hu=>by cases hu⟩⟩⟩⟩;have HC3:Hid (m+1≤maxLen):=by show m+1≤maxLen;unfold maxLen;omega
  have HC4:Hid ((m+1)* 96≤140737488355328):=by show(m+1)* 96≤140737488355328;omega
  have HC5:Hid (∀o,w0.heap.size+1≤(w2.alloc o).heap.size):=fun o=>by simp;omega
  clear hX hrow;go_wp2_with(at_builtin;refine wpList_append_lies _ rfl _ _ 84 rfl (w0.heap.size+1) 110 i1 (.agg #[.slice none 0 0,.slice none 0 0,.slice none 0 0,.slice none 0 0]) 4 96 Tryz.underlying84 HLST.1 HLST.2.1 HLST.2.2.1 HLST.2.2.2 rfl (by decide) _ _ _ rfl (HOL.out _) (iA w2.heap.size 0) 1 1 [.slice none 0 0,sL w.heap.size 0 0,.slice none 0 0,.slice none 0 0] rfl rfl HC1.out HC2.out (by decide) HC3.out HC4.out (HC5.out _) (w2.heap.size+1) (by simp) ?_);intro g' cap' w3 hown3 hgrow3 hat3 _;have hbl: ∀b,b<w2.heap.size→some b≠v.ownBlock→w3.heap[b]? =w2.heap[b]? :=fun b h1 h2=>(hgrow3.block b (by simp;omega) h2).trans (Below.heap_alloc _ _ _ h1)
  have hq6:w3.cell? (iA w0.heap.size 6)=some v:=(World.cell?_of_block (a:=(iA w0.heap.size 6)) (hbl _ hlt2 HFAR.out)).trans hc6;have hf6:w3.frozen? (iA w0.heap.size 6)=false:=(World.frozen?_of_block (a:=(iA w0.heap.size 6)) (hbl _ hlt2 HFAR.out)).trans (HS2.froz 6);obtain⟨tag',hT,r1,r2⟩:=zD8 (w3:=w3) (m:=m) (by decide) HR2.out HQ2.out HTH.out hlt HNE.out (fun g hg=>hbl g hg.lt (fun e=>by
   obtain⟨cu,t1⟩:=zAk HLX.out.row e.symm;obtain⟨cu',t2,_⟩:=hg;exact absurd (zAg t1 t2) (by decide))) (show 0≠1 by decide) 0 0
  have HFIN:Hid (∃tag',StT tag' ps w0 (w3.setCell (iA w0.heap.size 6) (sL g' (m+1) cap')) (n+1) ws left):=⟨tag',HS2.put_lists hc6 HLX.row HLX.ok hmL ⟨HLX.vt,hgrow3.os,hgrow3.tape,hgrow3.output,Nat.le_trans (by simp) hgrow3.size,hbl,fun q hq=>by
   have:g'=q:=by simpa [Value.ownBlock] using hq
   subst this;rcases hat3 with h|h
   ·exact .inl h
   ·exact .inr (by omega)⟩ hown3 hT ⟨0,f,0,f,hk,by omega,r1,r2,Half.nil _ _ _ _ f,Half.nil _ _ _ _ f⟩⟩
  clear hown3 hgrow3 hbl hc6 hat3 hT r1 r2;go_wp2;go_end0;exact⟨rfl,HFIN.out⟩
 ·clear hp;go_enter Tryz.func115,Tryz.ntmps115;go_wp2_with(at_make;refine wpList_make_full _ rfl _ _ 39 rfl (w0.heap.size+1) 43 i0 _ 7 Tryz.underlying39 HBND.2.2.1 HBND.2.2.2.1 HBND.2.2.2.2 _ _ _ _ k rfl rfl rfl rfl HBND.1 HBND.2.1 hlt ?_);intro w1 hown1 hgrow1;have hB1:Bw w w1:=⟨hgrow1.os,hgrow1.tape,hgrow1.output,hgrow1.size,fun b hb=>hgrow1.block b hb (by simp)⟩;obtain⟨cur,hcur,hcsz⟩:=zD9 hown1;obtain⟨w2,hrun,x1,x2,x3,x4,x5,x6⟩:=copy7 (c:=k) (c':=k) (f:=f) Tryz.underlying39 HI7.out (HV.out.below hB1).cells hcur hcsz 3;have hB2:Bw w w2:=⟨x1.trans hB1.os,x2.trans hB1.tape,x3.trans hB1.output,by rw[x4];exact hB1.size,fun b hb=>(x5 b (by omega)).trans (hB1.block b hb)⟩;have HS2:Hid (StT tag ps w0 w2 n ws left):=HS.below hB2;have HR2:Hid (Free tag w0 w2 43 (some ad) k f):=HV.below hB2;have HQ2:Hid (Cells7 w2 w.heap.size 43 k f):=x6
  have HRUN:Hid ((Builtin.copy_ #[39,39] 3 #[sL w.heap.size k k,.slice (some ad) k k]).run Tryz.prog w1=.ok (goInt (k:Nat)) w2):=hrun;clear hown1 hgrow1 hB1 hcur hcsz hrun x1 x2 x3 x4 x5 x6 hB2 cur;go_wp2_with fail;rw[HRUN.out];clear HRUN;obtain⟨v,m,xs,hX⟩:=HS2.out.lx;have hc6:=hX.cell;have hmL:=hX.len;have hlt2:=HS2.lt;have HLX:Hid (LX tag w0 w2 n v m xs):=hX;have HOL:Hid (∀o,(w2.alloc o).ownsRow (w0.heap.size+1) 110 4 v m xs):=fun o=>hX.row.alloc o
  have hrow: ∀q,v.ownBlock=some q→w0.heap.size+1≤q:=fun q hq=>(hX.row.lt q hq).1
  have HFAR:Hid (some w0.heap.size≠v.ownBlock):=fun e=>by have:=hrow _ e.symm;omega
  have HC1:Hid (∀(j:Nat) (u:Value),[.slice (some ad) k k,sL w.heap.size k k,.slice none 0 0,.slice none 0 0][j]? =some u→(w2.alloc (.cells #[.slice (some ad) k k,sL w.heap.size k k,.slice none 0 0,.slice none 0 0] 110)).cell? (Addr.add (iA w2.heap.size 0) j)=some u):=fun j u hj=>by
   rw[Addr.add_lit,Nat.zero_add,World.cell?_alloc_at _ _ _ _ rfl];simpa using hj
  have HC2:Hid (∀u∈([.slice (some ad) k k,sL w.heap.size k k,.slice none 0 0,.slice none 0 0]:List Value),u.oneCell'=true):=List.forall_mem_cons.2 ⟨rfl,List.forall_mem_cons.2 ⟨rfl,List.forall_mem_cons.2 ⟨rfl,List.forall_mem_cons.2 ⟨rfl,fun u hu=>by cases hu⟩⟩⟩⟩;have HC3:Hid (m+1≤maxLen):=by show m+1≤maxLen;unfold maxLen;omega
  have HC4:Hid ((m+1)* 96≤140737488355328):=by show(m+1)* 96≤140737488355328;omega
  have HC5:Hid (∀o,w0.heap.size+1≤(w2.alloc o).heap.size):=fun o=>by simp;omega
  clear hX hrow;go_wp2_with(at_builtin;refine wpList_append_lies _ rfl _ _ 84 rfl (w0.heap.size+1) 110 i1 (.agg #[.slice none 0 0,.slice none 0 0,.slice none 0 0,.slice none 0 0]) 4 96 Tryz.underlying84 HLST.1 HLST.2.1 HLST.2.2.1 HLST.2.2.2 rfl (by decide) _ _ _ rfl (HOL.out _) (iA w2.heap.size 0) 1 1 [.slice (some ad) k k,sL w.heap.size k k,.slice none 0 0,.slice none 0 0] rfl rfl HC1.out HC2.out (by decide) HC3.out HC4.out (HC5.out _) (w2.heap.size+1) (by simp) ?_);intro g' cap' w3 hown3 hgrow3 hat3 _;have hbl: ∀b,b<w2.heap.size→some b≠v.ownBlock→w3.heap[b]? =w2.heap[b]? :=fun b h1 h2=>(hgrow3.block b (by simp;omega) h2).trans (Below.heap_alloc _ _ _ h1)
  have hq6:w3.cell? (iA w0.heap.size 6)=some v:=(World.cell?_of_block (a:=(iA w0.heap.size 6)) (hbl _ hlt2 HFAR.out)).trans hc6;have hf6:w3.frozen? (iA w0.heap.size 6)=false:=(World.frozen?_of_block (a:=(iA w0.heap.size 6)) (hbl _ hlt2 HFAR.out)).trans (HS2.froz 6);obtain⟨tag',hT,r1,r2⟩:=zD8 (w3:=w3) (m:=m) (by decide) HR2.out HQ2.out HTH.out hlt HNE.out (fun g hg=>hbl g hg.lt (fun e=>by
   obtain⟨cu,t1⟩:=zAk HLX.out.row e.symm;obtain⟨cu',t2,_⟩:=hg;exact absurd (zAg t1 t2) (by decide))) (show 0≠1 by decide) k k
  have HFIN:Hid (∃tag',StT tag' ps w0 (w3.setCell (iA w0.heap.size 6) (sL g' (m+1) cap')) (n+1) ws left):=⟨tag',HS2.put_lists hc6 HLX.row HLX.ok hmL ⟨HLX.vt,hgrow3.os,hgrow3.tape,hgrow3.output,Nat.le_trans (by simp) hgrow3.size,hbl,fun q hq=>by
   have:g'=q:=by simpa [Value.ownBlock] using hq
   subst this;rcases hat3 with h|h
   ·exact .inl h
   ·exact .inr (by omega)⟩ hown3 hT ⟨k,f,0,f,hk,by omega,r1,r2,Half.nil _ _ _ _ f,Half.nil _ _ _ _ f⟩⟩
  clear hown3 hgrow3 hbl hc6 hat3 hT r1 r2;go_wp2;go_end0;exact⟨rfl,HFIN.out⟩
theorem Tryz.infoOSt:(Tryz.prog.info? 178).map (fun i=>(i.size,i.bytes))=some (7,56):=by kernel_rfl
theorem Tryz.zeroOSt:(Tryz.prog.info? 178).map (fun i=>i.zero)=some (some (.agg #[iV 0,iV 0,iV 0,iV 0,iV 0,iV 0,iV 0])):=by kernel_rfl
theorem zH3(h:StT tag ps w0 w n ws left)(hn:n≤100000000)(p:Option Addr)(k:Nat)(f:Nat→Int)(hk:k≤1000000000)(hv:Free tag w0 w 178 p k f)(hp:p=none→k=0):
 Cl 79 #[iP w0.heap.size,.slice p k k] w fun e w'=>e=rV #[]∧(∃tag',StT tag' ps w0 w' (n+1) ws left)∧OpK w w'∧w'.cell? (iA w0.heap.size 5)=w.cell? (iA w0.heap.size 5):=by
 obtain⟨i0,hi,hz0,hz1,hz2⟩:=zAa Tryz.infoOSt Tryz.zeroOSt;obtain⟨i1,hj,hy0,hy1,hy2⟩:=zAa Tryz.infoList Tryz.zeroList;have HI7:Hid ((Tryz.prog.info? 178).map (·.size)=some 7):=by show Option.map _ _=_;rw[hi];simp[hz1]
 have HS:Hid (StT tag ps w0 w n ws left):=h;have HV:Hid (Free tag w0 w 178 p k f):=hv;have hlt:=h.lt;have HTH:Hid (tag w.heap.size=.own):=h.tup _ (Nat.le_refl _);have HNE:Hid (∀g,p=some (iA g 0)→0<k→g≠w.heap.size):=fun g e h0=>by
  rcases hv with h1|⟨g',h1,_,_,h4⟩
  ·omega
  ·rw[e]at h1;injection h1 with h1;injection h1 with h1;have:=h4.lt;omega
 clear h hv;have hb0:i0.bytes*k≤281474976710656:=by rw[hz2];omega
 have hb1:k≤maxLen:=by unfold maxLen;omega
 have HBND:Hid (i0.bytes*k≤281474976710656∧k≤maxLen∧Tryz.prog.info? 178=some i0∧i0.zero=some (.agg #[iV 0,iV 0,iV 0,iV 0,iV 0,iV 0,iV 0])∧i0.size=7):=⟨hb0,hb1,hi,hz0,hz1⟩;have HLST:Hid (Tryz.prog.info? 110=some i1∧i1.zero=some (.agg #[.slice none 0 0,.slice none 0 0,.slice none 0 0,.slice none 0 0])∧i1.size=4∧i1.bytes=96):=⟨hj,hy0,hy1,hy2⟩;clear hb0 hb1 hi hz0 hz1 hz2 hj hy0 hy1 hy2;rcases p with _|ad
 ·obtain rfl:=hp rfl;clear hp;go_enter Tryz.func79,Tryz.ntmps79;go_wp2_with(at_make;refine wpList_make_full _ rfl _ _ 108 rfl (w0.heap.size+1) 178 i0 _ 7 Tryz.underlying108 HBND.2.2.1 HBND.2.2.2.1 HBND.2.2.2.2 _ _ _ _ 0 rfl rfl rfl rfl HBND.1 HBND.2.1 hlt ?_);intro w1 hown1 hgrow1;have hB1:Bw w w1:=⟨hgrow1.os,hgrow1.tape,hgrow1.output,hgrow1.size,fun b hb=>hgrow1.block b hb (by simp)⟩;obtain⟨cur,hcur,hcsz⟩:=zD9 hown1;obtain⟨w2,hrun,x1,x2,x3,x4,x5,x6⟩:=copy7 (c:=0) (c':=0) (f:=f) Tryz.underlying108 HI7.out (HV.out.below hB1).cells hcur hcsz 3;have hB2:Bw w w2:=⟨x1.trans hB1.os,x2.trans hB1.tape,x3.trans hB1.output,by rw[x4];exact hB1.size,fun b hb=>(x5 b (by omega)).trans (hB1.block b hb)⟩;have HS2:Hid (StT tag ps w0 w2 n ws left):=HS.below hB2
  have HO2:Hid (OpK w w2∧w2.cell? (iA w0.heap.size 5)=w.cell? (iA w0.heap.size 5)):=⟨OpK.below hB2,World.cell?_of_block (a:=(iA w0.heap.size 5)) (hB2.block _ (by omega))⟩;have HR2:Hid (Free tag w0 w2 178 none 0 f):=HV.below hB2;have HQ2:Hid (Cells7 w2 w.heap.size 178 0 f):=x6;have HRUN:Hid ((Builtin.copy_ #[108,108] 3 #[sL w.heap.size 0 0,.slice none 0 0]).run Tryz.prog w1=.ok (goInt (0:Nat)) w2):=hrun;clear hown1 hgrow1 hB1 hcur hcsz hrun x1 x2 x3 x4 x5 x6 hB2 cur;go_wp2_with fail;rw[HRUN.out];clear HRUN;obtain⟨v,m,xs,hX⟩:=HS2.out.lx;have hc6:=hX.cell;have hmL:=hX.len;have hlt2:=HS2.lt;have HLX:Hid (LX tag w0 w2 n v m xs):=hX;have HOL:Hid (∀o,(w2.alloc o).ownsRow (w0.heap.size+1) 110 4 v m xs):=fun o=>hX.row.alloc o
  have hrow: ∀q,v.ownBlock=some q→w0.heap.size+1≤q:=fun q hq=>(hX.row.lt q hq).1
  have HFAR:Hid (some w0.heap.size≠v.ownBlock):=fun e=>by have:=hrow _ e.symm;omega
  have HC1:Hid (∀(j:Nat) (u:Value),[.slice none 0 0,.slice none 0 0,.slice none 0 0,sL w.heap.size 0 0][j]? =some u→(w2.alloc (.cells #[.slice none 0 0,.slice none 0 0,.slice none 0 0,sL w.heap.size 0 0] 110)).cell? (Addr.add (iA w2.heap.size 0) j)=some u):=fun j u hj=>by
   rw[Addr.add_lit,Nat.zero_add,World.cell?_alloc_at _ _ _ _ rfl];simpa using hj
  have HC2:Hid (∀u∈([.slice none 0 0,.slice none 0 0,.slice none 0 0,sL w.heap.size 0 0]:List Value),u.oneCell'=true):=List.forall_mem_cons.2 ⟨rfl,List.forall_mem_cons.2 ⟨rfl,List.forall_mem_cons.2 ⟨rfl,List.forall_mem_cons.2 ⟨rfl,fun u hu=>by cases hu⟩⟩⟩⟩;have HC3:Hid (m+1≤maxLen):=by show m+1≤maxLen;unfold maxLen;omega
  have HC4:Hid ((m+1)* 96≤140737488355328):=by show(m+1)* 96≤140737488355328;omega
  have HC5:Hid (∀o,w0.heap.size+1≤(w2.alloc o).heap.size):=fun o=>by simp;omega
  clear hX hrow;go_wp2_with(at_builtin;refine wpList_append_lies _ rfl _ _ 84 rfl (w0.heap.size+1) 110 i1 (.agg #[.slice none 0 0,.slice none 0 0,.slice none 0 0,.slice none 0 0]) 4 96 Tryz.underlying84 HLST.1 HLST.2.1 HLST.2.2.1 HLST.2.2.2 rfl (by decide) _ _ _ rfl (HOL.out _) (iA w2.heap.size 0) 1 1 [.slice none 0 0,.slice none 0 0,.slice none 0 0,sL w.heap.size 0 0] rfl rfl HC1.out HC2.out (by decide) HC3.out HC4.out (HC5.out _) (w2.heap.size+1) (by simp) ?_);intro g' cap' w3 hown3 hgrow3 hat3 _;have hbl: ∀b,b<w2.heap.size→some b≠v.ownBlock→w3.heap[b]? =w2.heap[b]? :=fun b h1 h2=>(hgrow3.block b (by simp;omega) h2).trans (Below.heap_alloc _ _ _ h1)
  have hq6:w3.cell? (iA w0.heap.size 6)=some v:=(World.cell?_of_block (a:=(iA w0.heap.size 6)) (hbl _ hlt2 HFAR.out)).trans hc6;have hf6:w3.frozen? (iA w0.heap.size 6)=false:=(World.frozen?_of_block (a:=(iA w0.heap.size 6)) (hbl _ hlt2 HFAR.out)).trans (HS2.froz 6);obtain⟨tag',hT,r1,r2⟩:=zD8 (w3:=w3) (m:=m) (by decide) HR2.out HQ2.out HTH.out hlt HNE.out (fun g hg=>hbl g hg.lt (fun e=>by
   obtain⟨cu,t1⟩:=zAk HLX.out.row e.symm;obtain⟨cu',t2,_⟩:=hg;exact absurd (zAg t1 t2) (by decide))) (show 2≠3 by decide) 0 0
  have HO3:Hid (OpK w (w3.setCell (iA w0.heap.size 6) (sL g' (m+1) cap'))∧(w3.setCell (iA w0.heap.size 6) (sL g' (m+1) cap')).cell? (iA w0.heap.size 5)=w.cell? (iA w0.heap.size 5)):=by
   refine⟨HO2.1.trans fun k cur hb=>?_,(zBy _ _ _ _ _ (by decide)).trans ((World.cell?_of_block (a:=(iA w0.heap.size 5)) (hbl _ hlt2 HFAR.out)).trans HO2.2)⟩;have hlk:k<w2.heap.size:=(Array.getElem?_eq_some_iff.1 hb).1;have hne:k≠w0.heap.size:=fun e=>by
    obtain⟨c,b1⟩:=HS2.out.blk;rw[e]at hb;exact absurd (zAg b1 hb) (by decide)
   rw[Below.heap_setCell _ _ _ _ hne,hbl k hlk (fun e=>by
    obtain⟨c,b1⟩:=zAk HLX.out.row e.symm;exact absurd (zAg b1 hb) (by decide))]
   exact hb
  have HFIN:Hid (∃tag',StT tag' ps w0 (w3.setCell (iA w0.heap.size 6) (sL g' (m+1) cap')) (n+1) ws left):=⟨tag',HS2.put_lists hc6 HLX.row HLX.ok hmL ⟨HLX.vt,hgrow3.os,hgrow3.tape,hgrow3.output,Nat.le_trans (by simp) hgrow3.size,hbl,fun q hq=>by
   have:g'=q:=by simpa [Value.ownBlock] using hq
   subst this;rcases hat3 with h|h
   ·exact .inl h
   ·exact .inr (by omega)⟩ hown3 hT ⟨0,f,0,f,by omega,hk,Half.nil _ _ _ _ f,Half.nil _ _ _ _ f,r1,r2⟩⟩
  clear hown3 hgrow3 hbl hc6 hat3 hT r1 r2;go_wp2;go_end0;exact⟨rfl,HFIN.out,HO3.out⟩
 ·clear hp;go_enter Tryz.func79,Tryz.ntmps79;go_wp2_with(at_make;refine wpList_make_full _ rfl _ _ 108 rfl (w0.heap.size+1) 178 i0 _ 7 Tryz.underlying108 HBND.2.2.1 HBND.2.2.2.1 HBND.2.2.2.2 _ _ _ _ k rfl rfl rfl rfl HBND.1 HBND.2.1 hlt ?_);intro w1 hown1 hgrow1;have hB1:Bw w w1:=⟨hgrow1.os,hgrow1.tape,hgrow1.output,hgrow1.size,fun b hb=>hgrow1.block b hb (by simp)⟩;obtain⟨cur,hcur,hcsz⟩:=zD9 hown1;obtain⟨w2,hrun,x1,x2,x3,x4,x5,x6⟩:=copy7 (c:=k) (c':=k) (f:=f) Tryz.underlying108 HI7.out (HV.out.below hB1).cells hcur hcsz 3;have hB2:Bw w w2:=⟨x1.trans hB1.os,x2.trans hB1.tape,x3.trans hB1.output,by rw[x4];exact hB1.size,fun b hb=>(x5 b (by omega)).trans (hB1.block b hb)⟩;have HS2:Hid (StT tag ps w0 w2 n ws left):=HS.below hB2
  have HO2:Hid (OpK w w2∧w2.cell? (iA w0.heap.size 5)=w.cell? (iA w0.heap.size 5)):=⟨OpK.below hB2,World.cell?_of_block (a:=(iA w0.heap.size 5)) (hB2.block _ (by omega))⟩;have HR2:Hid (Free tag w0 w2 178 (some ad) k f):=HV.below hB2;have HQ2:Hid (Cells7 w2 w.heap.size 178 k f):=x6;have HRUN:Hid ((Builtin.copy_ #[108,108] 3 #[sL w.heap.size k k,.slice (some ad) k k]).run Tryz.prog w1=.ok (goInt (k:Nat)) w2):=hrun;clear hown1 hgrow1 hB1 hcur hcsz hrun x1 x2 x3 x4 x5 x6 hB2 cur;go_wp2_with fail;rw[HRUN.out];clear HRUN;obtain⟨v,m,xs,hX⟩:=HS2.out.lx;have hc6:=hX.cell;have hmL:=hX.len;have hlt2:=HS2.lt;have HLX:Hid (LX tag w0 w2 n v m xs):=hX;have HOL:Hid (∀o,(w2.alloc o).ownsRow (w0.heap.size+1) 110 4 v m xs):=fun o=>hX.row.alloc o
  have hrow: ∀q,v.ownBlock=some q→w0.heap.size+1≤q:=fun q hq=>(hX.row.lt q hq).1
  have HFAR:Hid (some w0.heap.size≠v.ownBlock):=fun e=>by have:=hrow _ e.symm;omega
  have HC1:Hid (∀(j:Nat) (u:Value),[.slice none 0 0,.slice none 0 0,.slice (some ad) k k,sL w.heap.size k k][j]? =some u→(w2.alloc (.cells #[.slice none 0 0,.slice none 0 0,.slice (some ad) k k,sL w.heap.size k k] 110)).cell? (Addr.add (iA w2.heap.size 0) j)=some u):=fun j u hj=>by
   rw[Addr.add_lit,Nat.zero_add,World.cell?_alloc_at _ _ _ _ rfl];simpa using hj
  have HC2:Hid (∀u∈([.slice none 0 0,.slice none 0 0,.slice (some ad) k k,sL w.heap.size k k]:List Value),u.oneCell'=true):=List.forall_mem_cons.2 ⟨rfl,List.forall_mem_cons.2 ⟨rfl,List.forall_mem_cons.2 ⟨rfl,List.forall_mem_cons.2 ⟨rfl,fun u hu=>by cases hu⟩⟩⟩⟩;have HC3:Hid (m+1≤maxLen):=by show m+1≤maxLen;unfold maxLen;omega
  have HC4:Hid ((m+1)* 96≤140737488355328):=by show(m+1)* 96≤140737488355328;omega
  have HC5:Hid (∀o,w0.heap.size+1≤(w2.alloc o).heap.size):=fun o=>by simp;omega
  clear hX hrow;go_wp2_with(at_builtin;refine wpList_append_lies _ rfl _ _ 84 rfl (w0.heap.size+1) 110 i1 (.agg #[.slice none 0 0,.slice none 0 0,.slice none 0 0,.slice none 0 0]) 4 96 Tryz.underlying84 HLST.1 HLST.2.1 HLST.2.2.1 HLST.2.2.2 rfl (by decide) _ _ _ rfl (HOL.out _) (iA w2.heap.size 0) 1 1 [.slice none 0 0,.slice none 0 0,.slice (some ad) k k,sL w.heap.size k k] rfl rfl HC1.out HC2.out (by decide) HC3.out HC4.out (HC5.out _) (w2.heap.size+1) (by simp) ?_);intro g' cap' w3 hown3 hgrow3 hat3 _;have hbl: ∀b,b<w2.heap.size→some b≠v.ownBlock→w3.heap[b]? =w2.heap[b]? :=fun b h1 h2=>(hgrow3.block b (by simp;omega) h2).trans (Below.heap_alloc _ _ _ h1)
  have hq6:w3.cell? (iA w0.heap.size 6)=some v:=(World.cell?_of_block (a:=(iA w0.heap.size 6)) (hbl _ hlt2 HFAR.out)).trans hc6;have hf6:w3.frozen? (iA w0.heap.size 6)=false:=(World.frozen?_of_block (a:=(iA w0.heap.size 6)) (hbl _ hlt2 HFAR.out)).trans (HS2.froz 6);obtain⟨tag',hT,r1,r2⟩:=zD8 (w3:=w3) (m:=m) (by decide) HR2.out HQ2.out HTH.out hlt HNE.out (fun g hg=>hbl g hg.lt (fun e=>by
   obtain⟨cu,t1⟩:=zAk HLX.out.row e.symm;obtain⟨cu',t2,_⟩:=hg;exact absurd (zAg t1 t2) (by decide))) (show 2≠3 by decide) k k
  have HO3:Hid (OpK w (w3.setCell (iA w0.heap.size 6) (sL g' (m+1) cap'))∧(w3.setCell (iA w0.heap.size 6) (sL g' (m+1) cap')).cell? (iA w0.heap.size 5)=w.cell? (iA w0.heap.size 5)):=by
   refine⟨HO2.1.trans fun k cur hb=>?_,(zBy _ _ _ _ _ (by decide)).trans ((World.cell?_of_block (a:=(iA w0.heap.size 5)) (hbl _ hlt2 HFAR.out)).trans HO2.2)⟩;have hlk:k<w2.heap.size:=(Array.getElem?_eq_some_iff.1 hb).1;have hne:k≠w0.heap.size:=fun e=>by
    obtain⟨c,b1⟩:=HS2.out.blk;rw[e]at hb;exact absurd (zAg b1 hb) (by decide)
   rw[Below.heap_setCell _ _ _ _ hne,hbl k hlk (fun e=>by
    obtain⟨c,b1⟩:=zAk HLX.out.row e.symm;exact absurd (zAg b1 hb) (by decide))]
   exact hb
  have HFIN:Hid (∃tag',StT tag' ps w0 (w3.setCell (iA w0.heap.size 6) (sL g' (m+1) cap')) (n+1) ws left):=⟨tag',HS2.put_lists hc6 HLX.row HLX.ok hmL ⟨HLX.vt,hgrow3.os,hgrow3.tape,hgrow3.output,Nat.le_trans (by simp) hgrow3.size,hbl,fun q hq=>by
   have:g'=q:=by simpa [Value.ownBlock] using hq
   subst this;rcases hat3 with h|h
   ·exact .inl h
   ·exact .inr (by omega)⟩ hown3 hT ⟨0,f,k,f,by omega,hk,Half.nil _ _ _ _ f,Half.nil _ _ _ _ f,r1,r2⟩⟩
  clear hown3 hgrow3 hbl hc6 hat3 hT r1 r2;go_wp2;go_end0;exact⟨rfl,HFIN.out,HO3.out⟩
end Go.Proofs.YtilbfpnpkkkpgaaGreatDoor
