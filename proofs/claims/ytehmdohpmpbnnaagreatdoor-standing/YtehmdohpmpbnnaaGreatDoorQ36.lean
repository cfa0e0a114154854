import Derived.Test.YtehmdohpmpbnnaaGreatDoorQ00
import Derived.Test.YtehmdohpmpbnnaaGreatDoorQ08
import Derived.Test.YtehmdohpmpbnnaaGreatDoorQ24
import Derived.Test.YtehmdohpmpbnnaaGreatDoorQ33
import Derived.Laws.AppendOwnNone
import Derived.Deep.RegionHeld3
import Derived.LaidEqlPtr
set_option linter.all false
set_option maxRecDepth 100000
set_option maxHeartbeats 8000000
namespace Go.Proofs.YtehmdohpmpbnnaaGreatDoor
variable{k:Nat→Int}{w0:World}
open Go.Proofs.Tryz
open Go.Extern Go.Maps Go.RowKit
theorem Tryz.infoIntC:(prog.info? 3).map (fun i=>(i.size,i.bytes))=some (1,8):=by kernel_rfl
theorem Tryz.zeroIntC:(prog.info? 3).map (fun i=>i.zero)=some (sI 0):=by kernel_rfl
def jV(w w':World)(nb:Nat)(a b c:Int)(ds:List Int):Prop:= ∃eb g,w.heap.size≤nb∧w'.heap[nb]? =some (.cells #[iP eb,iP g.dZ] 49 (0,0))∧dw (fun k=>w.heap.size≤k∧k≠nb) (w.heap.size+1) w' eb (dG a b c ds) g mX∧Holds (dG a b c ds) mX [] []∧bf.qd (dG a b c ds)∧Grow w w'
theorem jV.mk{w w3 w4:World}{nb d o ed bb bm sb sm:Nat}{a b c:Int}{ds:List Int}{jL:Value}(hg:Grow w w3)(hs:w.heap.size+1≤w3.heap.size)(hl:w3.ownsRow (w.heap.size+1) 3 1 jL ds.length (ds.map (iV)))
 (hz:(w3.alloc (.cells #[jL,iV 0] 69)).heap.size≤nb∧w4.heap[nb]? =some (engNew a b c (iP w3.heap.size) d o ed bb sb)∧bZ (w3.alloc (.cells #[jL,iV 0] 69)) w4 d o ed bb bm sb sm):
 jV w (w4.alloc (.cells #[iP nb,iP w3.heap.size] 49)) w4.heap.size a b c ds:=by
 obtain⟨D,E,A⟩:=hz;have K:w3.heap.size+1=(w3.alloc (.cells #[jL,iV 0] 69)).heap.size:=(World.size_alloc _ _).symm;have L:=Below.size A.grow;obtain⟨H,I,J⟩:=bZ.rep (F:=fun k=>w.heap.size≤k) (ds:=ds) (base:=w.heap.size+1) A E (heap_alloc_new w3 _) (hl.alloc _) (by omega) D (fun k hk=>by show w.heap.size≤k;omega) (by show w.heap.size≤w3.heap.size;omega) (fun q hq=>by
  show w.heap.size≤q;rcases hl.2 with⟨rfl,_⟩|⟨g,B,C,rfl,G,_⟩
  ·simp[Value.ownBlock]at hq
  simp[Value.ownBlock]at hq;omega)
 refine⟨nb,newGh d o ed bb bm sb sm w3.heap.size jL,by omega,heap_alloc_new w4 _,H.shrink (fu (Below.refl _ _) _) (Nat.le_refl _) (by simp),I,J,((hg.alloc _).trans A.grow).alloc _⟩
theorem zD5(a b c:Int)(dv:Value)(base:Nat)(ds:List Int)(w:World)(hown:w.ownsRow base 3 1 dv ds.length (ds.map (iV)))(hm:ds.length≤1000000000)(hc:dV a b c=true):
 Cl 16 #[.agg #[iV a,iV b,iV c],dv] w fun en w'=> ∃nb,en=rV #[iP nb,iV 0]∧Hd (jV w w' nb a b c ds):=by
 have n:Hd (∀(W:World) (v:Value),Cl 27 #[.agg #[iV a,iV b,iV c],.iface 47 v] W fun en w'=> ∃nb d o ed bb bm sb sm,en=rV #[iP nb,.nilIface]∧Hd (W.heap.size≤nb∧w'.heap[nb]? =some (engNew a b c v d o ed bb sb)∧bZ W w' d o ed bb bm sb sm)):=fun W v=>zJu W a b c v hc
 obtain⟨N,hi,i,l,m⟩:=qh Tryz.infoIntC Tryz.zeroIntC;have C:Hd (prog.info? 3=some N∧N.zero=sI 0∧N.size=1∧N.bytes=8):=⟨hi,i,l,m⟩;have HX:Hd (∀u∈ds.map (iV),u.oneCell'=true):=fun u hu=>by
  obtain⟨x,_,rfl⟩:=List.mem_map.1 hu;rfl
 have Z:=fun g s=>World.ownsRow.cells hown (g:=g) s
 have K:=hown.1;have L:=hown.lt;have D:Hd (((w.alloc (.cells #[iV a,iV b,iV c] 43)).alloc (.cells #[] 3)).ownsRow (w.heap.size+1) 3 1 (sL (w.heap.size+1) 0 0) 0 []):=by
  have:=World.ownsRow_made (base:=w.heap.size+1) (e:=3) (size:=1) (w.alloc (.cells #[iV a,iV b,iV c] 43)) #[] 0 (by simp) (by unfold maxLen;omega) (by simp);rw[World.size_alloc]at this;exact this
 rcases hown.2 with⟨rfl,M⟩|⟨g,J,X,rfl,s,hh,A0,A1,t,A2⟩
 ·have G:Hd (ds= []):=by
   have:ds.length=0:=by simpa using M
   exact List.length_eq_zero_iff.1 this
  go_enter func16,ntmps16;go_wp2_with fail;refine(n _ _).mono ?_;rintro en w4 ⟨nb,d,o,ed,bb,bm,sb,sm,rfl,V⟩;go_wp2_with fail;refine(kR _).mono ?_;rintro e w5 ⟨rfl,rfl⟩;go_wp2;go_ret2;obtain rfl:=G;have y:((w.alloc (.cells #[iV a,iV b,iV c] 43)).alloc (.cells #[] 3)).heap.size=w.heap.size+1+1:=by simp
  have k:=fun hz=>jV.mk (w:=w) (w3:=(w.alloc (.cells #[iV a,iV b,iV c] 43)).alloc (.cells #[] 3)) (w4:=w5) (nb:=nb) (d:=d) (o:=o) (ed:=ed) (bb:=bb) (bm:=bm) (sb:=sb) (sm:=sm) (a:=a) (b:=b) (c:=c) (ds:=[]) (jL:=sL (w.heap.size+1) 0 0) (((Grow.refl w).alloc _).alloc _) (by rw[y];omega) D hz
  rw[y]at k;exact⟨_,rfl,k V⟩
 have R:Hd (∀(j:Nat) (u:Value),(ds.map (iV))[j]? =some u→((w.alloc (.cells #[iV a,iV b,iV c] 43)).alloc (.cells #[] 3)).cell? (Addr.add (iA g 0) j)=some u):=fun j u hj=>by
  have p:=Z g rfl j u hj;have h2:=(L g rfl).2;rw[Addr.add_lit]at p⊢;rw[World.cell?_alloc_lt _ _ _ (by simp;omega),World.cell?_alloc_lt _ _ _ h2];exact p
 have S:Hd (0+ds.length≤maxLen):=by show 0+ds.length≤maxLen;unfold maxLen;omega
 have T:Hd ((0+ds.length)* 8≤140737488355328):=by show(0+ds.length)* 8≤140737488355328;omega
 have U:Hd (w.heap.size+1≤((w.alloc (.cells #[iV a,iV b,iV c] 43)).alloc (.cells #[] 3)).heap.size):=by
  show w.heap.size+1≤((w.alloc _).alloc _).heap.size;simp
 have F:=hid K;go_enter func16,ntmps16;go_wp2_with(at_builtin;refine wpList_append_own _ rfl _ _ 32 rfl (w.heap.size+1) 3 N (iV 0) 1 8 underlying32 C.1 C.2.1 C.2.2.1 C.2.2.2 rfl (by decide) _ _ _ rfl D (iA g 0) ds.length J (ds.map (iV)) rfl F R HX S T U ?_);intro v' w3 B A _;have O:=hid ((fu (fu (Below.refl _ _) _) _).grown A (by simp;omega) (fun q hq=>by simp[Value.ownBlock]at hq;omega));have f:=A.size;have I:Hd (w.heap.size+1≤w3.heap.size):=by show _≤_;simp at f;omega
 have E:∀j u,(#[iV a,iV b,iV c]:Array Value)[j]? =some u→∀o,(w3.alloc o).cell? (iA w.heap.size j)=some u:=fun j u hj o=>by
  have Y:=A.block w.heap.size (by simp;omega) (by simp[Value.ownBlock]);rw[World.cell?_alloc_lt _ _ _ (by have:=I.o;show w.heap.size<w3.heap.size;omega),World.cell?_of_block (a:=(iA w.heap.size j)) Y,World.cell?_alloc_lt _ _ _ (by simp)];exact nZ w _ _ j u hj
 have q0:=E 0 _ rfl;have q1:=E 1 _ rfl;have q2:=E 2 _ rfl;have H:Hd (w3.ownsRow (w.heap.size+1) 3 1 v' ds.length (ds.map (iV))):=by
  first
   |exact B
   |simpa only[Nat.zero_add,List.nil_append] using B
 obtain⟨p',z,cap',rfl⟩:∃p' z cap',v'=.slice p' z cap':=by
  rcases B.2 with⟨rfl,_⟩|⟨g,J,X,h,_⟩
  ·exact⟨_,_,_,rfl⟩
  exact⟨_,_,_,h⟩
 go_wp2_with fail;refine(n _ _).mono ?_;rintro en w4 ⟨nb,d,o,ed,bb,bm,sb,sm,rfl,V⟩;go_wp2_with fail;refine(kR _).mono ?_;rintro e w5 ⟨rfl,rfl⟩;go_wp2;go_ret2;exact⟨_,rfl,jV.mk O I H V⟩
theorem zKg(a b c:Int)(dv:Value)(base:Nat)(ds:List Int)(w:World){ad:Nat→Addr}{st:Nat→ByteArray}(hE:lq w ad st)(hown:w.ownsRow base 3 1 dv ds.length (ds.map (iV)))(hm:ds.length≤1000000000)(hc:dV a b c=false):
 Cl 16 #[.agg #[iV a,iV b,iV c],dv] w fun en w'=>en=rV #[.pointer none,iV 1]∧Hd (Grow w w'):=by
 have n:Hd (∀(W:World) (v:Value),Grow w W→Cl 27 #[.agg #[iV a,iV b,iV c],v] W fun en w'=>en=rV #[.pointer none,.iface 309 (.pointer (some (ad 0)))]∧Hd (Grow w w')):=fun W v hW=>(zJv W a b c v (hE.below hW) hc).mono (by
  rintro en w' ⟨rfl,f⟩;exact⟨rfl,hW.trans f.out⟩)
 have p:Hd (∀W:World,Grow w W→Cl 28 #[.iface 309 (.pointer (some (ad 0)))] W fun e w'=>e=rV #[iV 1,iV (-1)]∧Hd (Grow w w')):=fun W hW=>(zBj ad st 0 (by omega) W (hE.below hW)).mono (by
  rintro en w' ⟨rfl,f⟩;exact⟨rfl,hW.trans f⟩)
 obtain⟨M,hi,i,k,l⟩:=qh Tryz.infoIntC Tryz.zeroIntC;have B:Hd (prog.info? 3=some M∧M.zero=sI 0∧M.size=1∧M.bytes=8):=⟨hi,i,k,l⟩;have HX:Hd (∀u∈ds.map (iV),u.oneCell'=true):=fun u hu=>by
  obtain⟨x,_,rfl⟩:=List.mem_map.1 hu;rfl
 have K:=fun g t=>World.ownsRow.cells hown (g:=g) t
 have C:=hown.1;have D:=hown.lt;have E:Hd (((w.alloc (.cells #[iV a,iV b,iV c] 43)).alloc (.cells #[] 3)).ownsRow (w.heap.size+1) 3 1 (sL (w.heap.size+1) 0 0) 0 []):=by
  have:=World.ownsRow_made (base:=w.heap.size+1) (e:=3) (size:=1) (w.alloc (.cells #[iV a,iV b,iV c] 43)) #[] 0 (by simp) (by unfold maxLen;omega) (by simp);rw[World.size_alloc]at this;exact this
 rcases hown.2 with⟨rfl,L⟩|⟨g,J,Y,rfl,t,hh,A0,A1,y,A2⟩
 ·clear hown K L C D;go_enter func16,ntmps16;go_wp2_with fail;refine(n _ _ ((((Grow.refl w).alloc _).alloc _).alloc _)).mono ?_;rintro en m ⟨rfl,X⟩;go_wp2_with fail;refine(p m X).mono ?_;rintro e w5 ⟨rfl,F⟩;go_wp2;go_ret2;exact⟨rfl,F⟩
 have R:Hd (∀(j:Nat) (u:Value),(ds.map (iV))[j]? =some u→((w.alloc (.cells #[iV a,iV b,iV c] 43)).alloc (.cells #[] 3)).cell? (Addr.add (iA g 0) j)=some u):=fun j u hj=>by
  have s:=K g rfl j u hj;have h2:=(D g rfl).2;rw[Addr.add_lit]at s⊢;rw[World.cell?_alloc_lt _ _ _ (by simp;omega),World.cell?_alloc_lt _ _ _ h2];exact s
 have S:Hd (0+ds.length≤maxLen):=by show 0+ds.length≤maxLen;unfold maxLen;omega
 have T:Hd ((0+ds.length)* 8≤140737488355328):=by show(0+ds.length)* 8≤140737488355328;omega
 have U:Hd (w.heap.size+1≤((w.alloc (.cells #[iV a,iV b,iV c] 43)).alloc (.cells #[] 3)).heap.size):=by
  show w.heap.size+1≤((w.alloc _).alloc _).heap.size;simp
 have I:Hd ((ds.map (iV)).length=ds.length*1):=C;go_enter func16,ntmps16;go_wp2_with(at_builtin;refine wpList_append_own _ rfl _ _ 32 rfl (w.heap.size+1) 3 M (iV 0) 1 8 underlying32 B.1 B.2.1 B.2.2.1 B.2.2.2 rfl (by decide) _ _ _ rfl E (iA g 0) ds.length J (ds.map (iV)) rfl I R HX S T U ?_);intro v' N H A _;have O:Hd (Grow w N):=(fu (fu (Below.refl _ _) _) _).grown A (by simp;omega) (fun q hq=>by simp[Value.ownBlock]at hq;omega);have d:=A.size;have V:Hd (w.heap.size+1≤N.heap.size):=by show _≤_;simp at d;omega
 have G:∀j u,(#[iV a,iV b,iV c]:Array Value)[j]? =some u→∀o,(N.alloc o).cell? (iA w.heap.size j)=some u:=fun j u hj o=>by
  have Z:=A.block w.heap.size (by simp;omega) (by simp[Value.ownBlock]);rw[World.cell?_alloc_lt _ _ _ (by have:=V.o;show w.heap.size<N.heap.size;omega),World.cell?_of_block (a:=(iA w.heap.size j)) Z,World.cell?_alloc_lt _ _ _ (by simp)];exact nZ w _ _ j u hj
 have q0:=G 0 _ rfl;have q1:=G 1 _ rfl;have q2:=G 2 _ rfl;obtain⟨p',z,cap',rfl⟩:∃p' z cap',v'=.slice p' z cap':=by
  rcases H.2 with⟨rfl,_⟩|⟨g,J,Y,h,_⟩
  ·exact⟨_,_,_,rfl⟩
  exact⟨_,_,_,h⟩
 go_wp2_with fail;refine(n _ _ (O.alloc _)).mono ?_;rintro en m ⟨rfl,X⟩;go_wp2_with fail;refine(p m X).mono ?_;rintro e w5 ⟨rfl,F⟩;go_wp2;go_ret2;exact⟨rfl,F⟩
section
variable {pr:Nat→Option (Array Value×TypeId)} {base:Nat} {w w':World} {ab lm em n:Nat} {q p:Nat} {o o' x:Ord}
theorem Tryz.sizeOrdA:(prog.info? 202).map (fun i=>i.size)=some 13:=by kernel_rfl
theorem zKh(n a c:Int):Cl 118 #[iV n,iV a,iV c] w fun en w'=> ∃r,en=rB r∧Hd (r=bf.rf n a c)∧w'=w:=by
 refine(oF n a c).mono ?_;rintro en w' ⟨rfl,rfl⟩;exact⟨_,rfl,rfl,rfl⟩
structure TrW(pr:Nat→Option (Array Value×TypeId))(base:Nat)(w0:World)(ab lm em n q p rb:Nat)(o x:Ord)(k:Nat→Int)(X:World):Prop where
 ag:AG pr base X ab lm em n
 oq:OA X q 0 o
 op:OA X p 0 x
 rb:RB X rb k
 low:Below base w0 X
theorem TrW.below{X Y:World}{rb:Nat}(h:TrW pr base w0 ab lm em n q p rb o x k X)(hb:Below X.heap.size X Y):TrW pr base w0 ab lm em n q p rb o x k Y:=⟨h.ag.below hb,h.oq.below hb,h.op.below hb,h.rb.below hb,h.low.trans (hb.mono h.ag.lw)⟩
theorem TrW.same{X Y:World}{rb:Nat}(h:TrW pr base w0 ab lm em n q p rb o x k X)(hs:Same X Y):TrW pr base w0 ab lm em n q p rb o x k Y:=⟨h.ag.same hs,h.oq.same hs,h.op.same hs,h.rb.same hs,h.low.trans hs.low⟩
theorem zKi(k:Nat→Int)(hkk:KOk k)(h:AG pr base w ab lm em n)(hn:n≤100000000)(hO:OA w q 0 o)(hq:base≤q)(hk:qK o):
 Cl 212 #[iP ab,iP q,bM (k 0) (k 1) (k 2) (k 3) (k 4) (k 5) (k 6)] w fun en w'=> ∃rb,en=rB rb∧AG pr base w' ab lm em (n+2)∧Below base w w':=by
 have M:Bw w (w.alloc (o7 k)):=(Below.refl w.heap.size w).alloc (Nat.le_refl _) _;have v:RB (w.alloc (o7 k)) w.heap.size k:=⟨heap_alloc_new w _⟩;have K:Hd (base≤q∧qK o∧KOk k∧n≤100000000):=⟨hq,hk,hkk,hn⟩;have H:Hd (AG pr base (w.alloc (o7 k)) ab lm em n∧OA (w.alloc (o7 k)) q 0 o∧RB (w.alloc (o7 k)) w.heap.size k∧Below base w (w.alloc (o7 k))):=⟨h.below M,hO.below M,v,M.mono h.lw⟩;go_enter func212,ntmps212;go_wp2_with fail;generalize w.alloc (o7 k)=W at *;generalize w.heap.size=rb at *;have a0:=H.1.c0;have y3:cI W rb 3 (k 3):=H.2.2.1.cell 3;have l:Hd (aD (k 3)):=by obtain⟨q1,q2⟩:=K.2.2.1 3;exact⟨by omega,by omega⟩
 have u:(∃p x,base≤p∧OA W.drew p 0 x∧qK x∧(Instr.lookup 89 (.map (some lm)) (iV (k 3)) true).run prog W.drew=.ok (.tuple #[iP p,.bool true]) W.drew)∨
  (Instr.lookup 89 (.map (some lm)) (iV (k 3)) true).run prog W.drew=.ok (.tuple #[.pointer none,.bool false]) W.drew:=by
  obtain⟨L,E,h⟩:=H.o.1.same (Same.refl W).drew;exact h.lookL (k 3) l.out
 rcases u with⟨p,x,hp,hx,A0,hl⟩|hl
 ·have F:Hd (TrW pr base w ab lm em n q p rb o x k W.drew):=⟨H.1.same (Same.refl W).drew,H.2.1.drew,hx,H.2.2.1.same (Same.refl W).drew,H.2.2.2.trans (Same.refl W).drew.low⟩;have D:Hd (base≤p∧qK x):=⟨hp,A0⟩;go_region_held3(fun X=>X.cell? (iA ab 0)=some (.map (some lm))∧X.cell? (iA rb 3)=sI (k 3)) (go_keep) (fail);generalize W.drew=V at *;have G:Hd (∀Y,TrW pr base w ab lm em n q p rb o x k Y→∃rb,Ending.returned (.bool false)=rB rb∧AG pr base Y ab lm em (n+2)∧Below base w Y):=fun Y hY=>⟨_,rfl,hY.ag.more (by omega),hY.low⟩
  have x2:cI V q 2 o.typ:=F.oq.cell 2;have A1:cI V q 11 o.bg:=F.oq.cell 11;have S:=fun W=>qT (k 0) (k 1) (k 2) (k 3) (k 4) (k 5) (k 6) 3 0 o.id x.id x.bn (k 5) 0 W
  have A4:=Tryz.jB;generalize (!(k 0 == 3 && k 1 == 0 && k 2 == o.id && k 3 == x.id && k 4 == x.bn && k 5 == k 5 && k 6 == 0))=c at S;by_cases N:p=q
  ·subst N;obtain⟨j,t,R⟩:=Option.map_eq_some_iff.1 Tryz.sizeOrdA;have s:=run_eql_ptr_same (P:=prog) V (iA p 0) underlying200 t;go_wp2;go_ret;exact G.o _ F.o
  have s:(binOp .eql 200 (iP p) (iP q)).run prog V=.ok (.bool false) V:=by
   obtain⟨j,t,R⟩:=Option.map_eq_some_iff.1 Tryz.sizeOrdA;exact run_eql_ptr_other (P:=prog) V underlying200 t (by rw[R];decide) (fun e=>N (by injection e)) F.op.blk F.oq.blk
  by_cases ht:o.typ=3
  ·go_wp2;go_ret;exact G.o _ F.o
  by_cases hs:0<o.bg
  ·go_wp2;go_ret;exact G.o _ F.o
  go_wp2_with fail;have c0:cI V q 0 o.id:=F.oq.cell 0;have p0:cI V p 0 x.id:=F.op.cell 0;have p3:cI V p 3 x.bn:=F.op.cell 3;have r5:cI V rb 5 (k 5):=F.rb.cell 5;have n1:=World.new_ne V _ (hid c0).out;have n2:=World.new_ne V _ (hid p0).out;have n3:=World.new_ne V _ (hid r5).out;go_region_held3(fun X=>X.cell? (iA q 0)=sI o.id∧X.cell? (iA p 0)=sI x.id∧X.cell? (iA p 3)=sI x.bn∧X.cell? (iA rb 5)=sI (k 5)) (go_keep) (fail);have B:Hd (TrW pr base w ab lm em n q p rb o x k (V.alloc (.cells #[iV 3,iV 0,iV o.id,iV x.id,iV x.bn,iV (k 5),iV 0] 55)).drew∧RB (V.alloc (.cells #[iV 3,iV 0,iV o.id,iV x.id,iV x.bn,iV (k 5),iV 0] 55)).drew V.heap.size (dueF 3 0 o.id x.id x.bn (k 5) 0)):=⟨(F.below ((Below.refl V.heap.size V).alloc (Nat.le_refl _) _)).same (Same.refl _).drew,⟨heap_alloc_new V _⟩⟩;generalize (V.alloc (.cells #[iV 3,iV 0,iV o.id,iV x.id,iV x.bn,iV (k 5),iV 0] 55)).drew=Y at *
  generalize V.heap.size=db at *;have y0:cI Y rb 0 (k 0):=B.1.rb.cell 0;have y1:cI Y rb 1 (k 1):=B.1.rb.cell 1;have y2:cI Y rb 2 (k 2):=B.1.rb.cell 2;have y3:cI Y rb 3 (k 3):=B.1.rb.cell 3;have y4:cI Y rb 4 (k 4):=B.1.rb.cell 4;have y5:cI Y rb 5 (k 5):=B.1.rb.cell 5;have y6:cI Y rb 6 (k 6):=B.1.rb.cell 6;have z0:cI Y db 0 3:=B.2.cell 0;have z1:cI Y db 1 0:=B.2.cell 1;have z2:cI Y db 2 o.id:=B.2.cell 2;have z3:cI Y db 3 x.id:=B.2.cell 3;have z4:cI Y db 4 x.bn:=B.2.cell 4;have z5:cI Y db 5 (k 5):=B.2.cell 5;have z6:cI Y db 6 0:=B.2.cell 6;cases c with
  |true=>
   go_wp2_with fail;go_quiet (fail);go_wp2;go_ret;exact G.o _ (B.1.same ((Same.refl Y).drewN nq))
  |false=>
   have A1:cI Y p 11 x.bg:=B.1.op.cell 11;have O:Hd (∀X,OA X q 0 o→Cl 153 #[iP q] X fun en I=>en=.returned (iV (o.mg - o.bu))∧∃m,I=X.drewN m):=fun X hX=>zA5 hX K.2.1.opn
   by_cases hm:o.mg - o.bu≤x.bg;all_goals(
    go_wp2_with fail;go_region_held3(fun X=>X.cell? (iA rb 0)=sI (k 0)∧X.cell? (iA rb 1)=sI (k 1)∧X.cell? (iA rb 2)=sI (k 2)∧X.cell? (iA rb 3)=sI (k 3)∧X.cell? (iA rb 4)=sI (k 4)∧X.cell? (iA rb 5)=sI (k 5)∧X.cell? (iA rb 6)=sI (k 6)∧X.cell? (iA db 0)=sI 3∧X.cell? (iA db 1)=sI 0∧X.cell? (iA db 2)=sI o.id∧X.cell? (iA db 3)=sI x.id∧X.cell? (iA db 4)=sI x.bn∧X.cell? (iA db 5)=sI (k 5)∧X.cell? (iA db 6)=sI 0∧X.cell? (iA p 11)=sI x.bg) (go_keep) (first|(go_at_call 153;refine(O.o _ (by exact B.1.oq.drew)).mono ?_;rintro en w7 ⟨rfl,m7,rfl⟩)|(go_at_call 118;refine(zKh _ _ _).mono ?_;rintro en w8 ⟨r8,rfl,g,rfl⟩));have A:Hd (TrW pr base w ab lm em n q p rb o x k (Y.drewN (1+m7))):=B.1.same ((Same.refl Y).drewN (1+m7));generalize Y.drewN (1+m7)=Z at *;cases r8 with
    |false=>
     go_wp2;go_ret;exact G.o _ A.o
    |true=>
     have b:Hd (1≤k 5∧k 5≤o.mg - o.bu∧k 5≤x.bg):=by
      have h8:=g.o;unfold bf.rf at h8;simp at h8;refine⟨?_,?_,?_⟩<;>omega
     have A7:IntKind.i64.wrap (x.bg - k 5)=x.bg - k 5:=by
      obtain⟨q1,q2,q3⟩:=b.o;have q4:=D.2.sh;have q5:=D.2.fil;exact aM _ (by omega) (by omega)
     have A2:wrap64 (x.bg - k 5)=x.bg - k 5:=by
      obtain⟨q1,q2,q3⟩:=b.o;have q4:=D.2.sh;have q5:=D.2.fil;unfold wrap64;omega
     have A9:cI Z p 11 x.bg:=A.op.cell 11;have A3:=A.op.dz 11;have r5:cI Z rb 5 (k 5):=A.rb.cell 5;have J:Hd (¬p=q∧¬0<o.bg):=⟨N,by omega⟩;go_wp2_with fail;go_region_law(fail);all_goals(
      have HU:Hd (AG pr base (Z.setCell (iA p 11) (iV (x.bg - k 5))).drew ab lm em n∧OA (Z.setCell (iA p 11) (iV (x.bg - k 5))).drew q 0 o∧OA (Z.setCell (iA p 11) (iV (x.bg - k 5))).drew p 0 { x with bg:=x.bg - k 5 }∧RB (Z.setCell (iA p 11) (iV (x.bg - k 5))).drew rb k∧Below base w (Z.setCell (iA p 11) (iV (x.bg - k 5))).drew∧qK { x with bg:=x.bg - k 5 }):=by
       obtain⟨b1,b2,b3⟩:=b.o;have T:qK { x with bg:=x.bg - k 5 }:=⟨D.2.id,D.2.fil,⟨by show 0≤x.bg - k 5;omega,by have:=D.2.sh.2;show x.bg - k 5≤x.mg - x.bu;omega⟩,fun t3 p0=>by have:=D.2.peg t3 p0;omega⟩;obtain⟨g1,g2⟩:=A.o.ag.wr A.o.op D.o.1 11 (iV (x.bg - k 5)) { x with bg:=x.bg - k 5 } (by simp[Ord.code]) T;have y:rb≠p:=fun e=>by
        have C:=A.rb.blk;rw[e,A.o.op.blk]at C;injection C with C;injection C with _ C _;exact absurd C (by decide)
       have bl:Below base Z (Z.setCell (iA p 11) (iV (x.bg - k 5))):=(Below.refl base Z).setCell D.1 _;refine⟨g1.same (Same.refl _).drew,(A.oq.set _ _ (fun e=>J.1 e.symm)).drew,g2.drew,⟨?_⟩,(A.low.trans bl).trans (Same.refl _).drew.low,T⟩;show(Z.setCell (iA p 11) (iV (x.bg - k 5))).heap[rb]? =_;rw[Below.heap_setCell _ _ _ _ y];exact A.rb.blk
      generalize (Z.setCell (iA p 11) (iV (x.bg - k 5))).drew=U at *;have r5:cI U rb 5 (k 5):=HU.2.2.2.1.cell 5;have HC:Hd (Cl 224 #[iP ab,iP q,iV (k 5)] U fun en I=>en=rV #[]∧cI I rb 5 (k 5)∧Hd (Cl 224 #[iP ab,iP p,iV (k 5)] I fun en d=>en=rV #[]∧Hd (AG pr base d ab lm em (n+2)∧Below base w d))):=by
       obtain⟨b1,b2,b3⟩:=b.o;obtain⟨u1,u2,u3,u4,u5,u6⟩:=HU.o;have A6:=K.2.1.sh;have A5:=J.2;have A8:=D.2.sh;have z:rb≠q:=fun e=>by
        have C:=u4.blk;rw[e,u2.blk]at C;injection C with C;injection C with _ C _;exact absurd C (by decide)
       refine(zCq (k 5) u1 (by have:=K.2.2.2;omega) u2 K.1 K.2.1 (by omega) (by omega)).mono ?_;rintro en I ⟨rfl,v1,v2,v3⟩;have o1:OA I p 0 { x with bg:=x.bg - k 5 }:=⟨v3 p _ _ _ J.1 u3.blk⟩;have r1:RB I rb k:=⟨v3 rb _ _ _ z u4.blk⟩;refine⟨rfl,r1.cell 5,?_⟩;refine(zCq (k 5) v1 (by have:=K.2.2.2;omega) o1 D.1 u6 (by omega) (by show k 5≤x.mg - x.bu - (x.bg - k 5);omega)).mono ?_;rintro en d ⟨rfl,y1,y2,y3⟩;exact⟨rfl,y1,(u5.trans v2).trans y2⟩
      go_wp2_with fail;refine HC.mono ?_;rintro en I ⟨rfl,Aa,f⟩;go_wp2_with fail;refine f.mono ?_;rintro en d ⟨rfl,i⟩;go_wp2;go_ret;exact⟨_,rfl,i.o⟩))
 have i:Hd (AG pr base W.drew ab lm em (n+2)∧Below base w W.drew):=⟨(H.1.same (Same.refl W).drew).more (by omega),H.2.2.2.trans (Same.refl W).drew.low⟩;go_region_held3(fun X=>X.cell? (iA ab 0)=some (.map (some lm))∧X.cell? (iA rb 3)=sI (k 3)) (go_keep) (fail);go_wp2;go_ret;exact⟨_,rfl,i.o⟩
end
section
variable {pr:Nat→Option (Array Value×TypeId)} {base:Nat} {w w':World} {ab lm em n:Nat} {q p:Nat} {o o' x:Ord}
theorem zKj(k:Nat→Int)(hkk:KOk k)(h:AG pr base w ab lm em n)(hn:n≤100000000):
 Calls prog 193 #[iP ab,bM (k 0) (k 1) (k 2) (k 3) (k 4) (k 5) (k 6)] w fun en w'=> ∃rb,en=.returned (.bool rb)∧AG pr base w' ab lm em (n+2)∧Below base w w':=by
 have I:Below w.heap.size w (w.alloc (.cells #[iV (k 0),iV (k 1),iV (k 2),iV (k 3),iV (k 4),iV (k 5),iV (k 6)] 55)):=(Below.refl w.heap.size w).alloc (Nat.le_refl _) _;have Y:RB (w.alloc (.cells #[iV (k 0),iV (k 1),iV (k 2),iV (k 3),iV (k 4),iV (k 5),iV (k 6)] 55)) w.heap.size k:=⟨heap_alloc_new w _⟩;have G:Hd (KOk k∧n≤100000000):=⟨hkk,hn⟩;have D:Hd (AG pr base (w.alloc (.cells #[iV (k 0),iV (k 1),iV (k 2),iV (k 3),iV (k 4),iV (k 5),iV (k 6)] 55)) ab lm em n∧RB (w.alloc (.cells #[iV (k 0),iV (k 1),iV (k 2),iV (k 3),iV (k 4),iV (k 5),iV (k 6)] 55)) w.heap.size k∧Below base w (w.alloc (.cells #[iV (k 0),iV (k 1),iV (k 2),iV (k 3),iV (k 4),iV (k 5),iV (k 6)] 55))):=⟨h.below I,Y,I.mono h.lw⟩;clear I Y h hkk hn;by_cases i:k 0=1
 ·go_enter func193,ntmps193;go_wp2_with fail;have B:Hd (Calls prog 210 #[iP ab,bM (k 0) (k 1) (k 2) (k 3) (k 4) (k 5) (k 6)] (w.alloc (.cells #[iV (k 0),iV (k 1),iV (k 2),iV (k 3),iV (k 4),iV (k 5),iV (k 6)] 55)) fun en w'=> ∃r,en=.returned (.bool r)∧Hd (AG pr base w' ab lm em (n+2)∧Below base w w')):=by
   refine(zHc k G.1 D.1 (by have:=G.2;omega)).mono ?_;rintro en w' ⟨r,rfl,u1,u2⟩;exact⟨r,rfl,u1.more (by omega),D.2.2.trans u2⟩
  rw[i]at B;refine B.mono ?_;rintro en J ⟨r,rfl,C⟩;clear B D;go_wp2;go_ret;exact⟨_,rfl,C.o⟩
 by_cases j:k 0=2
 ·go_enter func193,ntmps193;go_wp2_with fail;have B:Hd (Calls prog 211 #[bM (k 0) (k 1) (k 2) (k 3) (k 4) (k 5) (k 6)] (w.alloc (.cells #[iV (k 0),iV (k 1),iV (k 2),iV (k 3),iV (k 4),iV (k 5),iV (k 6)] 55)) fun en w'=> ∃r,en=.returned (.bool r)∧Hd (AG pr base w' ab lm em (n+2)∧Below base w w')):=by
   refine(zHg k).mono ?_;rintro en w' ⟨r,rfl,u1⟩;exact⟨r,rfl,(D.1.below u1).more (by omega),D.2.2.trans (u1.mono D.1.lw)⟩
  rw[j]at B;refine B.mono ?_;rintro en J ⟨r,rfl,C⟩;clear B D;go_wp2;go_ret;exact⟨_,rfl,C.o⟩
 go_enter func193,ntmps193;go_wp2_with fail;generalize w.alloc (.cells #[iV (k 0),iV (k 1),iV (k 2),iV (k 3),iV (k 4),iV (k 5),iV (k 6)] 55)=W at *;generalize w.heap.size=rb at *;have d:=D.1.c0;have H:W.cell? ⟨rb,2,none⟩=sI (k 2):=D.2.1.cell 2;have U:Hd (aD (k 2)):=by obtain⟨y,z⟩:=G.1 2;exact⟨by omega,by omega⟩
 have c:(∃p x,base≤p∧OA W.drew p 0 x∧qK x∧(Instr.lookup 89 (.map (some lm)) (iV (k 2)) true).run prog W.drew=.ok (.tuple #[iP p,.bool true]) W.drew)∨
  (Instr.lookup 89 (.map (some lm)) (iV (k 2)) true).run prog W.drew=.ok (.tuple #[.pointer none,.bool false]) W.drew:=by
  obtain⟨L,E,h⟩:=D.o.1.same (Same.refl W).drew;exact h.lookL (k 2) U.out
 have K:Hd (AG pr base W.drew ab lm em n∧RB W.drew rb k∧Below base w W.drew):=⟨D.1.same (Same.refl W).drew,D.2.1.same (Same.refl W).drew,D.2.2.trans (Same.refl W).drew.low⟩;clear U D;rcases c with⟨p,x,f,g,Z,b⟩|b
 ·have A:Hd (AG pr base W.drew ab lm em n∧OA W.drew p 0 x∧RB W.drew rb k∧Below base w W.drew):=⟨K.1,g,K.2.1,K.2.2⟩;have F:Hd (base≤p∧qK x):=⟨f,Z⟩;clear f g Z K;go_region_held3(fun X=>X.cell? ⟨ab,0,none⟩=some (.map (some lm))∧X.cell? ⟨rb,2,none⟩=sI (k 2)) (go_keep) (fail);clear d H b;generalize W.drew=V at *;have M:V.cell? ⟨rb,0,none⟩=sI (k 0):=A.2.2.1.cell 0;have N:V.cell? ⟨rb,1,none⟩=sI (k 1):=A.2.2.1.cell 1;have H:V.cell? ⟨rb,2,none⟩=sI (k 2):=A.2.2.1.cell 2;have O:V.cell? ⟨rb,3,none⟩=sI (k 3):=A.2.2.1.cell 3;have R:V.cell? ⟨rb,4,none⟩=sI (k 4):=A.2.2.1.cell 4;have S:V.cell? ⟨rb,5,none⟩=sI (k 5):=A.2.2.1.cell 5;have T:V.cell? ⟨rb,6,none⟩=sI (k 6):=A.2.2.1.cell 6;by_cases l:k 0=3
  ·go_wp2_with fail;have B:Hd (Calls prog 212 #[iP ab,iP p,bM (k 0) (k 1) (k 2) (k 3) (k 4) (k 5) (k 6)] V fun en w'=> ∃r,en=.returned (.bool r)∧Hd (AG pr base w' ab lm em (n+2)∧Below base w w')):=by
    refine(zKi k G.1 A.1 G.2 A.2.1 F.1 F.2).mono ?_;rintro en w' ⟨r,rfl,u1,u2⟩;exact⟨r,rfl,u1.more (by omega),A.2.2.2.trans u2⟩
   rw[l]at B;refine B.mono ?_;rintro en J ⟨r,rfl,C⟩;clear B M N H O R S T;go_wp2;go_ret;exact⟨_,rfl,C.o⟩
  by_cases m:k 0=4
  ·go_wp2_with fail;have B:Hd (Calls prog 213 #[iP ab,iP p,bM (k 0) (k 1) (k 2) (k 3) (k 4) (k 5) (k 6)] V fun en w'=> ∃r,en=.returned (.bool r)∧Hd (AG pr base w' ab lm em (n+2)∧Below base w w')):=by
    refine(xR k A.1 (by have:=G.2;omega) A.2.1 F.1 F.2).mono ?_;rintro en w' ⟨r,rfl,u1,u2⟩;exact⟨r,rfl,u1.more (by omega),A.2.2.2.trans u2⟩
   rw[m]at B;refine B.mono ?_;rintro en J ⟨r,rfl,C⟩;clear B M N H O R S T;go_wp2;go_ret;exact⟨_,rfl,C.o⟩
  by_cases s:k 0=5
  ·go_wp2_with fail;have B:Hd (Calls prog 214 #[iP p,bM (k 0) (k 1) (k 2) (k 3) (k 4) (k 5) (k 6)] V fun en w'=> ∃r,en=.returned (.bool r)∧Hd (AG pr base w' ab lm em (n+2)∧Below base w w')):=by
    refine(zHd k A.2.1 F.2 (G.1 4) (G.1 5)).mono ?_;rintro en w' ⟨r,o',rfl,u1,u2,u3⟩;exact⟨r,rfl,(A.1.chg A.2.1 u3 u2 u1).more (by omega),A.2.2.2.trans (u3.low F.1 A.1.lw)⟩
   rw[s]at B;refine B.mono ?_;rintro en J ⟨r,rfl,C⟩;clear B M N H O R S T;go_wp2;go_ret;exact⟨_,rfl,C.o⟩
  by_cases t:k 0=6
  ·go_wp2_with fail;have B:Hd (Calls prog 215 #[iP p,bM (k 0) (k 1) (k 2) (k 3) (k 4) (k 5) (k 6)] V fun en w'=> ∃r,en=.returned (.bool r)∧Hd (AG pr base w' ab lm em (n+2)∧Below base w w')):=by
    refine(zHe k A.2.1 F.2 (G.1 5)).mono ?_;rintro en w' ⟨r,o',rfl,u1,u2,u3⟩;exact⟨r,rfl,(A.1.chg A.2.1 u3 u2 u1).more (by omega),A.2.2.2.trans (u3.low F.1 A.1.lw)⟩
   rw[t]at B;refine B.mono ?_;rintro en J ⟨r,rfl,C⟩;clear B M N H O R S T;go_wp2;go_ret;exact⟨_,rfl,C.o⟩
  by_cases u:k 0=7
  ·go_wp2_with fail;have B:Hd (Calls prog 216 #[iP p,bM (k 0) (k 1) (k 2) (k 3) (k 4) (k 5) (k 6)] V fun en w'=> ∃r,en=.returned (.bool r)∧Hd (AG pr base w' ab lm em (n+2)∧Below base w w')):=by
    refine(zHf k A.2.1 F.2 (G.1 5)).mono ?_;rintro en w' ⟨r,o',rfl,u1,u2,u3⟩;exact⟨r,rfl,(A.1.chg A.2.1 u3 u2 u1).more (by omega),A.2.2.2.trans (u3.low F.1 A.1.lw)⟩
   rw[u]at B;refine B.mono ?_;rintro en J ⟨r,rfl,C⟩;clear B M N H O R S T;go_wp2;go_ret;exact⟨_,rfl,C.o⟩
  by_cases v:k 0=8
  ·go_wp2_with fail;have B:Hd (Calls prog 217 #[iP p,bM (k 0) (k 1) (k 2) (k 3) (k 4) (k 5) (k 6)] V fun en w'=> ∃r,en=.returned (.bool r)∧Hd (AG pr base w' ab lm em (n+2)∧Below base w w')):=by
    refine(zHa k A.2.1 F.2).mono ?_;rintro en w' ⟨r,o',rfl,u1,u2,u3⟩;exact⟨r,rfl,(A.1.chg A.2.1 u3 u2 u1).more (by omega),A.2.2.2.trans (u3.low F.1 A.1.lw)⟩
   rw[v]at B;refine B.mono ?_;rintro en J ⟨r,rfl,C⟩;clear B M N H O R S T;go_wp2;go_ret;exact⟨_,rfl,C.o⟩
  go_wp2;go_ret;exact⟨_,rfl,A.1.more (by omega),A.2.2.2⟩
 go_region_held3(fun X=>X.cell? ⟨ab,0,none⟩=some (.map (some lm))∧X.cell? ⟨rb,2,none⟩=sI (k 2)) (go_keep) (fail);clear d H b;generalize W.drew=V at *;go_wp2;go_ret;exact⟨_,rfl,K.1.more (by omega),K.2.2⟩
end
section
variable {pr:Nat→Option (Array Value×TypeId)} {base:Nat} {w w':World} {ab lm em n:Nat}
def Tk(ad:Nat→Addr)(en:Ending):Prop:=en=.returned .nilIface∨en=.returned (.iface 309 (.pointer (some (ad 6))))∨en=.returned (.iface 309 (.pointer (some (ad 7))))
def noSeq(k:Nat→Int):Nat→Int
 |1=>0
 |j=>k j
theorem zKk(h:KOk k):KOk (noSeq k):=fun j=>by
 unfold noSeq;split
 ·exact⟨Int.le_refl _,Int.natCast_nonneg 4294967295⟩
 exact h j
theorem zKl(ad:Nat→Addr)(st:Nat→ByteArray)(seq:Int)(k:Nat→Int)(hkk:KOk k)(h:AG pr base w ab lm em n)(hn:n≤100000000)(hE:lq w ad st)(hEb:∀X,Below base w X→lq X ad st):
 Cl 175 #[iP ab,iV seq,bM (k 0) (k 1) (k 2) (k 3) (k 4) (k 5) (k 6)] w fun en w'=>Tk ad en∧AG pr base w' ab lm em (n+2)∧Below base w w':=by
 have A:Bw w (w.alloc (o7 k)):=(Below.refl w.heap.size w).alloc (Nat.le_refl _) _;have D:Hd (AG pr base (w.alloc (o7 k)) ab lm em n∧Below base w (w.alloc (o7 k))):=⟨h.below A,A.mono h.lw⟩;have H:=(hE.below A).c6;by_cases G:k 1=seq
 ·have F:Hd (Cl 193 #[iP ab,bM (k 0) 0 (k 2) (k 3) (k 4) (k 5) (k 6)] (w.alloc (.cells #[iV (k 0),iV 0,iV (k 2),iV (k 3),iV (k 4),iV (k 5),iV (k 6)] 55)) fun en w'=> ∃r,en=rB r∧w'.cell? (iA 7 0)=some (.iface 309 (.pointer (some (ad 7))))∧Hd (AG pr base w' ab lm em (n+2)∧Below base w w')):=by
   have B:Bw w (w.alloc (.cells #[iV (k 0),iV 0,iV (k 2),iV (k 3),iV (k 4),iV (k 5),iV (k 6)] 55)):=(Below.refl w.heap.size w).alloc (Nat.le_refl _) _;refine(zKj (noSeq k) (zKk hkk) (h.below B) hn).mono ?_;rintro en w' ⟨r,rfl,u1,u2⟩;have E:=(B.mono h.lw).trans u2;exact⟨r,rfl,(hEb w' E).c7,u1,E⟩
  go_enter func175,ntmps175;go_wp2_with fail;refine F.mono ?_;rintro en J ⟨r,rfl,I,C⟩;cases r
  ·go_wp2;go_ret;exact⟨.inr (.inr rfl),C⟩
  go_wp2;go_ret;exact⟨.inl rfl,C⟩
 have C:Hd (AG pr base (w.alloc (o7 k)) ab lm em (n+2)∧Below base w (w.alloc (o7 k))):=⟨D.1.more (by omega),D.2⟩;go_enter func175,ntmps175;go_wp2;go_ret;exact⟨.inr (.inl rfl),C⟩
end
end Go.Proofs.YtehmdohpmpbnnaaGreatDoor
