import Derived.Test.YtilbfpnpkkkpgaaGreatDoorQ00
import Derived.Test.YtilbfpnpkkkpgaaGreatDoorQ14
import Derived.Test.YtilbfpnpkkkpgaaGreatDoorQ32
import Derived.Test.YtilbfpnpkkkpgaaGreatDoorQ38
import Derived.Test.YtilbfpnpkkkpgaaGreatDoorQ39
import Derived.Deep.QuietTactic
import Derived.BigQuiet
set_option linter.all false
set_option maxRecDepth 100000
set_option maxHeartbeats 8000000
namespace Go.Proofs.YtilbfpnpkkkpgaaGreatDoor
variable{w a b w':World}{v v':Value}{m base:Nat}{F:Nat→Prop}{tag:Nat→Tag}{f:Nat→Int}
section
open Go.Extern Go.RowKit
def OpK(w w':World):Prop:= ∀(k:Nat) (cur:Array Value),w.heap[k]? =some (.cells cur 79 (0,0))→w'.heap[k]? =some (.cells cur 79 (0,0))
theorem OpK.trans{c:World}(h:OpK a b)(k:OpK b c):OpK a c:=fun i cur hi=>k i cur (h i cur hi)
theorem OpK.below(h:Below a.heap.size a b):OpK a b:=fun i cur hi=>(h.block i (Array.getElem?_eq_some_iff.1 hi).1).trans hi
section
variable {tag:Nat→Tag} {ps:List Duo} {w0 w w':World} {n:Nat} {ws:List ByteArray} {left:Int}
theorem StT.keepB(h:StT tag ps w0 w n ws left)(t:ByteArray)(hn:n≤1000000000)(ht:t.size≤1000000000000)(hl1: -1000000000000≤left):
 Cl 75 #[iP w0.heap.size,.string t] w fun e w'=>e=rV #[]∧StT tag ps w0 w' (n+1) (ws++ [t]) (left - (t.size:Int))∧w.heap.size≤w'.heap.size∧OpK w w'∧w'.cell? (iA w0.heap.size 5)=w.cell? (iA w0.heap.size 5):=by
 obtain⟨v,q1,q2,qt⟩:=h.words;have hlt:=h.lt;refine(zFg _ _ v ws left t w q1 h.lft h.froz q2 (Nat.lt_succ_self _) hlt (by have:=h.wlen;omega) ht hl1 (by have:=h.sum;omega)).mono ?_;rintro e w' ⟨rfl,wv',p4,p8,pown,pown2,kept⟩;have hwv: ∀q,v.ownBlock=some q→w0.heap.size+1≤q:=fun q hq=>(q2.lt q hq).1
 have hc: ∀j,j≠4→j≠8→w'.cell? (iA w0.heap.size j)=w.cell? (iA w0.heap.size j):=kept.cell;have hk: ∀k,k<w.heap.size→tag k≠.own→w'.heap[k]? =w.heap[k]? ∧tag k=tag k:=fun k hk ho=>⟨kept.block k hk (fun e=>ho (h.tlow k (by omega))) (fun e=>ho (qt k e.symm)),rfl⟩
 refine⟨rfl,⟨?_,?_,h.tlow,fun k hk=>h.tup k (Nat.le_trans kept.size hk),?_,?_,?_,?_,⟨wv',p4,?_,?_⟩,?_,?_,Nat.le_succ_of_le h.plen,h.duos_move kept.size hk,?_,?_,p8,?_⟩,kept.size,fun k cur hb=>?_,hc 5 (by omega) (by omega)⟩
 ·exact h.low.trans ⟨kept.os,kept.tape,kept.output,kept.size,fun k hk=>kept.block k (by omega) (by omega) (fun e=>by have:=hwv k e.symm;omega)⟩
 ·obtain⟨cur,b1⟩:=h.blk;exact kept.own cur _ _ b1
 ·rw[hc _ (by omega) (by omega)];exact h.c0
 ·rw[hc _ (by omega) (by omega)];exact h.c1
 ·rw[hc _ (by omega) (by omega)];exact h.c2
 ·obtain⟨u,ds,r1,r2,r3,r4,r5⟩:=h.draws;exact⟨u,ds,by rw[hc _ (by omega) (by omega)];exact r1,zBx r2 q2 (by decide) kept.block,r3,r4,by omega⟩
 ·rw[List.length_append];exact pown
 ·intro q hq;rcases pown2 q hq with h1|h1
  ·exact qt q h1
  ·exact h.tup q h1
 ·rw[List.length_append];have:=h.wlen;simp;omega
 ·obtain⟨u,r1,r2,r3⟩:=h.desks;exact⟨u,by rw[hc _ (by omega) (by omega)];exact r1,zBx r2 q2 (by decide) kept.block,r3⟩
 ·obtain⟨u,k,xs,r1,r2,r3,r4,r5⟩:=h.lists;exact⟨u,k,xs,by rw[hc _ (by omega) (by omega)];exact r1,zBx r2 q2 (by decide) kept.block,r3,zB0 r4 hk,by omega⟩
 ·rw[hc _ (by omega) (by omega)];exact h.mark
 ·rw[zCf];have:=h.sum;omega
 ·have hlk:k<w.heap.size:=(Array.getElem?_eq_some_iff.1 hb).1;rw[kept.block k hlk (fun e=>?_) (fun e=>?_)]
  ·exact hb
  ·obtain⟨c,b1⟩:=h.blk;rw[e]at hb;exact absurd (zAg b1 hb) (by decide)
  ·obtain⟨c,b1⟩:=zAk q2 e.symm;exact absurd (zAg b1 hb) (by decide)
end
end
section
open Go.Extern Go.Maps Go.RowKit
def Duo.told(p:Duo)(t:ByteArray):ByteArray:=ba (p.e.apply t.data.toList).out
theorem zGx(t:ByteArray):ba t.data.toList=t:=by cases t;simp[ba]
theorem zQc(e:Eng)(t:List UInt8):e.hush.apply t=e.apply t:=rfl
section
variable {tag:Nat→Tag} {ps:List Duo} {w0 w:World} {n:Nat} {ws:List ByteArray} {left:Int}
theorem Touch.cell(h:Touch F a b){g:Nat}(hg:g<a.heap.size)(hF: ¬F g)(j:Nat):b.cell? (iA g j)=a.cell? (iA g j):=World.cell?_of_block (a:=(iA g j)) (h.block g hg hF)
theorem Touch.froz(h:Touch F a b){g:Nat}(hg:g<a.heap.size)(hF: ¬F g)(j:Nat):b.frozen? (iA g j)=a.frozen? (iA g j):=World.frozen?_of_block (a:=(iA g j)) (h.block g hg hF)
theorem StT.row(h:StT tag ps w0 w n ws left){gd cap:Nat}(hc5:w.cell? (iA w0.heap.size 5)=some (sL gd ps.length cap)):gd<w.heap.size∧w0.heap.size<gd∧tag gd=.own∧(∀j,w.frozen? (iA gd j)=false)∧∀i p,ps[i]? =some p→w.cell? (iA gd (i*3))=some (iP p.nb)∧w.cell? (iA gd (i*3+1))=some (iP p.db)∧w.cell? (iA gd (i*3+2))=some (.string p.all):=by
 obtain⟨v,hv5,hrow,hvt⟩:=h.desks;obtain rfl:=Option.some.inj (hc5.symm.trans hv5);have hl:=hrow.lt gd rfl;obtain⟨cur,hb⟩:=zAk hrow (g:=gd) rfl;have hc: ∀j u,(ps.flatMap Duo.cells)[j]? =some u→w.cell? (iA gd j)=some u:=fun j u hu=>by
  have:=World.ownsRow.cells hrow (g:=gd) rfl j u hu;rw[Addr.add_lit]at this;simpa using this
 refine⟨hl.2,by omega,hvt gd rfl,fun j=>by simp[World.frozen?,hb],fun i p hp=>⟨hc _ _ ?_,hc _ _ ?_,hc _ _ ?_⟩⟩
 ·have:=zEb ps i p hp 0 (by omega);simpa [Duo.cells] using this
 ·have:=zEb ps i p hp 1 (by omega);simpa [Duo.cells] using this
 ·have:=zEb ps i p hp 2 (by omega);simpa [Duo.cells] using this
theorem StT.desk(h:StT tag ps w0 w n ws left){i:Nat}{p:Duo}(hp:ps[i]? =some p):w.cell? (iA p.nb 0)=some (iP p.eb):=by
 have hd:=(h.duos i p hp).dsk;simp[World.cell?,hd]
theorem StT.apply_both(h:StT tag ps w0 w n ws left){ad:Nat→Addr}{st:Nat→ByteArray}(hE:Errs w0 ad st)(hW:Wids w0){gd cap:Nat}(hc5:w.cell? (iA w0.heap.size 5)=some (sL gd ps.length cap)){i:Nat}{p:Duo}(hp:ps[i]? =some p)(hs:p.all.size≤1048576)(t:ByteArray)(ht:t.size≤1048576):
 Cl 11 #[iP p.eb,.string t] w fun en w1=>en=.returned (.string (p.told t))∧w1.cell? (iA gd (i*3+1))=some (iP p.db)∧
  Hid (Cl 74 #[iP p.db,.string t] w1 fun en w2=>en=.returned (.string (p.told t))∧w2.cell? (iA gd (i*3+2))=some (.string p.all)∧w2.frozen? (iA gd (i*3+2))=false∧
   Hid ((∃tag' p',p'.all=p.all++p.told t∧StT tag' (ps.set i p') w0 (w2.setCell (iA gd (i*3+2)) (.string (p.all++p.told t))) n ws left)∧(∀(k:Nat) (cur:Array Value),tag k=.own→w.heap[k]? =some (.cells cur 79 (0,0))→(w2.setCell (iA gd (i*3+2)) (.string (p.all++p.told t))).heap[k]? =some (.cells cur 79 (0,0)))∧(w2.setCell (iA gd (i*3+2)) (.string (p.all++p.told t))).cell? (iA w0.heap.size 5)=w.cell? (iA w0.heap.size 5))):=by
 have hd:=h.duos i p hp;obtain⟨g1,g2,g3,g4,g5⟩:=h.row hc5;obtain⟨c0,c1,c2⟩:=g5 i p hp;have hg:=hd.good;have htl:t.data.toList.length≤1048576:=by simpa using ht
 have hTk:=hg.taking hs t.data.toList htl;obtain⟨gA,_⟩:=hg.apply t.data.toList;have hsz:(p.all++p.told t).size=p.all.size+(p.e.apply t.data.toList).out.length:=by
  rw[ByteArray.size_append];unfold Duo.told;rw[zA5]
 have hlt:=h.lt;have hF1: ∀k,(tag k=.code i∨w.heap.size≤k)→w0.heap.size≤k:=fun k hk=>by
  rcases hk with hk|hk
  ·rcases Nat.lt_or_ge k w0.heap.size with h2|h2
   ·rw[h.tlow k (by omega)]at hk;cases hk
   ·exact h2
  ·omega
 have hne: ¬(tag gd=.code i∨w.heap.size≤gd):=fun hc=>hc.elim (fun e=>by rw[g3]at e;cases e) (fun e=>by omega)
 have key:=zGv (w0:=w0) (F:=fun k=>tag k=.code i∨w.heap.size≤k) (ad:=ad) (st:=st) ⟨hE,hW,hF1⟩ hd.code (hd.holds.cong rfl) (hg.pegs.cong rfl) rfl h.low t.data.toList hTk (by show p.e.all.length+(p.e.rest++t.data.toList).length≤_;rw[List.length_append];have:=hg.len;have:=hg.told;have:=hg.rest;omega);rw[zGx]at key;refine key.mono ?_;rintro en w1 ⟨rfl,hz⟩;obtain⟨⟨g',S',q1,q2,q3,q4,q5⟩,qB⟩:=hz.out;rw[zQc]at q1 q2;have s1:=q3.size;have hr1:RefRep (fun k=>tag k=.doc i∨w1.heap.size≤k) p.base2 w1 p.db p.e p.dv p.av:=hd.doc.move (fun q hq=>.inl (hd.tdv q hq)) s1 (fun k hk hF=>by
  have htk:=hF.resolve_right (by omega);exact⟨q3.block k hk (fun hc=>hc.elim (fun e=>by rw[htk]at e;cases e) (fun e=>by omega)),.inl htk⟩) (fun k hk=>.inr hk)
 refine⟨rfl,(q3.cell g1 hne _).trans c1,?_⟩;have key2:=zMy t.data.toList hr1 hTk;rw[zGx]at key2;refine key2.mono ?_;rintro en w2 ⟨rfl,⟨av',r1⟩,r2⟩;have hne2: ¬(tag gd=.doc i∨w1.heap.size≤gd):=fun hc=>hc.elim (fun e=>by rw[g3]at e;cases e) (fun e=>by omega)
 refine⟨rfl,(r2.cell (by omega) hne2 _).trans ((q3.cell g1 hne _).trans c2),(r2.froz (by omega) hne2 _).trans ((q3.froz g1 hne _).trans (g4 _)),?_⟩;have own2: ∀k,k<w.heap.size→tag k=.own→w2.heap[k]? =w.heap[k]? :=fun k hk ho=>(r2.block k (by omega) (fun hc=>hc.elim (fun e=>by rw[ho]at e;cases e) (fun e=>by omega))).trans (q3.block k hk (fun hc=>hc.elim (fun e=>by rw[ho]at e;cases e) (fun e=>by omega)))
 refine⟨h.applied hp hc5 q3 q1 q4 (q2.cong rfl) r2 r1 (by rw[hsz];exact gA),fun k cur ho hb=>?_,?_⟩
 ·have hlk:k<w.heap.size:=(Array.getElem?_eq_some_iff.1 hb).1;obtain⟨v,hv5,hrow,hvt⟩:=h.desks;obtain rfl:=Option.some.inj (hc5.symm.trans hv5);rw[Below.heap_setCell _ _ _ _ (fun e=>?_),own2 k hlk ho]
  ·exact hb
  ·have e:k=gd:=e;obtain⟨c,b1⟩:=zAk hrow (g:=gd) rfl;rw[e]at hb;exact absurd (zAg b1 hb) (by decide)
 ·rw[World.cell?_setCell_other _ _ _ _ (by intro e;injection e with ea eb;omega)];exact World.cell?_of_block (a:=(iA w0.heap.size 5)) (own2 _ hlt (h.tlow _ (Nat.le_refl _)))
end
end
section
open Go.Extern Go.RowKit
def SR(base:Nat)(w:World)(v:Value)(m:Nat):Prop:= ∃xs,w.ownsRow base 229 15 v m xs∧∀u∈xs,∃x,u=iV x
theorem SR.nil(base:Nat)(w:World):SR base w (.slice none 0 0) 0:=⟨[],World.ownsRow_nil _ _ _ _,fun u h=>by cases h⟩
theorem SR.shape(h:SR base w v m):(v=.slice none 0 0∧m=0)∨∃g cap,v=sL g m cap∧base≤g∧IntBlock w g 229 (m*15):=by
 obtain⟨xs,h1,h2⟩:=h;rcases h1.2 with h|⟨g,cap,cur,rfl,hg,_⟩
 ·exact .inl h
 ·exact .inr ⟨g,cap,rfl,hg,IntBlock.of_row h1 h2⟩
theorem SR.block(h:SR base w v m)(hb: ∀q,v.ownBlock=some q→w'.heap[q]? =w.heap[q]?):SR base w' v m:=by
 obtain⟨xs,h1,h2⟩:=h;exact⟨xs,zA9 h1 hb,h2⟩
theorem SR.below(h:SR base w v m)(hb:Below w.heap.size w w'):SR base w' v m:=by
 obtain⟨xs,h1,h2⟩:=h;exact⟨xs,zA9 h1 (fun q hq=>hb.block q (h1.lt q hq).2),h2⟩
theorem SR.drewN(h:SR base w v m)(k:Nat):SR base (w.drewN k) v m:=h
theorem SR.drew(h:SR base w v m):SR base w.drew v m:=h
theorem SR.lt(h:SR base w v m): ∀q,v.ownBlock=some q→base≤q∧q<w.heap.size:=by
 obtain⟨xs,h1,_⟩:=h;exact h1.lt
theorem SR.set(h:SR base w v m)(b o:Nat)(x:Int):SR base (w.setCell (iA b o) (iV x)) v m:=by
 obtain⟨xs,⟨h1,h2⟩,h3⟩:=h;rcases h2 with h2|⟨g,cap,cur,rfl,hg,hh,hle,hmx,hsz,htk⟩
 ·exact⟨xs,⟨h1,.inl h2⟩,h3⟩
 ·by_cases e:g=b
  ·subst e;refine⟨(cur.setIfInBounds o (iV x)).toList.take (m*15),⟨?_,.inr ⟨g,cap,_,rfl,hg,zA8 _ _ _ _ _ _ _ hh,hle,hmx,by simpa using hsz,rfl⟩⟩,fun u hu=>?_⟩
   ·have:m*15≤cur.size:=by rw[hsz];exact Nat.mul_le_mul_right _ hle
    simp;omega
   ·rw[Array.toList_setIfInBounds,List.take_set]at hu;rw[htk]at hu;rcases List.mem_or_eq_of_mem_set hu with hu|hu
    ·exact h3 u hu
    ·exact⟨x,hu⟩
  ·exact⟨xs,⟨h1,.inr ⟨g,cap,cur,rfl,hg,(Below.heap_setCell _ _ _ _ e).trans hh,hle,hmx,hsz,htk⟩⟩,h3⟩
theorem zC0(base:Nat)(w:World)(v:Value)(m:Nat)(id:Int)(h:SR base w v m)(hm:m≤1000000000):
 Cl 164 #[v,iV id] w fun e w'=>(e=.returned (iV (-1))∨∃i:Nat,i<m∧e=.returned (iV (i:Int)))∧w'=w:=by
 rcases h.shape with⟨rfl,rfl⟩|⟨g,cap,rfl,hg,hib⟩
 ·go_enter Tryz.func164,Tryz.ntmps164;go_wp2;go_loopw [5] (fun i wr=>i=iV 0∧wr=w) (fun _ _=>0)
  case atStart=>exact⟨rfl,rfl⟩
  case round=>
   obtain⟨rfl,rfl⟩:=hrel;go_wp2;go_ret;exact⟨.inl rfl,rfl⟩
 ·have HIB:=hid hib;go_enter Tryz.func164,Tryz.ntmps164;go_wp2;go_loopw [5] (fun i wr=> ∃k:Nat,i=iV k∧k≤m∧wr=w) (fun i _=>m - (intOf i).toNat)
  case atStart=>exact⟨0,rfl,Nat.zero_le _,rfl⟩
  case round=>
   obtain⟨k,rfl,hk,rfl⟩:=hrel;by_cases hlt:k<m
   ·have hkI:(k:Int)<(m:Int):=by omega
    obtain⟨x0,c0⟩:=HIB.out.cell (k*15) (by omega);obtain⟨x8,c8⟩:=HIB.out.cell (k*15+8) (by omega);cases e0:(x0 == id)
    ·go_wp2;go_roundw
     case rel=>exact⟨k+1,by go_num,by omega,by first|rfl|trivial⟩
     case measure=>simp[intOf];omega
    ·cases e8:(x8 == 1)
     ·go_wp2;go_roundw
      case rel=>exact⟨k+1,by go_num,by omega,by first|rfl|trivial⟩
      case measure=>simp[intOf];omega
     ·go_wp2;go_ret;exact⟨.inr ⟨k,hlt,rfl⟩,rfl⟩
   ·have hkM: ¬(k:Int)<(m:Int):=by omega
    go_wp2;go_ret;exact⟨.inl rfl,rfl⟩
theorem zSu(p p':Option Addr)(c c' m n:Nat)(w:World)(h:m≠n)(hm:m≤1000000000)(hn:n≤1000000000):
 Cl 39 #[.slice p m c,.slice p' n c'] w fun e w'=>e=rB false∧∃k,w'=w.drewN k:=by
 have hne:=beq_eq_false_iff_ne.2 (by omega);go_enter Tryz.func39,Tryz.ntmps39;go_wp2;go_ret;exact⟨rfl,0,rfl⟩
theorem zEc(p p':Option Addr)(c c':Nat)(w:World):
 Cl 39 #[.slice p 0 c,.slice p' 0 c'] w fun e w'=>e=rB true∧∃k,w'=w.drewN k:=by
 go_enter Tryz.func39,Tryz.ntmps39;go_wp2;go_loopw [5] (fun i wr=>i=iV 0∧wr=w) (fun _ _=>0)
 case atStart=>exact⟨rfl,rfl⟩
 case round=>
  obtain⟨rfl,rfl⟩:=hrel;go_wp2;go_ret;exact⟨rfl,0,rfl⟩
theorem zQd{ta tb:Tag}(hm:m≤1000000000)(h:Half tag ta 43 w v m f)(h':Half tag tb 43 w v' m f)(k:Nat):Cl 39 #[v,v'] (w.drewN k) fun e w'=>e=rB true∧∃j,w'=(w.drewN k).drewN j:=by
 obtain⟨p,c,rfl,h⟩:=h;obtain⟨p',c',rfl,h'⟩:=h';by_cases z:m=0
 ·subst z;exact zEc p p' c c' _
 ·obtain⟨g,rfl,-,i1⟩:=h.resolve_left z;obtain⟨g',rfl,-,i2⟩:=h'.resolve_left z;refine(zFe g g' c c' m f f (w.drewN k) hm (fun j hj=>i1.cell j hj) (fun j hj=>i2.cell j hj)).mono ?_;rintro e w' ⟨rfl,h⟩;exact⟨by rw[decide_eq_true (fun _ _=>rfl)],h⟩
theorem zQe(p p':Option Addr)(c c' m n:Nat)(w:World)(h:m≠n)(hm:m≤1000000000)(hn:n≤1000000000):
 Cl 40 #[.slice p m c,.slice p' n c'] w fun e w'=>e=rB false∧∃k,w'=w.drewN k:=by
 have hne:=beq_eq_false_iff_ne.2 (by omega);go_enter Tryz.func40,Tryz.ntmps40;go_wp2;go_ret;exact⟨rfl,0,rfl⟩
theorem zQf(p p':Option Addr)(c c':Nat)(w:World):
 Cl 40 #[.slice p 0 c,.slice p' 0 c'] w fun e w'=>e=rB true∧∃k,w'=w.drewN k:=by
 go_enter Tryz.func40,Tryz.ntmps40;go_wp2;go_loopw [5] (fun i wr=>i=iV 0∧wr=w) (fun _ _=>0)
 case atStart=>exact⟨rfl,rfl⟩
 case round=>
  obtain⟨rfl,rfl⟩:=hrel;go_wp2;go_ret;exact⟨rfl,0,rfl⟩
theorem zGy(w:World)(p p':Option Addr)(c c' m n:Nat)(X Y:Nat→Int)(hm:m≤1000000000)(hn:n≤1000000000)(hx:m=0∨∃g,p=some (iA g 0)∧∀j,j<7*m→w.cell? (iA g j)=sI (X j))(hy:n=0∨∃g,p'=some (iA g 0)∧∀j,j<7*n→w.cell? (iA g j)=sI (Y j))(k:Nat):
 Cl 40 #[.slice p m c,.slice p' n c'] (w.drewN k) fun e w'=>e=.returned (.bool (decide (m=n∧∀j,j<7*m→X j=Y j)))∧∃j,w'=(w.drewN k).drewN j:=by
 by_cases e:m=n
 ·subst e;by_cases z:m=0
  ·subst z;refine(zQf p p' c c' _).mono ?_;rintro e w' ⟨rfl,h⟩;exact⟨by rw[decide_eq_true ⟨rfl,fun j hj=>absurd hj (by omega)⟩],h⟩
  ·obtain⟨g,rfl,i1⟩:=hx.resolve_left z;obtain⟨g',rfl,i2⟩:=hy.resolve_left z;refine(zJt g g' c c' m X Y (w.drewN k) hm (fun j hj=>i1 j hj) (fun j hj=>i2 j hj)).mono ?_;rintro e w' ⟨rfl,h⟩;refine⟨?_,h⟩;by_cases q: ∀j,j<7*m→X j=Y j
   ·rw[decide_eq_true q,decide_eq_true ⟨rfl,q⟩]
   ·rw[decide_eq_false q,decide_eq_false (fun h=>q h.2)]
 ·refine(zQe p p' c c' m n _ e hm hn).mono ?_;rintro en w' ⟨rfl,h⟩;exact⟨by rw[decide_eq_false (fun h=>e h.1)],h⟩
theorem zQg{ta tb:Tag}(hm:m≤1000000000)(h:Half tag ta 178 w v m f)(h':Half tag tb 178 w v' m f)(k:Nat):Cl 40 #[v,v'] (w.drewN k) fun e w'=>e=rB true∧∃j,w'=(w.drewN k).drewN j:=by
 obtain⟨p,c,rfl,h⟩:=h;obtain⟨p',c',rfl,h'⟩:=h';refine(zGy w p p' c c' m m f f hm hm (h.imp id fun⟨g,e,_,i⟩=>⟨g,e,fun j hj=>i.cell j hj⟩) (h'.imp id fun⟨g,e,_,i⟩=>⟨g,e,fun j hj=>i.cell j hj⟩) k).mono ?_;rintro e w' ⟨rfl,h⟩;exact⟨by rw[decide_eq_true ⟨rfl,fun _ _=>rfl⟩],h⟩
end
end Go.Proofs.YtilbfpnpkkkpgaaGreatDoor
