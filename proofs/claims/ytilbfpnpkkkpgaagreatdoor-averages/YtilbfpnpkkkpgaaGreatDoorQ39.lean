import Derived.Test.YtilbfpnpkkkpgaaGreatDoorQ00
import Derived.Test.YtilbfpnpkkkpgaaGreatDoorQ11
import Derived.Test.YtilbfpnpkkkpgaaGreatDoorQ14
import Derived.Test.YtilbfpnpkkkpgaaGreatDoorQ38
import Derived.Deep.RegionHeld3
import Derived.Deep.AppendLies
import Derived.Deep.RegionLaw
set_option linter.all false
set_option maxRecDepth 100000
set_option maxHeartbeats 8000000
namespace Go.Proofs.YtilbfpnpkkkpgaaGreatDoor
variable{v v' u:Value}{xs:List Value}{m n g g0 g1 M s cap q size:Nat}{w w1 w' w0:World}{ws:List ByteArray}{left:Int}{ds:List Int}{tag':Nat→Tag}{f:Nat→Int}
section
open Go.Extern Go.RowKit
theorem zBy(w:World)(b i j:Nat)(u:Value)(h:i≠j):(w.setCell (iA b i) u).cell? (iA b j)=w.cell? (iA b j):=
 World.cell?_setCell_other _ _ _ _ (by intro e;injection e with e1 e2;omega)
theorem zAg{c c':Array Value}{t t':TypeId}{f f':Nat×Nat}(h:w.heap[g]? =some (.cells c t f))(h':w.heap[g]? =some (.cells c' t' f')):t=t':=by
 rw[h]at h';injection h' with h';injection h' with _ h' _
theorem zAk{b:Nat}{e:TypeId}(h:w.ownsRow b e s v n xs)(hg:v.ownBlock=some g): ∃cur,w.heap[g]? =some (.cells cur e (0,0)):=by
 rcases h.2 with⟨rfl,-⟩|⟨g',cap,cur,rfl,_,hh,_⟩
 ·simp[Value.ownBlock]at hg
 ·simp only[Value.ownBlock,Option.some.injEq]at hg;subst hg;exact⟨cur,hh⟩
section
variable {tag:Nat→Tag} {ps:List Duo} {w0 w:World} {n:Nat} {ws:List ByteArray} {left:Int}
theorem StT.setInt(h:StT tag ps w0 w n ws left)(j:Nat)(hj:j=0∨j=1∨j=2∨j=7)(x:Int):StT tag ps w0 (w.setCell (iA w0.heap.size j) (iV x)) n ws left:=by
 have hc: ∀i,j≠i→(w.setCell (iA w0.heap.size j) (iV x)).cell? (iA w0.heap.size i)=w.cell? (iA w0.heap.size i):=fun i hi=>zBy _ _ _ _ _ hi
 have hi: ∀i,(∃y,cI w w0.heap.size i y)→∃y,(w.setCell (iA w0.heap.size j) (iV x)).cell? (iA w0.heap.size i)=sI y:=fun i ⟨y,hy⟩=>by
  by_cases e:j=i
  ·subst e;exact⟨x,World.cell?_setCell_same _ _ _ hy⟩
  ·exact⟨y,(hc i e).trans hy⟩
 have hrow: ∀{e:TypeId} {s:Nat} {v':Value} {m:Nat} {xs:List Value},w.ownsRow (w0.heap.size+1) e s v' m xs→(w.setCell (iA w0.heap.size j) (iV x)).ownsRow (w0.heap.size+1) e s v' m xs:=fun ho=>ownsRow_setCell_below ho (a:=(iA w0.heap.size j)) (Nat.lt_succ_self _) _
 have hk: ∀k,k<w.heap.size→tag k≠.own→(w.setCell (iA w0.heap.size j) (iV x)).heap[k]? =w.heap[k]? ∧tag k=tag k:=fun k _ ho=>⟨Below.heap_setCell _ _ _ _ (fun e=>ho (h.tlow k (Nat.le_of_eq e))),rfl⟩
 refine⟨h.low.setCell (p:=(iA w0.heap.size j)) (Nat.le_refl _) _,?_,h.tlow,fun k hk=>h.tup k (by simpa using hk),hi 0 h.c0,hi 1 h.c1,hi 2 h.c2,?_,?_,h.wlen,?_,h.plen,h.duos_move (by simp) hk,?_,hi 7 h.mark,?_,h.sum⟩
 ·obtain⟨cur,b1⟩:=h.blk;exact⟨_,zA8 _ _ _ _ _ _ _ b1⟩
 ·obtain⟨u,ds,r1,r2,r3⟩:=h.draws;exact⟨u,ds,(hc 3 (by omega)).trans r1,hrow r2,r3⟩
 ·obtain⟨u,r1,r2,r3⟩:=h.words;exact⟨u,(hc 4 (by omega)).trans r1,hrow r2,r3⟩
 ·obtain⟨u,r1,r2,r3⟩:=h.desks;exact⟨u,(hc 5 (by omega)).trans r1,hrow r2,r3⟩
 ·obtain⟨u,k,xs,r1,r2,r3,r4,r5⟩:=h.lists;exact⟨u,k,xs,(hc 6 (by omega)).trans r1,hrow r2,r3,zB0 r4 hk,r5⟩
 ·exact(hc 8 (by omega)).trans h.lft
theorem St.setInt(h:St w0 w n ws left)(j:Nat)(hj:j=0∨j=1∨j=2∨j=7)(x:Int):St w0 (w.setCell (iA w0.heap.size j) (iV x)) n ws left:=by
 obtain⟨tag,ps,h,ha⟩:=h;exact⟨tag,ps,h.setInt j hj x,ha⟩
structure Grown(tag:Nat→Tag)(v:Value)(w w1:World)(v':Value):Prop where
 vt: ∀q,v.ownBlock=some q→tag q=.own
 os:w1.os=w.os
 tape:w1.tape=w.tape
 output:w1.output=w.output
 size:w.heap.size≤w1.heap.size
 block: ∀b,b<w.heap.size→some b≠v.ownBlock→w1.heap[b]? =w.heap[b]?
 at_: ∀q,v'.ownBlock=some q→v.ownBlock=some q∨w.heap.size≤q
theorem Grown.tags(hg:Grown tag v w w1 v')(h:StT tag ps w0 w n ws left): ∀q,v'.ownBlock=some q→tag q=.own:=fun q hq=>by
 rcases hg.at_ q hq with h1|h1
 ·exact hg.vt q h1
 ·exact h.tup q h1
theorem Grown.keeps(hg:Grown tag v w w1 v')(h:StT tag ps w0 w n ws left)(c:Nat)(u:Value): ∀k,k<w.heap.size→tag k≠.own→(w1.setCell (iA w0.heap.size c) u).heap[k]? =w.heap[k]? ∧tag k=tag k:=fun k hk ho=>
 ⟨(Below.heap_setCell _ _ _ _ (fun e=>ho (h.tlow k (Nat.le_of_eq e)))).trans (hg.block k hk (fun e=>ho (hg.vt k e.symm))),rfl⟩
theorem Grown.base{e:TypeId}(hg:Grown tag v w w1 v')(h:StT tag ps w0 w n ws left)(ho:w.ownsRow (w0.heap.size+1) e s v m xs)(c:Nat)(u:Value):
 w1.heap[w0.heap.size]? =w.heap[w0.heap.size]? ∧(∀i,c≠i→(w1.setCell (iA w0.heap.size c) u).cell? (iA w0.heap.size i)=w.cell? (iA w0.heap.size i))∧Below w0.heap.size w0 (w1.setCell (iA w0.heap.size c) u)∧
 (∀{e':TypeId} {s':Nat} {v2:Value} {k:Nat} {ys:List Value},w.ownsRow (w0.heap.size+1) e' s' v2 k ys→e'≠e→(w1.setCell (iA w0.heap.size c) u).ownsRow (w0.heap.size+1) e' s' v2 k ys):=by
 have hvb: ∀q,v.ownBlock=some q→w0.heap.size+1≤q:=fun q hq=>(ho.lt q hq).1
 have hlt:=h.lt;have hB:=hg.block _ h.lt (fun e=>by have:=hvb _ e.symm;omega);have hlow:=h.low.trans ⟨hg.os,hg.tape,hg.output,hg.size,fun k hk=>hg.block k (by omega) (fun e=>by have:=hvb _ e.symm;omega)⟩;refine⟨hB,fun i hi=>(zBy _ _ _ _ _ hi).trans (World.cell?_of_block (a:=(iA w0.heap.size i)) hB),hlow.setCell (p:=(iA w0.heap.size c)) (Nat.le_refl _) _,fun r he=>?_⟩;exact ownsRow_setCell_below (zA9 r fun q hq=>hg.block q (r.lt q hq).2 (fun e=>zE9 r ho he q hq e.symm)) (a:=(iA w0.heap.size c)) (Nat.lt_succ_self _) _
theorem StT.put_draws(h:StT tag ps w0 w n ws left)(hc3:w.cell? (iA w0.heap.size 3)=some v)(ho:w.ownsRow (w0.heap.size+1) 3 1 v ds.length (ds.map (iV)))(hg:Grown tag v w w1 v')
 {ds':List Int} (ho':w1.ownsRow (w0.heap.size+1) 3 1 v' ds'.length (ds'.map (iV))) (hx: ∀x∈ds',-9223372036854775808≤x∧x≤9223372036854775807) (hm:ds'.length≤n+1):StT tag ps w0 (w1.setCell (iA w0.heap.size 3) v') (n+1) ws left:=by
 obtain⟨hB,hc,hlow,hrow⟩:=hg.base h ho 3 v';have hk:=hg.keeps h 3 v';have hsz:w.heap.size≤(w1.setCell (iA w0.heap.size 3) v').heap.size:=by simpa using hg.size
 refine⟨hlow,?_,h.tlow,fun k hk=>h.tup k (Nat.le_trans hsz hk),by rw[hc _ (by decide)];exact h.c0,by rw[hc _ (by decide)];exact h.c1,by rw[hc _ (by decide)];exact h.c2,?_,?_,Nat.le_succ_of_le h.wlen,?_,Nat.le_succ_of_le h.plen,h.duos_move hsz hk,?_,by rw[hc _ (by decide)];exact h.mark,by rw[hc _ (by decide)];exact h.lft,h.sum⟩
 ·obtain⟨cur,b1⟩:=h.blk;exact⟨_,zA8 _ _ _ _ _ _ _ (hB.trans b1)⟩
 ·exact⟨v',ds',World.cell?_setCell_same (u:=v) _ _ _ ((World.cell?_of_block (a:=(iA w0.heap.size 3)) hB).trans hc3),ownsRow_setCell_below ho' (a:=(iA w0.heap.size 3)) (Nat.lt_succ_self _) _,hg.tags h,hx,hm⟩
 ·obtain⟨u,r1,r2,r3⟩:=h.words;exact⟨u,(hc 4 (by decide)).trans r1,hrow r2 (by decide),r3⟩
 ·obtain⟨u,r1,r2,r3⟩:=h.desks;exact⟨u,(hc 5 (by decide)).trans r1,hrow r2 (by decide),r3⟩
 ·obtain⟨u,k,ys,r1,r2,r3,r4,r5⟩:=h.lists;exact⟨u,k,ys,(hc 6 (by decide)).trans r1,hrow r2 (by decide),r3,zB0 r4 hk,by omega⟩
theorem St.put_draws(h:St w0 w n ws left)(hc3:w.cell? (iA w0.heap.size 3)=some v)(ho:w.ownsRow (w0.heap.size+1) 3 1 v ds.length (ds.map (iV)))
 (hos:w1.os=w.os) (htp:w1.tape=w.tape) (hout:w1.output=w.output) (hsz:w.heap.size≤w1.heap.size) (hb: ∀b,b<w.heap.size→some b≠v.ownBlock→w1.heap[b]? =w.heap[b]?) (hat: ∀q,v'.ownBlock=some q→v.ownBlock=some q∨w.heap.size≤q)
 {ds':List Int} (ho':w1.ownsRow (w0.heap.size+1) 3 1 v' ds'.length (ds'.map (iV))) (hx: ∀x∈ds',-9223372036854775808≤x∧x≤9223372036854775807) (hm:ds'.length≤n+1):St w0 (w1.setCell (iA w0.heap.size 3) v') (n+1) ws left:=by
 obtain⟨tag,ps,h,ha⟩:=h;obtain⟨u,_,r1,_,r3,_⟩:=h.draws;obtain rfl:v=u:=Option.some.inj (hc3.symm.trans r1);exact⟨tag,ps,h.put_draws hc3 ho ⟨r3,hos,htp,hout,hsz,hb,hat⟩ ho' hx hm,ha⟩
def Retag(tag tag':Nat→Tag)(w0 w:World)(m:Nat):Prop:= ∀k,tag' k=tag k∨(tag k=.own∧w0.heap.size<k∧k<w.heap.size∧(∃j,tag' k=.lst m j)∧∃cur T,w.heap[k]? =some (.cells cur T (0,0))∧(T=43∨T=178))
theorem Retag.keeps(h:Retag tag tag' w0 w m){k:Nat}(hk:tag k≠.own):tag' k=tag k:=(h k).resolve_right fun h=>hk h.1
theorem Retag.row(h:Retag tag tag' w0 w m){B:Nat}{e:TypeId}{k:Nat}(ho:w.ownsRow B e s v k xs)(h1:e≠43)(h2:e≠178)(hv: ∀q,v.ownBlock=some q→tag q=.own): ∀q,v.ownBlock=some q→tag' q=.own:=fun q hq=>by
 rcases h q with h3|⟨_,_,_,_,cur,T,h4,h5⟩
 ·exact h3.trans (hv q hq)
 ·obtain⟨c,h6⟩:=zAk ho hq;have:=zAg h6 h4;rcases h5 with rfl|rfl
  ·exact absurd this h1
  ·exact absurd this h2
theorem StT.put_lists(h:StT tag ps w0 w n ws left)(hc6:w.cell? (iA w0.heap.size 6)=some v)(ho:w.ownsRow (w0.heap.size+1) 110 4 v m xs)(hok:ListsOk tag w xs m)(hm:m≤n)(hg:Grown tag v w w1 v')
 {r q s t:Value} (ho':w1.ownsRow (w0.heap.size+1) 110 4 v' (m+1) (xs++ [r,q,s,t])) {tag':Nat→Tag} (hT:Retag tag tag' w0 w m) (hl:ListOk tag' m w1 r q s t):StT tag' ps w0 (w1.setCell (iA w0.heap.size 6) v') (n+1) ws left:=by
 obtain⟨hB,hc,hlow,hrow⟩:=hg.base h ho 6 v';have hsz:w.heap.size≤(w1.setCell (iA w0.heap.size 6) v').heap.size:=by simpa using hg.size
 have hk: ∀k,k<w.heap.size→tag k≠.own→(w1.setCell (iA w0.heap.size 6) v').heap[k]? =w.heap[k]? ∧tag' k=tag k:=fun k h1 h2=>⟨(hg.keeps h 6 v' k h1 h2).1,hT.keeps h2⟩
 have htl: ∀k,k≤w0.heap.size→tag' k=.own:=fun k hk=>((hT k).resolve_right fun h2=>by have:=h2.2.1;omega).trans (h.tlow k hk)
 refine⟨hlow,?_,htl,fun k hk=>((hT k).resolve_right fun h2=>by have:=h2.2.2.1;omega).trans (h.tup k (Nat.le_trans hsz hk)),by rw[hc _ (by decide)];exact h.c0,by rw[hc _ (by decide)];exact h.c1,by rw[hc _ (by decide)];exact h.c2,?_,?_,Nat.le_succ_of_le h.wlen,?_,Nat.le_succ_of_le h.plen,h.duos_move hsz hk,?_,by rw[hc _ (by decide)];exact h.mark,by rw[hc _ (by decide)];exact h.lft,h.sum⟩
 ·obtain⟨cur,b1⟩:=h.blk;exact⟨_,zA8 _ _ _ _ _ _ _ (hB.trans b1)⟩
 ·obtain⟨u,ds,r1,r2,r3,r4,r5⟩:=h.draws;exact⟨u,ds,(hc 3 (by decide)).trans r1,hrow r2 (by decide),hT.row r2 (by decide) (by decide) r3,r4,by omega⟩
 ·obtain⟨u,r1,r2,r3⟩:=h.words;exact⟨u,(hc 4 (by decide)).trans r1,hrow r2 (by decide),hT.row r2 (by decide) (by decide) r3⟩
 ·obtain⟨u,r1,r2,r3⟩:=h.desks;exact⟨u,(hc 5 (by decide)).trans r1,hrow r2 (by decide),hT.row r2 (by decide) (by decide) r3⟩
 ·refine⟨v',m+1,xs++ [r,q,s,t],World.cell?_setCell_same (u:=v) _ _ _ ((World.cell?_of_block (a:=(iA w0.heap.size 6)) hB).trans hc6),ownsRow_setCell_below ho' (a:=(iA w0.heap.size 6)) (Nat.lt_succ_self _) _,fun q hq=>?_,(zB0 hok hk).snoc ho.1 (hl.move fun k j _ ht=>⟨Below.heap_setCell _ _ _ _ (fun e=>?_),rfl⟩),by omega⟩
  ·rcases hg.at_ q hq with h1|h1
   ·exact hT.row ho (by decide) (by decide) hg.vt q h1
   ·exact((hT q).resolve_right fun h2=>by have:=h2.2.2.1;omega).trans (h.tup q h1)
  ·have e:=e;rw[htl k (Nat.le_of_eq e)]at ht;cases ht
structure LX(tag:Nat→Tag)(w0 w:World)(n:Nat)(v:Value)(m:Nat)(xs:List Value):Prop where
 cell:w.cell? (iA w0.heap.size 6)=some v
 row:w.ownsRow (w0.heap.size+1) 110 4 v m xs
 vt: ∀q,v.ownBlock=some q→tag q=.own
 ok:ListsOk tag w xs m
 len:m≤n
theorem StT.lx(h:StT tag ps w0 w n ws left): ∃v m xs,LX tag w0 w n v m xs:=by
 obtain⟨v,m,xs,h1,h2,h3,h4,h5⟩:=h.lists;exact⟨v,m,xs,h1,h2,h3,h4,h5⟩
theorem LX.below(h:LX tag w0 w n v m xs)(hlt:w0.heap.size<w.heap.size)(hb:Below w.heap.size w w'):LX tag w0 w' n v m xs:=
 ⟨(World.cell?_of_block (a:=(iA w0.heap.size 6)) (hb.block _ hlt)).trans h.cell,zA9 h.row (fun q hq=>hb.block q (h.row.lt q hq).2),h.vt,zB0 h.ok fun k hk _=>⟨hb.block k hk,rfl⟩,h.len⟩
theorem LX.setInt(h:LX tag w0 w n v m xs)(htl: ∀k,k≤w0.heap.size→tag k=.own)(j:Nat)(hj:j≠6)(u:Value):LX tag w0 (w.setCell (iA w0.heap.size j) u) n v m xs:=
 ⟨(zBy _ _ _ _ _ hj).trans h.cell,ownsRow_setCell_below h.row (a:=(iA w0.heap.size j)) (Nat.lt_succ_self _) _,h.vt,zB0 h.ok fun k _ ho=>⟨Below.heap_setCell _ _ _ _ (fun e=>ho (htl k (Nat.le_of_eq e))),rfl⟩,h.len⟩
theorem StT.both(h:StT tag ps w0 w n ws left)(hx:LX tag w0 w n v m xs){i:Nat}{a b:Nat}(ht0:tag g0=.lst i a)(ht1:tag g1=.lst i b)(hh:w'.heap.size=w.heap.size)(h1:w'.os=w.os)(h2:w'.tape=w.tape)(h3:w'.output=w.output)(hk: ∀k,k≠g0→k≠g1→w'.heap[k]? =w.heap[k]?)
 (hl: ∀r q s t,xs[4*i]? =some r→xs[4*i+1]? =some q→xs[4*i+2]? =some s→xs[4*i+3]? =some t→ListOk tag i w r q s t→ListOk tag i w' r q s t):StT tag ps w0 w' n ws left∧LX tag w0 w' n v m xs:=by
 have ne0: ∀k,tag k=.own→w'.heap[k]? =w.heap[k]? :=fun k ho=>hk k (fun e=>by rw[e,ht0]at ho;cases ho) (fun e=>by rw[e,ht1]at ho;cases ho)
 have hB:=ne0 w0.heap.size (h.tlow _ (Nat.le_refl _));have hc: ∀i,w'.cell? (iA w0.heap.size i)=w.cell? (iA w0.heap.size i):=fun i=>World.cell?_of_block (a:=(iA w0.heap.size i)) hB
 have hrow: ∀{e:TypeId} {s:Nat} {u:Value} {k:Nat} {ys:List Value},w.ownsRow (w0.heap.size+1) e s u k ys→(∀q,u.ownBlock=some q→tag q=.own)→w'.ownsRow (w0.heap.size+1) e s u k ys:=fun ho hv=>zA9 ho fun q hq=>ne0 q (hv q hq)
 have hok:ListsOk tag w' xs m:=fun j hj=>by
  obtain⟨r,q,s,t,a1,a2,a3,a4,a5⟩:=hx.ok j hj;refine⟨r,q,s,t,a1,a2,a3,a4,?_⟩;by_cases e:j=i
  ·subst e;exact hl r q s t a1 a2 a3 a4 a5
  ·refine a5.move fun k jj _ ht=>⟨hk k (fun e2=>?_) (fun e2=>?_),rfl⟩
   ·rw[e2,ht0]at ht;cases ht;exact e rfl
   ·rw[e2,ht1]at ht;cases ht;exact e rfl
 refine⟨⟨h.low.trans ⟨h1,h2,h3,Nat.le_of_eq hh.symm,fun k hk=>ne0 k (h.tlow k (by omega))⟩,by rw[hB];exact h.blk,h.tlow,fun k hk=>h.tup k (by rw[hh]at hk;exact hk),by rw[hc];exact h.c0,by rw[hc];exact h.c1,by rw[hc];exact h.c2,?_,?_,h.wlen,?_,h.plen,?_,?_,by rw[hc];exact h.mark,by rw[hc];exact h.lft,h.sum⟩,?_⟩
 ·obtain⟨u,ds,r1,r2,r3,r4,r5⟩:=h.draws;exact⟨u,ds,(hc 3).trans r1,hrow r2 r3,r3,r4,r5⟩
 ·obtain⟨u,r1,r2,r3⟩:=h.words;exact⟨u,(hc 4).trans r1,hrow r2 r3,r3⟩
 ·obtain⟨u,r1,r2,r3⟩:=h.desks;exact⟨u,(hc 5).trans r1,hrow r2 r3,r3⟩
 ·refine fun j p hp=>(h.duos j p hp).move (Nat.le_of_eq hh.symm) fun k _ ht=>⟨hk k (fun e=>?_) (fun e=>?_),rfl⟩
  ·rw[e,ht0]at ht;rcases ht with ht|ht|ht<;>cases ht
  ·rw[e,ht1]at ht;rcases ht with ht|ht|ht<;>cases ht
 ·exact⟨v,m,xs,(hc 6).trans hx.cell,hrow hx.row hx.vt,hx.vt,hok,hx.len⟩
 ·exact⟨(hc 6).trans hx.cell,hrow hx.row hx.vt,hx.vt,hok,hx.len⟩
theorem Half.both{ta tb:Tag}{T:TypeId}{c0 c1:Nat}(h0:Half tag ta T w (sL g0 M c0) M f)(h1:Half tag tb T w (sL g1 M c1) M f)(ht0:tag g0=ta)(ht1:tag g1=tb)(hne:g0≠g1)(o:Nat)(ho:o<7*M)(x:Int)(hw: ∀k:Nat,w'.heap[k]? =((w.setCell (iA g0 o) (iV x)).setCell (iA g1 o) (iV x)).heap[k]?):
 Half tag ta T w' (sL g0 M c0) M (fun j=>if j=o then x else f j)∧Half tag tb T w' (sL g1 M c1) M (fun j=>if j=o then x else f j):=by
 obtain⟨p,c,e,h0⟩:=h0;injection e with e1 e2 e3;subst e1 e3;obtain⟨p',c',e,h1⟩:=h1;injection e with e1 e2 e3;subst e1 e3;obtain⟨g,e,_,h0⟩:=h0.resolve_left (by omega);injection e with e;injection e with e;subst e;obtain⟨g,e,_,h1⟩:=h1.resolve_left (by omega);injection e with e;injection e with e;subst e;refine⟨⟨_,_,rfl,.inr ⟨g0,rfl,ht0,?_⟩⟩,⟨_,_,rfl,.inr ⟨g1,rfl,ht1,?_⟩⟩⟩
 ·exact(h0.set o x).of_block ((hw g0).trans (Below.heap_setCell _ _ _ _ hne))
 ·exact((h1.of_block (w':=w.setCell (iA g0 o) (iV x)) (Below.heap_setCell _ _ _ _ (Ne.symm hne))).set o x).of_block (hw g1)
theorem StT.put_desks(h:StT tag ps w0 w n ws left)(hc5:w.cell? (iA w0.heap.size 5)=some v)(ho:w.ownsRow (w0.heap.size+1) 104 3 v ps.length (ps.flatMap Duo.cells))(hg:Grown tag v w w1 v')
 {ps':List Duo} (ho':w1.ownsRow (w0.heap.size+1) 104 3 v' ps'.length (ps'.flatMap Duo.cells)) (hm:ps'.length≤n+1) (hd: ∀i p,ps'[i]? =some p→DuoOk tag i (w1.setCell (iA w0.heap.size 5) v') p):StT tag ps' w0 (w1.setCell (iA w0.heap.size 5) v') (n+1) ws left:=by
 obtain⟨hB,hc,hlow,hrow⟩:=hg.base h ho 5 v';have hk:=hg.keeps h 5 v';have hsz:w.heap.size≤(w1.setCell (iA w0.heap.size 5) v').heap.size:=by simpa using hg.size
 refine⟨hlow,?_,h.tlow,fun k hk=>h.tup k (Nat.le_trans hsz hk),by rw[hc _ (by decide)];exact h.c0,by rw[hc _ (by decide)];exact h.c1,by rw[hc _ (by decide)];exact h.c2,?_,?_,Nat.le_succ_of_le h.wlen,?_,hm,hd,?_,by rw[hc _ (by decide)];exact h.mark,by rw[hc _ (by decide)];exact h.lft,h.sum⟩
 ·obtain⟨cur,b1⟩:=h.blk;exact⟨_,zA8 _ _ _ _ _ _ _ (hB.trans b1)⟩
 ·obtain⟨u,ds,r1,r2,r3,r4,r5⟩:=h.draws;exact⟨u,ds,(hc 3 (by decide)).trans r1,hrow r2 (by decide),r3,r4,by omega⟩
 ·obtain⟨u,r1,r2,r3⟩:=h.words;exact⟨u,(hc 4 (by decide)).trans r1,hrow r2 (by decide),r3⟩
 ·exact⟨v',World.cell?_setCell_same (u:=v) _ _ _ ((World.cell?_of_block (a:=(iA w0.heap.size 5)) hB).trans hc5),ownsRow_setCell_below ho' (a:=(iA w0.heap.size 5)) (Nat.lt_succ_self _) _,hg.tags h⟩
 ·obtain⟨u,k,ys,r1,r2,r3,r4,r5⟩:=h.lists;exact⟨u,k,ys,(hc 6 (by decide)).trans r1,hrow r2 (by decide),r3,zB0 r4 hk,by omega⟩
end
theorem zGw(n:Int):IntKind.i64.wrap n=wrap64 n:=by
 simp only[IntKind.wrap,IntKind.bits,IntKind.signed];unfold wrap64;simp;try omega
section
variable {tag:Nat→Tag} {ps:List Duo} {w0 w:World} {n:Nat} {ws:List ByteArray} {left:Int}
theorem LX.cells(hx:LX tag w0 w n (sL g m cap) m xs)(j:Nat)(u:Value)(hu:xs[j]? =some u):w.cell? (iA g j)=some u:=by
 have:=World.ownsRow.cells hx.row (g:=g) rfl j u hu;rw[Addr.add_lit]at this;simpa using this
theorem LX.at_(hx:LX tag w0 w n v m xs)(hq:q<m){r t s:Value}(a1:xs[4*q]? =some r)(a2:xs[4*q+1]? =some t)(a3:xs[4*q+2]? =some s)(a4:xs[4*q+3]? =some u):ListOk tag q w r t s u:=by
 obtain⟨r',t',s',u',b1,b2,b3,b4,h⟩:=hx.ok q hq;obtain rfl:=Option.some.inj (a1.symm.trans b1);obtain rfl:=Option.some.inj (a2.symm.trans b2);obtain rfl:=Option.some.inj (a3.symm.trans b3);obtain rfl:=Option.some.inj (a4.symm.trans b4);exact h
theorem Half.open_{t:Tag}{T:TypeId}{p:Option Addr}{c:Nat}(h:Half tag t T w v m f)(hv:v=.slice p M c):m=M∧(0<M→∃g,p=some (iA g 0)∧tag g=t∧Cells7 w g T M f):=by
 obtain⟨p',c',e,h⟩:=h;rw[hv]at e;injection e with e1 e2 e3;subst e1 e2;exact⟨rfl,fun hp=>h.resolve_left (by omega)⟩
theorem StT.bothR(h:StT tag ps w0 w n ws left)(hx:LX tag w0 w n v m xs){cr ct:Nat}{s:Value}(a1:xs[4*q]? =some (sL g0 M cr))(a2:xs[4*q+1]? =some (sL g1 M ct))(a3:xs[4*q+2]? =some s)(a4:xs[4*q+3]? =some u)(hq:q<m)(ht0:tag g0=.lst q 0)(ht1:tag g1=.lst q 1)(o:Nat)(ho:o<7*M)(x:Int)(hh:w'.heap.size=w.heap.size)(h1:w'.os=w.os)(h2:w'.tape=w.tape)(h3:w'.output=w.output)(hw: ∀k:Nat,w'.heap[k]? =((w.setCell (iA g0 o) (iV x)).setCell (iA g1 o) (iV x)).heap[k]?):StT tag ps w0 w' n ws left∧LX tag w0 w' n v m xs:=by
 have hne:g0≠g1:=fun e=>by rw[e,ht1]at ht0;cases ht0
 have hk: ∀k,k≠g0→k≠g1→w'.heap[k]? =w.heap[k]? :=fun k n0 n1=>(hw k).trans ((Below.heap_setCell _ _ _ _ n1).trans (Below.heap_setCell _ _ _ _ n0))
 refine h.both hx ht0 ht1 hh h1 h2 h3 hk fun r t s' u' b1 b2 b3 b4 hl=>?_
 obtain rfl:=Option.some.inj (a1.symm.trans b1);obtain rfl:=Option.some.inj (a2.symm.trans b2);obtain⟨mm,f,mm',f',k1,k2,k3,k4,k5,k6⟩:=hl;obtain⟨rfl,_⟩:=k3.open_ rfl;obtain⟨r1,r2⟩:=k3.both k4 ht0 ht1 hne o ho x hw;exact⟨_,_,mm',f',k1,k2,r1,r2,k5.move fun k hk1 ht=>⟨hk k (fun e=>by rw[e,ht0]at ht;cases ht) (fun e=>by rw[e,ht1]at ht;cases ht),rfl⟩,k6.move fun k hk1 ht=>⟨hk k (fun e=>by rw[e,ht0]at ht;cases ht) (fun e=>by rw[e,ht1]at ht;cases ht),rfl⟩⟩
theorem StT.bothS(h:StT tag ps w0 w n ws left)(hx:LX tag w0 w n v m xs){cr ct:Nat}{s:Value}(a1:xs[4*q]? =some s)(a2:xs[4*q+1]? =some u)(a3:xs[4*q+2]? =some (sL g0 M cr))(a4:xs[4*q+3]? =some (sL g1 M ct))(hq:q<m)(ht0:tag g0=.lst q 2)(ht1:tag g1=.lst q 3)(o:Nat)(ho:o<7*M)(x:Int)(hh:w'.heap.size=w.heap.size)(h1:w'.os=w.os)(h2:w'.tape=w.tape)(h3:w'.output=w.output)(hw: ∀k:Nat,w'.heap[k]? =((w.setCell (iA g0 o) (iV x)).setCell (iA g1 o) (iV x)).heap[k]?):StT tag ps w0 w' n ws left∧LX tag w0 w' n v m xs:=by
 have hne:g0≠g1:=fun e=>by rw[e,ht1]at ht0;cases ht0
 have hk: ∀k,k≠g0→k≠g1→w'.heap[k]? =w.heap[k]? :=fun k n0 n1=>(hw k).trans ((Below.heap_setCell _ _ _ _ n1).trans (Below.heap_setCell _ _ _ _ n0))
 refine h.both hx ht0 ht1 hh h1 h2 h3 hk fun r t s' u' b1 b2 b3 b4 hl=>?_
 obtain rfl:=Option.some.inj (a3.symm.trans b3);obtain rfl:=Option.some.inj (a4.symm.trans b4);obtain⟨mm,f,mm',f',k1,k2,k3,k4,k5,k6⟩:=hl;obtain⟨rfl,_⟩:=k5.open_ rfl;obtain⟨r1,r2⟩:=k5.both k6 ht0 ht1 hne o ho x hw;exact⟨mm,f,_,_,k1,k2,k3.move fun k hk1 ht=>⟨hk k (fun e=>by rw[e,ht0]at ht;cases ht) (fun e=>by rw[e,ht1]at ht;cases ht),rfl⟩,k4.move fun k hk1 ht=>⟨hk k (fun e=>by rw[e,ht0]at ht;cases ht) (fun e=>by rw[e,ht1]at ht;cases ht),rfl⟩,r1,r2⟩
end
theorem zPx(h:St w0 w n ws left)(k:Int)(hn:n≤1000000000)(h1: -9223372036854775808≤k)(h2:k≤9223372036854775807):
 Cl 83 #[iP w0.heap.size,iV k] w fun e w'=>e=rV #[]∧St w0 w' n ws left:=by
 obtain⟨tag,ps,h,HALL⟩:=h;have HA:Hid (∀p∈ps,p.all.size≤sizes ws):=HALL;obtain⟨v,m,xs,hx⟩:=h.lx;have HST:Hid (StT tag ps w0 w n ws left):=h;have HLX:Hid (LX tag w0 w n v m xs):=hx;have hc:=hx.cell;have hm:=hx.len;by_cases hz:m=0
 ·subst hz;rcases hx.row.2 with⟨rfl,-⟩|⟨g,cap,cur,rfl,hg,hh,hle,hmx,hsz2,htk⟩;all_goals
   try clear hh htk hsz2
   go_enter Tryz.func83,Tryz.ntmps83;go_wp2
   (try simp only[Exit.inBlock,Exit.then]);refine bodyPost_ret (results_none rfl _ _ _) rfl ?_
   exact⟨rfl,tag,ps,HST,HA⟩
 ·rcases hx.row.2 with⟨rfl,hn0⟩|⟨g,cap,cur,rfl,hg,hh,hle,hmx,hsz2,htk⟩
  ·exact absurd hn0 hz
  ·have hp:=zBs k m (by omega);have hpb:=zAm k m (by omega);have hpk:=fun W=>zAs k (m:Int) W h1 h2 (by omega) (by omega)
   obtain⟨q,hq⟩: ∃q:Nat,pickN k m=q:=⟨(pickN k m).toNat,by omega⟩;rw[hq]at hp hpb hpk;have HPQ:Hid (∀W,Cl 37 #[iV k,iV (m:Int)] W fun e w'=>e=.returned (iV (q:Int))∧w'=W):=hpk;have hqm:q<m:=by simpa using hp
   have hqI:(q:Int)<(m:Int):=by omega
   obtain⟨r,t,s,u,a1,a2,a3,a4,hlq⟩:=hx.ok q hqm;obtain⟨M,f,M',f',hM,hM',⟨pr,cr,rfl,hr⟩,⟨pt,ct,rfl,ht⟩,⟨ps',cs,rfl,hs⟩,⟨pu,cu,rfl,hu⟩⟩:=hlq;have HA1:Hid (xs[4*q]? =some (.slice pr M cr)):=a1;have HA2:Hid (xs[4*q+1]? =some (.slice pt M ct)):=a2;have HA3:Hid (xs[4*q+2]? =some (.slice ps' M' cs)):=a3;have HA4:Hid (xs[4*q+3]? =some (.slice pu M' cu)):=a4;have hne:((m:Int) == 0)=false:=beq_eq_false_iff_ne.2 (by omega);have HGB:Hid (w0.heap.size+1≤g∧tag g=.own):=⟨hg,hx.vt g rfl⟩;go_enter Tryz.func83,Tryz.ntmps83;go_wp2_with fail;go_quiet ((go_at_call 37;exact Calls.quiet_of_same (HPQ _)));go_wp2_with fail;have HSTq:Hid (StT tag ps w0 (w.drewN nq) n ws left∧LX tag w0 (w.drewN nq) n (sL g m cap) m xs):=⟨HST.drewN nq,HLX.below HST.lt ⟨rfl,rfl,rfl,Nat.le_refl _,fun _ _=>rfl⟩⟩
   go_loopw [5] (fun i wr=> ∃j:Nat,i=iV j∧j≤M∧StT tag ps w0 wr n ws left∧LX tag w0 wr n (sL g m cap) m xs) (fun i _=>M - (intOf i).toNat)
   case atStart=>exact⟨0,rfl,Nat.zero_le _,HSTq.1,HSTq.2⟩
   case round=>
    obtain⟨j,rfl,hj,hS,hX⟩:=hrel;have HS:Hid (StT tag ps w0 wr n ws left):=hS;have HX:Hid (LX tag w0 wr n (sL g m cap) m xs):=hX;have e1:wr.cell? (iA g (q*4))=some (.slice pr M cr):=by rw[Nat.mul_comm];exact hX.cells _ _ HA1
    have e2:wr.cell? (iA g (q*4+1))=some (.slice pt M ct):=by rw[Nat.mul_comm];exact hX.cells _ _ HA2
    have e3:wr.cell? (iA g (q*4+2))=some (.slice ps' M' cs):=by rw[Nat.mul_comm];exact hX.cells _ _ HA3
    obtain⟨x,hx⟩:=hS.mark;have hf:=hS.froz 7;by_cases hlt:j<M
    ·have hjI:(j:Int)<(M:Int):=by omega
     obtain⟨mm,F,mm',F',_,_,k3,k4,_,_⟩:=hX.at_ hqm HA1 HA2 HA3 HA4;obtain⟨rfl,k3'⟩:=k3.open_ rfl;obtain⟨gr,rfl,htr,ir⟩:=k3' (by omega);obtain⟨_,k4'⟩:=k4.open_ rfl;obtain⟨gt,rfl,htt,it⟩:=k4' (by omega);have hy:=ir.cell (j*7+2) (by omega);have hz':=it.cell (j*7+2) (by omega);have fy:=ir.froz (j*7+2);have fz:=it.froz (j*7+2);have hgr:gr≠g:=fun e=>by rw[e,HGB.2]at htr;cases htr
     have hgt:gt≠g:=fun e=>by rw[e,HGB.2]at htt;cases htt
     have hrt:gr≠gt:=fun e=>by rw[e,htt]at htr;cases htr
     have hgB:g≠w0.heap.size:=by have:=HGB.1;omega
     have hrB:gr≠w0.heap.size:=fun e=>by rw[e,HS.tlow _ (Nat.le_refl _)]at htr;cases htr
     have htB:gt≠w0.heap.size:=fun e=>by rw[e,HS.tlow _ (Nat.le_refl _)]at htt;cases htt
     have HTR:Hid (tag gr=.lst q 0∧tag gt=.lst q 1):=⟨htr,htt⟩;have HI1:Hid (StT tag ps w0 (wr.setCell (iA w0.heap.size 7) (iV (wrap64 (x+1)))) n ws left):=HS.setInt 7 (by omega) _;have HI2:Hid (LX tag w0 (wr.setCell (iA w0.heap.size 7) (iV (wrap64 (x+1)))) n (sL g m cap) m xs):=HX.setInt HS.tlow 7 (by omega) _;have ne7: ∀b o,b≠w0.heap.size→(wr.setCell (iA w0.heap.size 7) (iV (wrap64 (x+1)))).cell? (iA b o)=wr.cell? (iA b o):=fun b o hb=>World.cell?_setCell_other _ _ _ _ (by intro e;injection e with ea eb;omega)
     have a1:=(ne7 g (q*4) hgB).trans e1;have a2:=(ne7 g (q*4+1) hgB).trans e2;have a3:=(ne7 gr (j*7+2) hrB).trans hy;have a4:=(ne7 gt (j*7+2) htB).trans hz';have a7:(wr.setCell (iA w0.heap.size 7) (iV (wrap64 (x+1)))).cell? (iA w0.heap.size 7)=sI (wrap64 (x+1)):=World.cell?_setCell_same _ _ _ hx;have a5:(wr.setCell (iA w0.heap.size 7) (iV (wrap64 (x+1)))).frozen? (iA gr (j*7+2))=false:=(World.frozen?_setCell _ _ _ _).trans fy;have a6:(wr.setCell (iA w0.heap.size 7) (iV (wrap64 (x+1)))).frozen? (iA gt (j*7+2))=false:=(World.frozen?_setCell _ _ _ _).trans fz;go_wp2_with fail;generalize wr.setCell (iA w0.heap.size 7) (iV (wrap64 (x+1)))=W1 at *
     go_region_held3(fun W=>W.cell? (iA g (q*4))=some (sL gr mm cr)∧W.cell? (iA w0.heap.size 7)=sI (wrap64 (x+1))) (first|exact⟨a1,a7⟩|exact⟨(World.cell?_setCell_other _ _ _ _ (by intro e;injection e with ea eb;omega)).trans a1,(World.cell?_setCell_other _ _ _ _ (by intro e;injection e with ea eb;omega)).trans a7⟩) (fail);go_wp2_with fail;have b2:(W1.setCell (iA gr (j*7+2)) (iV (IntKind.i64.wrap (-wrap64 (x+1))))).drew.cell? (iA g (q*4+1))=some (sL gt mm ct):=(World.cell?_setCell_other _ _ _ _ (by intro e;injection e with ea eb;omega)).trans a2;have b7:(W1.setCell (iA gr (j*7+2)) (iV (IntKind.i64.wrap (-wrap64 (x+1))))).drew.cell? (iA w0.heap.size 7)=sI (wrap64 (x+1)):=(World.cell?_setCell_other _ _ _ _ (by intro e;injection e with ea eb;omega)).trans a7
     have b4:(W1.setCell (iA gr (j*7+2)) (iV (IntKind.i64.wrap (-wrap64 (x+1))))).drew.cell? (iA gt (j*7+2))=sI (F (j*7+2)):=(World.cell?_setCell_other _ _ _ _ (by intro e;injection e with ea eb;omega)).trans a4;have b6:(W1.setCell (iA gr (j*7+2)) (iV (IntKind.i64.wrap (-wrap64 (x+1))))).drew.frozen? (iA gt (j*7+2))=false:=(World.frozen?_setCell _ _ _ _).trans a6;have HW2:Hid ((W1.setCell (iA gr (j*7+2)) (iV (IntKind.i64.wrap (-wrap64 (x+1))))).drew.heap=(W1.setCell (iA gr (j*7+2)) (iV (IntKind.i64.wrap (-wrap64 (x+1))))).heap∧(W1.setCell (iA gr (j*7+2)) (iV (IntKind.i64.wrap (-wrap64 (x+1))))).drew.os=W1.os∧(W1.setCell (iA gr (j*7+2)) (iV (IntKind.i64.wrap (-wrap64 (x+1))))).drew.tape=W1.tape∧(W1.setCell (iA gr (j*7+2)) (iV (IntKind.i64.wrap (-wrap64 (x+1))))).drew.output=W1.output):=⟨rfl,rfl,rfl,rfl⟩
     generalize (W1.setCell (iA gr (j*7+2)) (iV (IntKind.i64.wrap (-wrap64 (x+1))))).drew=W2 at *;go_region_held3(fun W=>W.cell? (iA g (q*4+1))=some (sL gt mm ct)∧W.cell? (iA w0.heap.size 7)=sI (wrap64 (x+1))) (first|exact⟨b2,b7⟩|exact⟨(World.cell?_setCell_other _ _ _ _ (by intro e;injection e with ea eb;omega)).trans b2,(World.cell?_setCell_other _ _ _ _ (by intro e;injection e with ea eb;omega)).trans b7⟩) (fail);go_wp2;go_roundw
     case rel=>
      obtain⟨z1,z2,z3,z4⟩:=HW2;have hxx:IntKind.i64.wrap (-wrap64 (x+1))=wrap64 (-wrap64 (x+1)):=zGw _;rw[hxx]at z1;obtain⟨y1,y2⟩:=HI1.out.bothR HI2 HA1 HA2 HA3 HA4 hqm HTR.out.1 HTR.out.2 (j*7+2) (by omega) (wrap64 (-wrap64 (x+1))) (w':=(W2.setCell (iA gt (j*7+2)) (iV (wrap64 (-wrap64 (x+1))))).drew) (by show(W2.setCell _ _).heap.size=_;simp[z1]) z2 z3 z4 (fun k=>by
       show(W2.heap.modify _ _)[k]? =_;rw[z1];rfl)
      exact⟨j+1,by go_num,by omega,y1,y2⟩
     case measure=>simp[intOf];omega
    ·have hjM: ¬(j:Int)<(M:Int):=by omega
     go_wp2_with fail;go_loopw [6] (fun i wr'=> ∃j2:Nat,i=iV j2∧j2≤M'∧StT tag ps w0 wr' n ws left∧LX tag w0 wr' n (sL g m cap) m xs) (fun i _=>M' - (intOf i).toNat)
     case atStart=>exact⟨0,rfl,Nat.zero_le _,HS,HX⟩
     case round=>
      obtain⟨j2,rfl,hj2,hS,hX⟩:=hrel;have HS:Hid (StT tag ps w0 wr n ws left):=hS;have HX:Hid (LX tag w0 wr n (sL g m cap) m xs):=hX;have e1:wr.cell? (iA g (q*4+2))=some (.slice ps' M' cs):=by rw[Nat.mul_comm];exact hX.cells _ _ HA3
      have e2:wr.cell? (iA g (q*4+3))=some (.slice pu M' cu):=by rw[Nat.mul_comm];exact hX.cells _ _ HA4
      obtain⟨x,hx⟩:=hS.mark;have hf:=hS.froz 7;by_cases hlt:j2<M'
      ·have hjI2:(j2:Int)<(M':Int):=by omega
       obtain⟨mm,F,mm',F',_,_,_,_,k3,k4⟩:=hX.at_ hqm HA1 HA2 HA3 HA4;obtain⟨rfl,k3'⟩:=k3.open_ rfl;obtain⟨gr,rfl,htr,ir⟩:=k3' (by omega);obtain⟨_,k4'⟩:=k4.open_ rfl;obtain⟨gt,rfl,htt,it⟩:=k4' (by omega);have hy:=ir.cell (j2*7) (by omega);have hz':=it.cell (j2*7) (by omega);have fy:=ir.froz (j2*7);have fz:=it.froz (j2*7);have hgr:gr≠g:=fun e=>by rw[e,HGB.2]at htr;cases htr
       have hgt:gt≠g:=fun e=>by rw[e,HGB.2]at htt;cases htt
       have hrt:gr≠gt:=fun e=>by rw[e,htt]at htr;cases htr
       have hgB:g≠w0.heap.size:=by have:=HGB.1;omega
       have hrB:gr≠w0.heap.size:=fun e=>by rw[e,HS.tlow _ (Nat.le_refl _)]at htr;cases htr
       have htB:gt≠w0.heap.size:=fun e=>by rw[e,HS.tlow _ (Nat.le_refl _)]at htt;cases htt
       have HTR:Hid (tag gr=.lst q 2∧tag gt=.lst q 3):=⟨htr,htt⟩;have HI1:Hid (StT tag ps w0 (wr.setCell (iA w0.heap.size 7) (iV (wrap64 (x+1)))) n ws left):=HS.setInt 7 (by omega) _;have HI2:Hid (LX tag w0 (wr.setCell (iA w0.heap.size 7) (iV (wrap64 (x+1)))) n (sL g m cap) m xs):=HX.setInt HS.tlow 7 (by omega) _;have ne7: ∀b o,b≠w0.heap.size→(wr.setCell (iA w0.heap.size 7) (iV (wrap64 (x+1)))).cell? (iA b o)=wr.cell? (iA b o):=fun b o hb=>World.cell?_setCell_other _ _ _ _ (by intro e;injection e with ea eb;omega)
       have a1:=(ne7 g (q*4+2) hgB).trans e1;have a2:=(ne7 g (q*4+3) hgB).trans e2;have a3:=(ne7 gr (j2*7) hrB).trans hy;have a4:=(ne7 gt (j2*7) htB).trans hz';have a7:(wr.setCell (iA w0.heap.size 7) (iV (wrap64 (x+1)))).cell? (iA w0.heap.size 7)=sI (wrap64 (x+1)):=World.cell?_setCell_same _ _ _ hx;have a5:(wr.setCell (iA w0.heap.size 7) (iV (wrap64 (x+1)))).frozen? (iA gr (j2*7))=false:=(World.frozen?_setCell _ _ _ _).trans fy;have a6:(wr.setCell (iA w0.heap.size 7) (iV (wrap64 (x+1)))).frozen? (iA gt (j2*7))=false:=(World.frozen?_setCell _ _ _ _).trans fz;go_wp2_with fail;generalize wr.setCell (iA w0.heap.size 7) (iV (wrap64 (x+1)))=W1 at *
       go_region_held3(fun W=>W.cell? (iA g (q*4+2))=some (sL gr mm' cs)∧W.cell? (iA w0.heap.size 7)=sI (wrap64 (x+1))) (first|exact⟨a1,a7⟩|exact⟨(World.cell?_setCell_other _ _ _ _ (by intro e;injection e with ea eb;omega)).trans a1,(World.cell?_setCell_other _ _ _ _ (by intro e;injection e with ea eb;omega)).trans a7⟩) (fail);go_wp2_with fail;have b2:(W1.setCell (iA gr (j2*7)) (iV (IntKind.i64.wrap (-wrap64 (x+1))))).drew.cell? (iA g (q*4+3))=some (sL gt mm' cu):=(World.cell?_setCell_other _ _ _ _ (by intro e;injection e with ea eb;omega)).trans a2;have b7:(W1.setCell (iA gr (j2*7)) (iV (IntKind.i64.wrap (-wrap64 (x+1))))).drew.cell? (iA w0.heap.size 7)=sI (wrap64 (x+1)):=(World.cell?_setCell_other _ _ _ _ (by intro e;injection e with ea eb;omega)).trans a7
       have b4:(W1.setCell (iA gr (j2*7)) (iV (IntKind.i64.wrap (-wrap64 (x+1))))).drew.cell? (iA gt (j2*7))=sI (F' (j2*7)):=(World.cell?_setCell_other _ _ _ _ (by intro e;injection e with ea eb;omega)).trans a4;have b6:(W1.setCell (iA gr (j2*7)) (iV (IntKind.i64.wrap (-wrap64 (x+1))))).drew.frozen? (iA gt (j2*7))=false:=(World.frozen?_setCell _ _ _ _).trans a6;have HW2:Hid ((W1.setCell (iA gr (j2*7)) (iV (IntKind.i64.wrap (-wrap64 (x+1))))).drew.heap=(W1.setCell (iA gr (j2*7)) (iV (IntKind.i64.wrap (-wrap64 (x+1))))).heap∧(W1.setCell (iA gr (j2*7)) (iV (IntKind.i64.wrap (-wrap64 (x+1))))).drew.os=W1.os∧(W1.setCell (iA gr (j2*7)) (iV (IntKind.i64.wrap (-wrap64 (x+1))))).drew.tape=W1.tape∧(W1.setCell (iA gr (j2*7)) (iV (IntKind.i64.wrap (-wrap64 (x+1))))).drew.output=W1.output):=⟨rfl,rfl,rfl,rfl⟩;generalize (W1.setCell (iA gr (j2*7)) (iV (IntKind.i64.wrap (-wrap64 (x+1))))).drew=W2 at *
       go_region_held3(fun W=>W.cell? (iA g (q*4+3))=some (sL gt mm' cu)∧W.cell? (iA w0.heap.size 7)=sI (wrap64 (x+1))) (first|exact⟨b2,b7⟩|exact⟨(World.cell?_setCell_other _ _ _ _ (by intro e;injection e with ea eb;omega)).trans b2,(World.cell?_setCell_other _ _ _ _ (by intro e;injection e with ea eb;omega)).trans b7⟩) (fail);go_wp2;go_roundw
       case rel=>
        obtain⟨z1,z2,z3,z4⟩:=HW2;have hxx:IntKind.i64.wrap (-wrap64 (x+1))=wrap64 (-wrap64 (x+1)):=zGw _;rw[hxx]at z1;obtain⟨y1,y2⟩:=HI1.out.bothS HI2 HA1 HA2 HA3 HA4 hqm HTR.out.1 HTR.out.2 (j2*7) (by omega) (wrap64 (-wrap64 (x+1))) (w':=(W2.setCell (iA gt (j2*7)) (iV (wrap64 (-wrap64 (x+1))))).drew) (by show(W2.setCell _ _).heap.size=_;simp[z1]) z2 z3 z4 (fun k=>by
         show(W2.heap.modify _ _)[k]? =_;rw[z1];rfl)
        exact⟨j2+1,by go_num,by omega,y1,y2⟩
       case measure=>simp[intOf];omega
      ·have hjM2: ¬(j2:Int)<(M':Int):=by omega
       have HFIN:Hid (St w0 wr n ws left):=⟨tag,ps,HS,HA⟩;go_wp2;go_end0;exact⟨rfl,HFIN⟩
abbrev opV(kind a b d:Int)(s:ByteArray)(v:Nat→Int):Value:=.agg #[iV kind,iV a,iV b,iV d,.string s,iV (v 0),iV (v 1),iV (v 2),iV (v 3),iV (v 4),iV (v 5),iV (v 6),iV (v 7),iV (v 8)]
abbrev opC(kind a b d:Int)(s:ByteArray)(v:Nat→Int):Array Value:=#[iV kind,iV a,iV b,iV d,.string s,iV (v 0),iV (v 1),iV (v 2),iV (v 3),iV (v 4),iV (v 5),iV (v 6),iV (v 7),iV (v 8)]
def I64(x:Int):Prop:= -9223372036854775808≤x∧x≤9223372036854775807
theorem zA0(o:Obj):Below w.heap.size w (w.alloc o):=(Below.refl _ _).alloc (Nat.le_refl _) _
def Next(w0 w':World)(n:Nat):Prop:= ∃ws' left',St w0 w' (n+2) ws' left'
theorem St.next(h:St w0 w n ws left):Next w0 w n:=⟨ws,left,h.mono (by omega)⟩
theorem Next.of(h:St w0 w (n+1) ws left):Next w0 w n:=⟨ws,left,h.mono (by omega)⟩
theorem zPy(t:ByteArray)(q:Nat)(w:World)(h:q≤t.size):(Instr.slice 9 (.string t) none (sI (q:Int)) none).run Tryz.prog w=.ok (.string (t.extract 0 q)) w:=by
 rw[run_slice_string_to_if w 9 t .i64 (q:Int) Tryz.underlying9,if_pos (by omega)];rfl
theorem zPz(t:ByteArray)(q:Nat)(w:World)(h:q≤t.size):(Instr.slice 9 (.string t) (sI (q:Int)) none none).run Tryz.prog w=.ok (.string (t.extract q t.size)) w:=by
 rw[run_slice_string_from_if w 9 t .i64 (q:Int) Tryz.underlying9,if_pos (by omega)];rfl
section
variable {w0 w:World} {n:Nat} {ws:List ByteArray} {left:Int}
theorem zQ(h:St w0 w n ws left)(a b d:Int)(s:ByteArray)(v:Nat→Int)(hn:n≤100000000)(ha:I64 a)(hs:s.size≤1000000000)(hl:0<left):
 Cl 38 #[iP w0.heap.size,opV 4 a b d s v] w fun e w'=>e=rV #[]∧Next w0 w' n:=by
 have HS:Hid (St w0 (w.alloc (.cells (opC 4 a b d s v) 79)) n ws left):=h.below (zA0 _);go_enter Tryz.func38,Tryz.ntmps38;go_wp2_with fail;refine(HS.word a (by omega) ha.1 ha.2).mono ?_;rintro e w1 ⟨rfl,m,rfl⟩;go_wp2_with fail;refine((HS.drewN m).keep s (by omega) hs (by omega)).mono ?_;rintro e w2 ⟨rfl,hS2,hsz⟩;have HS2:Hid (St w0 w2 (n+1) (ws++ [s]) (left - (s.size:Int))):=hS2;go_wp2;go_end0;exact⟨rfl,Next.of HS2⟩
theorem zQ0(h:St w0 w n ws left)(a b d:Int)(s:ByteArray)(v:Nat→Int)(hn:n≤100000000)(ha:I64 a)(hb:I64 b)(hl:0<left):
 Cl 38 #[iP w0.heap.size,opV 5 a b d s v] w fun e w'=>e=rV #[]∧Next w0 w' n:=by
 have hsum:=h.sum;have hz1:=zAc ws a;have hz2:=zAc ws b;have HS:Hid (St w0 (w.alloc (.cells (opC 5 a b d s v) 79)) n ws left):=h.below (zA0 _);go_enter Tryz.func38,Tryz.ntmps38;go_wp2_with fail;refine(HS.word a (by omega) ha.1 ha.2).mono ?_;rintro e w1 ⟨rfl,m,rfl⟩;generalize hta:wordAt ws a=ta at *;generalize htb:wordAt ws b=tb at *;go_wp2_with fail;refine((HS.drewN m).word b (by omega) hb.1 hb.2).mono ?_;rintro e w2 ⟨rfl,m2,rfl⟩;rw[htb];have happ:(ta++tb).size≤1000000000:=by rw[ByteArray.size_append];omega
 go_wp2_with fail;refine((HS.drewN (m+m2)).keep (ta++tb) (by omega) happ (by omega)).mono ?_;rintro e w2 ⟨rfl,hS2,hsz⟩;have HS2:Hid (Next w0 w2 n):=Next.of hS2;go_wp2;go_end0;exact⟨rfl,HS2⟩
theorem zQ1(h:St w0 w n ws left)(a b d:Int)(s:ByteArray)(v:Nat→Int)(hn:n≤100000000)(ha:I64 a)(hb:I64 b)(hl:0<left):
 Cl 38 #[iP w0.heap.size,opV 7 a b d s v] w fun e w'=>e=rV #[]∧Next w0 w' n:=by
 have hsum:=h.sum;have hz1:=zAc ws a;have hz2:=zAc ws b;have HS:Hid (St w0 (w.alloc (.cells (opC 7 a b d s v) 79)) n ws left):=h.below (zA0 _);generalize hta:wordAt ws a=ta at *;have hpk:=fun W=>zAs b ((ta.size:Int)+1) W hb.1 hb.2 (by omega) (by omega)
 have hpb:=zAm b ((ta.size:Int)+1) (by omega);obtain⟨q,hq⟩: ∃q:Nat,pickN b ((ta.size:Int)+1)=q:=⟨(pickN b ((ta.size:Int)+1)).toNat,by omega⟩;rw[hq]at hpb hpk;have hq2:q≤ta.size:=by omega
 have HPK:Hid (∀W,Cl 37 #[iV b,iV ((ta.size:Int)+1)] W fun e w'=>e=.returned (iV (q:Int))∧w'=W):=hpk;have hcut:=fun W=>zPy ta q W hq2
 go_enter Tryz.func38,Tryz.ntmps38;go_wp2_with fail;refine(HS.word a (by omega) ha.1 ha.2).mono ?_;rintro e w1 ⟨rfl,m,rfl⟩;rw[hta];go_wp2_with fail;refine(HPK _).mono ?_;rintro e w2 ⟨rfl,rfl⟩;have happ:(ta.extract 0 q).size≤1000000000:=by simp;omega
 go_wp2_with fail;refine((HS.drewN m).keep (ta.extract 0 q) (by omega) happ (by omega)).mono ?_;rintro e w2 ⟨rfl,hS2,hsz⟩;have HS2:Hid (Next w0 w2 n):=Next.of hS2;go_wp2;go_end0;exact⟨rfl,HS2⟩
theorem zQ2(h:St w0 w n ws left)(a b d:Int)(s:ByteArray)(v:Nat→Int)(hn:n≤100000000)(ha:I64 a)(hb:I64 b)(hl:0<left):
 Cl 38 #[iP w0.heap.size,opV 8 a b d s v] w fun e w'=>e=rV #[]∧Next w0 w' n:=by
 have hsum:=h.sum;have hz1:=zAc ws a;have hz2:=zAc ws b;have HS:Hid (St w0 (w.alloc (.cells (opC 8 a b d s v) 79)) n ws left):=h.below (zA0 _);generalize hta:wordAt ws a=ta at *;have hpk:=fun W=>zAs b ((ta.size:Int)+1) W hb.1 hb.2 (by omega) (by omega)
 have hpb:=zAm b ((ta.size:Int)+1) (by omega);obtain⟨q,hq⟩: ∃q:Nat,pickN b ((ta.size:Int)+1)=q:=⟨(pickN b ((ta.size:Int)+1)).toNat,by omega⟩;rw[hq]at hpb hpk;have hq2:q≤ta.size:=by omega
 have HPK:Hid (∀W,Cl 37 #[iV b,iV ((ta.size:Int)+1)] W fun e w'=>e=.returned (iV (q:Int))∧w'=W):=hpk;have hcut:=fun W=>zPz ta q W hq2
 go_enter Tryz.func38,Tryz.ntmps38;go_wp2_with fail;refine(HS.word a (by omega) ha.1 ha.2).mono ?_;rintro e w1 ⟨rfl,m,rfl⟩;rw[hta];go_wp2_with fail;refine(HPK _).mono ?_;rintro e w2 ⟨rfl,rfl⟩;have happ:(ta.extract q ta.size).size≤1000000000:=by simp;omega
 go_wp2_with fail;refine((HS.drewN m).keep (ta.extract q ta.size) (by omega) happ (by omega)).mono ?_;rintro e w2 ⟨rfl,hS2,hsz⟩;have HS2:Hid (Next w0 w2 n):=Next.of hS2;go_wp2;go_end0;exact⟨rfl,HS2⟩
theorem zQ3(h:St w0 w n ws left)(a b d:Int)(s:ByteArray)(v:Nat→Int)(hn:n≤100000000)(ha:I64 a)(hb:I64 b)(hl:0<left):
 Cl 38 #[iP w0.heap.size,opV 17 a b d s v] w fun e w'=>e=rV #[]∧Next w0 w' n:=by
 have hsum:=h.sum;have hz1:=zAc ws a;have hz2:=zAc ws b;have HS:Hid (St w0 (w.alloc (.cells (opC 17 a b d s v) 79)) n ws left):=h.below (zA0 _);go_enter Tryz.func38,Tryz.ntmps38;go_wp2_with fail;refine(HS.word a (by omega) ha.1 ha.2).mono ?_;rintro e w1 ⟨rfl,m,rfl⟩;go_wp2_with fail;refine(zPx (HS.drewN m) a (by omega) ha.1 ha.2).mono ?_;rintro e w2 ⟨rfl,hS2⟩;have HS2:Hid (Next w0 w2 n):=hS2.next;go_wp2;go_end0;exact⟨rfl,HS2⟩
theorem zQ4(h:St w0 w n ws left)(kind a b d:Int)(s:ByteArray)(v:Nat→Int)(hn:n≤100000000)(ha:I64 a)(hb:I64 b)(hl:0<left)(k1:kind≠1)(k2:kind≠2)(k4:kind≠4)(k5:kind≠5)(k6:kind≠6)(k7:kind≠7)(k8:kind≠8)(k17:kind≠17):
 Cl 38 #[iP w0.heap.size,opV kind a b d s v] w fun e w'=>e=rV #[]∧Next w0 w' n:=by
 have hsum:=h.sum;have hz1:=zAc ws a;have hz2:=zAc ws b;have HS:Hid (St w0 (w.alloc (.cells (opC kind a b d s v) 79)) n ws left):=h.below (zA0 _);have e1:=beq_eq_false_iff_ne.2 k1;have e2:=beq_eq_false_iff_ne.2 k2;have e4:=beq_eq_false_iff_ne.2 k4;have e5:=beq_eq_false_iff_ne.2 k5;have e6:=beq_eq_false_iff_ne.2 k6;have e7:=beq_eq_false_iff_ne.2 k7;have e8:=beq_eq_false_iff_ne.2 k8;have e17:=beq_eq_false_iff_ne.2 k17;go_enter Tryz.func38,Tryz.ntmps38;go_wp2_with fail;refine(HS.word a (by omega) ha.1 ha.2).mono ?_;rintro e w1 ⟨rfl,m,rfl⟩;have HS2:Hid (Next w0 ((w.alloc (.cells (opC kind a b d s v) 79)).drewN m) n):=(HS.drewN m).next;go_wp2;go_end0;exact⟨rfl,HS2⟩
end
theorem zBz(w:World)(cs:Array Value)(ty:TypeId)(m j:Nat)(u:Value)(h:cs[j]? =some u):((w.alloc (.cells cs ty)).drewN m).cell? (iA w.heap.size j)=some u:=by
 show(w.alloc (.cells cs ty)).cell? (iA w.heap.size j)=some u;rw[World.cell?_alloc_at _ _ _ _ rfl];exact h
theorem zA(w:World)(cs:Array Value)(ty:TypeId)(j:Nat)(u:Value)(h:cs[j]? =some u):(w.alloc (.cells cs ty)).cell? (iA w.heap.size j)=some u:=by
 rw[World.cell?_alloc_at _ _ _ _ rfl];exact h
theorem zC{B:Nat}{e:TypeId}(h:w.ownsRow B e size v n xs):w.drew.ownsRow B e size v n xs:=h
theorem Tryz.infoInt:(Tryz.prog.info? 3).map (fun i=>(i.size,i.bytes))=some (1,8):=by kernel_rfl
theorem Tryz.zeroInt:(Tryz.prog.info? 3).map (fun i=>i.zero)=some (sI 0):=by kernel_rfl
section
variable {w0 w:World} {n:Nat} {ws:List ByteArray} {left:Int}
theorem pick3(a:Int): ∃q:Nat,pickN a 3=q∧q<3:=by
 have:=zAm a 3 (by omega);exact⟨(pickN a 3).toNat,by omega,by omega⟩
theorem zQ5(h:St w0 w n ws left)(a b d:Int)(s:ByteArray)(v:Nat→Int)(hn:n≤100000000)(ha:I64 a):
 Cl 38 #[iP w0.heap.size,opV 1 a b d s v] w fun e w'=>e=rV #[]∧Next w0 w' n:=by
 have HS:Hid (St w0 (w.alloc (.cells (opC 1 a b d s v) 79)) n ws left):=h.below (zA0 _);have hpk:=fun W=>zAs a 3 W ha.1 ha.2 (by omega) (by omega)
 obtain⟨q,hq,hq3⟩:=pick3 a;rw[hq]at hpk;have HPK:Hid (∀W,Cl 37 #[iV a,iV 3] W fun e w'=>e=.returned (iV (q:Int))∧w'=W):=hpk;have hlt:=h.lt;go_enter Tryz.func38,Tryz.ntmps38;go_wp2_with fail;refine(HS.word a (by omega) ha.1 ha.2).mono ?_;rintro e w1 ⟨rfl,m,rfl⟩;have HS1:Hid (St w0 ((w.alloc (.cells (opC 1 a b d s v) 79)).drewN m) n ws left):=HS.drewN m;obtain⟨x0,hx0⟩:=HS1.out.c0;obtain⟨x1,hx1⟩:=HS1.out.c1;obtain⟨x2,hx2⟩:=HS1.out.c2;have hf0:=HS1.froz 0;have hf1:=HS1.froz 1;have hf2:=HS1.froz 2;have hb1:((w.alloc (.cells (opC 1 a b d s v) 79)).drewN m).cell? (iA w.heap.size 1)=sI a:=zBz _ _ _ _ _ _ rfl;have hb2:((w.alloc (.cells (opC 1 a b d s v) 79)).drewN m).cell? (iA w.heap.size 2)=sI b:=zBz _ _ _ _ _ _ rfl;go_wp2_with fail;generalize (w.alloc (.cells (opC 1 a b d s v) 79)).drewN m=W at *;obtain rfl|rfl|rfl:q=0∨q=1∨q=2:=by omega
 all_goals
  go_region_held3(fun X=>X.cell? (iA w.heap.size 1)=sI a∧X.cell? (iA w.heap.size 2)=sI b) (first|exact⟨hb1,hb2⟩|exact⟨(World.cell?_setCell_other _ _ _ _ (by intro e;injection e with ea eb;omega)).trans hb1,(World.cell?_setCell_other _ _ _ _ (by intro e;injection e with ea eb;omega)).trans hb2⟩) ((go_at_call 37;refine(HPK _).mono ?_;rintro e w' ⟨rfl,rfl⟩))
 ·have HS2:=(HS1.setInt 0 (by omega) b).drew.next;go_wp2;go_end0;exact⟨rfl,HS2⟩
 ·have HS2:=(HS1.setInt 1 (by omega) b).drew.next;go_wp2;go_end0;exact⟨rfl,HS2⟩
 ·have HS2:=(HS1.setInt 2 (by omega) b).drew.next;go_wp2;go_end0;exact⟨rfl,HS2⟩
theorem zQ6(h:St w0 w n ws left)(a b d:Int)(s:ByteArray)(v:Nat→Int)(hn:n≤100000000)(ha:I64 a)(hb:I64 b):
 Cl 38 #[iP w0.heap.size,opV 2 a b d s v] w fun e w'=>e=rV #[]∧Next w0 w' n:=by
 obtain⟨i0,hi,hz0,hz1,hz2⟩:=zAa Tryz.infoInt Tryz.zeroInt;have HS:Hid (St w0 (w.alloc (.cells (opC 2 a b d s v) 79)) n ws left):=h.below (zA0 _);have hlt:=h.lt;clear h;go_enter Tryz.func38,Tryz.ntmps38;go_wp2_with fail;refine(HS.word a (by omega) ha.1 ha.2).mono ?_;rintro e w1 ⟨rfl,m,rfl⟩;have HS1:Hid (St w0 ((w.alloc (.cells (opC 2 a b d s v) 79)).drewN m) n ws left):=HS.drewN m;have hb2:((w.alloc (.cells (opC 2 a b d s v) 79)).drewN m).cell? (iA w.heap.size 2)=sI b:=zBz _ _ _ _ _ _ rfl;have hsz:w.heap.size<((w.alloc (.cells (opC 2 a b d s v) 79)).drewN m).heap.size:=by
  show w.heap.size<(w.alloc _).heap.size;simp
 go_wp2_with fail;generalize (w.alloc (.cells (opC 2 a b d s v) 79)).drewN m=W at *;obtain⟨dv,ds,hc3,hown,hints,hmd⟩:=HS1.out.draws;have HC3:Hid (W.cell? (iA w0.heap.size 3)=some dv):=hc3;have HDB:Hid (∀x∈ds,-9223372036854775808≤x∧x≤9223372036854775807):=hints;obtain⟨md,hmde⟩: ∃md,md=ds.length:=⟨_,rfl⟩;have HMD:Hid (md=ds.length):=hmde;have hown:W.ownsRow (w0.heap.size+1) 3 1 dv md (ds.map (iV)):=by rw[hmde];exact hown
 rw[←hmde]at hmd;clear hmde;have hf3:=HS1.froz 3;have hltW:=HS1.lt;have hc3a: ∀o,(W.alloc o).drew.cell? (iA w0.heap.size 3)=some dv:=fun o=>(World.cell?_alloc_lt W o (iA w0.heap.size 3) hltW).trans hc3
 have hrow: ∀q,dv.ownBlock=some q→w0.heap.size+1≤q:=fun q hq=>(hown.lt q hq).1
 have hfar:some w0.heap.size≠dv.ownBlock:=fun e=>by have:=hrow _ e.symm;omega
 have HOWN:Hid (W.ownsRow (w0.heap.size+1) 3 1 dv md (ds.map (iV))):=hown;have hmd2:md≤100000000:=by omega
 clear hown hints;go_region_law((
  refine step_append_lies _ (by rfl) _ _ 45 (by rfl) (w0.heap.size+1) 3 i0 (iV 0) 1 8 Tryz.underlying45 hi hz0 hz1 hz2 rfl (by decide) dv md (ds.map (iV)) (by rfl) (zC (World.ownsRow.alloc HOWN.out _)) (iA W.heap.size 0) 1 1 [iV b] (by rfl) rfl ?_ ?_ (by decide) ?_ ?_ ?_ (W.heap.size+1) (by simp) ?_
  ·intro j u hj
   match j,hj with
   |0,hj=>
    simp at hj;subst hj;exact zA W _ _ 0 _ rfl
  ·intro u hu;simp at hu;subst hu;rfl
  ·unfold maxLen;omega
  ·omega
  ·simp;omega
  intro g cap w1 hown1 hgrow hat hltg;have hc3W:w1.cell? (iA w0.heap.size 3)=some dv:=(hgrow.cell_far (iA w0.heap.size 3) (by simp;omega) hfar).trans (hc3a _);have hf3W:w1.frozen? (iA w0.heap.size 3)=false:=(hgrow.frozen_far (iA w0.heap.size 3) (by simp;omega) hfar).trans ((World.frozen?_alloc_old W _ _ (by show w0.heap.size≠W.heap.size;omega)).trans hf3);have HX:Hid (Next w0 (w1.setCell (iA w0.heap.size 3) (sL g (md+1) cap)) n):=by
   have hl:(ds++ [b]).length=md+1:=by rw[List.length_append,←HMD.out];rfl
   refine Next.of (HS1.put_draws (ds:=ds) (ds':=ds++ [b]) HC3.out (by rw[←HMD.out];exact HOWN.out) hgrow.os hgrow.tape hgrow.output (Nat.le_trans (by simp) hgrow.size) (fun q hq hr=>(hgrow.block q (by simp;omega) hr).trans (Below.heap_alloc W _ _ hq)) (fun q hq=>?_) (by rw[hl,List.map_append];exact hown1) (fun x hx=>?_) (by rw[hl];omega))
   ·have:g=q:=by simpa [Value.ownBlock] using hq
    subst this;rcases hat with h|h
    ·exact .inl h
    ·exact .inr (by omega)
   ·rcases List.mem_append.1 hx with h|h
    ·exact HDB.out x h
    ·simp at h;subst h;exact hb
  clear hown1 hgrow hat hltg))
 all_goals
  go_wp2;go_end0;exact⟨rfl,HX.out⟩
end
theorem zQ7(kind:Int)(v:Nat→Int):(encRes kind v).1.length≤1000:=by
 unfold encRes;split
 ·split
  ·simp
  ·have h1:=zDe (terms kind) v (fun p hp=>by rcases(zAi kind p hp).2.1 with q|q<;>omega);have h2:=zBn kind;simp only[List.length_cons];omega
 ·simp
theorem zQ8(h:St w0 w n ws left)(hn:n≤100000000)(hl:0<left)(ad:Nat→Addr)(st:Nat→ByteArray)(hE:Errs w ad st)(hW:Wids w)(kind a b d:Int)(s:ByteArray)(v:Nat→Int)(hv: ∀i,i<9→-9223372036854775808≤v i∧v i≤9223372036854775807):
 Cl 67 #[iP w0.heap.size,opV kind a b d s v] w fun e w'=>e=rB true∧Next w0 w' n:=by
 have hlen:=zQ7 a v;have HS:Hid (St w0 (w.alloc (.cells (opC kind a b d s v) 79)) n ws left):=h.below (zA0 _);have HE:Hid (Errs (w.alloc (.cells (opC kind a b d s v) 79)) ad st):=hE.below (zA0 _);have HW:Hid (Wids (w.alloc (.cells (opC kind a b d s v) 79))):=hW.below (zA0 _);have HV:Hid (∀i,i<9→-9223372036854775808≤v i∧v i≤9223372036854775807):=hv;have HPE:=fun W (h1:Errs W ad st) (h2:Wids W)=>zFb ad st a v W h1 h2 hv
 have HRE:=fun W=>zHx a v W hv
 have hsz:(⟨(encRes a v).1.toArray⟩:ByteArray).size≤1000000000:=by
  show(encRes a v).1.toArray.size≤_;simp;omega
 generalize (⟨(encRes a v).1.toArray⟩:ByteArray)=eb at *;generalize (encRes a v).2.1=en at *;generalize (encRes a v).2.2=ea at *;have HPE':Hid (∀W,Errs W ad st→Wids W→Cl 10 #[iV a,arrV v] W fun e w'=>e=rV #[.string eb,iV en,iV ea]∧Bw W w'):=HPE;have HRE':Hid (∀W,Cl 109 #[.agg #[iV a,iV (v 0),iV (v 1),iV (v 2),iV (v 3),iV (v 4),iV (v 5),iV (v 6),iV (v 7),iV (v 8)]] W fun e w'=>e=rV #[.string eb,iV en,iV ea]∧Bw W w'):=HRE;go_enter Tryz.func67,Tryz.ntmps67;go_wp2_with fail;refine(HPE' _ HE HW).mono ?_;rintro e w1 ⟨rfl,hb1⟩;have HB1:Hid (Below (w.alloc (.cells (opC kind a b d s v) 79)).heap.size (w.alloc (.cells (opC kind a b d s v) 79)) w1):=hb1;have hcell: ∀j u,(opC kind a b d s v)[j]? =some u→w1.cell? (iA w.heap.size j)=some u:=fun j u hj=>(hb1.cell (p:=(iA w.heap.size j)) (by simp)).trans (zA w _ _ j u hj)
 have d1:=hcell 1 _ rfl;have d5:=hcell 5 _ rfl;have d6:=hcell 6 _ rfl;have d7:=hcell 7 _ rfl;have d8:=hcell 8 _ rfl;have d9:=hcell 9 _ rfl;have d10:=hcell 10 _ rfl;have d11:=hcell 11 _ rfl;have d12:=hcell 12 _ rfl;have d13:=hcell 13 _ rfl;go_wp2_with fail;refine(HRE' _).mono ?_;rintro e w2 ⟨rfl,hb2⟩;have HS2:Hid (St w0 w2 n ws left):=(HS.below HB1).below hb2;go_wp2_with fail;refine(HS2.keep eb (by omega) hsz (by omega)).mono ?_;rintro e w3 ⟨rfl,hS3,hs3⟩;have HS3:Hid (Next w0 w3 n):=Next.of hS3;by_cases hea:ea<0
 ·go_wp2;go_ret;exact⟨rfl,HS3⟩
 ·go_wp2;go_ret;exact⟨rfl,HS3⟩
end
section
open Go.Extern Go.Maps Go.RowKit
theorem zQ9{base:Nat}{e:TypeId}(h:w.ownsRow base e size (sL g n cap) n xs)(j:Nat)(hj:j<xs.length)(u:Value):(w.setCell (iA g j) u).ownsRow base e size (sL g n cap) n (xs.set j u):=by
 refine⟨by rw[List.length_set];exact h.1,?_⟩;rcases h.2 with⟨e,-⟩|⟨g',cap',cur,e,hg,hh,hle,hmx,hsz,htk⟩
 ·cases e
 ·injection e with e1 e2 e3;injection e1 with e1;injection e1 with e1;subst e1 e3;refine .inr ⟨g,cap,cur.setIfInBounds j u,rfl,hg,zA8 _ _ _ _ _ _ _ hh,hle,hmx,by simpa using hsz,?_⟩;rw[Array.toList_setIfInBounds,←htk,List.take_set]
theorem zQa(ps:List Duo)(i:Nat)(p p':Duo)(hp:ps[i]? =some p)(h1:p'.nb=p.nb)(h2:p'.db=p.db):(ps.set i p').flatMap Duo.cells=(ps.flatMap Duo.cells).set (i*3+2) (.string p'.all):=by
 induction ps generalizing i with
 |nil=>simp at hp
 |cons x r ih=>
  cases i with
  |zero=>
   obtain rfl:x=p:=by simpa using hp
   simp only[List.set_cons_zero,List.flatMap_cons];have:p'.cells=x.cells.set 2 (.string p'.all):=by simp[Duo.cells,h1,h2]
   rw[this,List.set_append_left _ _ (by simp[Duo.cells])]
  |succ i=>
   simp only[List.set_cons_succ,List.flatMap_cons];rw[ih i (by simpa using hp),List.set_append_right _ _ (by simp[Duo.cells];omega)];have:(i+1)* 3+2 - x.cells.length=i*3+2:=by simp[Duo.cells];omega
   rw[this]
theorem zQb(ps:List Duo):(ps.flatMap Duo.cells).length=ps.length*3:=by
 induction ps with
 |nil=>rfl
 |cons x r ih=>rw[List.flatMap_cons,List.length_append,ih];simp[Duo.cells];omega
theorem zEb(ps:List Duo)(i:Nat)(p:Duo)(hp:ps[i]? =some p)(j:Nat)(hj:j<3):(ps.flatMap Duo.cells)[i*3+j]? =p.cells[j]? :=by
 induction ps generalizing i with
 |nil=>simp at hp
 |cons x r ih=>
  cases i with
  |zero=>
   obtain rfl:x=p:=by simpa using hp
   rw[List.flatMap_cons,List.getElem?_append_left (by simp[Duo.cells];omega)];simp
  |succ i=>
   rw[List.flatMap_cons,List.getElem?_append_right (by simp[Duo.cells];omega)];have:(i+1)* 3+j - x.cells.length=i*3+j:=by simp[Duo.cells];omega
   rw[this];exact ih i (by simpa using hp)
section
variable {tag:Nat→Tag} {ps:List Duo} {w0 w w1 w2:World} {n:Nat} {ws:List ByteArray} {left:Int}
theorem StT.applied(h:StT tag ps w0 w n ws left){i:Nat}{p:Duo}(hp:ps[i]? =some p){gd:Nat}(hc5:w.cell? (iA w0.heap.size 5)=some (sL gd ps.length cap)){e':Eng}{g':Gh}{S':Sets}{av':Value}{all':ByteArray}
 (hT1:Touch (fun k=>tag k=.code i∨w.heap.size≤k) w w1) (c1:CRep (fun k=>tag k=.code i∨w.heap.size≤k) p.base w1 p.eb e'.hush g' S') (hdr:g'.drwB=p.g.drwB) (hH:Holds e' S' [] [])
 (hT2:Touch (fun k=>tag k=.doc i∨w1.heap.size≤k) w1 w2) (r2:RefRep (fun k=>tag k=.doc i∨w1.heap.size≤k) p.base2 w2 p.db e' p.dv av') (hG:Good e' all'.size):
 ∃tag' p',p'.all=all'∧StT tag' (ps.set i p') w0 (w2.setCell (iA gd (i*3+2)) (.string all')) n ws left:=by
 have hd:=h.duos i p hp;obtain⟨v,hv5,hrow,hvt⟩:=h.desks;obtain rfl:=Option.some.inj (hc5.symm.trans hv5);have hgt:=hvt gd rfl;have hgl:=hrow.lt gd rfl;have s1:=hT1.size;have s2:=hT2.size;have hlt:=h.lt;have stay: ∀k,k<w.heap.size→tag k≠.code i→tag k≠.doc i→w2.heap[k]? =w.heap[k]? :=fun k hk h1 h2=>
  (hT2.block k (by omega) (fun hc=>hc.elim h2 (fun hc=>by omega))).trans (hT1.block k hk (fun hc=>hc.elim h1 (fun hc=>by omega)))
 have own2: ∀k,k<w.heap.size→tag k=.own→w2.heap[k]? =w.heap[k]? :=fun k hk ho=>stay k hk (by rw[ho];exact fun e=>by cases e) (by rw[ho];exact fun e=>by cases e)
 have set_ne: ∀k,tag k≠.own→(w2.setCell (iA gd (i*3+2)) (.string all')).heap[k]? =w2.heap[k]? :=fun k ho=>Below.heap_setCell _ _ _ _ (fun e=>ho (by have e:k=gd:=e;rw[e];exact hgt))
 have set_neg: ∀k,k≠gd→(w2.setCell (iA gd (i*3+2)) (.string all')).heap[k]? =w2.heap[k]? :=fun k hk=>Below.heap_setCell _ _ _ _ hk
 have hBn:w0.heap.size≠gd:=by omega
 have hB:=(set_neg _ hBn).trans (own2 _ hlt (h.tlow _ (Nat.le_refl _)));have hc: ∀j,(w2.setCell (iA gd (i*3+2)) (.string all')).cell? (iA w0.heap.size j)=w.cell? (iA w0.heap.size j):=fun j=>World.cell?_of_block (a:=(iA w0.heap.size j)) hB
 have rows: ∀{e:TypeId} {s:Nat} {v:Value} {m:Nat} {xs:List Value},w.ownsRow (w0.heap.size+1) e s v m xs→(∀q,v.ownBlock=some q→tag q=.own)→e≠104→(w2.setCell (iA gd (i*3+2)) (.string all')).ownsRow (w0.heap.size+1) e s v m xs:=fun ho hv he=>zA9 ho fun q hq=>(set_neg q (fun e1=>zE9 ho hrow he q hq (by rw[e1];rfl))).trans (own2 q (ho.lt q hq).2 (hv q hq))
 have hsz:(w2.setCell (iA gd (i*3+2)) (.string all')).heap.size=w2.heap.size:=by simp
 refine⟨fun k=>if k<w.heap.size then tag k else if k<w1.heap.size then .code i else if k<w2.heap.size then .doc i else .own,{ p with all:=all',e:=e',g:=g',S:=S',av:=av' },rfl,?_⟩;have tt: ∀k,k<w.heap.size→(if k<w.heap.size then tag k else if k<w1.heap.size then Tag.code i else if k<w2.heap.size then .doc i else .own)=tag k:=fun k hk=>if_pos hk
 have trow: ∀{e:TypeId} {s:Nat} {v:Value} {m:Nat} {xs:List Value},w.ownsRow (w0.heap.size+1) e s v m xs→(∀q,v.ownBlock=some q→tag q=.own)→∀q,v.ownBlock=some q→(if q<w.heap.size then tag q else if q<w1.heap.size then Tag.code i else if q<w2.heap.size then .doc i else .own)=.own:=fun ho hv q hq=>(tt q (ho.lt q hq).2).trans (hv q hq)
 refine⟨?_,by rw[hB];exact h.blk,fun k hk=>(tt k (by omega)).trans (h.tlow k hk),fun k hk=>?_,by rw[hc];exact h.c0,by rw[hc];exact h.c1,by rw[hc];exact h.c2,?_,?_,h.wlen,?_,by rw[List.length_set];exact h.plen,?_,?_,by rw[hc];exact h.mark,by rw[hc];exact h.lft,h.sum⟩
 ·have l1:=h.low.trans ⟨hT2.os.trans hT1.os,hT2.tape.trans hT1.tape,hT2.output.trans hT1.output,by omega,fun k hk=>own2 k (by omega) (h.tlow k (by omega))⟩;exact l1.setCell (p:=(iA gd (i*3+2))) (by show w0.heap.size≤gd;omega) _
 ·rw[hsz]at hk;show(if k<w.heap.size then _ else _)=_;rw[if_neg (by omega),if_neg (by omega),if_neg (by omega)]
 ·obtain⟨u,ds,r1,r2,r3,r4,r5⟩:=h.draws;exact⟨u,ds,(hc 3).trans r1,rows r2 r3 (by decide),trow r2 r3,r4,r5⟩
 ·obtain⟨u,r1,r2,r3⟩:=h.words;exact⟨u,(hc 4).trans r1,rows r2 r3 (by decide),trow r2 r3⟩
 ·refine⟨_,(hc 5).trans hc5,?_,trow hrow hvt⟩;have r1:=zA9 hrow fun q hq=>own2 q (hrow.lt q hq).2 (hvt q hq)
  have hi:i<ps.length:=(List.getElem?_eq_some_iff.1 hp).1;have r3:=zQ9 r1 (i*3+2) (by rw[zQb];omega) (.string all');rw[List.length_set,zQa ps i p { p with all:=all',e:=e',g:=g',S:=S',av:=av' } hp rfl rfl];exact r3
 ·intro j x hx;by_cases e:j=i
  ·subst e;have hi:j<ps.length:=(List.getElem?_eq_some_iff.1 hp).1;rw[List.getElem?_set_self hi]at hx;obtain rfl:=Option.some.inj hx;have hnl:p.nb<w.heap.size:=(Array.getElem?_eq_some_iff.1 hd.dsk).1;have hnb:=stay p.nb hnl (by rw[hd.tdsk];exact fun e=>by cases e) (by rw[hd.tdsk];exact fun e=>by cases e);refine⟨?_,(tt p.nb hnl).trans hd.tdsk,c1.move (by rw[hsz];exact s2) (fun k hk hF=>?_) (fun k hk=>.inr hk),r2.move (fun q hq=>.inl (hd.tdv q hq)) (by rw[hsz];exact Nat.le_refl _) (fun k hk hF=>?_) (fun k hk=>.inr hk),fun q hq=>(tt q (hd.doc.dr.lt q hq).2).trans (hd.tdv q hq),hH,hG⟩
   ·show(w2.setCell _ _).heap[p.nb]? =some (.cells #[_,iP g'.drwB] _ _);rw[hdr,set_ne p.nb (by rw[hd.tdsk];exact fun e=>by cases e),hnb];exact hd.dsk
   ·by_cases hkw:k<w.heap.size
    ·have ht:=hF.resolve_right (by omega);refine⟨(set_ne k (by rw[ht];exact fun e=>by cases e)).trans (hT2.block k hk (fun hc=>hc.elim (fun e=>by rw[ht]at e;cases e) (fun e=>by omega))),.inl ((tt k hkw).trans ht)⟩
    ·refine⟨(set_neg k (by omega)).trans (hT2.block k hk (fun hc=>hc.elim (fun e=>by rw[h.tup k (by omega)]at e;cases e) (fun e=>by omega))),.inl ?_⟩;show(if k<w.heap.size then _ else _)=_;rw[if_neg hkw,if_pos hk]
   ·by_cases hkw:k<w.heap.size
    ·have ht:=hF.resolve_right (by omega);exact⟨set_ne k (by rw[ht];exact fun e=>by cases e),.inl ((tt k hkw).trans ht)⟩
    ·have ht:=hF.resolve_left (fun e=>by rw[h.tup k (by omega)]at e;cases e);refine⟨set_neg k (by omega),.inl ?_⟩;show(if k<w.heap.size then _ else _)=_;rw[if_neg hkw,if_neg (by omega),if_pos hk]
  ·rw[List.getElem?_set_ne (fun e1=>e e1.symm)]at hx;refine(h.duos j x hx).move (by rw[hsz];omega) fun k hk ht=>⟨?_,tt k hk⟩
   have h1:tag k≠.own∧tag k≠.code i∧tag k≠.doc i:=by
    rcases ht with ht|ht|ht<;>rw[ht]<;>refine⟨fun e1=>(by cases e1),fun e1=>?_,fun e1=>?_⟩
    ·cases e1;exact e rfl
    ·cases e1
    ·cases e1
    ·cases e1;exact e rfl
    ·cases e1
    ·cases e1
   exact(set_ne k h1.1).trans (stay k hk h1.2.1 h1.2.2)
 ·obtain⟨u,m,xs,r1,r2,r3,r4,r5⟩:=h.lists;refine⟨u,m,xs,(hc 6).trans r1,rows r2 r3 (by decide),trow r2 r3,r4.move fun k a b hk ht=>⟨?_,tt k hk⟩,r5⟩;exact(set_ne k (by rw[ht];exact fun e=>by cases e)).trans (stay k hk (by rw[ht];exact fun e=>by cases e) (by rw[ht];exact fun e=>by cases e))
end
end
end Go.Proofs.YtilbfpnpkkkpgaaGreatDoor
