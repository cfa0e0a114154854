import Derived.Test.YtehmdohpmpbnnaaGreatDoorQ00
import Derived.Test.YtehmdohpmpbnnaaGreatDoorQ08
import Derived.Test.YtehmdohpmpbnnaaGreatDoorQ11
import Derived.Test.YtehmdohpmpbnnaaGreatDoorQ38
import Derived.Deep.RegionHeld3
import Derived.Deep.AppendLies
import Derived.Deep.RegionLaw
set_option linter.all false
set_option maxRecDepth 100000
set_option maxHeartbeats 8000000
namespace Go.Proofs.YtehmdohpmpbnnaaGreatDoor
variable{v v' u:Value}{xs:List Value}{m n g g0 g1 M s cap q size:Nat}{w w1 w' w0:World}{ws:List ByteArray}{left:Int}{ds:List Int}{tag':Nat→Tag}{f:Nat→Int}
open Go.Proofs.Tryz
section
open Go.Extern Go.RowKit
theorem aB(w:World)(b i j:Nat)(u:Value)(h:i≠j):(w.setCell (iA b i) u).cell? (iA b j)=w.cell? (iA b j):=
 World.cell?_setCell_other _ _ _ _ (by intro e;injection e with e1 e2;omega)
theorem xu{c c':Array Value}{t t':TypeId}{f f':Nat×Nat}(h:w.heap[g]? =some (.cells c t f))(h':w.heap[g]? =some (.cells c' t' f')):t=t':=by
 rw[h]at h';injection h' with h';injection h' with _ h' _
theorem cB{b:Nat}{e:TypeId}(h:w.ownsRow b e s v n xs)(hg:v.ownBlock=some g):∃cur,w.heap[g]? =some (.cells cur e (0,0)):=by
 rcases h.2 with⟨rfl,-⟩|⟨C,A,cur,rfl,_,B,_⟩
 ·simp[Value.ownBlock]at hg
 simp only[Value.ownBlock,Option.some.injEq]at hg;subst hg;exact⟨cur,B⟩
section
variable {tag:Nat→Tag} {ps:List Duo} {w0 w:World} {n:Nat} {ws:List ByteArray} {left:Int}
theorem wu.mY(h:wu tag ps w0 w n ws left)(j:Nat)(hj:j=0∨j=1∨j=2∨j=7)(x:Int):wu tag ps w0 (w.setCell (iA w0.heap.size j) (iV x)) n ws left:=by
 have E:∀i,j≠i→(w.setCell (iA w0.heap.size j) (iV x)).cell? (iA w0.heap.size i)=w.cell? (iA w0.heap.size i):=fun i F=>aB _ _ _ _ _ F
 have F:∀i,(∃y,cI w w0.heap.size i y)→∃y,(w.setCell (iA w0.heap.size j) (iV x)).cell? (iA w0.heap.size i)=sI y:=fun i ⟨y,hy⟩=>by
  by_cases e:j=i
  ·subst e;exact⟨x,World.cell?_setCell_same _ _ _ hy⟩
  exact⟨y,(E i e).trans hy⟩
 have A:∀{e:TypeId} {s:Nat} {v':Value} {m:Nat} {xs:List Value},w.ownsRow (w0.heap.size+1) e s v' m xs→(w.setCell (iA w0.heap.size j) (iV x)).ownsRow (w0.heap.size+1) e s v' m xs:=fun ho=>ownsRow_setCell_below ho (a:=(iA w0.heap.size j)) (Nat.lt_succ_self _) _
 have G:∀k,k<w.heap.size→tag k≠.own→(w.setCell (iA w0.heap.size j) (iV x)).heap[k]? =w.heap[k]? ∧tag k=tag k:=fun k _ ho=>⟨Below.heap_setCell _ _ _ _ (fun e=>ho (h.jG k (Nat.le_of_eq e))),rfl⟩
 refine⟨h.low.setCell (p:=(iA w0.heap.size j)) (Nat.le_refl _) _,?_,h.jG,fun k G=>h.tup k (by simpa using G),F 0 h.c0,F 1 h.c1,F 2 h.c2,?_,?_,h.wK,?_,h.tN,h.gM (by simp) G,?_,F 7 h.mark,?_,h.sum⟩
 ·obtain⟨I,H⟩:=h.blk;exact⟨_,ja _ _ _ _ _ _ _ H⟩
 ·obtain⟨u,J,B,C,D⟩:=h.gz;exact⟨u,J,(E 3 (by omega)).trans B,A C,D⟩
 ·obtain⟨u,B,C,D⟩:=h.words;exact⟨u,(E 4 (by omega)).trans B,A C,D⟩
 ·obtain⟨u,B,C,D⟩:=h.jH;exact⟨u,(E 5 (by omega)).trans B,A C,D⟩
 ·obtain⟨u,k,xs,B,C,D,K,L⟩:=h.lists;exact⟨u,k,xs,(E 6 (by omega)).trans B,A C,D,bT K G,L⟩
 exact(E 8 (by omega)).trans h.lft
theorem St.mY(h:St w0 w n ws left)(j:Nat)(hj:j=0∨j=1∨j=2∨j=7)(x:Int):St w0 (w.setCell (iA w0.heap.size j) (iV x)) n ws left:=by
 obtain⟨tag,ps,h,A⟩:=h;exact⟨tag,ps,h.mY j hj x,A⟩
structure Grown(tag:Nat→Tag)(v:Value)(w w1:World)(v':Value):Prop where
 vt:∀q,v.ownBlock=some q→tag q=.own
 os:w1.os=w.os
 tape:w1.tape=w.tape
 output:w1.output=w.output
 size:w.heap.size≤w1.heap.size
 block:∀b,b<w.heap.size→some b≠v.ownBlock→w1.heap[b]? =w.heap[b]?
 at_:∀q,v'.ownBlock=some q→v.ownBlock=some q∨w.heap.size≤q
theorem Grown.tags(hg:Grown tag v w w1 v')(h:wu tag ps w0 w n ws left):∀q,v'.ownBlock=some q→tag q=.own:=fun q hq=>by
 rcases hg.at_ q hq with h1|h1
 ·exact hg.vt q h1
 exact h.tup q h1
theorem Grown.keeps(hg:Grown tag v w w1 v')(h:wu tag ps w0 w n ws left)(c:Nat)(u:Value):∀k,k<w.heap.size→tag k≠.own→(w1.setCell (iA w0.heap.size c) u).heap[k]? =w.heap[k]? ∧tag k=tag k:=fun k hk ho=>
 ⟨(Below.heap_setCell _ _ _ _ (fun e=>ho (h.jG k (Nat.le_of_eq e)))).trans (hg.block k hk (fun e=>ho (hg.vt k e.symm))),rfl⟩
theorem Grown.base{e:TypeId}(hg:Grown tag v w w1 v')(h:wu tag ps w0 w n ws left)(ho:w.ownsRow (w0.heap.size+1) e s v m xs)(c:Nat)(u:Value):
 w1.heap[w0.heap.size]? =w.heap[w0.heap.size]? ∧(∀i,c≠i→(w1.setCell (iA w0.heap.size c) u).cell? (iA w0.heap.size i)=w.cell? (iA w0.heap.size i))∧Below w0.heap.size w0 (w1.setCell (iA w0.heap.size c) u)∧
 (∀{e':TypeId} {s':Nat} {v2:Value} {k:Nat} {ys:List Value},w.ownsRow (w0.heap.size+1) e' s' v2 k ys→e'≠e→(w1.setCell (iA w0.heap.size c) u).ownsRow (w0.heap.size+1) e' s' v2 k ys):=by
 have B:∀q,v.ownBlock=some q→w0.heap.size+1≤q:=fun q hq=>(ho.lt q hq).1
 have D:=h.lt;have C:=hg.block _ h.lt (fun e=>by have:=B _ e.symm;omega);have A:=h.low.trans ⟨hg.os,hg.tape,hg.output,hg.size,fun k hk=>hg.block k (by omega) (fun e=>by have:=B _ e.symm;omega)⟩;refine⟨C,fun i hi=>(aB _ _ _ _ _ hi).trans (World.cell?_of_block (a:=(iA w0.heap.size i)) C),A.setCell (p:=(iA w0.heap.size c)) (Nat.le_refl _) _,fun r he=>?_⟩;exact ownsRow_setCell_below (qz r fun q hq=>hg.block q (r.lt q hq).2 (fun e=>wL r ho he q hq e.symm)) (a:=(iA w0.heap.size c)) (Nat.lt_succ_self _) _
theorem wu.put_draws(h:wu tag ps w0 w n ws left)(hc3:w.cell? (iA w0.heap.size 3)=some v)(ho:w.ownsRow (w0.heap.size+1) 3 1 v ds.length (ds.map (iV)))(hg:Grown tag v w w1 v')
 {ds':List Int} (ho':w1.ownsRow (w0.heap.size+1) 3 1 v' ds'.length (ds'.map (iV))) (hx:∀x∈ds',-9223372036854775808≤x∧x≤9223372036854775807) (hm:ds'.length≤n+1):wu tag ps w0 (w1.setCell (iA w0.heap.size 3) v') (n+1) ws left:=by
 obtain⟨I,B,C,A⟩:=hg.base h ho 3 v';have H:=hg.keeps h 3 v';have D:w.heap.size≤(w1.setCell (iA w0.heap.size 3) v').heap.size:=by simpa using hg.size
 refine⟨C,?_,h.jG,fun k H=>h.tup k (Nat.le_trans D H),by rw[B _ (by decide)];exact h.c0,by rw[B _ (by decide)];exact h.c1,by rw[B _ (by decide)];exact h.c2,?_,?_,Nat.le_succ_of_le h.wK,?_,Nat.le_succ_of_le h.tN,h.gM D H,?_,by rw[B _ (by decide)];exact h.mark,by rw[B _ (by decide)];exact h.lft,h.sum⟩
 ·obtain⟨K,J⟩:=h.blk;exact⟨_,ja _ _ _ _ _ _ _ (I.trans J)⟩
 ·exact⟨v',ds',World.cell?_setCell_same (u:=v) _ _ _ ((World.cell?_of_block (a:=(iA w0.heap.size 3)) I).trans hc3),ownsRow_setCell_below ho' (a:=(iA w0.heap.size 3)) (Nat.lt_succ_self _) _,hg.tags h,hx,hm⟩
 ·obtain⟨u,E,F,G⟩:=h.words;exact⟨u,(B 4 (by decide)).trans E,A F (by decide),G⟩
 ·obtain⟨u,E,F,G⟩:=h.jH;exact⟨u,(B 5 (by decide)).trans E,A F (by decide),G⟩
 obtain⟨u,k,M,E,F,G,L,N⟩:=h.lists;exact⟨u,k,M,(B 6 (by decide)).trans E,A F (by decide),G,bT L H,by omega⟩
theorem St.put_draws(h:St w0 w n ws left)(hc3:w.cell? (iA w0.heap.size 3)=some v)(ho:w.ownsRow (w0.heap.size+1) 3 1 v ds.length (ds.map (iV)))
 (hos:w1.os=w.os) (htp:w1.tape=w.tape) (hout:w1.output=w.output) (hsz:w.heap.size≤w1.heap.size) (hb:∀b,b<w.heap.size→some b≠v.ownBlock→w1.heap[b]? =w.heap[b]?) (hat:∀q,v'.ownBlock=some q→v.ownBlock=some q∨w.heap.size≤q)
 {ds':List Int} (ho':w1.ownsRow (w0.heap.size+1) 3 1 v' ds'.length (ds'.map (iV))) (hx:∀x∈ds',-9223372036854775808≤x∧x≤9223372036854775807) (hm:ds'.length≤n+1):St w0 (w1.setCell (iA w0.heap.size 3) v') (n+1) ws left:=by
 obtain⟨tag,ps,h,A⟩:=h;obtain⟨u,_,B,_,C,_⟩:=h.gz;obtain rfl:v=u:=Option.some.inj (hc3.symm.trans B);exact⟨tag,ps,h.put_draws hc3 ho ⟨C,hos,htp,hout,hsz,hb,hat⟩ ho' hx hm,A⟩
def Retag(tag tag':Nat→Tag)(w0 w:World)(m:Nat):Prop:= ∀k,tag' k=tag k∨(tag k=.own∧w0.heap.size<k∧k<w.heap.size∧(∃j,tag' k=.lst m j)∧∃cur T,w.heap[k]? =some (.cells cur T (0,0))∧(T=55∨T=121))
theorem Retag.keeps(h:Retag tag tag' w0 w m){k:Nat}(hk:tag k≠.own):tag' k=tag k:=(h k).resolve_right fun h=>hk h.1
theorem Retag.row(h:Retag tag tag' w0 w m){B:Nat}{e:TypeId}{k:Nat}(ho:w.ownsRow B e s v k xs)(h1:e≠55)(h2:e≠121)(hv:∀q,v.ownBlock=some q→tag q=.own):∀q,v.ownBlock=some q→tag' q=.own:=fun q hq=>by
 rcases h q with h3|⟨_,_,_,_,cur,T,h4,h5⟩
 ·exact h3.trans (hv q hq)
 obtain⟨c,h6⟩:=cB ho hq;have:=xu h6 h4;rcases h5 with rfl|rfl
 ·exact absurd this h1
 exact absurd this h2
theorem wu.sV(h:wu tag ps w0 w n ws left)(hc6:w.cell? (iA w0.heap.size 6)=some v)(ho:w.ownsRow (w0.heap.size+1) 66 4 v m xs)(hok:bS tag w xs m)(hm:m≤n)(hg:Grown tag v w w1 v')
 {r q s t:Value} (ho':w1.ownsRow (w0.heap.size+1) 66 4 v' (m+1) (xs++ [r,q,s,t])) {tag':Nat→Tag} (hT:Retag tag tag' w0 w m) (hl:pU tag' m w1 r q s t):wu tag' ps w0 (w1.setCell (iA w0.heap.size 6) v') (n+1) ws left:=by
 obtain⟨K,B,F,A⟩:=hg.base h ho 6 v';have G:w.heap.size≤(w1.setCell (iA w0.heap.size 6) v').heap.size:=by simpa using hg.size
 have D:∀k,k<w.heap.size→tag k≠.own→(w1.setCell (iA w0.heap.size 6) v').heap[k]? =w.heap[k]? ∧tag' k=tag k:=fun k E h2=>⟨(hg.keeps h 6 v' k E h2).1,hT.keeps h2⟩
 have H:∀k,k≤w0.heap.size→tag' k=.own:=fun k D=>((hT k).resolve_right fun h2=>by have:=h2.2.1;omega).trans (h.jG k D)
 refine⟨F,?_,H,fun k D=>((hT k).resolve_right fun h2=>by have:=h2.2.2.1;omega).trans (h.tup k (Nat.le_trans G D)),by rw[B _ (by decide)];exact h.c0,by rw[B _ (by decide)];exact h.c1,by rw[B _ (by decide)];exact h.c2,?_,?_,Nat.le_succ_of_le h.wK,?_,Nat.le_succ_of_le h.tN,h.gM G D,?_,by rw[B _ (by decide)];exact h.mark,by rw[B _ (by decide)];exact h.lft,h.sum⟩
 ·obtain⟨M,L⟩:=h.blk;exact⟨_,ja _ _ _ _ _ _ _ (K.trans L)⟩
 ·obtain⟨u,N,I,C,J,O,R⟩:=h.gz;exact⟨u,N,(B 3 (by decide)).trans I,A C (by decide),hT.row C (by decide) (by decide) J,O,by omega⟩
 ·obtain⟨u,I,C,J⟩:=h.words;exact⟨u,(B 4 (by decide)).trans I,A C (by decide),hT.row C (by decide) (by decide) J⟩
 ·obtain⟨u,I,C,J⟩:=h.jH;exact⟨u,(B 5 (by decide)).trans I,A C (by decide),hT.row C (by decide) (by decide) J⟩
 refine⟨v',m+1,xs++ [r,q,s,t],World.cell?_setCell_same (u:=v) _ _ _ ((World.cell?_of_block (a:=(iA w0.heap.size 6)) K).trans hc6),ownsRow_setCell_below ho' (a:=(iA w0.heap.size 6)) (Nat.lt_succ_self _) _,fun q hq=>?_,(bT hok D).snoc ho.1 (hl.move fun k j _ ht=>⟨Below.heap_setCell _ _ _ _ (fun e=>?_),rfl⟩),by omega⟩
 ·rcases hg.at_ q hq with E|E
  ·exact hT.row ho (by decide) (by decide) hg.vt q E
  exact((hT q).resolve_right fun h2=>by have:=h2.2.2.1;omega).trans (h.tup q E)
 have e:=e;rw[H k (Nat.le_of_eq e)]at ht;cases ht
structure LX(tag:Nat→Tag)(w0 w:World)(n:Nat)(v:Value)(m:Nat)(xs:List Value):Prop where
 cell:w.cell? (iA w0.heap.size 6)=some v
 row:w.ownsRow (w0.heap.size+1) 66 4 v m xs
 vt:∀q,v.ownBlock=some q→tag q=.own
 ok:bS tag w xs m
 len:m≤n
theorem wu.lx(h:wu tag ps w0 w n ws left):∃v m xs,LX tag w0 w n v m xs:=by
 obtain⟨v,m,xs,A,B,C,D,E⟩:=h.lists;exact⟨v,m,xs,A,B,C,D,E⟩
theorem LX.below(h:LX tag w0 w n v m xs)(hlt:w0.heap.size<w.heap.size)(hb:Below w.heap.size w w'):LX tag w0 w' n v m xs:=
 ⟨(World.cell?_of_block (a:=(iA w0.heap.size 6)) (hb.block _ hlt)).trans h.cell,qz h.row (fun q hq=>hb.block q (h.row.lt q hq).2),h.vt,bT h.ok fun k hk _=>⟨hb.block k hk,rfl⟩,h.len⟩
theorem LX.mY(h:LX tag w0 w n v m xs)(htl:∀k,k≤w0.heap.size→tag k=.own)(j:Nat)(hj:j≠6)(u:Value):LX tag w0 (w.setCell (iA w0.heap.size j) u) n v m xs:=
 ⟨(aB _ _ _ _ _ hj).trans h.cell,ownsRow_setCell_below h.row (a:=(iA w0.heap.size j)) (Nat.lt_succ_self _) _,h.vt,bT h.ok fun k _ ho=>⟨Below.heap_setCell _ _ _ _ (fun e=>ho (htl k (Nat.le_of_eq e))),rfl⟩,h.len⟩
theorem wu.both(h:wu tag ps w0 w n ws left)(hx:LX tag w0 w n v m xs){i:Nat}{a b:Nat}(ht0:tag g0=.lst i a)(ht1:tag g1=.lst i b)(hh:w'.heap.size=w.heap.size)(h1:w'.os=w.os)(h2:w'.tape=w.tape)(h3:w'.output=w.output)(hk:∀k,k≠g0→k≠g1→w'.heap[k]? =w.heap[k]?)
 (hl:∀r q s t,xs[4*i]? =some r→xs[4*i+1]? =some q→xs[4*i+2]? =some s→xs[4*i+3]? =some t→pU tag i w r q s t→pU tag i w' r q s t):wu tag ps w0 w' n ws left∧LX tag w0 w' n v m xs:=by
 have E:∀k,tag k=.own→w'.heap[k]? =w.heap[k]? :=fun k ho=>hk k (fun e=>by rw[e,ht0]at ho;cases ho) (fun e=>by rw[e,ht1]at ho;cases ho)
 have N:=E w0.heap.size (h.jG _ (Nat.le_refl _));have C:∀i,w'.cell? (iA w0.heap.size i)=w.cell? (iA w0.heap.size i):=fun i=>World.cell?_of_block (a:=(iA w0.heap.size i)) N
 have A:∀{e:TypeId} {s:Nat} {u:Value} {k:Nat} {ys:List Value},w.ownsRow (w0.heap.size+1) e s u k ys→(∀q,u.ownBlock=some q→tag q=.own)→w'.ownsRow (w0.heap.size+1) e s u k ys:=fun ho hv=>qz ho fun q hq=>E q (hv q hq)
 have F:bS tag w' xs m:=fun j hj=>by
  obtain⟨r,q,s,t,I,J,K,L,M⟩:=hx.ok j hj;refine⟨r,q,s,t,I,J,K,L,?_⟩;by_cases e:j=i
  ·subst e;exact hl r q s t I J K L M
  refine M.move fun k jj _ B=>⟨hk k (fun e2=>?_) (fun e2=>?_),rfl⟩
  ·rw[e2,ht0]at B;cases B;exact e rfl
  rw[e2,ht1]at B;cases B;exact e rfl
 refine⟨⟨h.low.trans ⟨h1,h2,h3,Nat.le_of_eq hh.symm,fun k hk=>E k (h.jG k (by omega))⟩,by rw[N];exact h.blk,h.jG,fun k hk=>h.tup k (by rw[hh]at hk;exact hk),by rw[C];exact h.c0,by rw[C];exact h.c1,by rw[C];exact h.c2,?_,?_,h.wK,?_,h.tN,?_,?_,by rw[C];exact h.mark,by rw[C];exact h.lft,h.sum⟩,?_⟩
 ·obtain⟨u,O,G,H,D,R,S⟩:=h.gz;exact⟨u,O,(C 3).trans G,A H D,D,R,S⟩
 ·obtain⟨u,G,H,D⟩:=h.words;exact⟨u,(C 4).trans G,A H D,D⟩
 ·obtain⟨u,G,H,D⟩:=h.jH;exact⟨u,(C 5).trans G,A H D,D⟩
 ·refine fun j p hp=>(h.duos j p hp).move (Nat.le_of_eq hh.symm) fun k _ B=>⟨hk k (fun e=>?_) (fun e=>?_),rfl⟩
  ·rw[e,ht0]at B;rcases B with B|B|B<;>cases B
  rw[e,ht1]at B;rcases B with B|B|B<;>cases B
 ·exact⟨v,m,xs,(C 6).trans hx.cell,A hx.row hx.vt,hx.vt,F,hx.len⟩
 exact⟨(C 6).trans hx.cell,A hx.row hx.vt,hx.vt,F,hx.len⟩
theorem fK.both{ta tb:Tag}{T:TypeId}{c0 c1:Nat}(h0:fK tag ta T w (sL g0 M c0) M f)(h1:fK tag tb T w (sL g1 M c1) M f)(ht0:tag g0=ta)(ht1:tag g1=tb)(hne:g0≠g1)(o:Nat)(ho:o<7*M)(x:Int)(hw:∀k:Nat,w'.heap[k]? =((w.setCell (iA g0 o) (iV x)).setCell (iA g1 o) (iV x)).heap[k]?):
 fK tag ta T w' (sL g0 M c0) M (fun j=>if j=o then x else f j)∧fK tag tb T w' (sL g1 M c1) M (fun j=>if j=o then x else f j):=by
 obtain⟨p,c,e,h0⟩:=h0;injection e with A C B;subst A B;obtain⟨E,D,e,h1⟩:=h1;injection e with A C B;subst A B;obtain⟨g,e,_,h0⟩:=h0.resolve_left (by omega);injection e with e;injection e with e;subst e;obtain⟨g,e,_,h1⟩:=h1.resolve_left (by omega);injection e with e;injection e with e;subst e;refine⟨⟨_,_,rfl,.inr ⟨g0,rfl,ht0,?_⟩⟩,⟨_,_,rfl,.inr ⟨g1,rfl,ht1,?_⟩⟩⟩
 ·exact(h0.set o x).of_block ((hw g0).trans (Below.heap_setCell _ _ _ _ hne))
 exact((h1.of_block (w':=w.setCell (iA g0 o) (iV x)) (Below.heap_setCell _ _ _ _ (Ne.symm hne))).set o x).of_block (hw g1)
theorem wu.put_desks(h:wu tag ps w0 w n ws left)(hc5:w.cell? (iA w0.heap.size 5)=some v)(ho:w.ownsRow (w0.heap.size+1) 60 3 v ps.length (ps.flatMap Duo.cells))(hg:Grown tag v w w1 v')
 {ps':List Duo} (ho':w1.ownsRow (w0.heap.size+1) 60 3 v' ps'.length (ps'.flatMap Duo.cells)) (hm:ps'.length≤n+1) (hd:∀i p,ps'[i]? =some p→DuoOk tag i (w1.setCell (iA w0.heap.size 5) v') p):wu tag ps' w0 (w1.setCell (iA w0.heap.size 5) v') (n+1) ws left:=by
 obtain⟨J,B,C,A⟩:=hg.base h ho 5 v';have G:=hg.keeps h 5 v';have H:w.heap.size≤(w1.setCell (iA w0.heap.size 5) v').heap.size:=by simpa using hg.size
 refine⟨C,?_,h.jG,fun k G=>h.tup k (Nat.le_trans H G),by rw[B _ (by decide)];exact h.c0,by rw[B _ (by decide)];exact h.c1,by rw[B _ (by decide)];exact h.c2,?_,?_,Nat.le_succ_of_le h.wK,?_,hm,hd,?_,by rw[B _ (by decide)];exact h.mark,by rw[B _ (by decide)];exact h.lft,h.sum⟩
 ·obtain⟨L,K⟩:=h.blk;exact⟨_,ja _ _ _ _ _ _ _ (J.trans K)⟩
 ·obtain⟨u,M,D,E,F,I,N⟩:=h.gz;exact⟨u,M,(B 3 (by decide)).trans D,A E (by decide),F,I,by omega⟩
 ·obtain⟨u,D,E,F⟩:=h.words;exact⟨u,(B 4 (by decide)).trans D,A E (by decide),F⟩
 ·exact⟨v',World.cell?_setCell_same (u:=v) _ _ _ ((World.cell?_of_block (a:=(iA w0.heap.size 5)) J).trans hc5),ownsRow_setCell_below ho' (a:=(iA w0.heap.size 5)) (Nat.lt_succ_self _) _,hg.tags h⟩
 obtain⟨u,k,O,D,E,F,I,N⟩:=h.lists;exact⟨u,k,O,(B 6 (by decide)).trans D,A E (by decide),F,bT I G,by omega⟩
end
theorem zDb(n:Int):IntKind.i64.wrap n=wrap64 n:=by
 simp only[IntKind.wrap,IntKind.bits,IntKind.signed];unfold wrap64;simp;try omega
section
variable {tag:Nat→Tag} {ps:List Duo} {w0 w:World} {n:Nat} {ws:List ByteArray} {left:Int}
theorem LX.cells(hx:LX tag w0 w n (sL g m cap) m xs)(j:Nat)(u:Value)(hu:xs[j]? =some u):w.cell? (iA g j)=some u:=by
 have:=World.ownsRow.cells hx.row (g:=g) rfl j u hu;rw[Addr.add_lit]at this;simpa using this
theorem LX.at_(hx:LX tag w0 w n v m xs)(hq:q<m){r t s:Value}(a1:xs[4*q]? =some r)(a2:xs[4*q+1]? =some t)(a3:xs[4*q+2]? =some s)(a4:xs[4*q+3]? =some u):pU tag q w r t s u:=by
 obtain⟨E,G,F,H,A,B,C,D,h⟩:=hx.ok q hq;obtain rfl:=Option.some.inj (a1.symm.trans A);obtain rfl:=Option.some.inj (a2.symm.trans B);obtain rfl:=Option.some.inj (a3.symm.trans C);obtain rfl:=Option.some.inj (a4.symm.trans D);exact h
theorem fK.open_{t:Tag}{T:TypeId}{p:Option Addr}{c:Nat}(h:fK tag t T w v m f)(hv:v=.slice p M c):m=M∧(0<M→∃g,p=some (iA g 0)∧tag g=t∧vw w g T M f):=by
 obtain⟨E,C,e,h⟩:=h;rw[hv]at e;injection e with A B D;subst A B;exact⟨rfl,fun hp=>h.resolve_left (by omega)⟩
theorem wu.bothR(h:wu tag ps w0 w n ws left)(hx:LX tag w0 w n v m xs){cr ct:Nat}{s:Value}(a1:xs[4*q]? =some (sL g0 M cr))(a2:xs[4*q+1]? =some (sL g1 M ct))(a3:xs[4*q+2]? =some s)(a4:xs[4*q+3]? =some u)(hq:q<m)(ht0:tag g0=.lst q 0)(ht1:tag g1=.lst q 1)(o:Nat)(ho:o<7*M)(x:Int)(hh:w'.heap.size=w.heap.size)(h1:w'.os=w.os)(h2:w'.tape=w.tape)(h3:w'.output=w.output)(hw:∀k:Nat,w'.heap[k]? =((w.setCell (iA g0 o) (iV x)).setCell (iA g1 o) (iV x)).heap[k]?):wu tag ps w0 w' n ws left∧LX tag w0 w' n v m xs:=by
 have B:g0≠g1:=fun e=>by rw[e,ht1]at ht0;cases ht0
 have A:∀k,k≠g0→k≠g1→w'.heap[k]? =w.heap[k]? :=fun k n0 n1=>(hw k).trans ((Below.heap_setCell _ _ _ _ n1).trans (Below.heap_setCell _ _ _ _ n0))
 refine h.both hx ht0 ht1 hh h1 h2 h3 A fun r t s' u' b1 b2 b3 b4 hl=>?_
 obtain rfl:=Option.some.inj (a1.symm.trans b1);obtain rfl:=Option.some.inj (a2.symm.trans b2);obtain⟨N,f,C,E,F,G,D,H,I,J⟩:=hl;obtain⟨rfl,_⟩:=D.open_ rfl;obtain⟨K,L⟩:=D.both H ht0 ht1 B o ho x hw;exact⟨_,_,C,E,F,G,K,L,I.move fun k hk1 ht=>⟨A k (fun e=>by rw[e,ht0]at ht;cases ht) (fun e=>by rw[e,ht1]at ht;cases ht),rfl⟩,J.move fun k hk1 ht=>⟨A k (fun e=>by rw[e,ht0]at ht;cases ht) (fun e=>by rw[e,ht1]at ht;cases ht),rfl⟩⟩
theorem wu.bothS(h:wu tag ps w0 w n ws left)(hx:LX tag w0 w n v m xs){cr ct:Nat}{s:Value}(a1:xs[4*q]? =some s)(a2:xs[4*q+1]? =some u)(a3:xs[4*q+2]? =some (sL g0 M cr))(a4:xs[4*q+3]? =some (sL g1 M ct))(hq:q<m)(ht0:tag g0=.lst q 2)(ht1:tag g1=.lst q 3)(o:Nat)(ho:o<7*M)(x:Int)(hh:w'.heap.size=w.heap.size)(h1:w'.os=w.os)(h2:w'.tape=w.tape)(h3:w'.output=w.output)(hw:∀k:Nat,w'.heap[k]? =((w.setCell (iA g0 o) (iV x)).setCell (iA g1 o) (iV x)).heap[k]?):wu tag ps w0 w' n ws left∧LX tag w0 w' n v m xs:=by
 have B:g0≠g1:=fun e=>by rw[e,ht1]at ht0;cases ht0
 have A:∀k,k≠g0→k≠g1→w'.heap[k]? =w.heap[k]? :=fun k n0 n1=>(hw k).trans ((Below.heap_setCell _ _ _ _ n1).trans (Below.heap_setCell _ _ _ _ n0))
 refine h.both hx ht0 ht1 hh h1 h2 h3 A fun r t s' u' b1 b2 b3 b4 hl=>?_
 obtain rfl:=Option.some.inj (a3.symm.trans b3);obtain rfl:=Option.some.inj (a4.symm.trans b4);obtain⟨I,f,J,N,D,E,F,G,C,H⟩:=hl;obtain⟨rfl,_⟩:=C.open_ rfl;obtain⟨K,L⟩:=C.both H ht0 ht1 B o ho x hw;exact⟨I,f,_,_,D,E,F.move fun k hk1 ht=>⟨A k (fun e=>by rw[e,ht0]at ht;cases ht) (fun e=>by rw[e,ht1]at ht;cases ht),rfl⟩,G.move fun k hk1 ht=>⟨A k (fun e=>by rw[e,ht0]at ht;cases ht) (fun e=>by rw[e,ht1]at ht;cases ht),rfl⟩,K,L⟩
end
theorem zL3(h:St w0 w n ws left)(k:Int)(hn:n≤1000000000)(h1: -9223372036854775808≤k)(h2:k≤9223372036854775807):
 Cl 50 #[iP w0.heap.size,iV k] w fun e w'=>e=rV #[]∧St w0 w' n ws left:=by
 obtain⟨tag,ps,h,Aa⟩:=h;have HA:Hd (∀p∈ps,p.all.size≤sizes ws):=Aa;obtain⟨v,m,N,Y⟩:=h.lx;have A1:Hd (wu tag ps w0 w n ws left):=h;have Ae:Hd (LX tag w0 w n v m N):=Y;have hc:=Y.cell;have hm:=Y.len;by_cases hz:m=0
 ·subst hz;rcases Y.row.2 with⟨rfl,-⟩|⟨g,H,Ag,rfl,hg,hh,Aj,Am,y,Ad⟩;all_goals
   try clear hh Ad y
   go_enter func50,ntmps50;go_wp2
   (try simp only[Exit.inBlock,Exit.then]);refine bodyPost_ret (results_none rfl _ _ _) rfl ?_
   exact⟨rfl,tag,ps,A1,HA⟩
 rcases Y.row.2 with⟨rfl,An⟩|⟨g,H,Ag,rfl,hg,hh,Aj,Am,y,Ad⟩
 ·exact absurd An hz
 have hp:=gK k m (by omega);have Ao:=fT k m (by omega);have Ac:=fun W=>eH k (m:Int) W h1 h2 (by omega) (by omega)
 obtain⟨q,hq⟩:∃q:Nat,aC k m=q:=⟨(aC k m).toNat,by omega⟩;rw[hq]at hp Ao Ac;have Af:Hd (∀W,Cl 23 #[iV k,iV (m:Int)] W fun e w'=>e=.returned (iV (q:Int))∧w'=W):=Ac;have X:q<m:=by simpa using hp
 have Ax:(q:Int)<(m:Int):=by omega
 obtain⟨r,t,s,u,a1,a2,a3,a4,Ak⟩:=Y.ok q X;obtain⟨M,f,Z,f',hM,As,⟨pr,cr,rfl,hr⟩,⟨pt,ct,rfl,ht⟩,⟨A9,cs,rfl,hs⟩,⟨pu,cu,rfl,hu⟩⟩:=Ak;have O:Hd (N[4*q]? =some (.slice pr M cr)):=a1;have R:Hd (N[4*q+1]? =some (.slice pt M ct)):=a2;have K:Hd (N[4*q+2]? =some (.slice A9 Z cs)):=a3;have S:Hd (N[4*q+3]? =some (.slice pu Z cu)):=a4;have Aw:((m:Int) == 0)=false:=beq_eq_false_iff_ne.2 (by omega);have L:Hd (w0.heap.size+1≤g∧tag g=.own):=⟨hg,Y.vt g rfl⟩;go_enter func50,ntmps50;go_wp2_with fail;go_quiet ((go_at_call 23;exact Calls.quiet_of_same (Af _)));go_wp2_with fail;have l:Hd (wu tag ps w0 (w.drewN nq) n ws left∧LX tag w0 (w.drewN nq) n (sL g m H) m N):=⟨A1.drewN nq,Ae.below A1.lt ⟨rfl,rfl,rfl,Nat.le_refl _,fun _ _=>rfl⟩⟩;go_loopw [5] (fun i wr=> ∃j:Nat,i=iV j∧j≤M∧wu tag ps w0 wr n ws left∧LX tag w0 wr n (sL g m H) m N) (fun i _=>M - (intOf i).toNat)
 case atStart=>exact⟨0,rfl,Nat.zero_le _,l.1,l.2⟩
 case round=>
  obtain⟨j,rfl,hj,hS,c⟩:=hrel;have T:Hd (wu tag ps w0 wr n ws left):=hS;have HX:Hd (LX tag w0 wr n (sL g m H) m N):=c;have e1:wr.cell? (iA g (q*4))=some (.slice pr M cr):=by rw[Nat.mul_comm];exact c.cells _ _ O
  have e2:wr.cell? (iA g (q*4+1))=some (.slice pt M ct):=by rw[Nat.mul_comm];exact c.cells _ _ R
  have e3:wr.cell? (iA g (q*4+2))=some (.slice A9 Z cs):=by rw[Nat.mul_comm];exact c.cells _ _ K
  obtain⟨x,Y⟩:=hS.mark;have hf:=hS.dz 7;by_cases Al:j<M
  ·have Au:(j:Int)<(M:Int):=by omega
   obtain⟨mm,F,d,F',_,_,k3,k4,_,_⟩:=c.at_ X O R K S;obtain⟨rfl,A7⟩:=k3.open_ rfl;obtain⟨A,rfl,B,ir⟩:=A7 (by omega);obtain⟨_,A8⟩:=k4.open_ rfl;obtain⟨E,rfl,D,it⟩:=A8 (by omega);have hy:=ir.cell (j*7+2) (by omega);have A6:=it.cell (j*7+2) (by omega);have fy:=ir.dz (j*7+2);have fz:=it.dz (j*7+2);have Ah:A≠g:=fun e=>by rw[e,L.2]at B;cases B
   have Ai:E≠g:=fun e=>by rw[e,L.2]at D;cases D
   have Ap:A≠E:=fun e=>by rw[e,D]at B;cases B
   have V:g≠w0.heap.size:=by have:=L.1;omega
   have A3:A≠w0.heap.size:=fun e=>by rw[e,T.jG _ (Nat.le_refl _)]at B;cases B
   have A4:E≠w0.heap.size:=fun e=>by rw[e,T.jG _ (Nat.le_refl _)]at D;cases D
   have U:Hd (tag A=.lst q 0∧tag E=.lst q 1):=⟨B,D⟩;have z:Hd (wu tag ps w0 (wr.setCell (iA w0.heap.size 7) (iV (wrap64 (x+1)))) n ws left):=T.mY 7 (by omega) _;have A0:Hd (LX tag w0 (wr.setCell (iA w0.heap.size 7) (iV (wrap64 (x+1)))) n (sL g m H) m N):=HX.mY T.jG 7 (by omega) _;have G:∀b o,b≠w0.heap.size→(wr.setCell (iA w0.heap.size 7) (iV (wrap64 (x+1)))).cell? (iA b o)=wr.cell? (iA b o):=fun b o hb=>World.cell?_setCell_other _ _ _ _ (by intro e;injection e with I J;omega)
   have a1:=(G g (q*4) V).trans e1;have a2:=(G g (q*4+1) V).trans e2;have a3:=(G A (j*7+2) A3).trans hy;have a4:=(G E (j*7+2) A4).trans A6;have a7:(wr.setCell (iA w0.heap.size 7) (iV (wrap64 (x+1)))).cell? (iA w0.heap.size 7)=sI (wrap64 (x+1)):=World.cell?_setCell_same _ _ _ Y;have a5:(wr.setCell (iA w0.heap.size 7) (iV (wrap64 (x+1)))).frozen? (iA A (j*7+2))=false:=(World.frozen?_setCell _ _ _ _).trans fy;have a6:(wr.setCell (iA w0.heap.size 7) (iV (wrap64 (x+1)))).frozen? (iA E (j*7+2))=false:=(World.frozen?_setCell _ _ _ _).trans fz;go_wp2_with fail;generalize wr.setCell (iA w0.heap.size 7) (iV (wrap64 (x+1)))=W1 at *
   go_region_held3(fun W=>W.cell? (iA g (q*4))=some (sL A mm cr)∧W.cell? (iA w0.heap.size 7)=sI (wrap64 (x+1))) (first|exact⟨a1,a7⟩|exact⟨(World.cell?_setCell_other _ _ _ _ (by intro e;injection e with I J;omega)).trans a1,(World.cell?_setCell_other _ _ _ _ (by intro e;injection e with I J;omega)).trans a7⟩) (fail);go_wp2_with fail;have b2:(W1.setCell (iA A (j*7+2)) (iV (IntKind.i64.wrap (-wrap64 (x+1))))).drew.cell? (iA g (q*4+1))=some (sL E mm ct):=(World.cell?_setCell_other _ _ _ _ (by intro e;injection e with I J;omega)).trans a2;have b7:(W1.setCell (iA A (j*7+2)) (iV (IntKind.i64.wrap (-wrap64 (x+1))))).drew.cell? (iA w0.heap.size 7)=sI (wrap64 (x+1)):=(World.cell?_setCell_other _ _ _ _ (by intro e;injection e with I J;omega)).trans a7
   have b4:(W1.setCell (iA A (j*7+2)) (iV (IntKind.i64.wrap (-wrap64 (x+1))))).drew.cell? (iA E (j*7+2))=sI (F (j*7+2)):=(World.cell?_setCell_other _ _ _ _ (by intro e;injection e with I J;omega)).trans a4;have b6:(W1.setCell (iA A (j*7+2)) (iV (IntKind.i64.wrap (-wrap64 (x+1))))).drew.frozen? (iA E (j*7+2))=false:=(World.frozen?_setCell _ _ _ _).trans a6;have A2:Hd ((W1.setCell (iA A (j*7+2)) (iV (IntKind.i64.wrap (-wrap64 (x+1))))).drew.heap=(W1.setCell (iA A (j*7+2)) (iV (IntKind.i64.wrap (-wrap64 (x+1))))).heap∧(W1.setCell (iA A (j*7+2)) (iV (IntKind.i64.wrap (-wrap64 (x+1))))).drew.os=W1.os∧(W1.setCell (iA A (j*7+2)) (iV (IntKind.i64.wrap (-wrap64 (x+1))))).drew.tape=W1.tape∧(W1.setCell (iA A (j*7+2)) (iV (IntKind.i64.wrap (-wrap64 (x+1))))).drew.output=W1.output):=⟨rfl,rfl,rfl,rfl⟩;generalize (W1.setCell (iA A (j*7+2)) (iV (IntKind.i64.wrap (-wrap64 (x+1))))).drew=W2 at *
   go_region_held3(fun W=>W.cell? (iA g (q*4+1))=some (sL E mm ct)∧W.cell? (iA w0.heap.size 7)=sI (wrap64 (x+1))) (first|exact⟨b2,b7⟩|exact⟨(World.cell?_setCell_other _ _ _ _ (by intro e;injection e with I J;omega)).trans b2,(World.cell?_setCell_other _ _ _ _ (by intro e;injection e with I J;omega)).trans b7⟩) (fail);go_wp2;go_roundw
   case rel=>
    obtain⟨z1,z2,z3,z4⟩:=A2;have A5:IntKind.i64.wrap (-wrap64 (x+1))=wrap64 (-wrap64 (x+1)):=zDb _;rw[A5]at z1;obtain⟨y1,y2⟩:=z.o.bothR A0 O R K S X U.o.1 U.o.2 (j*7+2) (by omega) (wrap64 (-wrap64 (x+1))) (w':=(W2.setCell (iA E (j*7+2)) (iV (wrap64 (-wrap64 (x+1))))).drew) (by show(W2.setCell _ _).heap.size=_;simp[z1]) z2 z3 z4 (fun k=>by
     show(W2.heap.modify _ _)[k]? =_;rw[z1];rfl)
    exact⟨j+1,by go_num,by omega,y1,y2⟩
   case measure=>simp[intOf];omega
  have Av:¬(j:Int)<(M:Int):=by omega
  go_wp2_with fail;go_loopw [6] (fun i wr'=> ∃C:Nat,i=iV C∧C≤Z∧wu tag ps w0 wr' n ws left∧LX tag w0 wr' n (sL g m H) m N) (fun i _=>Z - (intOf i).toNat)
  case atStart=>exact⟨0,rfl,Nat.zero_le _,T,HX⟩
  case round=>
   obtain⟨C,rfl,At,hS,c⟩:=hrel;have T:Hd (wu tag ps w0 wr n ws left):=hS;have HX:Hd (LX tag w0 wr n (sL g m H) m N):=c;have e1:wr.cell? (iA g (q*4+2))=some (.slice A9 Z cs):=by rw[Nat.mul_comm];exact c.cells _ _ K
   have e2:wr.cell? (iA g (q*4+3))=some (.slice pu Z cu):=by rw[Nat.mul_comm];exact c.cells _ _ S
   obtain⟨x,Y⟩:=hS.mark;have hf:=hS.dz 7;by_cases Al:C<Z
   ·have Aq:(C:Int)<(Z:Int):=by omega
    obtain⟨mm,F,d,F',_,_,_,_,k3,k4⟩:=c.at_ X O R K S;obtain⟨rfl,A7⟩:=k3.open_ rfl;obtain⟨A,rfl,B,ir⟩:=A7 (by omega);obtain⟨_,A8⟩:=k4.open_ rfl;obtain⟨E,rfl,D,it⟩:=A8 (by omega);have hy:=ir.cell (C*7) (by omega);have A6:=it.cell (C*7) (by omega);have fy:=ir.dz (C*7);have fz:=it.dz (C*7);have Ah:A≠g:=fun e=>by rw[e,L.2]at B;cases B
    have Ai:E≠g:=fun e=>by rw[e,L.2]at D;cases D
    have Ap:A≠E:=fun e=>by rw[e,D]at B;cases B
    have V:g≠w0.heap.size:=by have:=L.1;omega
    have A3:A≠w0.heap.size:=fun e=>by rw[e,T.jG _ (Nat.le_refl _)]at B;cases B
    have A4:E≠w0.heap.size:=fun e=>by rw[e,T.jG _ (Nat.le_refl _)]at D;cases D
    have U:Hd (tag A=.lst q 2∧tag E=.lst q 3):=⟨B,D⟩;have z:Hd (wu tag ps w0 (wr.setCell (iA w0.heap.size 7) (iV (wrap64 (x+1)))) n ws left):=T.mY 7 (by omega) _;have A0:Hd (LX tag w0 (wr.setCell (iA w0.heap.size 7) (iV (wrap64 (x+1)))) n (sL g m H) m N):=HX.mY T.jG 7 (by omega) _;have G:∀b o,b≠w0.heap.size→(wr.setCell (iA w0.heap.size 7) (iV (wrap64 (x+1)))).cell? (iA b o)=wr.cell? (iA b o):=fun b o hb=>World.cell?_setCell_other _ _ _ _ (by intro e;injection e with I J;omega)
    have a1:=(G g (q*4+2) V).trans e1;have a2:=(G g (q*4+3) V).trans e2;have a3:=(G A (C*7) A3).trans hy;have a4:=(G E (C*7) A4).trans A6;have a7:(wr.setCell (iA w0.heap.size 7) (iV (wrap64 (x+1)))).cell? (iA w0.heap.size 7)=sI (wrap64 (x+1)):=World.cell?_setCell_same _ _ _ Y;have a5:(wr.setCell (iA w0.heap.size 7) (iV (wrap64 (x+1)))).frozen? (iA A (C*7))=false:=(World.frozen?_setCell _ _ _ _).trans fy;have a6:(wr.setCell (iA w0.heap.size 7) (iV (wrap64 (x+1)))).frozen? (iA E (C*7))=false:=(World.frozen?_setCell _ _ _ _).trans fz;go_wp2_with fail;generalize wr.setCell (iA w0.heap.size 7) (iV (wrap64 (x+1)))=W1 at *
    go_region_held3(fun W=>W.cell? (iA g (q*4+2))=some (sL A d cs)∧W.cell? (iA w0.heap.size 7)=sI (wrap64 (x+1))) (first|exact⟨a1,a7⟩|exact⟨(World.cell?_setCell_other _ _ _ _ (by intro e;injection e with I J;omega)).trans a1,(World.cell?_setCell_other _ _ _ _ (by intro e;injection e with I J;omega)).trans a7⟩) (fail);go_wp2_with fail;have b2:(W1.setCell (iA A (C*7)) (iV (IntKind.i64.wrap (-wrap64 (x+1))))).drew.cell? (iA g (q*4+3))=some (sL E d cu):=(World.cell?_setCell_other _ _ _ _ (by intro e;injection e with I J;omega)).trans a2;have b7:(W1.setCell (iA A (C*7)) (iV (IntKind.i64.wrap (-wrap64 (x+1))))).drew.cell? (iA w0.heap.size 7)=sI (wrap64 (x+1)):=(World.cell?_setCell_other _ _ _ _ (by intro e;injection e with I J;omega)).trans a7
    have b4:(W1.setCell (iA A (C*7)) (iV (IntKind.i64.wrap (-wrap64 (x+1))))).drew.cell? (iA E (C*7))=sI (F' (C*7)):=(World.cell?_setCell_other _ _ _ _ (by intro e;injection e with I J;omega)).trans a4;have b6:(W1.setCell (iA A (C*7)) (iV (IntKind.i64.wrap (-wrap64 (x+1))))).drew.frozen? (iA E (C*7))=false:=(World.frozen?_setCell _ _ _ _).trans a6;have A2:Hd ((W1.setCell (iA A (C*7)) (iV (IntKind.i64.wrap (-wrap64 (x+1))))).drew.heap=(W1.setCell (iA A (C*7)) (iV (IntKind.i64.wrap (-wrap64 (x+1))))).heap∧(W1.setCell (iA A (C*7)) (iV (IntKind.i64.wrap (-wrap64 (x+1))))).drew.os=W1.os∧(W1.setCell (iA A (C*7)) (iV (IntKind.i64.wrap (-wrap64 (x+1))))).drew.tape=W1.tape∧(W1.setCell (iA A (C*7)) (iV (IntKind.i64.wrap (-wrap64 (x+1))))).drew.output=W1.output):=⟨rfl,rfl,rfl,rfl⟩;generalize (W1.setCell (iA A (C*7)) (iV (IntKind.i64.wrap (-wrap64 (x+1))))).drew=W2 at *
    go_region_held3(fun W=>W.cell? (iA g (q*4+3))=some (sL E d cu)∧W.cell? (iA w0.heap.size 7)=sI (wrap64 (x+1))) (first|exact⟨b2,b7⟩|exact⟨(World.cell?_setCell_other _ _ _ _ (by intro e;injection e with I J;omega)).trans b2,(World.cell?_setCell_other _ _ _ _ (by intro e;injection e with I J;omega)).trans b7⟩) (fail);go_wp2;go_roundw
    case rel=>
     obtain⟨z1,z2,z3,z4⟩:=A2;have A5:IntKind.i64.wrap (-wrap64 (x+1))=wrap64 (-wrap64 (x+1)):=zDb _;rw[A5]at z1;obtain⟨y1,y2⟩:=z.o.bothS A0 O R K S X U.o.1 U.o.2 (C*7) (by omega) (wrap64 (-wrap64 (x+1))) (w':=(W2.setCell (iA E (C*7)) (iV (wrap64 (-wrap64 (x+1))))).drew) (by show(W2.setCell _ _).heap.size=_;simp[z1]) z2 z3 z4 (fun k=>by
      show(W2.heap.modify _ _)[k]? =_;rw[z1];rfl)
     exact⟨C+1,by go_num,by omega,y1,y2⟩
    case measure=>simp[intOf];omega
   have Ar:¬(C:Int)<(Z:Int):=by omega
   have Ab:Hd (St w0 wr n ws left):=⟨tag,ps,T,HA⟩;go_wp2;go_end0;exact⟨rfl,Ab⟩
abbrev qJ(kind a b d:Int)(s:ByteArray)(v:Nat→Int):Value:=.agg #[iV kind,iV a,iV b,iV d,.string s,iV (v 0),iV (v 1),iV (v 2),iV (v 3),iV (v 4),iV (v 5),iV (v 6),iV (v 7),iV (v 8)]
abbrev opC(kind a b d:Int)(s:ByteArray)(v:Nat→Int):Array Value:=#[iV kind,iV a,iV b,iV d,.string s,iV (v 0),iV (v 1),iV (v 2),iV (v 3),iV (v 4),iV (v 5),iV (v 6),iV (v 7),iV (v 8)]
def dK(x:Int):Prop:= -9223372036854775808≤x∧x≤9223372036854775807
theorem gu(o:Obj):Below w.heap.size w (w.alloc o):=(Below.refl _ _).alloc (Nat.le_refl _) _
def Next(w0 w':World)(n:Nat):Prop:= ∃ws' left',St w0 w' (n+2) ws' left'
theorem St.next(h:St w0 w n ws left):Next w0 w n:=⟨ws,left,h.mono (by omega)⟩
theorem Next.of(h:St w0 w (n+1) ws left):Next w0 w n:=⟨ws,left,h.mono (by omega)⟩
theorem zL4(t:ByteArray)(q:Nat)(w:World)(h:q≤t.size):(Instr.slice 9 (.string t) none (sI (q:Int)) none).run prog w=.ok (.string (t.extract 0 q)) w:=by
 rw[run_slice_string_to_if w 9 t .i64 (q:Int) underlying9,if_pos (by omega)];rfl
theorem zL5(t:ByteArray)(q:Nat)(w:World)(h:q≤t.size):(Instr.slice 9 (.string t) (sI (q:Int)) none none).run prog w=.ok (.string (t.extract q t.size)) w:=by
 rw[run_slice_string_from_if w 9 t .i64 (q:Int) underlying9,if_pos (by omega)];rfl
section
variable {w0 w:World} {n:Nat} {ws:List ByteArray} {left:Int}
theorem zL6(h:St w0 w n ws left)(a b d:Int)(s:ByteArray)(v:Nat→Int)(hn:n≤100000000)(ha:dK a)(hs:s.size≤1000000000)(hl:0<left):
 Cl 24 #[iP w0.heap.size,qJ 4 a b d s v] w fun e w'=>e=rV #[]∧Next w0 w' n:=by
 have C:Hd (St w0 (w.alloc (.cells (opC 4 a b d s v) 29)) n ws left):=h.below (gu _);go_enter func24,ntmps24;go_wp2_with fail;refine(C.word a (by omega) ha.1 ha.2).mono ?_;rintro e F ⟨rfl,m,rfl⟩;go_wp2_with fail;refine((C.drewN m).keep s (by omega) hs (by omega)).mono ?_;rintro e E ⟨rfl,B,D⟩;have A:Hd (St w0 E (n+1) (ws++ [s]) (left - (s.size:Int))):=B;go_wp2;go_end0;exact⟨rfl,Next.of A⟩
theorem zL7(h:St w0 w n ws left)(a b d:Int)(s:ByteArray)(v:Nat→Int)(hn:n≤100000000)(ha:dK a)(hb:dK b)(hl:0<left):
 Cl 24 #[iP w0.heap.size,qJ 5 a b d s v] w fun e w'=>e=rV #[]∧Next w0 w' n:=by
 have E:=h.sum;have H:=ql ws a;have I:=ql ws b;have B:Hd (St w0 (w.alloc (.cells (opC 5 a b d s v) 29)) n ws left):=h.below (gu _);go_enter func24,ntmps24;go_wp2_with fail;refine(B.word a (by omega) ha.1 ha.2).mono ?_;rintro e K ⟨rfl,m,rfl⟩;generalize hta:dU ws a=ta at *;generalize htb:dU ws b=tb at *;go_wp2_with fail;refine((B.drewN m).word b (by omega) hb.1 hb.2).mono ?_;rintro e F ⟨rfl,J,rfl⟩;rw[htb];have A:(ta++tb).size≤1000000000:=by rw[ByteArray.size_append];omega
 go_wp2_with fail;refine((B.drewN (m+J)).keep (ta++tb) (by omega) A (by omega)).mono ?_;rintro e F ⟨rfl,D,G⟩;have C:Hd (Next w0 F n):=Next.of D;go_wp2;go_end0;exact⟨rfl,C⟩
theorem zL8(h:St w0 w n ws left)(a b d:Int)(s:ByteArray)(v:Nat→Int)(hn:n≤100000000)(ha:dK a)(hb:dK b)(hl:0<left):
 Cl 24 #[iP w0.heap.size,qJ 7 a b d s v] w fun e w'=>e=rV #[]∧Next w0 w' n:=by
 have J:=h.sum;have N:=ql ws a;have O:=ql ws b;have H:Hd (St w0 (w.alloc (.cells (opC 7 a b d s v) 29)) n ws left):=h.below (gu _);generalize hta:dU ws a=ta at *;have B:=fun W=>eH b ((ta.size:Int)+1) W hb.1 hb.2 (by omega) (by omega)
 have F:=fT b ((ta.size:Int)+1) (by omega);obtain⟨q,L⟩:∃q:Nat,aC b ((ta.size:Int)+1)=q:=⟨(aC b ((ta.size:Int)+1)).toNat,by omega⟩;rw[L]at F B;have G:q≤ta.size:=by omega
 have C:Hd (∀W,Cl 23 #[iV b,iV ((ta.size:Int)+1)] W fun e w'=>e=.returned (iV (q:Int))∧w'=W):=B;have I:=fun W=>zL4 ta q W G
 go_enter func24,ntmps24;go_wp2_with fail;refine(H.word a (by omega) ha.1 ha.2).mono ?_;rintro e R ⟨rfl,m,rfl⟩;rw[hta];go_wp2_with fail;refine(C _).mono ?_;rintro e K ⟨rfl,rfl⟩;have A:(ta.extract 0 q).size≤1000000000:=by simp;omega
 go_wp2_with fail;refine((H.drewN m).keep (ta.extract 0 q) (by omega) A (by omega)).mono ?_;rintro e K ⟨rfl,E,M⟩;have D:Hd (Next w0 K n):=Next.of E;go_wp2;go_end0;exact⟨rfl,D⟩
theorem zL9(h:St w0 w n ws left)(a b d:Int)(s:ByteArray)(v:Nat→Int)(hn:n≤100000000)(ha:dK a)(hb:dK b)(hl:0<left):
 Cl 24 #[iP w0.heap.size,qJ 8 a b d s v] w fun e w'=>e=rV #[]∧Next w0 w' n:=by
 have J:=h.sum;have N:=ql ws a;have O:=ql ws b;have H:Hd (St w0 (w.alloc (.cells (opC 8 a b d s v) 29)) n ws left):=h.below (gu _);generalize hta:dU ws a=ta at *;have B:=fun W=>eH b ((ta.size:Int)+1) W hb.1 hb.2 (by omega) (by omega)
 have F:=fT b ((ta.size:Int)+1) (by omega);obtain⟨q,L⟩:∃q:Nat,aC b ((ta.size:Int)+1)=q:=⟨(aC b ((ta.size:Int)+1)).toNat,by omega⟩;rw[L]at F B;have G:q≤ta.size:=by omega
 have C:Hd (∀W,Cl 23 #[iV b,iV ((ta.size:Int)+1)] W fun e w'=>e=.returned (iV (q:Int))∧w'=W):=B;have I:=fun W=>zL5 ta q W G
 go_enter func24,ntmps24;go_wp2_with fail;refine(H.word a (by omega) ha.1 ha.2).mono ?_;rintro e R ⟨rfl,m,rfl⟩;rw[hta];go_wp2_with fail;refine(C _).mono ?_;rintro e K ⟨rfl,rfl⟩;have A:(ta.extract q ta.size).size≤1000000000:=by simp;omega
 go_wp2_with fail;refine((H.drewN m).keep (ta.extract q ta.size) (by omega) A (by omega)).mono ?_;rintro e K ⟨rfl,E,M⟩;have D:Hd (Next w0 K n):=Next.of E;go_wp2;go_end0;exact⟨rfl,D⟩
theorem zLa(h:St w0 w n ws left)(a b d:Int)(s:ByteArray)(v:Nat→Int)(hn:n≤100000000)(ha:dK a)(hb:dK b)(hl:0<left):
 Cl 24 #[iP w0.heap.size,qJ 17 a b d s v] w fun e w'=>e=rV #[]∧Next w0 w' n:=by
 have D:=h.sum;have E:=ql ws a;have F:=ql ws b;have C:Hd (St w0 (w.alloc (.cells (opC 17 a b d s v) 29)) n ws left):=h.below (gu _);go_enter func24,ntmps24;go_wp2_with fail;refine(C.word a (by omega) ha.1 ha.2).mono ?_;rintro e H ⟨rfl,m,rfl⟩;go_wp2_with fail;refine(zL3 (C.drewN m) a (by omega) ha.1 ha.2).mono ?_;rintro e G ⟨rfl,B⟩;have A:Hd (Next w0 G n):=B.next;go_wp2;go_end0;exact⟨rfl,A⟩
theorem zLb(h:St w0 w n ws left)(kind a b d:Int)(s:ByteArray)(v:Nat→Int)(hn:n≤100000000)(ha:dK a)(hb:dK b)(hl:0<left)(k1:kind≠1)(k2:kind≠2)(k4:kind≠4)(k5:kind≠5)(k6:kind≠6)(k7:kind≠7)(k8:kind≠8)(k17:kind≠17):
 Cl 24 #[iP w0.heap.size,qJ kind a b d s v] w fun e w'=>e=rV #[]∧Next w0 w' n:=by
 have C:=h.sum;have E:=ql ws a;have F:=ql ws b;have B:Hd (St w0 (w.alloc (.cells (opC kind a b d s v) 29)) n ws left):=h.below (gu _);have G:=beq_eq_false_iff_ne.2 k1;have H:=beq_eq_false_iff_ne.2 k2;have I:=beq_eq_false_iff_ne.2 k4;have J:=beq_eq_false_iff_ne.2 k5;have K:=beq_eq_false_iff_ne.2 k6;have L:=beq_eq_false_iff_ne.2 k7;have M:=beq_eq_false_iff_ne.2 k8;have D:=beq_eq_false_iff_ne.2 k17;go_enter func24,ntmps24;go_wp2_with fail;refine(B.word a (by omega) ha.1 ha.2).mono ?_;rintro e N ⟨rfl,m,rfl⟩;have A:Hd (Next w0 ((w.alloc (.cells (opC kind a b d s v) 29)).drewN m) n):=(B.drewN m).next;go_wp2;go_end0;exact⟨rfl,A⟩
end
theorem oJ(w:World)(cs:Array Value)(ty:TypeId)(m j:Nat)(u:Value)(h:cs[j]? =some u):((w.alloc (.cells cs ty)).drewN m).cell? (iA w.heap.size j)=some u:=by
 show(w.alloc (.cells cs ty)).cell? (iA w.heap.size j)=some u;rw[World.cell?_alloc_at _ _ _ _ rfl];exact h
theorem fw(w:World)(cs:Array Value)(ty:TypeId)(j:Nat)(u:Value)(h:cs[j]? =some u):(w.alloc (.cells cs ty)).cell? (iA w.heap.size j)=some u:=by
 rw[World.cell?_alloc_at _ _ _ _ rfl];exact h
theorem kG{B:Nat}{e:TypeId}(h:w.ownsRow B e size v n xs):w.drew.ownsRow B e size v n xs:=h
theorem Tryz.infoInt:(prog.info? 3).map (fun i=>(i.size,i.bytes))=some (1,8):=by kernel_rfl
theorem Tryz.zeroInt:(prog.info? 3).map (fun i=>i.zero)=some (sI 0):=by kernel_rfl
section
variable {w0 w:World} {n:Nat} {ws:List ByteArray} {left:Int}
theorem pick3(a:Int):∃q:Nat,aC a 3=q∧q<3:=by
 have:=fT a 3 (by omega);exact⟨(aC a 3).toNat,by omega,by omega⟩
theorem zLc(h:St w0 w n ws left)(a b d:Int)(s:ByteArray)(v:Nat→Int)(hn:n≤100000000)(ha:dK a):
 Cl 24 #[iP w0.heap.size,qJ 1 a b d s v] w fun e w'=>e=rV #[]∧Next w0 w' n:=by
 have G:Hd (St w0 (w.alloc (.cells (opC 1 a b d s v) 29)) n ws left):=h.below (gu _);have E:=fun W=>eH a 3 W ha.1 ha.2 (by omega) (by omega)
 obtain⟨q,N,O⟩:=pick3 a;rw[N]at E;have F:Hd (∀W,Cl 23 #[iV a,iV 3] W fun e w'=>e=.returned (iV (q:Int))∧w'=W):=E;have M:=h.lt;go_enter func24,ntmps24;go_wp2_with fail;refine(G.word a (by omega) ha.1 ha.2).mono ?_;rintro e U ⟨rfl,m,rfl⟩;have A:Hd (St w0 ((w.alloc (.cells (opC 1 a b d s v) 29)).drewN m) n ws left):=G.drewN m;obtain⟨V,R⟩:=A.o.c0;obtain⟨Y,S⟩:=A.o.c1;obtain⟨Z,T⟩:=A.o.c2;have J:=A.dz 0;have K:=A.dz 1;have L:=A.dz 2;have C:((w.alloc (.cells (opC 1 a b d s v) 29)).drewN m).cell? (iA w.heap.size 1)=sI a:=oJ _ _ _ _ _ _ rfl;have D:((w.alloc (.cells (opC 1 a b d s v) 29)).drewN m).cell? (iA w.heap.size 2)=sI b:=oJ _ _ _ _ _ _ rfl;go_wp2_with fail;generalize (w.alloc (.cells (opC 1 a b d s v) 29)).drewN m=W at *;obtain rfl|rfl|rfl:q=0∨q=1∨q=2:=by omega
 all_goals
  go_region_held3(fun X=>X.cell? (iA w.heap.size 1)=sI a∧X.cell? (iA w.heap.size 2)=sI b) (first|exact⟨C,D⟩|exact⟨(World.cell?_setCell_other _ _ _ _ (by intro e;injection e with H I;omega)).trans C,(World.cell?_setCell_other _ _ _ _ (by intro e;injection e with H I;omega)).trans D⟩) ((go_at_call 23;refine(F _).mono ?_;rintro e w' ⟨rfl,rfl⟩))
 ·have B:=(A.mY 0 (by omega) b).drew.next;go_wp2;go_end0;exact⟨rfl,B⟩
 ·have B:=(A.mY 1 (by omega) b).drew.next;go_wp2;go_end0;exact⟨rfl,B⟩
 have B:=(A.mY 2 (by omega) b).drew.next;go_wp2;go_end0;exact⟨rfl,B⟩
theorem zLd(h:St w0 w n ws left)(a b d:Int)(s:ByteArray)(v:Nat→Int)(hn:n≤100000000)(ha:dK a)(hb:dK b):
 Cl 24 #[iP w0.heap.size,qJ 2 a b d s v] w fun e w'=>e=rV #[]∧Next w0 w' n:=by
 obtain⟨i0,hi,c,f,i⟩:=qh Tryz.infoInt Tryz.zeroInt;have k:Hd (St w0 (w.alloc (.cells (opC 2 a b d s v) 29)) n ws left):=h.below (gu _);have A1:=h.lt;clear h;go_enter func24,ntmps24;go_wp2_with fail;refine(k.word a (by omega) ha.1 ha.2).mono ?_;rintro e T ⟨rfl,m,rfl⟩;have F:Hd (St w0 ((w.alloc (.cells (opC 2 a b d s v) 29)).drewN m) n ws left):=k.drewN m;have A0:((w.alloc (.cells (opC 2 a b d s v) 29)).drewN m).cell? (iA w.heap.size 2)=sI b:=oJ _ _ _ _ _ _ rfl;have A2:w.heap.size<((w.alloc (.cells (opC 2 a b d s v) 29)).drewN m).heap.size:=by
  show w.heap.size<(w.alloc _).heap.size;simp
 go_wp2_with fail;generalize (w.alloc (.cells (opC 2 a b d s v) 29)).drewN m=W at *;obtain⟨dv,ds,L,B,D,Z⟩:=F.o.gz;have U:Hd (W.cell? (iA w0.heap.size 3)=some dv):=L;have V:Hd (∀x∈ds,-9223372036854775808≤x∧x≤9223372036854775807):=D;obtain⟨G,C⟩:∃G,G=ds.length:=⟨_,rfl⟩;have J:Hd (G=ds.length):=C;have B:W.ownsRow (w0.heap.size+1) 3 1 dv G (ds.map (iV)):=by rw[C];exact B
 rw[←C]at Z;clear C;have Y:=F.dz 3;have N:=F.lt;have M:∀o,(W.alloc o).drew.cell? (iA w0.heap.size 3)=some dv:=fun o=>(World.cell?_alloc_lt W o (iA w0.heap.size 3) N).trans L
 have R:∀q,dv.ownBlock=some q→w0.heap.size+1≤q:=fun q hq=>(B.lt q hq).1
 have I:some w0.heap.size≠dv.ownBlock:=fun e=>by have:=R _ e.symm;omega
 have H:Hd (W.ownsRow (w0.heap.size+1) 3 1 dv G (ds.map (iV))):=B;have y:G≤100000000:=by omega
 clear B D;go_region_law((
  refine step_append_lies _ (by rfl) _ _ 32 (by rfl) (w0.heap.size+1) 3 i0 (iV 0) 1 8 underlying32 hi c f i rfl (by decide) dv G (ds.map (iV)) (by rfl) (kG (World.ownsRow.alloc H.o _)) (iA W.heap.size 0) 1 1 [iV b] (by rfl) rfl ?_ ?_ (by decide) ?_ ?_ ?_ (W.heap.size+1) (by simp) ?_
  ·intro j u S
   match j,S with
   |0,S=>
    simp at S;subst S;exact fw W _ _ 0 _ rfl
  ·intro u z;simp at z;subst z;rfl
  ·unfold maxLen;omega
  ·omega
  ·simp;omega
  intro g X T E A K O;have l:T.cell? (iA w0.heap.size 3)=some dv:=(A.cell_far (iA w0.heap.size 3) (by simp;omega) I).trans (M _);have p:T.frozen? (iA w0.heap.size 3)=false:=(A.frozen_far (iA w0.heap.size 3) (by simp;omega) I).trans ((World.frozen?_alloc_old W _ _ (by show w0.heap.size≠W.heap.size;omega)).trans Y);have HX:Hd (Next w0 (T.setCell (iA w0.heap.size 3) (sL g (G+1) X)) n):=by
   have t:(ds++ [b]).length=G+1:=by rw[List.length_append,←J.o];rfl
   refine Next.of (F.put_draws (ds:=ds) (ds':=ds++ [b]) U.o (by rw[←J.o];exact H.o) A.os A.tape A.output (Nat.le_trans (by simp) A.size) (fun q hq hr=>(A.block q (by simp;omega) hr).trans (Below.heap_alloc W _ _ hq)) (fun q hq=>?_) (by rw[t,List.map_append];exact E) (fun x hx=>?_) (by rw[t];omega))
   ·have:g=q:=by simpa [Value.ownBlock] using hq
    subst this;rcases K with h|h
    ·exact .inl h
    exact .inr (by omega)
   rcases List.mem_append.1 hx with h|h
   ·exact V.o x h
   simp at h;subst h;exact hb
  clear E A K O))
 all_goals
  go_wp2;go_end0;exact⟨rfl,HX.o⟩
end
theorem zLe(kind:Int)(v:Nat→Int):(jl kind v).1.length≤1000:=by
 unfold jl;split
 ·split
  ·simp
  have A:=qN (terms kind) v (fun p hp=>by rcases(bX kind p hp).2.1 with q|q<;>omega);have B:=kC kind;simp only[List.length_cons];omega
 simp
theorem zLf(h:St w0 w n ws left)(hn:n≤100000000)(hl:0<left)(ad:Nat→Addr)(st:Nat→ByteArray)(hE:lq w ad st)(hW:qx w)(kind a b d:Int)(s:ByteArray)(v:Nat→Int)(hv:∀i,i<9→-9223372036854775808≤v i∧v i≤9223372036854775807):
 Cl 34 #[iP w0.heap.size,qJ kind a b d s v] w fun e w'=>e=rB true∧Next w0 w' n:=by
 have M:=zLe a v;have R:Hd (St w0 (w.alloc (.cells (opC kind a b d s v) 29)) n ws left):=h.below (gu _);have O:Hd (lq (w.alloc (.cells (opC kind a b d s v) 29)) ad st):=hE.below (gu _);have S:Hd (qx (w.alloc (.cells (opC kind a b d s v) 29))):=hW.below (gu _);have g:Hd (∀i,i<9→-9223372036854775808≤v i∧v i≤9223372036854775807):=hv;have G:=fun W (h1:lq W ad st) (h2:qx W)=>qA ad st a v W h1 h2 hv
 have H:=fun W=>zE7 a v W hv
 have L:(⟨(jl a v).1.toArray⟩:ByteArray).size≤1000000000:=by
  show(jl a v).1.toArray.size≤_;simp;omega
 generalize (⟨(jl a v).1.toArray⟩:ByteArray)=eb at *;generalize (jl a v).2.1=en at *;generalize (jl a v).2.2=ea at *;have B:Hd (∀W,lq W ad st→qx W→Cl 17 #[iV a,vS v] W fun e w'=>e=rV #[.string eb,iV en,iV ea]∧Bw W w'):=G;have C:Hd (∀W,Cl 61 #[.agg #[iV a,iV (v 0),iV (v 1),iV (v 2),iV (v 3),iV (v 4),iV (v 5),iV (v 6),iV (v 7),iV (v 8)]] W fun e w'=>e=rV #[.string eb,iV en,iV ea]∧Bw W w'):=H;go_enter func34,ntmps34;go_wp2_with fail;refine(B _ O S).mono ?_;rintro e N ⟨rfl,E⟩;have F:Hd (Below (w.alloc (.cells (opC kind a b d s v) 29)).heap.size (w.alloc (.cells (opC kind a b d s v) 29)) N):=E;have A:∀j u,(opC kind a b d s v)[j]? =some u→N.cell? (iA w.heap.size j)=some u:=fun j u hj=>(E.cell (p:=(iA w.heap.size j)) (by simp)).trans (fw w _ _ j u hj)
 have k:=A 1 _ rfl;have l:=A 5 _ rfl;have m:=A 6 _ rfl;have q:=A 7 _ rfl;have t:=A 8 _ rfl;have x:=A 9 _ rfl;have T:=A 10 _ rfl;have U:=A 11 _ rfl;have V:=A 12 _ rfl;have X:=A 13 _ rfl;go_wp2_with fail;refine(C _).mono ?_;rintro e c ⟨rfl,K⟩;have I:Hd (St w0 c n ws left):=(R.below F).below K;go_wp2_with fail;refine(I.keep eb (by omega) L (by omega)).mono ?_;rintro e f ⟨rfl,J,Z⟩;have D:Hd (Next w0 f n):=Next.of J;by_cases Y:ea<0
 ·go_wp2;go_ret;exact⟨rfl,D⟩
 go_wp2;go_ret;exact⟨rfl,D⟩
end
section
open Go.Extern Go.Maps Go.RowKit
theorem zLg{base:Nat}{e:TypeId}(h:w.ownsRow base e size (sL g n cap) n xs)(j:Nat)(hj:j<xs.length)(u:Value):(w.setCell (iA g j) u).ownsRow base e size (sL g n cap) n (xs.set j u):=by
 refine⟨by rw[List.length_set];exact h.1,?_⟩;rcases h.2 with⟨e,-⟩|⟨L,G,B,e,I,J,C,D,E,F⟩
 ·cases e
 injection e with A K H;injection A with A;injection A with A;subst A H;refine .inr ⟨g,cap,B.setIfInBounds j u,rfl,I,ja _ _ _ _ _ _ _ J,C,D,by simpa using E,?_⟩;rw[Array.toList_setIfInBounds,←F,List.take_set]
theorem zLh(ps:List Duo)(i:Nat)(p p':Duo)(hp:ps[i]? =some p)(h1:p'.nb=p.nb)(h2:p'.db=p.db):(ps.set i p').flatMap Duo.cells=(ps.flatMap Duo.cells).set (i*3+2) (.string p'.all):=by
 induction ps generalizing i with
 |nil=>simp at hp
 |cons x r ih=>
  cases i with
  |zero=>
   obtain rfl:x=p:=by simpa using hp
   simp only[List.set_cons_zero,List.flatMap_cons];have:p'.cells=x.cells.set 2 (.string p'.all):=by simp[Duo.cells,h1,h2]
   rw[this,List.set_append_left _ _ (by simp[Duo.cells])]
  |succ i=>
   simp only[List.set_cons_succ,List.flatMap_cons];rw[ih i (by simpa using hp),List.set_append_right _ _ (by simp[Duo.cells];omega)];have:(i+1)* 3+2 - x.cells.length=i*3+2:=by simp[Duo.cells];omega
   rw[this]
theorem zLi(ps:List Duo):(ps.flatMap Duo.cells).length=ps.length*3:=by
 induction ps with
 |nil=>rfl
 |cons x r ih=>rw[List.flatMap_cons,List.length_append,ih];simp[Duo.cells];omega
theorem zB3(ps:List Duo)(i:Nat)(p:Duo)(hp:ps[i]? =some p)(j:Nat)(hj:j<3):(ps.flatMap Duo.cells)[i*3+j]? =p.cells[j]? :=by
 induction ps generalizing i with
 |nil=>simp at hp
 |cons x r ih=>
  cases i with
  |zero=>
   obtain rfl:x=p:=by simpa using hp
   rw[List.flatMap_cons,List.getElem?_append_left (by simp[Duo.cells];omega)];simp
  |succ i=>
   rw[List.flatMap_cons,List.getElem?_append_right (by simp[Duo.cells];omega)];have:(i+1)* 3+j - x.cells.length=i*3+j:=by simp[Duo.cells];omega
   rw[this];exact ih i (by simpa using hp)
section
variable {tag:Nat→Tag} {ps:List Duo} {w0 w w1 w2:World} {n:Nat} {ws:List ByteArray} {left:Int}
theorem wu.applied(h:wu tag ps w0 w n ws left){i:Nat}{p:Duo}(hp:ps[i]? =some p){gd:Nat}(hc5:w.cell? (iA w0.heap.size 5)=some (sL gd ps.length cap)){e':bf}{g':Gh}{S':jk}{av':Value}{all':ByteArray}
 (hT1:Touch (fun k=>tag k=.code i∨w.heap.size≤k) w w1) (c1:dw (fun k=>tag k=.code i∨w.heap.size≤k) p.base w1 p.eb e'.hush g' S') (hdr:g'.dZ=p.g.dZ) (hH:Holds e' S' [] [])
 (hT2:Touch (fun k=>tag k=.doc i∨w1.heap.size≤k) w1 w2) (r2:dn (fun k=>tag k=.doc i∨w1.heap.size≤k) p.base2 w2 p.db e' p.dv av') (hG:Good e' all'.size):
 ∃tag' p',p'.all=all'∧wu tag' (ps.set i p') w0 (w2.setCell (iA gd (i*3+2)) (.string all')) n ws left:=by
 have J:=h.duos i p hp;obtain⟨v,Z,D,M⟩:=h.jH;obtain rfl:=Option.some.inj (hc5.symm.trans Z);have V:=M gd rfl;have y:=D.lt gd rfl;have s1:=hT1.size;have s2:=hT2.size;have X:=h.lt;have stay:∀k,k<w.heap.size→tag k≠.code i→tag k≠.doc i→w2.heap[k]? =w.heap[k]? :=fun k hk O h2=>
  (hT2.block k (by omega) (fun C=>C.elim h2 (fun C=>by omega))).trans (hT1.block k hk (fun C=>C.elim O (fun C=>by omega)))
 have F:∀k,k<w.heap.size→tag k=.own→w2.heap[k]? =w.heap[k]? :=fun k hk ho=>stay k hk (by rw[ho];exact fun e=>by cases e) (by rw[ho];exact fun e=>by cases e)
 have A:∀k,tag k≠.own→(w2.setCell (iA gd (i*3+2)) (.string all')).heap[k]? =w2.heap[k]? :=fun k ho=>Below.heap_setCell _ _ _ _ (fun e=>ho (by have e:k=gd:=e;rw[e];exact V))
 have B:∀k,k≠gd→(w2.setCell (iA gd (i*3+2)) (.string all')).heap[k]? =w2.heap[k]? :=fun k hk=>Below.heap_setCell _ _ _ _ hk
 have U:w0.heap.size≠gd:=by omega
 have f:=(B _ U).trans (F _ X (h.jG _ (Nat.le_refl _)));have C:∀j,(w2.setCell (iA gd (i*3+2)) (.string all')).cell? (iA w0.heap.size j)=w.cell? (iA w0.heap.size j):=fun j=>World.cell?_of_block (a:=(iA w0.heap.size j)) f
 have rows:∀{e:TypeId} {s:Nat} {v:Value} {m:Nat} {xs:List Value},w.ownsRow (w0.heap.size+1) e s v m xs→(∀q,v.ownBlock=some q→tag q=.own)→e≠60→(w2.setCell (iA gd (i*3+2)) (.string all')).ownsRow (w0.heap.size+1) e s v m xs:=fun ho hv he=>qz ho fun q hq=>(B q (fun e1=>wL ho D he q hq (by rw[e1];rfl))).trans (F q (ho.lt q hq).2 (hv q hq))
 have K:(w2.setCell (iA gd (i*3+2)) (.string all')).heap.size=w2.heap.size:=by simp
 refine⟨fun k=>if k<w.heap.size then tag k else if k<w1.heap.size then .code i else if k<w2.heap.size then .doc i else .own,{ p with all:=all',e:=e',g:=g',S:=S',av:=av' },rfl,?_⟩;have L:∀k,k<w.heap.size→(if k<w.heap.size then tag k else if k<w1.heap.size then Tag.code i else if k<w2.heap.size then .doc i else .own)=tag k:=fun k hk=>if_pos hk
 have G:∀{e:TypeId} {s:Nat} {v:Value} {m:Nat} {xs:List Value},w.ownsRow (w0.heap.size+1) e s v m xs→(∀q,v.ownBlock=some q→tag q=.own)→∀q,v.ownBlock=some q→(if q<w.heap.size then tag q else if q<w1.heap.size then Tag.code i else if q<w2.heap.size then .doc i else .own)=.own:=fun ho hv q hq=>(L q (ho.lt q hq).2).trans (hv q hq)
 refine⟨?_,by rw[f];exact h.blk,fun k hk=>(L k (by omega)).trans (h.jG k hk),fun k hk=>?_,by rw[C];exact h.c0,by rw[C];exact h.c1,by rw[C];exact h.c2,?_,?_,h.wK,?_,by rw[List.length_set];exact h.tN,?_,?_,by rw[C];exact h.mark,by rw[C];exact h.lft,h.sum⟩
 ·have z:=h.low.trans ⟨hT2.os.trans hT1.os,hT2.tape.trans hT1.tape,hT2.output.trans hT1.output,by omega,fun k hk=>F k (by omega) (h.jG k (by omega))⟩;exact z.setCell (p:=(iA gd (i*3+2))) (by show w0.heap.size≤gd;omega) _
 ·rw[K]at hk;show(if k<w.heap.size then _ else _)=_;rw[if_neg (by omega),if_neg (by omega),if_neg (by omega)]
 ·obtain⟨u,t,N,r2,I,c,d⟩:=h.gz;exact⟨u,t,(C 3).trans N,rows r2 I (by decide),G r2 I,c,d⟩
 ·obtain⟨u,N,r2,I⟩:=h.words;exact⟨u,(C 4).trans N,rows r2 I (by decide),G r2 I⟩
 ·refine⟨_,(C 5).trans hc5,?_,G D M⟩;have N:=qz D fun q hq=>F q (D.lt q hq).2 (M q hq)
  have l:i<ps.length:=(List.getElem?_eq_some_iff.1 hp).1;have I:=zLg N (i*3+2) (by rw[zLi];omega) (.string all');rw[List.length_set,zLh ps i p { p with all:=all',e:=e',g:=g',S:=S',av:=av' } hp rfl rfl];exact I
 ·intro j x T;by_cases e:j=i
  ·subst e;have l:j<ps.length:=(List.getElem?_eq_some_iff.1 hp).1;rw[List.getElem?_set_self l]at T;obtain rfl:=Option.some.inj T;have R:p.nb<w.heap.size:=(Array.getElem?_eq_some_iff.1 J.dsk).1;have Y:=stay p.nb R (by rw[J.tdsk];exact fun e=>by cases e) (by rw[J.tdsk];exact fun e=>by cases e);refine⟨?_,(L p.nb R).trans J.tdsk,c1.move (by rw[K];exact s2) (fun k hk hF=>?_) (fun k hk=>.inr hk),r2.move (fun q hq=>.inl (J.tdv q hq)) (by rw[K];exact Nat.le_refl _) (fun k hk hF=>?_) (fun k hk=>.inr hk),fun q hq=>(L q (J.doc.dr.lt q hq).2).trans (J.tdv q hq),hH,hG⟩
   ·show(w2.setCell _ _).heap[p.nb]? =some (.cells #[_,iP g'.dZ] _ _);rw[hdr,A p.nb (by rw[J.tdsk];exact fun e=>by cases e),Y];exact J.dsk
   ·by_cases H:k<w.heap.size
    ·have E:=hF.resolve_right (by omega);refine⟨(A k (by rw[E];exact fun e=>by cases e)).trans (hT2.block k hk (fun C=>C.elim (fun e=>by rw[E]at e;cases e) (fun e=>by omega))),.inl ((L k H).trans E)⟩
    refine⟨(B k (by omega)).trans (hT2.block k hk (fun C=>C.elim (fun e=>by rw[h.tup k (by omega)]at e;cases e) (fun e=>by omega))),.inl ?_⟩;show(if k<w.heap.size then _ else _)=_;rw[if_neg H,if_pos hk]
   by_cases H:k<w.heap.size
   ·have E:=hF.resolve_right (by omega);exact⟨A k (by rw[E];exact fun e=>by cases e),.inl ((L k H).trans E)⟩
   have E:=hF.resolve_left (fun e=>by rw[h.tup k (by omega)]at e;cases e);refine⟨B k (by omega),.inl ?_⟩;show(if k<w.heap.size then _ else _)=_;rw[if_neg H,if_neg (by omega),if_pos hk]
  rw[List.getElem?_set_ne (fun e1=>e e1.symm)]at T;refine(h.duos j x T).move (by rw[K];omega) fun k hk E=>⟨?_,L k hk⟩
  have O:tag k≠.own∧tag k≠.code i∧tag k≠.doc i:=by
   rcases E with E|E|E<;>rw[E]<;>refine⟨fun e1=>(by cases e1),fun e1=>?_,fun e1=>?_⟩
   ·cases e1;exact e rfl
   ·cases e1
   ·cases e1
   ·cases e1;exact e rfl
   ·cases e1
   cases e1
  exact(A k O.1).trans (stay k hk O.2.1 O.2.2)
 obtain⟨u,m,xs,N,r2,I,c,d⟩:=h.lists;refine⟨u,m,xs,(C 6).trans N,rows r2 I (by decide),G r2 I,c.move fun k a b hk E=>⟨?_,L k hk⟩,d⟩;exact(A k (by rw[E];exact fun e=>by cases e)).trans (stay k hk (by rw[E];exact fun e=>by cases e) (by rw[E];exact fun e=>by cases e))
end
end
section
open Go.Extern Go.RowKit
def OpK(w w':World):Prop:= ∀(k:Nat) (cur:Array Value),w.heap[k]? =some (.cells cur 29 (0,0))→w'.heap[k]? =some (.cells cur 29 (0,0))
theorem OpK.trans{a b c:World}(h:OpK a b)(k:OpK b c):OpK a c:=fun i cur hi=>k i cur (h i cur hi)
theorem OpK.below{a b:World}(h:Below a.heap.size a b):OpK a b:=fun i cur hi=>(h.block i (Array.getElem?_eq_some_iff.1 hi).1).trans hi
section
variable {tag:Nat→Tag} {ps:List Duo} {w0 w w':World} {n:Nat} {ws:List ByteArray} {left:Int}
theorem wu.keepB(h:wu tag ps w0 w n ws left)(t:ByteArray)(hn:n≤1000000000)(ht:t.size≤1000000000000)(hl1: -1000000000000≤left):
 Cl 42 #[iP w0.heap.size,.string t] w fun e w'=>e=rV #[]∧wu tag ps w0 w' (n+1) (ws++ [t]) (left - (t.size:Int))∧w.heap.size≤w'.heap.size∧OpK w w'∧w'.cell? (iA w0.heap.size 5)=w.cell? (iA w0.heap.size 5):=by
 obtain⟨v,Z,E,U⟩:=h.words;have N:=h.lt;refine(zBw _ _ v ws left t w Z h.lft h.dz E (Nat.lt_succ_self _) N (by have:=h.wK;omega) ht hl1 (by have:=h.sum;omega)).mono ?_;rintro e w' ⟨rfl,T,X,Y,H,D,A⟩;have R:∀q,v.ownBlock=some q→w0.heap.size+1≤q:=fun q O=>(E.lt q O).1
 have B:∀j,j≠4→j≠8→w'.cell? (iA w0.heap.size j)=w.cell? (iA w0.heap.size j):=A.cell;have C:∀k,k<w.heap.size→tag k≠.own→w'.heap[k]? =w.heap[k]? ∧tag k=tag k:=fun k C ho=>⟨A.block k C (fun e=>ho (h.jG k (by omega))) (fun e=>ho (U k e.symm)),rfl⟩
 refine⟨rfl,⟨?_,?_,h.jG,fun k C=>h.tup k (Nat.le_trans A.size C),?_,?_,?_,?_,⟨T,X,?_,?_⟩,?_,?_,Nat.le_succ_of_le h.tN,h.gM A.size C,?_,?_,Y,?_⟩,A.size,fun k G hb=>?_,B 5 (by omega) (by omega)⟩
 ·exact h.low.trans ⟨A.os,A.tape,A.output,A.size,fun k C=>A.block k (by omega) (by omega) (fun e=>by have:=R k e.symm;omega)⟩
 ·obtain⟨G,F⟩:=h.blk;exact A.own G _ _ F
 ·rw[B _ (by omega) (by omega)];exact h.c0
 ·rw[B _ (by omega) (by omega)];exact h.c1
 ·rw[B _ (by omega) (by omega)];exact h.c2
 ·obtain⟨u,V,I,J,K,S,b⟩:=h.gz;exact⟨u,V,by rw[B _ (by omega) (by omega)];exact I,kF J E (by decide) A.block,K,S,by omega⟩
 ·rw[List.length_append];exact H
 ·intro q O;rcases D q O with L|L
  ·exact U q L
  exact h.tup q L
 ·rw[List.length_append];have:=h.wK;simp;omega
 ·obtain⟨u,I,J,K⟩:=h.jH;exact⟨u,by rw[B _ (by omega) (by omega)];exact I,kF J E (by decide) A.block,K⟩
 ·obtain⟨u,k,d,I,J,K,S,b⟩:=h.lists;exact⟨u,k,d,by rw[B _ (by omega) (by omega)];exact I,kF J E (by decide) A.block,K,bT S C,by omega⟩
 ·rw[B _ (by omega) (by omega)];exact h.mark
 ·rw[lH];have:=h.sum;omega
 have M:k<w.heap.size:=(Array.getElem?_eq_some_iff.1 hb).1;rw[A.block k M (fun e=>?_) (fun e=>?_)]
 ·exact hb
 ·obtain⟨c,F⟩:=h.blk;rw[e]at hb;exact absurd (xu F hb) (by decide)
 obtain⟨c,F⟩:=cB E e.symm;exact absurd (xu F hb) (by decide)
end
end
end Go.Proofs.YtehmdohpmpbnnaaGreatDoor
