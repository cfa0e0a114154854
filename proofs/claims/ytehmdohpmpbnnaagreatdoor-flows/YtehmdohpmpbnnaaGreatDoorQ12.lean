import Derived.Test.YtehmdohpmpbnnaaGreatDoorQ00
import Derived.Test.YtehmdohpmpbnnaaGreatDoorQ02
import Derived.Test.YtehmdohpmpbnnaaGreatDoorQ05
import Derived.Deep.AppendLies
import Derived.Laws.OwnMore
import Derived.Deep.QuietTactic
import Derived.BigQuiet
set_option linter.all false
set_option maxRecDepth 100000
set_option maxHeartbeats 8000000
namespace Go.Proofs.YtehmdohpmpbnnaaGreatDoor
variable{w a w':World}{F:Nat→Prop}{e:bf}{b base g k:Nat}{dv av:Value}{side:Int}
open Go.Proofs.Tryz
open Go.Extern Go.RowKit
def dU(ws:List ByteArray)(k:Int):ByteArray:=ws.getD (ws.length - 1 - (aC k ws.length).toNat) ⟨#[]⟩
theorem gK(k:Int)(n:Nat)(h:0<n):(aC k n).toNat<n:=by have:=fT k n (by omega);omega
theorem zF1(B base:Nat)(wv:Value)(ws:List ByteArray)(k:Int)(w:World)(hc:w.cell? (iA B 4)=some wv)(hown:w.ownsRow base 9 1 wv ws.length (ws.map Value.string))(hl:ws.length≤1000000000)
 (h1: -9223372036854775808≤k) (h2:k≤9223372036854775807):
 Cl 35 #[iP B,iV k] w fun e w'=>e=.returned (.string (dU ws k))∧∃m,w'=w.drewN m:=by
 by_cases T:ws.length=0
 ·have S:ws= []:=List.length_eq_zero_iff.1 T;subst S;rcases hown.2 with⟨rfl,-⟩|⟨g,I,J,rfl,L,U,M,N,D,E⟩;all_goals
   try clear U E D
   go_enter func35,ntmps35;go_wp2;go_ret;exact⟨rfl,0,rfl⟩
 have V:=gK k ws.length (by omega);have O:=fT k ws.length (by omega);have C:ws.length - 1 - (aC k ws.length).toNat<ws.length:=by omega
 have K:=fun g L=>World.ownsRow.cells hown (g:=g) L (ws.length - 1 - (aC k ws.length).toNat) (.string (dU ws k)) (by
  rw[List.getElem?_map,List.getElem?_eq_getElem C];unfold dU;rw[List.getD_eq_getElem?_getD,List.getElem?_eq_getElem C];rfl)
 rcases hown.2 with⟨rfl,d⟩|⟨g,I,J,rfl,L,U,M,N,D,E⟩
 ·exact absurd d T
 have A:=K g rfl;rw[Addr.add_lit]at A;generalize hW:dU ws k=t at *;have h:=hid hW;generalize hN:ws.length=n at *;have R:=fun W=>eH k (n:Int) W h1 h2 (by omega) (by omega)
 have G:=hid R;obtain⟨q,X⟩:∃q:Nat,aC k n=q:=⟨(aC k n).toNat,by omega⟩;rw[X]at V O A C;have H:Hd (∀W,Cl 23 #[iV k,iV (n:Int)] W fun e w'=>e=.returned (iV (q:Int))∧w'=W):=fun W=>by rw[←X];exact G W
 simp only[Int.toNat_natCast]at V A C;have f:=beq_eq_false_iff_ne.2 (by omega);obtain⟨j,b⟩:∃j,n - 1 - q=j:=⟨_,rfl⟩;rw[b]at A;have F:w.cell? (iA g j)=some (.string t):=by simpa using A
 have Y:IntKind.i64.wrap ((n:Int) - 1)=(n:Int) - 1:=by simp only[IntKind.wrap,IntKind.bits,IntKind.signed];simp;omega
 have Z:IntKind.i64.wrap ((n:Int) - 1 - (q:Int))=(j:Int):=by simp only[IntKind.wrap,IntKind.bits,IntKind.signed];simp;omega
 have c:(j:Int)<(n:Int):=by omega
 go_enter func35,ntmps35;go_wp2_with fail;go_quiet ((go_at_call 23;exact Calls.quiet_of_same (H _)));go_wp2;go_ret;exact⟨rfl,_,rfl⟩
theorem qh{P:Program}{t:TypeId}{z:Value}{s:Nat}(h:(P.info? t).map (fun i=>(i.size,i.bytes))=some (s,b))(hz:(P.info? t).map (fun i=>i.zero)=some (some z)):∃i,P.info? t=some i∧i.zero=some z∧i.size=s∧i.bytes=b:=by
 obtain⟨i,A,e⟩:=Option.map_eq_some_iff.1 h;rw[A]at hz;simp at e hz;exact⟨i,A,hz,e.1,e.2⟩
theorem Tryz.infoStr:(prog.info? 9).map (fun i=>(i.size,i.bytes))=some (1,16):=by kernel_rfl
theorem Tryz.zeroStr:(prog.info? 9).map (fun i=>i.zero)=some (some (.string ⟨#[]⟩)):=by kernel_rfl
theorem ja(w:World)(b o:Nat)(u:Value)(cur:Array Value)(ty:TypeId)(fr:Nat×Nat)(h:w.heap[b]? =some (.cells cur ty fr)):(w.setCell (iA b o) u).heap[b]? =some (.cells (cur.setIfInBounds o u) ty fr):=by
 simp[World.setCell,Array.getElem?_modify,h]
structure Kept(B:Nat)(wv:Value)(w w':World):Prop where
 os:w'.os=w.os
 tape:w'.tape=w.tape
 output:w'.output=w.output
 size:w.heap.size≤w'.heap.size
 cell:∀j,j≠4→j≠8→w'.cell? (iA B j)=w.cell? (iA B j)
 dz:∀j,w'.frozen? (iA B j)=w.frozen? (iA B j)
 block:∀b,b<w.heap.size→b≠B→some b≠wv.ownBlock→w'.heap[b]? =w.heap[b]?
 own:∀cur ty fr,w.heap[B]? =some (.cells cur ty fr)→∃cur',w'.heap[B]? =some (.cells cur' ty fr)
theorem zBw(B base:Nat)(wv:Value)(ws:List ByteArray)(left:Int)(t:ByteArray)(w:World)(h4:w.cell? (iA B 4)=some wv)(h8:w.cell? (iA B 8)=sI left)(hf:∀j,w.frozen? (iA B j)=false)
 (hown:w.ownsRow base 9 1 wv ws.length (ws.map Value.string)) (hB:B<base) (hbs:base≤w.heap.size) (hl:ws.length≤1000000000) (ht:t.size≤1000000000000) (hl1: -1000000000000≤left) (hl2:left≤1000000000000):
 Cl 42 #[iP B,.string t] w fun e w'=>e=rV #[]∧∃wv',w'.cell? (iA B 4)=some wv'∧w'.cell? (iA B 8)=sI (left - (t.size:Int))∧
  w'.ownsRow base 9 1 wv' (ws.length+1) ((ws++ [t]).map Value.string)∧(∀q,wv'.ownBlock=some q→wv.ownBlock=some q∨w.heap.size≤q)∧Kept B wv w w':=by
 obtain⟨i0,hi,n,p,s⟩:=qh Tryz.infoStr Tryz.zeroStr;have A0:=hf 8;have l:=hf 4;have HF:Hd (∀j,w.frozen? (iA B j)=false):=hf;have J:=ownsRow_setCell_below hown (a:=(iA B 8)) hB (iV (left - (t.size:Int)));have f:(w.setCell (iA B 8) (iV (left - (t.size:Int)))).cell? (iA B 4)=some wv:=by
  rw[World.cell?_setCell_other _ _ _ _ (by intro e;injection e with c d;omega)];exact h4
 go_enter func42,ntmps42;go_wp2_with(at_builtin;refine wpList_append_lies _ rfl _ _ 33 rfl base 9 i0 (.string ⟨#[]⟩) 1 16 underlying33 hi n p s rfl (by decide) _ _ _ rfl (J.alloc _) (iA w.heap.size 0) 1 1 [.string t] rfl rfl ?c1 ?c2 (by decide) ?c3 ?c4 ?c5 (w.heap.size+1) ?c6 ?_)
 case c1=>
  intro j u S
  match j,S with
  |0,S=>
   simp at S;subst S;rw[show((iA w.heap.size 0):Addr).add 0=(iA w.heap.size 0) from rfl,World.cell?_alloc_at _ _ _ _ (by simp[World.setCell])];rfl
 case c2=>intro u v;simp at v;subst v;rfl
 case c3=>unfold maxLen;omega
 case c4=>omega
 case c5=>simp;omega
 case c6=>simp
 intro R M D K A k _;have T:Hd (wv.ownBlock=some R∨R=w.heap.size+1):=k;have O:∀q,wv.ownBlock=some q→base≤q:=fun q hq=>(hown.lt q hq).1
 have g:some B≠wv.ownBlock:=fun e=>by have:=O B e.symm;omega
 have I:B<w.heap.size:=by omega
 have C:(w.setCell (iA B 8) (iV (left - (t.size:Int)))).heap.size=w.heap.size:=by simp[World.setCell]
 have i:∀j,((w.setCell (iA B 8) (iV (left - (t.size:Int)))).alloc (.cells #[.string t] 9)).cell? (iA B j)=(w.setCell (iA B 8) (iV (left - (t.size:Int)))).cell? (iA B j):=fun j=>World.cell?_alloc_lt _ _ _ (by rw[C];exact I)
 have E:D.heap[B]? =((w.setCell (iA B 8) (iV (left - (t.size:Int)))).alloc (.cells #[.string t] 9)).heap[B]? :=A.block B (by simp;omega) g;have H:∀j,D.cell? (iA B j)=(w.setCell (iA B 8) (iV (left - (t.size:Int)))).cell? (iA B j):=fun j=>(World.cell?_of_block (a:=(iA B j)) E).trans (i j)
 have N:∀j,D.frozen? (iA B j)=w.frozen? (iA B j):=fun j=>(World.frozen?_of_block (a:=(iA B j)) E).trans (by
  rw[World.frozen?_alloc_old _ _ _ (by rw[C];exact Nat.ne_of_lt I),World.frozen?_setCell])
 have m:=(H 4).trans f;have A1:=(N 4).trans l;have V:Hd (cI D B 8 (left - (t.size:Int))):=(H 8).trans (World.cell?_setCell_same _ _ _ h8);have X:Hd (∀j,j≠4→j≠8→D.cell? (iA B j)=w.cell? (iA B j)):=fun j _ h=>(H j).trans (World.cell?_setCell_other _ _ _ _ (by intro e;injection e with c d;omega))
 have Y:Hd (∀j,D.frozen? (iA B j)=w.frozen? (iA B j)):=N;have y:Hd (∀x,(D.setCell (iA B 4) x).ownsRow base 9 1 (sL R (ws.length+1) M) (ws.length+1) ((ws++ [t]).map Value.string)):=fun x=>by
  rw[List.map_append];exact ownsRow_setCell_below K (a:=(iA B 4)) hB x
 have U:Hd (∀b,b<w.heap.size→b≠B→some b≠wv.ownBlock→D.heap[b]? =w.heap[b]?):=fun b h1 h2 h3=>by
  rw[A.block b (by simp;omega) h3,Below.heap_alloc _ _ _ (by rw[C];exact h1)];exact Below.heap_setCell _ _ _ _ h2
 have Z:Hd (w.heap.size≤D.heap.size):=by
  have h:=A.size;rw[show((w.setCell (iA B 8) (iV (left - (t.size:Int)))).alloc (.cells #[.string t] 9)).heap.size=w.heap.size+1 by simp]at h;show w.heap.size≤D.heap.size;omega
 have L:Hd (∀cur ty fr,w.heap[B]? =some (.cells cur ty fr)→∃F,D.heap[B]? =some (.cells F ty fr)):=fun cur ty fr h=>⟨_,by
  rw[E,Below.heap_alloc _ _ _ (by rw[C];exact I)];exact ja _ _ _ _ _ _ _ h⟩
 have G:Hd (D.os=w.os∧D.tape=w.tape∧D.output=w.output):=⟨A.os,A.tape,A.output⟩;go_wp2;go_end0;refine⟨rfl,_,World.cell?_setCell_same _ _ _ m,?_,y.o _,(fun q hq=>by
  have:R=q:=by simpa [Value.ownBlock] using hq
  subst this;rcases T.o with h|h
  ·exact .inl h
  exact .inr (by omega)),⟨G.1,G.2.1,G.2.2,?_,fun j h1 h2=>?_,fun j=>?_,fun b h1 h2 h3=>?_,fun cur ty fr h=>?_⟩⟩
 ·rw[World.cell?_setCell_other _ _ _ _ (by intro e;injection e with c d;omega)];exact V.o
 ·have:=Z.o;simpa [World.setCell] using this
 ·rw[World.cell?_setCell_other _ _ _ _ (by intro e;injection e with c d;omega)];exact X.o j h1 h2
 ·rw[World.frozen?_setCell];exact Y.o j
 ·exact(Below.heap_setCell _ _ _ _ h2).trans (U.o b h1 h2 h3)
 obtain⟨F,z⟩:=L.o cur ty fr h;exact⟨_,ja _ _ _ _ _ _ _ z⟩
structure Touch(F:Nat→Prop)(w w':World):Prop where
 os:w'.os=w.os
 tape:w'.tape=w.tape
 output:w'.output=w.output
 size:w.heap.size≤w'.heap.size
 block:∀k,k<w.heap.size→¬F k→w'.heap[k]? =w.heap[k]?
theorem Touch.refl(F:Nat→Prop)(w:World):Touch F w w:=⟨rfl,rfl,rfl,Nat.le_refl _,fun _ _ _=>rfl⟩
theorem Touch.trans{b c:World}(h:Touch F a b)(k:Touch F b c):Touch F a c:=
 ⟨k.os.trans h.os,k.tape.trans h.tape,k.output.trans h.output,Nat.le_trans h.size k.size,fun i hi hf=>(k.block i (Nat.lt_of_lt_of_le hi h.size) hf).trans (h.block i hi hf)⟩
theorem Touch.drew(h:Touch F a w):Touch F a w.drew:=⟨h.os,h.tape,h.output,h.size,h.block⟩
theorem Touch.drewN(h:Touch F a w)(n:Nat):Touch F a (w.drewN n):=⟨h.os,h.tape,h.output,h.size,h.block⟩
theorem Touch.set(h:Touch F a w)(b o:Nat)(u:Value)(hb:F b):Touch F a (w.setCell (iA b o) u):=
 ⟨h.os,h.tape,h.output,by simpa using h.size,fun k hk hf=>(Below.heap_setCell w (iA b o) u k (fun e=>hf (e▸hb))).trans (h.block k hk hf)⟩
theorem Touch.alloc(h:Touch F a w)(o:Obj):Touch F a (w.alloc o):=
 ⟨h.os,h.tape,h.output,Nat.le_trans h.size (by simp),fun k hk hf=>(Below.heap_alloc w o k (Nat.lt_of_lt_of_le hk h.size)).trans (h.block k hk hf)⟩
theorem Touch.below(h:Touch F a w)(hb:Below w.heap.size w w'):Touch F a w':=
 ⟨hb.os.trans h.os,hb.tape.trans h.tape,hb.output.trans h.output,Nat.le_trans h.size hb.size,fun k hk hf=>(hb.block k (Nat.lt_of_lt_of_le hk h.size)).trans (h.block k hk hf)⟩
theorem Touch.grown{row:Option Nat}(h:Touch F a w)(hg:w.grownBy w' row)(hr:∀k,row=some k→F k):Touch F a w':=
 ⟨hg.os.trans h.os,hg.tape.trans h.tape,hg.output.trans h.output,Nat.le_trans h.size hg.size,fun k hk hf=>(hg.block k (Nat.lt_of_lt_of_le hk h.size) (fun e=>hf (hr k e.symm))).trans (h.block k hk hf)⟩
def Ord.cells(o:Ord):List Int:=[o.id,o.side,o.typ,o.mg,o.jw,o.off,o.jr,o.time,o.dm,o.bn,o.opn,o.bu,o.cancelled,o.bg,o.dh]
def rows(l:List Ord):List Value:=l.flatMap fun o=>o.cells.map (iV)
theorem zBx:∀l:List Ord,(rows l).length=15*l.length
 | []=>rfl
 |o::r=>by
  have ih:=zBx r;have e1:rows (o::r)=o.cells.map (iV)++rows r:=rfl;rw[e1,List.length_append,ih,List.length_map,List.length_cons];have:o.cells.length=15:=rfl;omega
theorem zF2(l:List Ord)(o:Ord):rows (l++ [o])=rows l++o.cells.map (iV):=by simp[rows]
theorem zAa:∀(l:List Ord) (i j:Nat) (o:Ord) (x:Int),l[i]? =some o→o.cells[j]? =some x→(rows l)[15*i+j]? =sI x
 | [],i,j,o,x,h,_=>by simp at h
 |y::r,0,j,o,x,h,hx=>by
  simp at h;subst h;have hj:j<15:=by have:=(List.getElem?_eq_some_iff.1 hx).1;simpa [Ord.cells] using this
  simp only[rows,List.flatMap_cons,Nat.mul_zero,Nat.zero_add];rw[List.getElem?_append_left (by simpa [Ord.cells] using hj),List.getElem?_map,hx];rfl
 |y::r,i+1,j,o,x,h,hx=>by
  have A:=zAa r i j o x (by simpa using h) hx;simp only[rows,List.flatMap_cons]at A⊢;rw[List.getElem?_append_right (by simp[Ord.cells];omega)];have:15*(i+1)+j - (List.map (iV) y.cells).length=15*i+j:=by simp[Ord.cells];omega
  rw[this];exact A
theorem zBy:∀(l:List Ord) (i j:Nat) (f:Ord→Ord) (x:Int),(∀o,l[i]? =some o→(f o).cells=o.cells.set j x)→j<15→i<l.length→(rows l).set (15*i+j) (iV x)=rows (l.modify i f)
 | [],i,j,f,x,_,_,h=>absurd h (Nat.not_lt_zero _)
 |y::r,0,j,f,x,h,hj,_=>by
  have:=h y rfl;simp only[rows,List.flatMap_cons,Nat.mul_zero,Nat.zero_add,List.modify_zero_cons,this,List.map_set];rw[List.set_append_left _ _ (by simpa [Ord.cells] using hj)]
 |y::r,i+1,j,f,x,h,hj,hi=>by
  have ih:=zBy r i j f x (fun o ho=>h o (by simpa using ho)) hj (by simpa using hi);simp only[rows,List.flatMap_cons,List.modify_succ_cons]at ih⊢;rw[List.set_append_right _ _ (by simp[Ord.cells];omega)];have:15*(i+1)+j - (List.map (iV) y.cells).length=15*i+j:=by simp[Ord.cells];omega
  rw[this,ih]
def jC(e:bf)(dv av:Value):Array Value:=#[iV e.mo,iV e.mp,iV e.mq,dv,iV (e.drawn:Int),av,.string ⟨e.rest.toArray⟩,iV e.now,iV (e.seq:Int),iV (e.dh:Int),.string ⟨e.out.toArray⟩,iV e.worth,iV e.gq]
structure dn(F:Nat→Prop)(base:Nat)(w:World)(b:Nat)(e:bf)(dv av:Value):Prop where
 blk:w.heap[b]? =some (.cells (jC e dv av) 118 (0,0))
 own:F b
 up:∀k,w.heap.size≤k→F k
 low:base≤w.heap.size
 dr:w.ownsRow base 3 1 dv e.gz.length (e.gz.map (iV))
 al:w.ownsRow base 155 15 av e.all.length (rows e.all)
 alF:∀q,av.ownBlock=some q→F q
theorem sM{B:Nat}{t:TypeId}{s:Nat}{v:Value}{n:Nat}{xs:List Value}(h:w.ownsRow B t s v n xs)(hk:∀k,k<w.heap.size→w'.heap[k]? =w.heap[k]?):w'.ownsRow B t s v n xs:=by
 refine⟨h.1,?_⟩;rcases h.2 with E|⟨g,A,C,H,G,D,r⟩
 ·exact .inl E
 exact .inr ⟨g,A,C,H,G,by rw[hk g (Array.getElem?_eq_some_iff.1 D).1];exact D,r⟩
namespace dn
variable {F:Nat→Prop} {base:Nat} {w w':World} {b:Nat} {e:bf} {dv av:Value}
theorem lt(h:dn F base w b e dv av):b<w.heap.size:=(Array.getElem?_eq_some_iff.1 h.blk).1
theorem cell(h:dn F base w b e dv av)(j:Nat):w.cell? (iA b j)=(jC e dv av)[j]? :=by simp[World.cell?,h.blk]
theorem dz(h:dn F base w b e dv av)(j:Nat):w.frozen? (iA b j)=false:=by simp[World.frozen?,h.blk]
theorem keep(h:dn F base w b e dv av)(hs:w.heap.size≤w'.heap.size)(hk:∀k,k<w.heap.size→w'.heap[k]? =w.heap[k]?):dn F base w' b e dv av:=
 ⟨(hk b h.lt).trans h.blk,h.own,fun k hk'=>h.up k (Nat.le_trans hs hk'),Nat.le_trans h.low hs,sM h.dr hk,sM h.al hk,h.alF⟩
theorem below(h:dn F base w b e dv av)(hb:Below w.heap.size w w'):dn F base w' b e dv av:=h.keep hb.size hb.block
theorem alloc(h:dn F base w b e dv av)(o:Obj):dn F base (w.alloc o) b e dv av:=h.keep (by simp) (fun k hk=>Below.heap_alloc w o k hk)
theorem drew(h:dn F base w b e dv av):dn F base w.drew b e dv av:=⟨h.blk,h.own,h.up,h.low,h.dr,h.al,h.alF⟩
theorem drewN(h:dn F base w b e dv av)(n:Nat):dn F base (w.drewN n) b e dv av:=⟨h.blk,h.own,h.up,h.low,h.dr,h.al,h.alF⟩
theorem set(h:dn F base w b e dv av)(j:Nat)(u:Value)(e':bf)(hc:(jC e dv av).setIfInBounds j u=jC e' dv av)(hd:e'.gz=e.gz)(ha:e'.all=e.all):dn F base (w.setCell (iA b j) u) b e' dv av:=by
 have I:=ja w b j u _ _ _ h.blk;have G:∀{t:TypeId} {s:Nat} {v:Value} {n:Nat} {xs:List Value},t≠118→w.ownsRow base t s v n xs→(w.setCell (iA b j) u).ownsRow base t s v n xs:=by
  intro t s v n xs K E;refine⟨E.1,?_⟩;rcases E.2 with H|⟨g,B,C,L,J,A,r⟩
  ·exact .inl H
  refine .inr ⟨g,B,C,L,J,?_,r⟩;rw[Below.heap_setCell _ _ _ _ (fun D=>?_)]
  ·exact A
  have D:g=b:=D;rw[D,h.blk]at A;injection A with A;injection A with _ A _;exact K A.symm
 exact⟨by rw[I,hc],h.own,fun k hk=>h.up k (by simpa using hk),by simpa using h.low,hd▸G (by decide) h.dr,ha▸G (by decide) h.al,h.alF⟩
end dn
abbrev lz(a b c d e f g:Int):Array Value:=#[iV a,iV b,iV c,iV d,iV e,iV f,iV g]
def xx(x:Int):Prop:=0≤x∧x≤9223372036854775807
theorem zF3(g:Nat)(w:World)(k s i o p q r:Int)(hb:w.heap[g]? =some (.cells (lz k s i o p q r) 143 (0,0)))(h1:xx k)(h2:xx s)(h3:xx i)(h4:xx o)(h5:xx p)(h6:xx q)(h7:xx r):
 Cl 148 #[iP g] w fun e w'=>e=.returned (.string ⟨(bf.wN k s i o p q r).toArray⟩)∧Below w.heap.size w w':=by
 have S:g<w.heap.size:=(Array.getElem?_eq_some_iff.1 hb).1;have B:Hd (∀W:World,Bw w W→∀j,W.cell? (iA g j)=(lz k s i o p q r)[j]?):=fun W hW j=>by simp[World.cell?,hW.block g S,hb]
 have A:Hd (Bw w w):=Below.refl _ _;go_enter func148,ntmps148;have c0:cI w g 0 k:=B w A 0;go_wp2_with fail;refine(za k 1 w (by omega) h1.1 h1.2).mono ?_;rintro e C ⟨rfl,I⟩;replace A:Hd (Bw w C):=A.trans (I.mono A.size);have c1:cI C g 1 s:=B C A 1;go_wp2_with fail;refine(za s 4 C (by omega) h2.1 h2.2).mono ?_;rintro e D ⟨rfl,J⟩;replace A:Hd (Bw w D):=A.trans (J.mono A.size);have c2:cI D g 2 i:=B D A 2;go_wp2_with fail;refine(za i 4 D (by omega) h3.1 h3.2).mono ?_;rintro e E ⟨rfl,K⟩;replace A:Hd (Bw w E):=A.trans (K.mono A.size);have U:cI E g 3 o:=B E A 3;go_wp2_with fail;refine(za o 4 E (by omega) h4.1 h4.2).mono ?_;rintro e F ⟨rfl,L⟩;replace A:Hd (Bw w F):=A.trans (L.mono A.size);have V:cI F g 4 p:=B F A 4;go_wp2_with fail;refine(za p 4 F (by omega) h5.1 h5.2).mono ?_;rintro e G ⟨rfl,M⟩;replace A:Hd (Bw w G):=A.trans (M.mono A.size);have X:cI G g 5 q:=B G A 5;go_wp2_with fail
 refine(za q 4 G (by omega) h6.1 h6.2).mono ?_;rintro e H ⟨rfl,N⟩;replace A:Hd (Bw w H):=A.trans (N.mono A.size);have Y:cI H g 6 r:=B H A 6;go_wp2_with fail;refine(za r 1 H (by omega) h7.1 h7.2).mono ?_;rintro e T ⟨rfl,O⟩;replace A:Hd (Bw w T):=A.trans (O.mono A.size);have R:=zl;go_wp2;go_ret;refine⟨?_,A⟩;simp only[aZ,bf.wN];rfl
theorem zP4(l m:List UInt8):(⟨l.toArray⟩:ByteArray)++ ⟨m.toArray⟩=⟨(l++m).toArray⟩:=aZ l m
theorem qV(h:dn F base w b e dv av)(k s i o p q r:Int)(hs:e.seq<4611686018427387904)(ho:e.out.length≤70368744177664)(h1:xx k)(h3:xx i)(h4:xx o)(h5:xx p)(h6:xx q)(h7:xx r):
 Cl 106 #[iP b,.agg (lz k s i o p q r)] w fun en w'=>en=rV #[]∧dn F base w' b (e.tell k i o p q r) dv av∧Touch F w w':=by
 have I:Hd (dn F base w b e dv av):=h;have R:=h.lt;have N:Hd (xx ((e.seq+1:Nat):Int)):=⟨by omega,by omega⟩;have S:cI w b 8 (e.seq:Int):=h.cell 8;have T:=h.dz 8;have C:Hd (dn F base (w.setCell (iA b 8) (iV ((e.seq:Int)+1))) b { e with seq:=e.seq+1 } dv av):=h.set 8 _ _ rfl rfl rfl;have K:(w.setCell (iA b 8) (iV ((e.seq:Int)+1))).cell? (iA b 8)=sI ((e.seq:Int)+1):=C.cell 8;go_enter func106,ntmps106;go_wp2_with fail;have A:Hd (dn F base ((w.setCell (iA b 8) (iV ((e.seq:Int)+1))).alloc (.cells (lz k ((e.seq:Int)+1) i o p q r) 143)) b { e with seq:=e.seq+1 } dv av):=C.alloc _;have B:Hd (Touch F w ((w.setCell (iA b 8) (iV ((e.seq:Int)+1))).alloc (.cells (lz k ((e.seq:Int)+1) i o p q r) 143))):=((Touch.refl F w).set b 8 _ I.own).alloc _
 have G:Hd (((w.setCell (iA b 8) (iV ((e.seq:Int)+1))).alloc (.cells (lz k ((e.seq:Int)+1) i o p q r) 143)).heap[w.heap.size]? =some (.cells (lz k ((e.seq:Int)+1) i o p q r) 143 (0,0))):=by
  show _=_;have:=heap_alloc_new (w.setCell (iA b 8) (iV ((e.seq:Int)+1))) (.cells (lz k ((e.seq:Int)+1) i o p q r) 143);simpa using this
 generalize ((w.setCell (iA b 8) (iV ((e.seq:Int)+1))).alloc (.cells (lz k ((e.seq:Int)+1) i o p q r) 143))=W2 at *;refine(zF3 w.heap.size W2 k ((e.seq:Int)+1) i o p q r G h1 (by have:=N.out;simpa using this) h3 h4 h5 h6 h7).mono ?_;rintro en E ⟨rfl,D⟩;replace A:Hd (dn F base E b { e with seq:=e.seq+1 } dv av):=A.below D;replace B:Hd (Touch F w E):=B.below D;have J:E.cell? (iA b 10)=some (.string ⟨e.out.toArray⟩):=A.cell 10;have M:=A.dz 10;have O:=bf.gX k ((e.seq:Int)+1) i o p q r;generalize hq:bf.wN k ((e.seq:Int)+1) i o p q r=rb at *;have H:Hd (bf.wN k ((e.seq:Int)+1) i o p q r=rb):=hq;go_wp2;go_end0;refine⟨rfl,?_,B.set b 10 _ A.own⟩;refine A.set 10 _ _ ?_ rfl rfl;have L:(e.tell k i o p q r).out=e.out++rb:=by
  show e.out++bf.wN k ((e.seq+1:Nat):Int) i o p q r=_;rw[←H.o];rfl
 rw[aZ];simp only[jC,L];rfl
structure eD(w:World)(g:Nat)(l:List Ord):Prop where
 cell:∀(i j:Nat) (o:Ord) (x:Int),l[i]? =some o→o.cells[j]? =some x→w.cell? (iA g (i*15+j))=sI x
 dz:∀j,w.frozen? (iA g j)=false
theorem eD.cell0{l:List Ord}(h:eD w g l)(i:Nat)(o:Ord)(ho:l[i]? =some o):w.cell? (iA g (i*15))=sI o.id:=h.cell i 0 o o.id ho rfl
theorem eD.drew{l:List Ord}(h:eD w g l):eD w.drew g l:=⟨h.cell,h.dz⟩
theorem dn.shape(h:dn F base w b e dv av):(av=.slice none 0 0∧e.all= [])∨∃g cap,av=sL g e.all.length cap∧F g∧eD w g e.all∧g≠b∧g<w.heap.size:=by
 rcases h.al.2 with⟨E,G⟩|⟨g,cap,D,C,I,B,H⟩
 ·exact .inl ⟨E,List.length_eq_zero_iff.1 G⟩
 right;have A:=h.al;rw[C]at A;refine⟨g,cap,C,h.alF g (by rw[C];rfl),⟨fun i j o x ho hx=>?_,fun j=>A.frozenAt j⟩,fun e1=>?_,(Array.getElem?_eq_some_iff.1 B).1⟩
 ·have J:i<e.all.length:=(List.getElem?_eq_some_iff.1 ho).1;have K:j<15:=by have:=(List.getElem?_eq_some_iff.1 hx).1;simpa [Ord.cells] using this
  rw[A.cellAt (i*15+j) (by omega),Nat.mul_comm i 15];exact zAa e.all i j o x ho hx
 rw[e1,h.blk]at B;injection B with B;injection B with _ B _;exact absurd B (by decide)
def lN:Option Nat→Int
 |some i=>(i:Int)
 |none=> -1
namespace bf
theorem find_at{id:Int}{o:Ord}(h1:∀(j:Nat) (x:Ord),j<k→e.all[j]? =some x→x.id≠id)(h2:e.all[k]? =some o)(h3:o.id=id):e.find id=some k:=by
 unfold find;rw[List.findIdx?_eq_some_iff_getElem];have A:=(List.getElem?_eq_some_iff.1 h2).1;refine⟨A,?_,fun j hj=>?_⟩
 ·have:e.all[k]=o:=(List.getElem?_eq_some_iff.1 h2).2;simp[this,h3]
 have:=h1 j e.all[j] hj (List.getElem?_eq_getElem (by omega));simpa using this
theorem find_no{id:Int}(h1:∀(j:Nat) (x:Ord),j<e.all.length→e.all[j]? =some x→x.id≠id):e.find id=none:=by
 unfold find;rw[List.findIdx?_eq_none_iff];intro x B;obtain⟨j,A⟩:=List.getElem?_of_mem B;have:=h1 j x (List.getElem?_eq_some_iff.1 A).1 A;simpa using this
def mD(e:bf)(n:Nat):Nat:=(e.all.take n).countP (fun o=>o.dm == 1)
theorem aliveTo_le(e:bf)(n:Nat):e.mD n≤n:=Nat.le_trans List.countP_le_length (by rw[List.length_take];exact Nat.min_le_left _ _)
theorem aliveTo_succ(e:bf)(n:Nat)(o:Ord)(h:e.all[n]? =some o):e.mD (n+1)=e.mD n+(if o.dm == 1 then 1 else 0):=by
 unfold mD;rw[List.take_add_one,h,List.countP_append];simp[List.countP_cons]
theorem aliveTo_all(e:bf):e.mD e.all.length=e.alive:=by unfold mD alive;rw[List.take_length]
end bf
theorem qX(h:dn F base w b e dv av)(id:Int)(hm:e.all.length≤1000000000):
 Cl 108 #[iP b,iV id] w fun en w'=>en=.returned (iV (lN (e.find id)))∧w'=w:=by
 have Z:w.cell? (iA b 5)=some av:=h.cell 5;rcases h.shape with⟨rfl,T⟩|⟨g,S,rfl,c,L,U,V⟩
 ·have M:e.find id=none:=bf.find_no (fun j x hj=>by rw[T]at hj;exact absurd hj (Nat.not_lt_zero _));rw[M];clear h M;go_enter func108,ntmps108;go_wp2;go_loopw [5] (fun i wr=>i=iV 0∧wr=w) (fun _ _=>0)
  case atStart=>exact⟨rfl,rfl⟩
  case round=>
   obtain⟨rfl,rfl⟩:=hrel;go_wp2;go_ret;exact⟨rfl,rfl⟩
 have R:Hd (eD w g e.all):=L;clear h L;have O:Hd (∀k,k<e.all.length→∃o,e.all[k]? =some o):=fun k N=>⟨_,List.getElem?_eq_getElem N⟩
 generalize hn:e.all.length=n at *;go_enter func108,ntmps108;go_wp2;go_loopw [5] (fun i wr=> ∃k:Nat,i=iV k∧k≤n∧(∀(j:Nat) (x:Ord),j<k→e.all[j]? =some x→x.id≠id)∧wr=w) (fun i _=>n - (intOf i).toNat)
 case atStart=>exact⟨0,rfl,Nat.zero_le _,fun j x hj=>absurd hj (Nat.not_lt_zero _),rfl⟩
 case round=>
  obtain⟨k,rfl,N,G,rfl⟩:=hrel;have C:Hd (∀(j:Nat) (x:Ord),j<k→e.all[j]? =some x→x.id≠id):=G;clear G;by_cases I:k<n
  ·have X:(k:Int)<(n:Int):=by omega
   obtain⟨o,J⟩:=O.o k I;have c0:=R.cell0 k o J;have E:Hd (e.all[k]? =some o):=J;clear J;generalize hid:o.id=oid at *;have D:Hd (o.id=oid):=hid;clear hid;cases K:(oid == id)
   ·go_wp2;go_roundw
    case rel=>
     refine⟨k+1,by go_num,by omega,fun j x hj hx=>?_,by first|rfl|trivial⟩;by_cases H:j<k
     ·exact C.o j x H hx
     obtain rfl:j=k:=by omega
     obtain rfl:o=x:=Option.some.inj (E.o.symm.trans hx);rw[D.o];simpa using K
    case measure=>simp[intOf];omega
   have A:e.find id=some k:=bf.find_at C.o E.o (by rw[D.o];simpa using K);have B:Hd (e.find id=some k):=A;clear A;go_wp2;go_ret;exact⟨by rw[B.o];rfl,rfl⟩
  have Y:¬(k:Int)<(n:Int):=by omega
  have A:e.find id=none:=bf.find_no (fun j x hj hx=>C.o j x (by omega) hx);have B:Hd (e.find id=none):=A;clear A;go_wp2;go_ret;exact⟨by rw[B.o];rfl,rfl⟩
theorem xE(h:dn F base w b e dv av)(hm:e.all.length≤1000000000):
 Cl 178 #[iP b] w fun en w'=>en=.returned (iV (e.alive:Int))∧w'=w:=by
 have U:w.cell? (iA b 5)=some av:=h.cell 5;rcases h.shape with⟨rfl,L⟩|⟨g,J,rfl,X,K,N,O⟩
 ·have M:e.alive=0:=by unfold bf.alive;rw[L];rfl
  rw[M];go_enter func178,ntmps178;go_wp2;go_loopw [3,4] (fun m i wr=>m=iV 0∧i=iV 0∧wr=w) (fun _ _ _=>0)
  case atStart=>exact⟨rfl,rfl,rfl⟩
  case round=>
   obtain⟨rfl,rfl,rfl⟩:=hrel;go_wp2;go_ret;exact⟨rfl,rfl⟩
 have I:=hid K;have H:Hd (∀k,k<e.all.length→∃o,e.all[k]? =some o):=fun k D=>⟨_,List.getElem?_eq_getElem D⟩
 have G:=hid (bf.aliveTo_all e);generalize hn:e.all.length=n at *;go_enter func178,ntmps178;go_wp2;go_loopw [3,4] (fun m i wr=> ∃k:Nat,i=iV k∧k≤n∧m=iV (e.mD k:Int)∧wr=w) (fun _ i _=>n - (intOf i).toNat)
 case atStart=>exact⟨0,rfl,Nat.zero_le _,rfl,rfl⟩
 case round=>
  obtain⟨k,rfl,D,rfl,rfl⟩:=hrel;have T:=bf.aliveTo_le e k;by_cases A:k<n
  ·have R:(k:Int)<(n:Int):=by omega
   obtain⟨o,E⟩:=H k A;have V:=I.cell k 8 o o.dm E rfl;have B:=hid (bf.aliveTo_succ e k o E);generalize o.dm=os at *;generalize hq:e.mD k=a at *;cases C:(os == 1)
   ·go_wp2;go_roundw
    case rel=>exact⟨k+1,by go_num,by omega,by rw[B.o,C];rfl,by first|rfl|trivial⟩
    case measure=>simp[intOf];omega
   go_wp2;go_roundw
   case rel=>exact⟨k+1,by go_num,by omega,by rw[B.o,C];exact zA0 (by simp),by first|rfl|trivial⟩
   case measure=>simp[intOf];omega
  have S:¬(k:Int)<(n:Int):=by omega
  obtain rfl:k=n:=by omega
  go_wp2;go_ret;exact⟨by rw[G.o];rfl,rfl⟩
theorem eD.c15{l:List Ord}(h:eD w g l)(i:Nat)(o:Ord)(ho:l[i]? =some o):w.cell? (iA g (i*15))=sI o.id∧w.cell? (iA g (i*15+1))=sI o.side∧w.cell? (iA g (i*15+2))=sI o.typ∧w.cell? (iA g (i*15+3))=sI o.mg∧w.cell? (iA g (i*15+4))=sI o.jw∧w.cell? (iA g (i*15+5))=sI o.off∧w.cell? (iA g (i*15+6))=sI o.jr∧w.cell? (iA g (i*15+7))=sI o.time∧w.cell? (iA g (i*15+8))=sI o.dm∧w.cell? (iA g (i*15+9))=sI o.bn∧w.cell? (iA g (i*15+10))=sI o.opn∧w.cell? (iA g (i*15+11))=sI o.bu∧w.cell? (iA g (i*15+12))=sI o.cancelled∧w.cell? (iA g (i*15+13))=sI o.bg∧w.cell? (iA g (i*15+14))=sI o.dh:=
 ⟨h.cell i 0 o _ ho rfl,h.cell i 1 o _ ho rfl,h.cell i 2 o _ ho rfl,h.cell i 3 o _ ho rfl,h.cell i 4 o _ ho rfl,h.cell i 5 o _ ho rfl,h.cell i 6 o _ ho rfl,h.cell i 7 o _ ho rfl,h.cell i 8 o _ ho rfl,h.cell i 9 o _ ho rfl,h.cell i 10 o _ ho rfl,h.cell i 11 o _ ho rfl,h.cell i 12 o _ ho rfl,h.cell i 13 o _ ho rfl,h.cell i 14 o _ ho rfl⟩
theorem eD.below{l:List Ord}(h:eD w g l)(hb:Below w.heap.size w w')(hg:g<w.heap.size):eD w' g l:=
 ⟨fun i j o x ho hx=>(hb.cell (p:=(iA g (i*15+j))) hg).trans (h.cell i j o x ho hx),fun j=>(hb.frozen (p:=(iA g j)) hg).trans (h.dz j)⟩
theorem xq{B:Nat}(h:Below B w w')(o:Obj)(hB:B≤w'.heap.size):Below B w (w'.alloc o):=h.alloc hB o
namespace bf
theorem xG{l:List Ord}{o:Ord}(ho:l[k]? =some o)(h:bU side o=false):pz l side (k+1)=pz l side k:=by
 show(match l[k]? with|none=>_|some x=>_)=_;rw[ho];simp only[h];rfl
theorem firstTo_new{l:List Ord}{o:Ord}(ho:l[k]? =some o)(h:bU side o=true)(hb:pz l side k=none):pz l side (k+1)=some k:=by
 show(match l[k]? with|none=>_|some x=>_)=_;rw[ho];simp only[h,hb];rfl
theorem firstTo_old{l:List Ord}{bb:Nat}{o y:Ord}(ho:l[k]? =some o)(h:bU side o=true)(hb:pz l side k=some bb)(hy:l[bb]? =some y):pz l side (k+1)=if ahead side o y then some k else some bb:=by
 show(match l[k]? with|none=>_|some x=>_)=_;rw[ho];simp only[h,hb,hy];rfl
end bf
theorem zF4(h:dn F base w b e dv av)(side:Int)(hm:e.all.length≤1000000000):
 Cl 179 #[iP b,iV side] w fun en w'=>en=.returned (iV (lN (e.first side)))∧Below w.heap.size w w':=by
 have c5:w.cell? (iA b 5)=some av:=h.cell 5;rcases h.shape with⟨rfl,he⟩|⟨g,O,rfl,hF,hO,Ac,S⟩
 ·have hf:e.first side=none:=by unfold bf.first;rw[he];rfl
  rw[hf];go_enter func179,ntmps179;go_wp2;go_loopw [5,6] (fun m i wr=>m=iV (-1)∧i=iV 0∧wr=w) (fun _ _ _=>0)
  case atStart=>exact⟨rfl,rfl,rfl⟩
  case round=>
   obtain⟨rfl,rfl,rfl⟩:=hrel;go_wp2;go_ret;exact⟨rfl,Below.refl _ _⟩
 have q:Hd (eD w g e.all):=hO;have L:=h.lt;have V:Hd (∀k,k<e.all.length→∃o,e.all[k]? =some o):=fun k X=>⟨_,List.getElem?_eq_getElem X⟩
 have l:Hd (bf.pz e.all side e.all.length=e.first side):=rfl;generalize hn:e.all.length=n at *;go_enter func179,ntmps179;go_wp2;go_loopw [5,6] (fun m i wr=> ∃k:Nat,i=iV k∧k≤n∧m=iV (lN (bf.pz e.all side k))∧Bw w wr) (fun _ i _=>n - (intOf i).toNat)
 case atStart=>exact⟨0,rfl,Nat.zero_le _,rfl,Below.refl _ _⟩
 case round=>
  obtain⟨k,rfl,X,rfl,G⟩:=hrel;have A1:wr.cell? (iA b 5)=some (sL g n O):=(G.cell (p:=(iA b 5)) L).trans c5;have K:Hd (eD wr g e.all):=q.below G S;have D:Hd (Bw w wr):=G;have Ab:=G.size;have Aa:b<wr.heap.size:=by omega
  have Ad:g<wr.heap.size:=by omega
  by_cases U:k<n
  ·have Ae:(k:Int)<(n:Int):=by omega
   obtain⟨o,Y⟩:=V k U;have N:Hd (e.all[k]? =some o):=Y;obtain⟨c0,c1,c2,c3,c4,A0,c6,c7,c8,c9,s,t,u,v,x⟩:=K.o.c15 k o Y;cases d:(o.side != side)
   ·cases f:(o.bg == 0)
    ·have Z:Hd (bf.bU side o=true):=by
      show _=_;unfold bf.bU;have:(o.side == side)=true:=by simpa using d
      rw[this];simpa using f
     rcases G:bf.pz e.all side k with _|E
     ·have C:Hd (bf.pz e.all side (k+1)=some k):=bf.firstTo_new N Z.out G;have T:lN none= -1:=rfl;go_wp2;go_roundw
      case rel=>exact⟨k+1,by go_num,by omega,congrArg (fun z=>iV (lN z)) C.symm,by repeat(first|exact D|refine xq ?_ _ (by first|omega|(simp;omega)))⟩
      case measure=>simp[intOf];omega
     have A9:E<k:=(bf.ze G).1;obtain⟨y,c⟩:=V E (by omega);obtain⟨d0,d1,d2,d3,d4,d5,d6,d7,d8,d9,A2,A3,A4,A5,A6⟩:=K.o.c15 E y c;have C:Hd (bf.pz e.all side (k+1)=if bf.ahead side o y then some k else some E):=bf.firstTo_old N Z.out G c;have T:lN (some E)=(E:Int):=rfl;have A8:(E:Int)<(n:Int):=by omega
     have A7:¬(E:Int)<0:=by omega
     cases j:(side == 2)
     ·have R:bf.ahead side o y=(decide (y.bn<o.bn) || (o.bn == y.bn && decide (o.dh<y.dh))):=by
       unfold bf.ahead;have:¬side=2:=by simpa using j
       rw[if_neg this]
      have A:Hd (bf.ahead side o y=(decide (y.bn<o.bn) || (o.bn == y.bn && decide (o.dh<y.dh)))):=R;by_cases I:y.bn<o.bn
      ·have B:Hd (bf.pz e.all side (k+1)=some k):=by show _=_;rw[C.o,A.o];simp[I]
       go_wp2;go_roundw
       case rel=>exact⟨k+1,by go_num,by omega,congrArg (fun z=>iV (lN z)) B.symm,by repeat(first|exact D|refine xq ?_ _ (by first|omega|(simp;omega)))⟩
       case measure=>simp[intOf];omega
      cases J:(o.bn == y.bn)
      ·have B:Hd (bf.pz e.all side (k+1)=some E):=by show _=_;rw[C.o,A.o,J];simp[I]
       go_wp2;go_roundw
       case rel=>exact⟨k+1,by go_num,by omega,congrArg (fun z=>iV (lN z)) B.symm,by repeat(first|exact D|refine xq ?_ _ (by first|omega|(simp;omega)))⟩
       case measure=>simp[intOf];omega
      by_cases M:o.dh<y.dh
      ·have B:Hd (bf.pz e.all side (k+1)=some k):=by show _=_;rw[C.o,A.o,J];simp[M]
       go_wp2;go_roundw
       case rel=>exact⟨k+1,by go_num,by omega,congrArg (fun z=>iV (lN z)) B.symm,by repeat(first|exact D|refine xq ?_ _ (by first|omega|(simp;omega)))⟩
       case measure=>simp[intOf];omega
      have B:Hd (bf.pz e.all side (k+1)=some E):=by show _=_;rw[C.o,A.o,J];simp[I,M]
      go_wp2;go_roundw
      case rel=>exact⟨k+1,by go_num,by omega,congrArg (fun z=>iV (lN z)) B.symm,by repeat(first|exact D|refine xq ?_ _ (by first|omega|(simp;omega)))⟩
      case measure=>simp[intOf];omega
     have R:bf.ahead side o y=(decide (o.bn<y.bn) || (o.bn == y.bn && decide (o.dh<y.dh))):=by
      unfold bf.ahead;have:side=2:=by simpa using j
      rw[if_pos this]
     have A:Hd (bf.ahead side o y=(decide (o.bn<y.bn) || (o.bn == y.bn && decide (o.dh<y.dh)))):=R;by_cases I:o.bn<y.bn
     ·have B:Hd (bf.pz e.all side (k+1)=some k):=by show _=_;rw[C.o,A.o];simp[I]
      go_wp2;go_roundw
      case rel=>exact⟨k+1,by go_num,by omega,congrArg (fun z=>iV (lN z)) B.symm,by repeat(first|exact D|refine xq ?_ _ (by first|omega|(simp;omega)))⟩
      case measure=>simp[intOf];omega
     cases J:(o.bn == y.bn)
     ·have B:Hd (bf.pz e.all side (k+1)=some E):=by show _=_;rw[C.o,A.o,J];simp[I]
      go_wp2;go_roundw
      case rel=>exact⟨k+1,by go_num,by omega,congrArg (fun z=>iV (lN z)) B.symm,by repeat(first|exact D|refine xq ?_ _ (by first|omega|(simp;omega)))⟩
      case measure=>simp[intOf];omega
     by_cases M:o.dh<y.dh
     ·have B:Hd (bf.pz e.all side (k+1)=some k):=by show _=_;rw[C.o,A.o,J];simp[M]
      go_wp2;go_roundw
      case rel=>exact⟨k+1,by go_num,by omega,congrArg (fun z=>iV (lN z)) B.symm,by repeat(first|exact D|refine xq ?_ _ (by first|omega|(simp;omega)))⟩
      case measure=>simp[intOf];omega
     have B:Hd (bf.pz e.all side (k+1)=some E):=by show _=_;rw[C.o,A.o,J];simp[I,M]
     go_wp2;go_roundw
     case rel=>exact⟨k+1,by go_num,by omega,congrArg (fun z=>iV (lN z)) B.symm,by repeat(first|exact D|refine xq ?_ _ (by first|omega|(simp;omega)))⟩
     case measure=>simp[intOf];omega
    have H:o.bg=0:=by simpa using f
    have C:Hd (bf.pz e.all side (k+1)=bf.pz e.all side k):=bf.xG N (by unfold bf.bU;rw[H];simp);go_wp2;go_roundw
    case rel=>exact⟨k+1,by go_num,by omega,by rw[C.o],by repeat(first|exact D|refine xq ?_ _ (by first|omega|(simp;omega)))⟩
    case measure=>simp[intOf];omega
   have H:(o.side == side)=false:=by simpa using d
   have C:Hd (bf.pz e.all side (k+1)=bf.pz e.all side k):=bf.xG N (by unfold bf.bU;rw[H];rfl);go_wp2;go_roundw
   case rel=>exact⟨k+1,by go_num,by omega,by rw[C.o],by repeat(first|exact D|refine xq ?_ _ (by first|omega|(simp;omega)))⟩
   case measure=>simp[intOf];omega
  have Af:¬(k:Int)<(n:Int):=by omega
  obtain rfl:k=n:=by omega
  go_wp2;go_ret;exact⟨by rw[l.o];rfl,D⟩
end Go.Proofs.YtehmdohpmpbnnaaGreatDoor
