import Derived.Test.YtehmdohpmpbnnaaGreatDoorQ00
import Derived.Test.YtehmdohpmpbnnaaGreatDoorQ02
import Derived.Test.YtehmdohpmpbnnaaGreatDoorQ06
import Derived.Test.YtehmdohpmpbnnaaGreatDoorQ14
import Derived.Test.YtehmdohpmpbnnaaGreatDoorQ16
set_option linter.all false
set_option maxRecDepth 100000
set_option maxHeartbeats 8000000
namespace Go.Proofs.YtehmdohpmpbnnaaGreatDoor
variable{w w':World}{i q b base m:Nat}{F:Nat→Prop}{e:bf}{P:Program}{c:Array Value}{f:Nat×Nat}
open Go.Proofs.Tryz
section
open Go.Extern Go.RowKit
structure Gh where
 blk:Nat→Nat
 aA:Nat
 aT:Nat
 zb:Nat
 wz:Nat
 fV:Nat
 xg:Nat
 fZ:Nat
 dZ:Nat
 txt:Value
 jL:Value
structure jk where
 day:List Nat
 qf:List Nat
 ended:List Nat
 aP:List Nat
 sel:List Nat
def Ord.code(i:Nat)(o:Ord):Array Value:=#[iV o.id,iV o.side,iV o.typ,iV o.bn,iV o.mg,iV o.jw,iV o.off,iV o.jr,iV o.time,iV (i:Int),iV o.bu,iV o.bg,iV o.dh]
def Ord.state(o:Ord):List Int:=[o.id,o.dm,o.bn,o.opn,o.bu,o.cancelled,o.bg]
def ru(al:List Ord)(i:Nat):Int:=match al[i]? with|some o=>o.id|none=>0
def kZ(al:List Ord)(i:Nat):List Int:=match al[i]? with|some o=>o.state|none=> []
def aF(e:bf)(g:Gh):Array Value:=#[iV e.mo,iV e.mp,iV e.mq,.iface 47 (iP g.dZ),iV e.now,.string ⟨e.rest.toArray⟩,iV (e.seq:Int),g.txt,.map (some g.aA),.map (some g.aT),.map (some g.zb),.iface 167 (iP g.wz),.iface 173 (iP g.xg),iV (e.dh:Int),iV e.worth,iV e.gq]
structure xK(F:Nat→Prop)(base:Nat)(w:World)(al:List Ord)(gz:List Int)(drawn:Nat)(g:Gh)(S:jk):Prop where
 day:PM jf prog 3 w g.aA (S.day.map fun i=>(ru al i,some (g.blk i)))
 qf:PM jf prog 3 w g.aT (S.qf.map fun i=>(ru al i,some (g.blk i)))
 ended:PM dJ prog 3 w g.zb (S.ended.map fun i=>(ru al i,kZ al i))
 wz:w.heap[g.wz]? =some (.cells #[.map (some g.fV)] 172 (0,0))
 xg:w.heap[g.xg]? =some (.cells #[.map (some g.fZ)] 174 (0,0))
 aP:PM jf prog 3 w g.fV (S.aP.map fun i=>(ru al i,some (g.blk i)))
 sel:PM jf prog 3 w g.fZ (S.sel.map fun i=>(ru al i,some (g.blk i)))
 maps:[g.aA,g.aT,g.zb,g.fV,g.fZ].Nodup
 ord:∀(i:Nat) (o:Ord),al[i]? =some o→o.dm=1→w.heap[g.blk i]? =some (.cells (o.code i) 202 (0,0))
 inj:∀(i j:Nat),i<al.length→j<al.length→g.blk i=g.blk j→i=j
 fD:w.heap[g.dZ]? =some (.cells #[g.jL,iV (drawn:Int)] 69 (0,0))
 jL:w.ownsRow base 3 1 g.jL gz.length (gz.map (iV))
 fd:F g.aA∧F g.aT∧F g.zb∧F g.fV∧F g.fZ∧F g.dZ
 fo:∀i,i<al.length→F (g.blk i)
structure dw(F:Nat→Prop)(base:Nat)(w:World)(b:Nat)(e:bf)(g:Gh)(S:jk):Prop where
 blk:w.heap[b]? =some (.cells (aF e g) 96 (0,0))
 own:F b
 up:∀k,w.heap.size≤k→F k
 low:base≤w.heap.size
 txt:TX F base w g.txt e.out
 body:xK F base w e.all e.gz e.drawn g S
 old:∀i,i<e.all.length→g.blk i<w.heap.size
 fb:F g.wz∧F g.xg∧∀q,g.jL.ownBlock=some q→F q
theorem PM.is_map{V:Type}{E:Elem V}{K:TypeId}{l:List (Int×V)}(h:PM E P K w b l):∃es c,w.heap[b]? =some (.map es c):=by
 obtain⟨es,⟨B,A,C,F⟩,D⟩:=h;exact⟨B,A,C⟩
theorem xK.keep{al:List Ord}{gz:List Int}{drawn:Nat}{g:Gh}{S:jk}(h:xK F base w al gz drawn g S)
 (hk:∀k,k<w.heap.size→(∀c f,w.heap[k]? ≠some (.cells c 5 f))→(∀c f,w.heap[k]? ≠some (.cells c 96 f))→w'.heap[k]? =w.heap[k]?):xK F base w' al gz drawn g S:=by
 have lt:∀{k:Nat} {o:Obj},w.heap[k]? =some o→k<w.heap.size:=fun A=>(Array.getElem?_eq_some_iff.1 A).1
 have C:∀{V:Type} {E:Elem V} {b:Nat} {l:List (Int×V)},PM E prog 3 w b l→PM E prog 3 w' b l:=by
  intro V E b l I;obtain⟨O,c,A⟩:=I.is_map;exact I.of_block (hk b (lt A) (fun c f e=>by rw[A]at e;cases e) (fun c f e=>by rw[A]at e;cases e))
 have B:∀{k:Nat} {c:Array Value} {t:TypeId} {f:Nat×Nat},w.heap[k]? =some (.cells c t f)→t≠5→t≠96→w'.heap[k]? =some (.cells c t f):=by
  intro k c t f A K H;rw[hk k (lt A) (fun c f e=>by rw[A]at e;injection e with e;injection e with _ e _;exact K e) (fun c f e=>by rw[A]at e;injection e with e;injection e with _ e _;exact H e)];exact A
 refine⟨C h.day,C h.qf,C h.ended,B h.wz (by decide) (by decide),B h.xg (by decide) (by decide),C h.aP,C h.sel,h.maps,fun i o ho hs=>B (h.ord i o ho hs) (by decide) (by decide),h.inj,B h.fD (by decide) (by decide),⟨h.jL.1,?_⟩,h.fd,h.fo⟩;rcases h.jL.2 with H|⟨J,D,G,N,L,M,r⟩
 ·exact .inl H
 exact .inr ⟨J,D,G,N,L,B M (by decide) (by decide),r⟩
namespace dw
variable {F:Nat→Prop} {base:Nat} {w w':World} {b:Nat} {e:bf} {g:Gh} {S:jk}
theorem lt(h:dw F base w b e g S):b<w.heap.size:=(Array.getElem?_eq_some_iff.1 h.blk).1
theorem cell(h:dw F base w b e g S)(j:Nat):w.cell? (iA b j)=(aF e g)[j]? :=by simp[World.cell?,h.blk]
theorem dz(h:dw F base w b e g S)(j:Nat):w.frozen? (iA b j)=false:=by simp[World.frozen?,h.blk]
theorem keep(h:dw F base w b e g S)(hs:w.heap.size≤w'.heap.size)(hk:∀k,k<w.heap.size→w'.heap[k]? =w.heap[k]?):dw F base w' b e g S:=
 ⟨(hk b h.lt).trans h.blk,h.own,fun k hk'=>h.up k (Nat.le_trans hs hk'),Nat.le_trans h.low hs,⟨sM h.txt.row hk,h.txt.own⟩,h.body.keep fun k h1 _ _=>hk k h1,fun i hi=>Nat.lt_of_lt_of_le (h.old i hi) hs,h.fb⟩
theorem alloc(h:dw F base w b e g S)(o:Obj):dw F base (w.alloc o) b e g S:=h.keep (by simp) (fun k hk=>Below.heap_alloc w o k hk)
theorem drewN(h:dw F base w b e g S)(n:Nat):dw F base (w.drewN n) b e g S:=h.keep (Nat.le_refl _) (fun k hk=>rfl)
theorem drew(h:dw F base w b e g S):dw F base w.drew b e g S:=h.keep (Nat.le_refl _) (fun k hk=>rfl)
theorem txt_ne(h:dw F base w b e g S){k:Nat}{t:TypeId}(hq:w.heap[k]? =some (.cells c t f))(ht:t≠5):g.txt.ownBlock≠some k:=by
 intro A;rcases h.txt.row.2 with E|⟨D,B,C,H,I,G,r⟩
 ·rw[E.1]at A;exact absurd A (by simp[Value.ownBlock])
 rw[H]at A;have:D=k:=by simpa [Value.ownBlock] using A
 subst this;rw[G]at hq;injection hq with hq;injection hq with _ hq _;exact ht hq.symm
theorem set(h:dw F base w b e g S)(j:Nat)(u:Value)(e':bf)(hc:(aF e g).setIfInBounds j u=aF e' g)(hd:e'.gz=e.gz)(hn:e'.drawn=e.drawn)(ha:e'.all=e.all)(ho:e'.out=e.out):dw F base (w.setCell (iA b j) u) b e' g S:=by
 have H:=ja w b j u _ _ _ h.blk;have G:∀k,k≠b→(w.setCell (iA b j) u).heap[k]? =w.heap[k]? :=fun k hk=>Below.heap_setCell _ _ _ _ hk
 refine⟨by rw[H,hc],h.own,fun k hk=>h.up k (by simpa using hk),by simpa using h.low,?_,?_,fun i hi=>by rw[ha]at hi;simpa using h.old i hi,h.fb⟩
 ·rw[ho];refine⟨⟨h.txt.row.1,?_⟩,h.txt.own⟩;rcases h.txt.row.2 with C|⟨D,A,B,E,I,J,r⟩
  ·exact .inl C
  refine .inr ⟨D,A,B,E,I,?_,r⟩;rw[G D (fun e1=>h.txt_ne h.blk (by decide) (by rw[E,←e1];rfl))];exact J
 rw[ha,hd,hn];exact h.body.keep fun k hk h1 C=>G k (fun e1=>C _ _ (e1▸h.blk))
theorem retext(h:dw F base w b e g S){w2:World}{t:Value}{l:List UInt8}(hT:Touch (fun k=>g.txt.ownBlock=some k∨w.heap.size≤k) w w2)(hX:TX (fun k=>g.txt.ownBlock=some k∨w.heap.size≤k) base w2 t l):dw F base (w2.setCell (iA b 7) t) b { e with out:=l } { g with txt:=t } S∧Touch F w (w2.setCell (iA b 7) t):=by
 have H:=h.txt_ne h.blk (by decide);have M:=(hT.block b h.lt (fun A=>by rcases A with A|A;exact H A;have:=h.lt;omega)).trans h.blk;have G:∀k,(g.txt.ownBlock=some k∨w.heap.size≤k)→F k:=fun k hk=>hk.elim (h.txt.own k) (h.up k)
 have V:=ja w2 b 7 t _ _ _ M;have T:∀k,k≠b→(w2.setCell (iA b 7) t).heap[k]? =w2.heap[k]? :=fun k hk=>Below.heap_setCell _ _ _ _ hk
 have O:t.ownBlock≠some b:=fun A=>by
  rcases hX.own b A with E|E
  ·exact H E
  have:=h.lt;omega
 refine⟨⟨by rw[V];rfl,h.own,fun k hk=>h.up k (by have:=hT.size;simp at hk;omega),by have:=hT.size;have:=h.low;simp;omega,⟨⟨hX.row.1,?_⟩,fun q hq=>G q (hX.own q hq)⟩,?_,fun i hi=>by have E:=h.old i hi;have J:=hT.size;show g.blk i<_;simp;omega,h.fb⟩,?_⟩
 ·rcases hX.row.2 with J|⟨I,C,D,K,R,N,r⟩
  ·exact .inl J
  refine .inr ⟨I,C,D,K,R,?_,r⟩;rw[T I (fun e1=>O (by rw[K,←e1];rfl))];exact N
 ·have B:=h.body.keep (w':=w2.setCell (iA b 7) t) fun k hk E J=>by
   rw[T k (fun e1=>J _ _ (e1▸h.blk))];refine hT.block k hk (fun A=>?_);rcases A with A|A
   ·rcases h.txt.row.2 with U|⟨I,C,D,K,R,N,r⟩
    ·rw[U.1]at A;exact absurd A (by simp[Value.ownBlock])
    rw[K]at A;have:I=k:=by simpa [Value.ownBlock] using A
    subst this;exact E _ _ N
   omega
  exact⟨B.day,B.qf,B.ended,B.wz,B.xg,B.aP,B.sel,B.maps,B.ord,B.inj,B.fD,B.jL,B.fd,B.fo⟩
 have L:Touch F w w2:=⟨hT.os,hT.tape,hT.output,hT.size,fun k hk hf=>hT.block k hk (fun A=>hf (G k A))⟩;exact L.set b _ _ h.own
end dw
theorem rA{g:Gh}{S:jk}(k s i o p q r:Int)(h:dw F base w b e g S)(hq:e.seq<4611686018427387904)(hl:e.out.length≤70368744177642)
 (hr:aD k∧aD i∧aD o∧aD p∧aD q∧aD r):
 Cl 94 #[.pointer (some (iA b 6)),recV k s i o p q r] w fun en w'=>en=rV #[]∧∃t,dw F base w' b (e.tell k i o p q r) { g with txt:=t } S∧Touch F w w':=by
 have U:=hid h;have j:w.cell? (iA b 6)=sI (e.seq:Int):=h.cell 6;have Y:w.cell? (iA b 7)=some g.txt:=h.cell 7;have u:=h.dz 6;have v:=h.dz 7;have R:=h.lt;have z:b≠w.heap.size:=Nat.ne_of_lt R;have A0:wrap64 ((e.seq:Int)+1)=(e.seq:Int)+1:=by unfold wrap64;omega
 have G:=hid hr;clear h hr;unfold recV;go_enter func94,ntmps94;go_wp2_with fail;have H:dw F base (w.setCell (iA b 6) (iV ((e.seq:Int)+1))) b { e with seq:=e.seq+1 } g S:=U.set 6 _ { e with seq:=e.seq+1 } (by simp[aF]) rfl rfl rfl rfl;have I:Touch F w (w.setCell (iA b 6) (iV ((e.seq:Int)+1))):=(Touch.refl F w).set b _ _ U.own;have K:(w.setCell (iA b 6) (iV ((e.seq:Int)+1))).heap.size=w.heap.size:=by simp
 clear j Y u v;generalize w.setCell (iA b 6) (iV ((e.seq:Int)+1))=W at *;have E:=hid (H.alloc (.cells #[iV k,iV ((e.seq:Int)+1),iV i,iV o,iV p,iV q,iV r] 55));have C:=hid (I.alloc (.cells #[iV k,iV ((e.seq:Int)+1),iV i,iV o,iV p,iV q,iV r] 55));have A:=heap_alloc_new W (.cells #[iV k,iV ((e.seq:Int)+1),iV i,iV o,iV p,iV q,iV r] 55);rw[K]at A;clear H I K;generalize W.alloc (.cells #[iV k,iV ((e.seq:Int)+1),iV i,iV o,iV p,iV q,iV r] 55)=W1 at *;have r0:W1.cell? (iA w.heap.size 0)=sI k:=by simp[World.cell?,A]
 have r1:W1.cell? (iA w.heap.size 1)=sI ((e.seq:Int)+1):=by simp[World.cell?,A]
 have r2:W1.cell? (iA w.heap.size 2)=sI i:=by simp[World.cell?,A]
 have r3:W1.cell? (iA w.heap.size 3)=sI o:=by simp[World.cell?,A]
 have r4:W1.cell? (iA w.heap.size 4)=sI p:=by simp[World.cell?,A]
 have r5:W1.cell? (iA w.heap.size 5)=sI q:=by simp[World.cell?,A]
 have r6:W1.cell? (iA w.heap.size 6)=sI r:=by simp[World.cell?,A]
 have Y:W1.cell? (iA b 7)=some g.txt:=E.cell 7;have N:Hd (∀X:World,X.heap=W1.heap→X.os=W1.os→X.tape=W1.tape→X.output=W1.output→Cl 124 #[g.txt,.agg #[iV k,iV ((e.seq:Int)+1),iV i,iV o,iV p,iV q,iV r]] X fun en w'=> ∃D n cap,en=.returned (sL D n cap)∧w'.cell? (iA b 7)=some g.txt∧w'.frozen? (iA b 7)=false∧Hd (dw F base (w'.setCell (iA b 7) (sL D n cap)) b (e.tell k i o p q r) { g with txt:=sL D n cap } S∧Touch F w (w'.setCell (iA b 7) (sL D n cap)))):=by
  intro X L x1 x2 x3;have B:dw F base X b { e with seq:=e.seq+1 } g S:=E.keep (by rw[L];exact Nat.le_refl _) (fun k _=>by rw[L]);have O:Touch F w X:=⟨x1.trans C.os,x2.trans C.tape,x3.trans C.output,by rw[L];exact C.size,fun k h1 h2=>by rw[L];exact C.block k h1 h2⟩;refine(zF7 (F:=fun k=>g.txt.ownBlock=some k∨X.heap.size≤k) base g.txt e.out k ((e.seq:Int)+1) i o p q r X hl B.low (fun k hk=>.inr hk) ⟨B.txt.row,fun q hq=>.inl hq⟩ ⟨G.1,⟨by omega,by omega⟩,G.2⟩).mono ?_;rintro en f ⟨t,rfl,c,d⟩;have T:=B.txt_ne B.blk (by decide);have J:f.heap[b]? =some (.cells (aF { e with seq:=e.seq+1 } g) 96 (0,0)):=(d.block b B.lt (fun M=>by rcases M with M|M;exact T M;have:=B.lt;omega)).trans B.blk;obtain⟨D,n,cap,rfl⟩:∃D n cap,t=sL D n cap:=by
   rcases c.row.2 with⟨_,y⟩|⟨D,cap,m,hv,_⟩
   ·rw[List.length_append,bf.gX]at y;omega
   exact⟨D,_,cap,hv⟩
  obtain⟨q1,q2⟩:=B.retext d c;exact⟨D,n,cap,rfl,by simp[World.cell?,J,aF],by simp[World.frozen?,J],q1,O.trans q2⟩
 clear A;go_region_with(first|(go_at_call 124;refine(N.o W1.drew rfl rfl rfl rfl).mono ?_;rintro en f ⟨D,n',Z,rfl,l,x,V⟩));all_goals(go_end0;exact⟨rfl,_,V.1,V.2⟩)
theorem zFg{g:Gh}{S:jk}(id reason:Int)(h:dw F base w b e g S)(hq:e.seq<4611686018427387904)(hl:e.out.length≤70368744177642)(h1:aD id)(h2:aD reason):
 Cl 56 #[iP b,iV id,iV reason] w fun en w'=>en=rV #[]∧∃t,dw F base w' b (e.ny id reason) { g with txt:=t } S∧Touch F w w':=by
 have C:=hid h;have z:aD 0:=⟨by omega,by omega⟩;have A:=hid (rA 2 0 id 0 0 0 reason h hq hl ⟨⟨by omega,by omega⟩,h1,z,z,z,h2⟩);unfold recV at A;go_enter func56,ntmps56;go_wp2_with fail;refine A.mono ?_;rintro en D ⟨rfl,B⟩;have B:=hid B;go_wp2;go_end0;exact⟨rfl,B⟩
structure OA(w:World)(q:Nat)(i:Nat)(o:Ord):Prop where
 blk:w.heap[q]? =some (.cells (o.code i) 202 (0,0))
theorem OA.cell{o:Ord}(h:OA w q i o)(j:Nat):w.cell? (iA q j)=(o.code i)[j]? :=by simp[World.cell?,h.blk]
theorem OA.dz{o:Ord}(h:OA w q i o)(j:Nat):w.frozen? (iA q j)=false:=by simp[World.frozen?,h.blk]
theorem OA.lt{o:Ord}(h:OA w q i o):q<w.heap.size:=(Array.getElem?_eq_some_iff.1 h.blk).1
theorem dw.oa{g:Gh}{S:jk}(h:dw F base w b e g S){o:Ord}(ho:e.all[i]? =some o)(hs:o.dm=1):OA w (g.blk i) i o:=⟨h.body.ord i o ho hs⟩
theorem gL{o:Ord}(h:OA w q i o)(hr:aD (o.mg - o.bu)):
 Cl 153 #[iP q] w fun en w'=>en=.returned (iV (o.mg - o.bu))∧Same w w':=by
 have C:cI w q 4 o.mg:=h.cell 4;have A:cI w q 10 o.bu:=h.cell 10;have F:=aM _ hr.1 hr.2;have B:wrap64 (o.mg - o.bu)=o.mg - o.bu:=by unfold wrap64;obtain⟨D,E⟩:=hr;omega
 go_enter func153,ntmps153;go_wp2_with fail;go_quiet (fail);go_wp2;go_ret;exact⟨rfl,(Same.refl w).drewN nq⟩
def Ord.eU(o:Ord):Bool:=if o.typ=3 then !(o.bn == 0) else decide (0<o.bg)
theorem zC3{o:Ord}(h:OA w q i o):
 Cl 172 #[iP q] w fun en w'=>en=.returned (.bool o.eU)∧Same w w':=by
 have c2:cI w q 2 o.typ:=h.cell 2;have D:cI w q 3 o.bn:=h.cell 3;have C:cI w q 11 o.bg:=h.cell 11;cases B:(o.typ == 3)
 ·have A:Hd (o.eU=decide (0<o.bg)):=if_neg (by simpa using B);go_enter func172,ntmps172;go_wp2;go_ret;exact⟨by rw[A.o];rfl,Same.refl w⟩
 have A:Hd (o.eU= !(o.bn == 0)):=if_pos (by simpa using B);go_enter func172,ntmps172;go_wp2;go_ret;exact⟨by rw[A.o];first|rfl|simp[bne],Same.refl w⟩
theorem zC4(n a c:Int):
 Cl 118 #[iV n,iV a,iV c] w fun en w'=>en=.returned (.bool (bf.rf n a c))∧Same w w':=by
 unfold bf.rf;by_cases A:a≤n
 ·go_enter func118,ntmps118;have B:decide (a≤n)=true:=by simpa using A
  go_wp2;go_ret;exact⟨by simp[A],Same.refl w⟩
 go_enter func118,ntmps118;have B:decide (a≤n)=false:=by simpa using A
 go_wp2;go_ret;exact⟨by simp[A],Same.refl w⟩
theorem OA.same{o:Ord}(h:OA w q i o)(hs:Same w w'):OA w' q i o:=⟨by rw[hs.heap];exact h.blk⟩
theorem OA.of_heap{o:Ord}(h:OA w q i o)(hs:w'.heap=w.heap):OA w' q i o:=⟨by rw[hs];exact h.blk⟩
theorem vD(a b c:Int):
 Cl 78 #[.agg #[iV a,iV b,iV c]] w fun en w'=>en=.returned (.bool (bf.rf a 1 64 && bf.rf b 1 1000000 && bf.rf c 1 1000))∧Below w.heap.size w w':=by
 have I:Hd (∀(W:World) (n a c:Int),Cl 118 #[iV n,iV a,iV c] W fun en w'=>en=.returned (.bool (bf.rf n a c))∧Same W w'):=fun W n a c=>zC4 n a c
 go_enter func78,ntmps78;go_wp2_with fail;have D:=hid ((Below.refl w.heap.size w).alloc (Nat.le_refl _) (.cells #[iV a,iV b,iV c] 43));have E:=heap_alloc_new w (.cells #[iV a,iV b,iV c] 43);generalize w.alloc (.cells #[iV a,iV b,iV c] 43)=W at *;have M:W.cell? (iA w.heap.size 1)=sI b:=by simp[World.cell?,E]
 have F:W.cell? (iA w.heap.size 2)=sI c:=by simp[World.cell?,E]
 clear E;refine(I.o W a 1 64).mono ?_;rintro en G ⟨rfl,A⟩;have M:G.cell? (iA w.heap.size 1)=sI b:=by rw[←M];simp[World.cell?,A.heap]
 have F:G.cell? (iA w.heap.size 2)=sI c:=by rw[←F];simp[World.cell?,A.heap]
 have B:Hd (Below w.heap.size w G):=⟨A.os.trans D.os,A.tape.trans D.tape,A.output.trans D.output,by rw[A.heap];exact D.size,fun k hk=>by rw[A.heap];exact D.block k hk⟩;clear A;cases K:bf.rf a 1 64
 ·go_wp2;go_ret;exact⟨by simp[K],B.o⟩
 go_wp2_with fail;refine(I.o G b 1 1000000).mono ?_;rintro en J ⟨rfl,A⟩;have F:J.cell? (iA w.heap.size 2)=sI c:=by rw[←F];simp[World.cell?,A.heap]
 have C:Hd (Below w.heap.size w J):=⟨A.os.trans B.os,A.tape.trans B.tape,A.output.trans B.output,by rw[A.heap];exact B.size,fun k hk=>by rw[A.heap];exact B.block k hk⟩;clear A;cases L:bf.rf b 1 1000000
 ·go_wp2;go_ret;exact⟨by simp[L],C.o⟩
 go_wp2_with fail;refine(I.o J c 1 1000).mono ?_;rintro en N ⟨rfl,A⟩;have H:Hd (Below w.heap.size w N):=⟨A.os.trans C.os,A.tape.trans C.tape,A.output.trans C.output,by rw[A.heap];exact C.size,fun k hk=>by rw[A.heap];exact C.block k hk⟩;clear A;go_wp2;go_ret;exact⟨by simp[K,L],H.o⟩
theorem vF{o:Ord}(h:OA w q i o)(hr:aD (o.mg - o.bu))(ho:o.opn=o.mg - o.bu):
 Cl 168 #[iP q] w fun en w'=>en=.returned (iV (bf.pq o))∧Same w w':=by
 have K:=hid h;have L:=hid hr;have B:=hid ho;have c2:cI w q 2 o.typ:=h.cell 2;have O:cI w q 5 o.jw:=h.cell 5;have A:Hd (∀W:World,W.heap=w.heap→Cl 153 #[iP q] W fun en w'=>en=.returned (iV (o.mg - o.bu))∧Same W w'):=fun W hW=>gL (h.of_heap hW) hr
 cases J:(o.typ == 2)
 ·have E:Hd (bf.pq o=o.mg - o.bu):=by
   show _=_;unfold bf.pq;rw[if_neg (fun hc=>by simp[hc.1]at J),B.o]
  go_enter func168,ntmps168;go_wp2_with fail;refine(A w rfl).mono ?_;rintro en T ⟨rfl,C⟩;have M:=hid C;go_wp2;go_ret;exact⟨by rw[E.o];rfl,M⟩
 have D:Hd (∀W:World,W.heap=w.heap→W.os=w.os→W.tape=w.tape→W.output=w.output→Cl 153 #[iP q] W fun en w'=>en=.returned (iV (o.mg - o.bu))∧cI w' q 5 o.jw∧Hd (Same w w')):=by
  intro W H G R S;refine(A W H).mono ?_;rintro en w' ⟨rfl,C⟩;have I:Same w W:=⟨H,G,R,S⟩;exact⟨rfl,((K.same I).same C).cell 5,I.trans C⟩
 go_enter func168,ntmps168;go_wp2_with fail;have E:Hd ((if o.jw<o.mg - o.bu then o.jw else o.mg - o.bu)=bf.pq o):=by
  show _=_;unfold bf.pq;have G:o.typ=2:=by simpa using J
  rw[B.o];simp[G]
 go_region_with(first|(go_at_call 153;refine(D w.drew rfl rfl rfl rfl).mono ?_;rintro en T ⟨rfl,F,N⟩));all_goals(simp only[E.o];clear c2 O F;go_wp2;go_ret;exact⟨rfl,N⟩)
theorem zFh(a b:Int):Cl 253 #[iV a,iV b] w fun en w'=>en=.returned (.bool (decide (b<a)))∧Same w w':=by
 go_enter func253,ntmps253;go_wp2;go_ret;exact⟨rfl,Same.refl w⟩
theorem zFi(a b:Int):Cl 257 #[iV a,iV b] w fun en w'=>en=.returned (.bool (decide (a<b)))∧Same w w':=by
 go_enter func257,ntmps257;go_wp2;go_ret;exact⟨rfl,Same.refl w⟩
def mh(v:Nat→Int):Value:=.agg #[iV (v 0),iV (v 1),iV (v 2),iV (v 3),iV (v 4),iV (v 5),iV (v 6),iV (v 7),iV (v 8)]
theorem xL{o:Ord}(v:Nat→Int)(h:OA w q i o):
 Cl 133 #[iP q,mh v] w fun en w'=>en=.returned (.bool (decide (v 4≤o.mg) && (o.typ == 3 || v 3 == o.bn)))∧Below w.heap.size w w':=by
 have c2:w.cell? (iA q 2)=sI o.typ:=h.cell 2;have F:w.cell? (iA q 3)=sI o.bn:=h.cell 3;have G:w.cell? (iA q 4)=sI o.mg:=h.cell 4;have D:=h.lt;have H:q≠w.heap.size:=Nat.ne_of_lt D;have E:=hid h;clear h;unfold mh;cases L:(o.typ == 3)<;>cases M:(v 3 == o.bn)<;>cases N:decide (v 4≤o.mg);all_goals(
  go_enter func133,ntmps133;go_wp2_with fail;have A:=hid ((Below.refl w.heap.size w).alloc (Nat.le_refl _) (.cells #[iV (v 0),iV (v 1),iV (v 2),iV (v 3),iV (v 4),iV (v 5),iV (v 6),iV (v 7),iV (v 8)] 79));have C:=heap_alloc_new w (.cells #[iV (v 0),iV (v 1),iV (v 2),iV (v 3),iV (v 4),iV (v 5),iV (v 6),iV (v 7),iV (v 8)] 79);have B:OA (w.alloc (.cells #[iV (v 0),iV (v 1),iV (v 2),iV (v 3),iV (v 4),iV (v 5),iV (v 6),iV (v 7),iV (v 8)] 79)) q i o:=⟨by rw[Below.heap_alloc _ _ _ D];exact E.blk⟩;generalize w.alloc (.cells #[iV (v 0),iV (v 1),iV (v 2),iV (v 3),iV (v 4),iV (v 5),iV (v 6),iV (v 7),iV (v 8)] 79)=W at *;have O:W.cell? (iA w.heap.size 3)=sI (v 3):=by simp[World.cell?,C]
  have R:W.cell? (iA w.heap.size 4)=sI (v 4):=by simp[World.cell?,C]
  have I:W.cell? (iA q 2)=sI o.typ:=B.cell 2;have J:W.cell? (iA q 3)=sI o.bn:=B.cell 3;have K:W.cell? (iA q 4)=sI o.mg:=B.cell 4;clear C B c2 F G;go_quiet (fail);go_wp2_with fail)
 all_goals(go_ret;exact⟨rfl,⟨A.os,A.tape,A.output,A.size,A.block⟩⟩)
def Ord.left(o:Ord):Int:=if o.typ=2 then(if o.mg - o.bu<o.bg then o.mg - o.bu else o.bg) else if o.eU=true then o.mg - o.bu else o.bg
theorem nX{o:Ord}(h:OA w q i o)(hr:aD (o.mg - o.bu)):
 Cl 135 #[iP q] w fun en w'=>en=rV #[]∧∃W,Same w W∧(w'=W.setCell (iA q 11) (iV o.left)∨(o.left=o.bg∧w'=W)):=by
 have G:=hid h;have c2:cI w q 2 o.typ:=h.cell 2;have O:cI w q 11 o.bg:=h.cell 11;have S:=h.dz 11;have B:Hd (∀W:World,Same w W→Cl 153 #[iP q] W fun en w'=>en=.returned (iV (o.mg - o.bu))∧cI w' q 11 o.bg∧w'.frozen? (iA q 11)=false∧Hd (Same w w')):=by
  intro W H;refine(gL (h.same H) hr).mono ?_;rintro en w' ⟨rfl,A⟩;exact⟨rfl,((G.same H).same A).cell 11,((G.same H).same A).dz 11,H.trans A⟩
 have I:=hid (zC3 h);cases M:(o.typ == 2)
 ·have L:Hd (¬o.typ=2):=by show¬o.typ=2;simpa using M
  go_enter func135,ntmps135;go_wp2_with fail;refine I.mono ?_;rintro en F ⟨rfl,A⟩;have R:cI F q 11 o.bg:=(G.same A).cell 11;have T:=(G.same A).dz 11;have K:=hid A;cases N:o.eU
  ·have C:Hd (o.left=o.bg):=by show _=_;unfold Ord.left;rw[if_neg L.o,if_neg (by simp[N])]
   go_wp2;go_end0;exact⟨rfl,F,K,.inr ⟨C,rfl⟩⟩
  have C:Hd (o.left=o.mg - o.bu):=by show _=_;unfold Ord.left;rw[if_neg L.o,if_pos N]
  go_wp2_with fail;refine(B F K).mono ?_;rintro en U ⟨rfl,D,E,J⟩;go_wp2;go_end0;exact⟨rfl,U,J,.inl (by rw[C.o])⟩
 have C:Hd (o.left=if o.mg - o.bu<o.bg then o.mg - o.bu else o.bg):=by show _=_;unfold Ord.left;rw[if_pos (by simpa using M)]
 go_enter func135,ntmps135;go_wp2_with fail;go_region_with(first|(go_at_call 153;refine(B w.drew ((Same.refl w).drew)).mono ?_;rintro en F ⟨rfl,D,E,J⟩));all_goals(go_end0;exact⟨rfl,F,J,.inl (by rw[C.o])⟩)
def Gh.home(g:Gh)(o:Ord):Nat:=if o.jr=1 then g.aA else g.aT
theorem sN{g:Gh}{S:jk}{o:Ord}(h:dw F base w b e g S)(ho:OA w q i o):
 Cl 165 #[.pointer (some (iA b 8)),iP q] w fun en w'=>en=.returned (.map (some (g.home o)))∧Same w w':=by
 have D:w.cell? (iA b 8)=some (.map (some g.aA)):=h.cell 8;have E:w.cell? (iA b 9)=some (.map (some g.aT)):=h.cell 9;have C:cI w q 7 o.jr:=ho.cell 7;cases B:(o.jr == 1)
 ·have A:Hd (g.home o=g.aT):=if_neg (by simpa using B);go_enter func165,ntmps165;go_wp2;go_ret;exact⟨by rw[A.o];rfl,Same.refl w⟩
 have A:Hd (g.home o=g.aA):=if_pos (by simpa using B);go_enter func165,ntmps165;go_wp2;go_ret;exact⟨by rw[A.o];rfl,Same.refl w⟩
theorem zC5{g:Gh}{S:jk}(h:dw F base w b e g S)(hl:S.day.length+S.qf.length≤1000000000):
 Cl 126 #[.pointer (some (iA b 8))] w fun en w'=>en=.returned (iV ((S.day.length+S.qf.length:Nat):Int))∧Same w w':=by
 have B:w.cell? (iA b 8)=some (.map (some g.aA)):=h.cell 8;have C:w.cell? (iA b 9)=some (.map (some g.aT)):=h.cell 9;have E:∀ty,(Builtin.len_ #[89] ty #[.map (some g.aA)]).run prog w.drew=.ok (iV (S.day.length:Int)) w.drew:=fun ty=>by have:=h.drew.body.day.len underlying89 ty;rw[List.length_map]at this;exact this
 have G:∀ty,(Builtin.len_ #[89] ty #[.map (some g.aT)]).run prog w.drew=.ok (iV (S.qf.length:Int)) w.drew:=fun ty=>by have:=h.drew.body.qf.len underlying89 ty;rw[List.length_map]at this;exact this
 have D:IntKind.i64.wrap ((S.day.length:Int)+(S.qf.length:Int))=(S.day.length:Int)+(S.qf.length:Int):=aM _ (by omega) (by omega);have A:wrap64 ((S.day.length:Int)+(S.qf.length:Int))=(S.day.length:Int)+(S.qf.length:Int):=by unfold wrap64;omega
 go_enter func126,ntmps126;go_wp2_with fail;go_region_law(fail);all_goals(go_wp2;go_ret;exact⟨rfl,(Same.refl w).drew⟩)
end
section
open Go.Extern Go.Maps Go.RowKit
theorem je:Keyed prog 3:=int_keyed underlying3
theorem pJ(w:World):(zeroValue 200).run prog w=.ok (jf.val none) w:=by kernel_rfl
theorem lC{k:Int}(h:aD k):(Lit.int .i64 k).wf=true:=by
 obtain⟨C,D⟩:=h;have A:IntKind.i64.min= -9223372036854775808:=by decide
 have B:IntKind.i64.max=9223372036854775807:=by decide
 simp[Lit.wf,A,B];omega
section
variable {F:Nat→Prop} {base:Nat} {w:World} {b:Nat} {e:bf} {g:Gh} {S:jk}
theorem zFj(id:Int)(hid63:aD id)(h:dw F base w b e g S)(i:Nat)(hi:i∈S.day)(hid':ru e.all i=id):
 Cl 129 #[.pointer (some (iA b 8)),iV id] w fun en w'=>en=rV #[iP (g.blk i),.bool true]∧Same w w':=by
 have A:w.cell? (iA b 8)=some (.map (some g.aA)):=h.cell 8;have B:w.cell? (iA b 9)=some (.map (some g.aT)):=h.cell 9;have C:(Instr.lookup 89 (.map (some g.aA)) (iV id) true).run prog w=.ok (.tuple #[iP (g.blk i),.bool true]) w:=h.body.day.hit je underlying3 underlying89 (pJ w) (v:=some (g.blk i)) (List.mem_map.2 ⟨i,hi,by rw[hid']⟩) (lC hid63);go_enter func129,ntmps129;go_wp2_with fail;exact bodyPost_ret (v:=.tuple #[iP (g.blk i),.bool true]) (by simp[results,Tryz.results129,go_sem]) rfl ⟨rfl,Same.refl w⟩
theorem zFk(id:Int)(hid63:aD id)(h:dw F base w b e g S)(i:Nat)(hi:i∈S.qf)(hid':ru e.all i=id)(hn:∀j∈S.day,ru e.all j≠id):
 Cl 129 #[.pointer (some (iA b 8)),iV id] w fun en w'=>en=rV #[iP (g.blk i),.bool true]∧Same w w':=by
 have B:w.cell? (iA b 8)=some (.map (some g.aA)):=h.cell 8;have C:w.cell? (iA b 9)=some (.map (some g.aT)):=h.cell 9;have D:(Instr.lookup 89 (.map (some g.aA)) (iV id) true).run prog w=.ok (.tuple #[.pointer none,.bool false]) w:=h.body.day.miss je underlying3 underlying89 (pJ w) (fun p hp=>by obtain⟨j,A,rfl⟩:=List.mem_map.1 hp;exact hn j A) (lC hid63);have E:(Instr.lookup 89 (.map (some g.aT)) (iV id) true).run prog w=.ok (.tuple #[iP (g.blk i),.bool true]) w:=h.body.qf.hit je underlying3 underlying89 (pJ w) (v:=some (g.blk i)) (List.mem_map.2 ⟨i,hi,by rw[hid']⟩) (lC hid63);go_enter func129,ntmps129;go_wp2_with fail;exact bodyPost_ret (v:=.tuple #[iP (g.blk i),.bool true]) (by simp[results,Tryz.results129,go_sem]) rfl ⟨rfl,Same.refl w⟩
theorem zFl(id:Int)(hid63:aD id)(h:dw F base w b e g S)(hn:∀j∈S.day,ru e.all j≠id)(hm:∀j∈S.qf,ru e.all j≠id):
 Cl 129 #[.pointer (some (iA b 8)),iV id] w fun en w'=>en=rV #[.pointer none,.bool false]∧Same w w':=by
 have B:w.cell? (iA b 8)=some (.map (some g.aA)):=h.cell 8;have C:w.cell? (iA b 9)=some (.map (some g.aT)):=h.cell 9;have D:(Instr.lookup 89 (.map (some g.aA)) (iV id) true).run prog w=.ok (.tuple #[.pointer none,.bool false]) w:=h.body.day.miss je underlying3 underlying89 (pJ w) (fun p hp=>by obtain⟨j,A,rfl⟩:=List.mem_map.1 hp;exact hn j A) (lC hid63);have E:(Instr.lookup 89 (.map (some g.aT)) (iV id) true).run prog w=.ok (.tuple #[.pointer none,.bool false]) w:=h.body.qf.miss je underlying3 underlying89 (pJ w) (fun p hp=>by obtain⟨j,A,rfl⟩:=List.mem_map.1 hp;exact hm j A) (lC hid63);go_enter func129,ntmps129;go_wp2_with fail;exact bodyPost_ret (v:=.tuple #[.pointer none,.bool false]) (by simp[results,Tryz.results129,go_sem]) rfl ⟨rfl,Same.refl w⟩
end
section
variable {F:Nat→Prop} {base:Nat} {w w':World} {b:Nat} {e:bf} {g:Gh} {S:jk}
structure qb(m:Nat)(w w':World):Prop where
 os:w'.os=w.os
 tape:w'.tape=w.tape
 output:w'.output=w.output
 size:w.heap.size≤w'.heap.size
 block:∀k,k<w.heap.size→k≠m→w'.heap[k]? =w.heap[k]?
 is:∃es c,w.heap[m]? =some (.map es c)
theorem qb.of(h:w.mapTurned w' m):qb m w w':=by
 have A:=h.grown;obtain⟨B,c,C,E,D,G⟩:=h;exact⟨A.os,A.tape,A.output,A.size,fun k hk hne=>A.block k hk (fun e=>hne (by injection e)),B,c,D⟩
theorem qb.cells(h:qb m w w'){k:Nat}{t:TypeId}(hq:w.heap[k]? =some (.cells c t f)):w'.heap[k]? =some (.cells c t f):=by
 rw[h.block k (Array.getElem?_eq_some_iff.1 hq).1 (fun e1=>by obtain⟨C,B,A⟩:=h.is;rw[e1,A]at hq;cases hq)];exact hq
theorem qb.row(h:qb m w w'){B:Nat}{t:TypeId}{s:Nat}{v:Value}{n:Nat}{xs:List Value}(ho:w.ownsRow B t s v n xs):w'.ownsRow B t s v n xs:=by
 refine⟨ho.1,?_⟩;rcases ho.2 with D|⟨g,A,C,H,E,G,r⟩
 ·exact .inl D
 exact .inr ⟨g,A,C,H,E,h.cells G,r⟩
theorem qb.other(h:qb m w w'){V:Type}{E:Elem V}{K:TypeId}{x:Nat}{l:List (Int×V)}(hp:PM E P K w x l)(hne:x≠m):PM E P K w' x l:=hp.of_block (h.block x hp.lt hne)
theorem qb.touch(h:qb m w w')(hF:F m):Touch F w w':=⟨h.os,h.tape,h.output,h.size,fun k hk hf=>h.block k hk (fun e1=>hf (e1▸hF))⟩
theorem xK.distinct(h:xK F base w e.all e.gz e.drawn g S):g.aA≠g.aT∧g.aA≠g.zb∧g.aA≠g.fV∧g.aA≠g.fZ∧g.aT≠g.zb∧g.aT≠g.fV∧g.aT≠g.fZ∧g.zb≠g.fV∧g.zb≠g.fZ∧g.fV≠g.fZ:=by
 have:=h.maps;simp at this;obtain⟨⟨B,C,D,E⟩,⟨G,H,I⟩,⟨J,K⟩,A⟩:=this;exact⟨B,C,D,E,G,H,I,J,K,A⟩
theorem dw.turn_day(h:dw F base w b e g S)(ht:qb g.aA w w')(l:List Nat)(hp:PM jf prog 3 w' g.aA (l.map fun i=>(ru e.all i,some (g.blk i)))):dw F base w' b e g { S with day:=l }∧Touch F w w':=by
 obtain⟨B,C,D,E,G,H,I,J,K,A⟩:=h.body.distinct;obtain⟨L,M,N,O,R,T⟩:=h.body.fd;exact⟨⟨ht.cells h.blk,h.own,fun k hk=>h.up k (Nat.le_trans ht.size hk),Nat.le_trans h.low ht.size,⟨ht.row h.txt.row,h.txt.own⟩,⟨hp,ht.other h.body.qf (by omega),ht.other h.body.ended (by omega),ht.cells h.body.wz,ht.cells h.body.xg,ht.other h.body.aP (by omega),ht.other h.body.sel (by omega),h.body.maps,fun i o ho hs=>ht.cells (h.body.ord i o ho hs),h.body.inj,ht.cells h.body.fD,ht.row h.body.jL,h.body.fd,h.body.fo⟩,fun i hi=>Nat.lt_of_lt_of_le (h.old i hi) ht.size,h.fb⟩,ht.touch (by assumption)⟩
theorem dw.turn_oth(h:dw F base w b e g S)(ht:qb g.aT w w')(l:List Nat)(hp:PM jf prog 3 w' g.aT (l.map fun i=>(ru e.all i,some (g.blk i)))):dw F base w' b e g { S with qf:=l }∧Touch F w w':=by
 obtain⟨B,C,D,E,G,H,I,J,K,A⟩:=h.body.distinct;obtain⟨L,M,N,O,R,T⟩:=h.body.fd;exact⟨⟨ht.cells h.blk,h.own,fun k hk=>h.up k (Nat.le_trans ht.size hk),Nat.le_trans h.low ht.size,⟨ht.row h.txt.row,h.txt.own⟩,⟨ht.other h.body.day (by omega),hp,ht.other h.body.ended (by omega),ht.cells h.body.wz,ht.cells h.body.xg,ht.other h.body.aP (by omega),ht.other h.body.sel (by omega),h.body.maps,fun i o ho hs=>ht.cells (h.body.ord i o ho hs),h.body.inj,ht.cells h.body.fD,ht.row h.body.jL,h.body.fd,h.body.fo⟩,fun i hi=>Nat.lt_of_lt_of_le (h.old i hi) ht.size,h.fb⟩,ht.touch (by assumption)⟩
theorem dw.vV(h:dw F base w b e g S)(ht:qb g.zb w w')(l:List Nat)(hp:PM dJ prog 3 w' g.zb (l.map fun i=>(ru e.all i,kZ e.all i))):dw F base w' b e g { S with ended:=l }∧Touch F w w':=by
 obtain⟨B,C,D,E,G,H,I,J,K,A⟩:=h.body.distinct;obtain⟨L,M,N,O,R,T⟩:=h.body.fd;exact⟨⟨ht.cells h.blk,h.own,fun k hk=>h.up k (Nat.le_trans ht.size hk),Nat.le_trans h.low ht.size,⟨ht.row h.txt.row,h.txt.own⟩,⟨ht.other h.body.day (by omega),ht.other h.body.qf (by omega),hp,ht.cells h.body.wz,ht.cells h.body.xg,ht.other h.body.aP (by omega),ht.other h.body.sel (by omega),h.body.maps,fun i o ho hs=>ht.cells (h.body.ord i o ho hs),h.body.inj,ht.cells h.body.fD,ht.row h.body.jL,h.body.fd,h.body.fo⟩,fun i hi=>Nat.lt_of_lt_of_le (h.old i hi) ht.size,h.fb⟩,ht.touch (by assumption)⟩
theorem dw.turn_buy(h:dw F base w b e g S)(ht:qb g.fV w w')(l:List Nat)(hp:PM jf prog 3 w' g.fV (l.map fun i=>(ru e.all i,some (g.blk i)))):dw F base w' b e g { S with aP:=l }∧Touch F w w':=by
 obtain⟨B,C,D,E,G,H,I,J,K,A⟩:=h.body.distinct;obtain⟨L,M,N,O,R,T⟩:=h.body.fd;exact⟨⟨ht.cells h.blk,h.own,fun k hk=>h.up k (Nat.le_trans ht.size hk),Nat.le_trans h.low ht.size,⟨ht.row h.txt.row,h.txt.own⟩,⟨ht.other h.body.day (by omega),ht.other h.body.qf (by omega),ht.other h.body.ended (by omega),ht.cells h.body.wz,ht.cells h.body.xg,hp,ht.other h.body.sel (by omega),h.body.maps,fun i o ho hs=>ht.cells (h.body.ord i o ho hs),h.body.inj,ht.cells h.body.fD,ht.row h.body.jL,h.body.fd,h.body.fo⟩,fun i hi=>Nat.lt_of_lt_of_le (h.old i hi) ht.size,h.fb⟩,ht.touch (by assumption)⟩
theorem dw.turn_sel(h:dw F base w b e g S)(ht:qb g.fZ w w')(l:List Nat)(hp:PM jf prog 3 w' g.fZ (l.map fun i=>(ru e.all i,some (g.blk i)))):dw F base w' b e g { S with sel:=l }∧Touch F w w':=by
 obtain⟨B,C,D,E,G,H,I,J,K,A⟩:=h.body.distinct;obtain⟨L,M,N,O,R,T⟩:=h.body.fd;exact⟨⟨ht.cells h.blk,h.own,fun k hk=>h.up k (Nat.le_trans ht.size hk),Nat.le_trans h.low ht.size,⟨ht.row h.txt.row,h.txt.own⟩,⟨ht.other h.body.day (by omega),ht.other h.body.qf (by omega),ht.other h.body.ended (by omega),ht.cells h.body.wz,ht.cells h.body.xg,ht.other h.body.aP (by omega),hp,h.body.maps,fun i o ho hs=>ht.cells (h.body.ord i o ho hs),h.body.inj,ht.cells h.body.fD,ht.row h.body.jL,h.body.fd,h.body.fo⟩,fun i hi=>Nat.lt_of_lt_of_le (h.old i hi) ht.size,h.fb⟩,ht.touch (by assumption)⟩
end
theorem bP{V:Type}(f:Nat→Int×V)(l:List Nat)(k:Int):pE (l.map f) k=(l.filter fun i=> !decide ((f i).1=k)).map f:=by
 unfold pE;rw[List.filter_map];rfl
def less(al:List Ord)(l:List Nat)(id:Int):List Nat:=l.filter fun i=> !decide (ru al i=id)
section
variable {F:Nat→Prop} {base:Nat} {w:World} {b q i:Nat} {e:bf} {g:Gh} {S:jk} {o:Ord}
theorem zFm(h:dw F base w b e g S)(ho:OA w q i o)(hr:aD o.id):
 Cl 251 #[iP g.wz,iP q] w fun en w'=>en=rV #[]∧dw F base w' b e g { S with aP:=less e.all S.aP o.id }∧Touch F w w'∧OA w' q i o:=by
 have c0:cI w q 0 o.id:=ho.cell 0;have M:w.cell? (iA g.wz 0)=some (.map (some g.fV)):=by simp[World.cell?,h.body.wz]
 have G:Hd (∀(W:World) (B:TypeId),Same w W→∃w',(Builtin.delete_ #[89,3] B #[.map (some g.fV),iV o.id]).run prog W=.ok (.tuple #[]) w'∧Hd (dw F base w' b e g { S with aP:=less e.all S.aP o.id }∧Touch F w w'∧OA w' q i o)):=by
  intro W B A;have E:=h.keep (by rw[A.heap];exact Nat.le_refl _) (fun k _=>by rw[A.heap]);obtain⟨w',I,C,D⟩:=E.body.aP.del je underlying3 underlying89 (lC hr) B;rw[bP]at C;obtain⟨K,L⟩:=E.turn_buy (qb.of D) (less e.all S.aP o.id) C;exact⟨w',I,K,A.touch.trans L,⟨(qb.of D).cells (ho.same A).blk⟩⟩
 go_enter func251,ntmps251;obtain⟨N,J,H⟩:=G w.drew 0 ((Same.refl w).drew);go_wp2_with fail;go_region_law(fail);all_goals(go_end0;exact⟨rfl,H⟩)
theorem zFn(h:dw F base w b e g S)(ho:OA w (g.blk i) i o)(hr:aD o.id)(hi:ru e.all i=o.id)(hl:S.aP.length≤1000000000):
 Cl 248 #[iP g.wz,iP (g.blk i)] w fun en w'=>en=rV #[]∧dw F base w' b e g { S with aP:=less e.all S.aP o.id++ [i] }∧Touch F w w'∧OA w' (g.blk i) i o:=by
 have c0:cI w (g.blk i) 0 o.id:=ho.cell 0;have M:w.cell? (iA g.wz 0)=some (.map (some g.fV)):=by simp[World.cell?,h.body.wz]
 have G:Hd (∀(W:World),Same w W→∃w',(Instr.mapUpdate 89 (.map (some g.fV)) (iV o.id) (iP (g.blk i))).run prog W=.ok () w'∧Hd (dw F base w' b e g { S with aP:=less e.all S.aP o.id++ [i] }∧Touch F w w'∧OA w' (g.blk i) i o)):=by
  intro W A;have E:=h.keep (by rw[A.heap];exact Nat.le_refl _) (fun k _=>by rw[A.heap]);obtain⟨w',I,C,D⟩:=E.body.aP.put je underlying3 underlying89 (by rw[List.length_map];unfold maxLen;omega) (lC hr) (some (g.blk i));rw[bP]at C;have B:PM jf prog 3 w' g.fV ((less e.all S.aP o.id++ [i]).map fun i=>(ru e.all i,some (g.blk i))):=by
   rw[List.map_append,List.map_singleton,hi];exact C
  obtain⟨K,L⟩:=E.turn_buy (qb.of D) _ B;exact⟨w',I,K,A.touch.trans L,⟨(qb.of D).cells (ho.same A).blk⟩⟩
 go_enter func248,ntmps248;obtain⟨N,J,H⟩:=G w.drew ((Same.refl w).drew);go_wp2_with fail;go_region_law(fail);all_goals(go_end0;exact⟨rfl,H⟩)
theorem zFo(h:dw F base w b e g S)(ho:OA w q i o)(hr:aD o.id):
 Cl 251 #[iP g.xg,iP q] w fun en w'=>en=rV #[]∧dw F base w' b e g { S with sel:=less e.all S.sel o.id }∧Touch F w w'∧OA w' q i o:=by
 have c0:cI w q 0 o.id:=ho.cell 0;have M:w.cell? (iA g.xg 0)=some (.map (some g.fZ)):=by simp[World.cell?,h.body.xg]
 have G:Hd (∀(W:World) (B:TypeId),Same w W→∃w',(Builtin.delete_ #[89,3] B #[.map (some g.fZ),iV o.id]).run prog W=.ok (.tuple #[]) w'∧Hd (dw F base w' b e g { S with sel:=less e.all S.sel o.id }∧Touch F w w'∧OA w' q i o)):=by
  intro W B A;have E:=h.keep (by rw[A.heap];exact Nat.le_refl _) (fun k _=>by rw[A.heap]);obtain⟨w',I,C,D⟩:=E.body.sel.del je underlying3 underlying89 (lC hr) B;rw[bP]at C;obtain⟨K,L⟩:=E.turn_sel (qb.of D) (less e.all S.sel o.id) C;exact⟨w',I,K,A.touch.trans L,⟨(qb.of D).cells (ho.same A).blk⟩⟩
 go_enter func251,ntmps251;obtain⟨N,J,H⟩:=G w.drew 0 ((Same.refl w).drew);go_wp2_with fail;go_region_law(fail);all_goals(go_end0;exact⟨rfl,H⟩)
theorem zFp(h:dw F base w b e g S)(ho:OA w (g.blk i) i o)(hr:aD o.id)(hi:ru e.all i=o.id)(hl:S.sel.length≤1000000000):
 Cl 248 #[iP g.xg,iP (g.blk i)] w fun en w'=>en=rV #[]∧dw F base w' b e g { S with sel:=less e.all S.sel o.id++ [i] }∧Touch F w w'∧OA w' (g.blk i) i o:=by
 have c0:cI w (g.blk i) 0 o.id:=ho.cell 0;have M:w.cell? (iA g.xg 0)=some (.map (some g.fZ)):=by simp[World.cell?,h.body.xg]
 have G:Hd (∀(W:World),Same w W→∃w',(Instr.mapUpdate 89 (.map (some g.fZ)) (iV o.id) (iP (g.blk i))).run prog W=.ok () w'∧Hd (dw F base w' b e g { S with sel:=less e.all S.sel o.id++ [i] }∧Touch F w w'∧OA w' (g.blk i) i o)):=by
  intro W A;have E:=h.keep (by rw[A.heap];exact Nat.le_refl _) (fun k _=>by rw[A.heap]);obtain⟨w',I,C,D⟩:=E.body.sel.put je underlying3 underlying89 (by rw[List.length_map];unfold maxLen;omega) (lC hr) (some (g.blk i));rw[bP]at C;have B:PM jf prog 3 w' g.fZ ((less e.all S.sel o.id++ [i]).map fun i=>(ru e.all i,some (g.blk i))):=by
   rw[List.map_append,List.map_singleton,hi];exact C
  obtain⟨K,L⟩:=E.turn_sel (qb.of D) _ B;exact⟨w',I,K,A.touch.trans L,⟨(qb.of D).cells (ho.same A).blk⟩⟩
 go_enter func248,ntmps248;obtain⟨N,J,H⟩:=G w.drew ((Same.refl w).drew);go_wp2_with fail;go_region_law(fail);all_goals(go_end0;exact⟨rfl,H⟩)
end
theorem dw.same{g:Gh}{S:jk}(h:dw F base w b e g S)(hs:Same w w'):dw F base w' b e g S:=h.keep (by rw[hs.heap];exact Nat.le_refl _) (fun k _=>by rw[hs.heap])
section
variable {F:Nat→Prop} {base:Nat} {w:World} {b q i:Nat} {e:bf} {g:Gh} {S:jk} {o:Ord}
theorem vX(h:dw F base w b e g S)(ho:OA w q i o)(hr:aD o.id)(hL:o.jr=1):
 Cl 130 #[.pointer (some (iA b 8)),iP q] w fun en w'=>en=rV #[]∧dw F base w' b e g { S with day:=less e.all S.day o.id }∧Touch F w w'∧OA w' q i o:=by
 have c0:cI w q 0 o.id:=ho.cell 0;have J:Hd (∀(W:World) (G:TypeId),Same w W→∃w',(Builtin.delete_ #[89,3] G #[.map (some g.aA),iV o.id]).run prog W=.ok (.tuple #[]) w'∧Hd (dw F base w' b e g { S with day:=less e.all S.day o.id }∧Touch F w w'∧OA w' q i o)):=by
  intro W G A;have I:=h.same A;obtain⟨w',E,D,H⟩:=I.body.day.del je underlying3 underlying89 (lC hr) G;rw[bP]at D;obtain⟨R,T⟩:=I.turn_day (qb.of H) (less e.all S.day o.id) D;exact⟨w',E,R,A.touch.trans T,⟨(qb.of H).cells (ho.same A).blk⟩⟩
 have K:Hd (∀W:World,Same w W→Cl 165 #[.pointer (some (iA b 8)),iP q] W fun en w'=>en=.returned (.map (some g.aA))∧cI w' q 0 o.id∧∃B,(Builtin.delete_ #[89,3] 0 #[.map (some g.aA),iV o.id]).run prog w'=.ok (.tuple #[]) B∧Hd (dw F base B b e g { S with day:=less e.all S.day o.id }∧Touch F w B∧OA B q i o)):=by
  intro W A;refine(sN (h.same A) (ho.same A)).mono ?_;rintro en w' ⟨rfl,C⟩;have N:g.home o=g.aA:=if_pos hL;obtain⟨B,E,D⟩:=J w' 0 (A.trans C);exact⟨by rw[N],(ho.same (A.trans C)).cell 0,B,E,D⟩
 go_enter func130,ntmps130;go_wp2_with fail;go_region_with(first|(go_at_call 165;refine(K w.drew ((Same.refl w).drew)).mono ?_;rintro en U ⟨rfl,M,B,O,L⟩));all_goals(go_end0;exact⟨rfl,L⟩)
theorem zFq(h:dw F base w b e g S)(ho:OA w (g.blk i) i o)(hr:aD o.id)(hi:ru e.all i=o.id)(hl:S.day.length≤1000000000)(hL:o.jr=1):
 Cl 127 #[.pointer (some (iA b 8)),iP (g.blk i)] w fun en w'=>en=rV #[]∧dw F base w' b e g { S with day:=less e.all S.day o.id++ [i] }∧Touch F w w'∧OA w' (g.blk i) i o:=by
 have c0:cI w (g.blk i) 0 o.id:=ho.cell 0;have J:Hd (∀(W:World),Same w W→∃w',(Instr.mapUpdate 89 (.map (some g.aA)) (iV o.id) (iP (g.blk i))).run prog W=.ok () w'∧Hd (dw F base w' b e g { S with day:=less e.all S.day o.id++ [i] }∧Touch F w w'∧OA w' (g.blk i) i o)):=by
  intro W A;have I:=h.same A;obtain⟨w',E,D,H⟩:=I.body.day.put je underlying3 underlying89 (by rw[List.length_map];unfold maxLen;omega) (lC hr) (some (g.blk i));rw[bP]at D;have G:PM jf prog 3 w' g.aA ((less e.all S.day o.id++ [i]).map fun i=>(ru e.all i,some (g.blk i))):=by
   rw[List.map_append,List.map_singleton,hi];exact D
  obtain⟨R,T⟩:=I.turn_day (qb.of H) _ G;exact⟨w',E,R,A.touch.trans T,⟨(qb.of H).cells (ho.same A).blk⟩⟩
 have K:Hd (∀W:World,Same w W→Cl 165 #[.pointer (some (iA b 8)),iP (g.blk i)] W fun en w'=>en=.returned (.map (some g.aA))∧cI w' (g.blk i) 0 o.id∧∃B,(Instr.mapUpdate 89 (.map (some g.aA)) (iV o.id) (iP (g.blk i))).run prog w'=.ok () B∧Hd (dw F base B b e g { S with day:=less e.all S.day o.id++ [i] }∧Touch F w B∧OA B (g.blk i) i o)):=by
  intro W A;refine(sN (h.same A) (ho.same A)).mono ?_;rintro en w' ⟨rfl,C⟩;have N:g.home o=g.aA:=if_pos hL;obtain⟨B,E,D⟩:=J w' (A.trans C);exact⟨by rw[N],(ho.same (A.trans C)).cell 0,B,E,D⟩
 go_enter func127,ntmps127;go_wp2_with fail;go_region_with(first|(go_at_call 165;refine(K w.drew ((Same.refl w).drew)).mono ?_;rintro en U ⟨rfl,M,B,O,L⟩));all_goals(go_end0;exact⟨rfl,L⟩)
theorem vY(h:dw F base w b e g S)(ho:OA w q i o)(hr:aD o.id)(hL:¬o.jr=1):
 Cl 130 #[.pointer (some (iA b 8)),iP q] w fun en w'=>en=rV #[]∧dw F base w' b e g { S with qf:=less e.all S.qf o.id }∧Touch F w w'∧OA w' q i o:=by
 have c0:cI w q 0 o.id:=ho.cell 0;have J:Hd (∀(W:World) (G:TypeId),Same w W→∃w',(Builtin.delete_ #[89,3] G #[.map (some g.aT),iV o.id]).run prog W=.ok (.tuple #[]) w'∧Hd (dw F base w' b e g { S with qf:=less e.all S.qf o.id }∧Touch F w w'∧OA w' q i o)):=by
  intro W G A;have I:=h.same A;obtain⟨w',E,D,H⟩:=I.body.qf.del je underlying3 underlying89 (lC hr) G;rw[bP]at D;obtain⟨R,T⟩:=I.turn_oth (qb.of H) (less e.all S.qf o.id) D;exact⟨w',E,R,A.touch.trans T,⟨(qb.of H).cells (ho.same A).blk⟩⟩
 have K:Hd (∀W:World,Same w W→Cl 165 #[.pointer (some (iA b 8)),iP q] W fun en w'=>en=.returned (.map (some g.aT))∧cI w' q 0 o.id∧∃B,(Builtin.delete_ #[89,3] 0 #[.map (some g.aT),iV o.id]).run prog w'=.ok (.tuple #[]) B∧Hd (dw F base B b e g { S with qf:=less e.all S.qf o.id }∧Touch F w B∧OA B q i o)):=by
  intro W A;refine(sN (h.same A) (ho.same A)).mono ?_;rintro en w' ⟨rfl,C⟩;have N:g.home o=g.aT:=if_neg hL;obtain⟨B,E,D⟩:=J w' 0 (A.trans C);exact⟨by rw[N],(ho.same (A.trans C)).cell 0,B,E,D⟩
 go_enter func130,ntmps130;go_wp2_with fail;go_region_with(first|(go_at_call 165;refine(K w.drew ((Same.refl w).drew)).mono ?_;rintro en U ⟨rfl,M,B,O,L⟩));all_goals(go_end0;exact⟨rfl,L⟩)
theorem zFr(h:dw F base w b e g S)(ho:OA w (g.blk i) i o)(hr:aD o.id)(hi:ru e.all i=o.id)(hl:S.qf.length≤1000000000)(hL:¬o.jr=1):
 Cl 127 #[.pointer (some (iA b 8)),iP (g.blk i)] w fun en w'=>en=rV #[]∧dw F base w' b e g { S with qf:=less e.all S.qf o.id++ [i] }∧Touch F w w'∧OA w' (g.blk i) i o:=by
 have c0:cI w (g.blk i) 0 o.id:=ho.cell 0;have J:Hd (∀(W:World),Same w W→∃w',(Instr.mapUpdate 89 (.map (some g.aT)) (iV o.id) (iP (g.blk i))).run prog W=.ok () w'∧Hd (dw F base w' b e g { S with qf:=less e.all S.qf o.id++ [i] }∧Touch F w w'∧OA w' (g.blk i) i o)):=by
  intro W A;have I:=h.same A;obtain⟨w',E,D,H⟩:=I.body.qf.put je underlying3 underlying89 (by rw[List.length_map];unfold maxLen;omega) (lC hr) (some (g.blk i));rw[bP]at D;have G:PM jf prog 3 w' g.aT ((less e.all S.qf o.id++ [i]).map fun i=>(ru e.all i,some (g.blk i))):=by
   rw[List.map_append,List.map_singleton,hi];exact D
  obtain⟨R,T⟩:=I.turn_oth (qb.of H) _ G;exact⟨w',E,R,A.touch.trans T,⟨(qb.of H).cells (ho.same A).blk⟩⟩
 have K:Hd (∀W:World,Same w W→Cl 165 #[.pointer (some (iA b 8)),iP (g.blk i)] W fun en w'=>en=.returned (.map (some g.aT))∧cI w' (g.blk i) 0 o.id∧∃B,(Instr.mapUpdate 89 (.map (some g.aT)) (iV o.id) (iP (g.blk i))).run prog w'=.ok () B∧Hd (dw F base B b e g { S with qf:=less e.all S.qf o.id++ [i] }∧Touch F w B∧OA B (g.blk i) i o)):=by
  intro W A;refine(sN (h.same A) (ho.same A)).mono ?_;rintro en w' ⟨rfl,C⟩;have N:g.home o=g.aT:=if_neg hL;obtain⟨B,E,D⟩:=J w' (A.trans C);exact⟨by rw[N],(ho.same (A.trans C)).cell 0,B,E,D⟩
 go_enter func127,ntmps127;go_wp2_with fail;go_region_with(first|(go_at_call 165;refine(K w.drew ((Same.refl w).drew)).mono ?_;rintro en U ⟨rfl,M,B,O,L⟩));all_goals(go_end0;exact⟨rfl,L⟩)
end
end
end Go.Proofs.YtehmdohpmpbnnaaGreatDoor
