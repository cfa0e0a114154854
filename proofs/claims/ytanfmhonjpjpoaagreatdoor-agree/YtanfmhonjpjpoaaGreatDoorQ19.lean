import Derived.Test.YtanfmhonjpjpoaaGreatDoorQ00
import Derived.Test.YtanfmhonjpjpoaaGreatDoorQ02
import Derived.Test.YtanfmhonjpjpoaaGreatDoorQ07
import Derived.Test.YtanfmhonjpjpoaaGreatDoorQ17
import Derived.Test.YtanfmhonjpjpoaaGreatDoorQ18
set_option linter.all false
set_option maxRecDepth 100000
set_option maxHeartbeats 8000000
namespace Go.Proofs.YtanfmhonjpjpoaaGreatDoor
variable{w w':World}{i q b base m:Nat}{F:Nat→Prop}{e:Eng}{P:Program}{c:Array Value}{f:Nat×Nat}
section
open Go.Extern Go.RowKit
structure Gh where
 blk:Nat→Nat
 dayM:Nat
 othM:Nat
 endM:Nat
 buyB:Nat
 buyM:Nat
 selB:Nat
 selM:Nat
 drwB:Nat
 txt:Value
 dls:Value
structure Sets where
 day:List Nat
 oth:List Nat
 ended:List Nat
 buy:List Nat
 sel:List Nat
def Ord.code(i:Nat)(o:Ord):Array Value:=#[iV o.id,iV o.side,iV o.typ,iV o.price,iV o.qty,iV o.peak,iV o.off,iV o.life,iV o.time,iV (i:Int),iV o.filled,iV o.shown,iV o.stamp]
def Ord.state(o:Ord):List Int:=[o.id,o.status,o.price,o.opn,o.filled,o.cancelled,o.shown]
def idAt(al:List Ord)(i:Nat):Int:=match al[i]? with|some o=>o.id|none=>0
def stAt(al:List Ord)(i:Nat):List Int:=match al[i]? with|some o=>o.state|none=> []
def codCells(e:Eng)(g:Gh):Array Value:=#[iV e.mo,iV e.mp,iV e.mq,.iface 65 (iP g.drwB),iV e.now,.string ⟨e.rest.toArray⟩,iV (e.seq:Int),g.txt,.map (some g.dayM),.map (some g.othM),.map (some g.endM),.iface 214 (iP g.buyB),.iface 220 (iP g.selB),iV (e.stamp:Int),iV e.worth,iV e.volume]
structure CBody(F:Nat→Prop)(base:Nat)(w:World)(al:List Ord)(draws:List Int)(drawn:Nat)(g:Gh)(S:Sets):Prop where
 day:PM ptrElem Tryz.prog 3 w g.dayM (S.day.map fun i=>(idAt al i,some (g.blk i)))
 oth:PM ptrElem Tryz.prog 3 w g.othM (S.oth.map fun i=>(idAt al i,some (g.blk i)))
 ended:PM aggElem Tryz.prog 3 w g.endM (S.ended.map fun i=>(idAt al i,stAt al i))
 buyB:w.heap[g.buyB]? =some (.cells #[.map (some g.buyM)] 219 (0,0))
 selB:w.heap[g.selB]? =some (.cells #[.map (some g.selM)] 221 (0,0))
 buy:PM ptrElem Tryz.prog 3 w g.buyM (S.buy.map fun i=>(idAt al i,some (g.blk i)))
 sel:PM ptrElem Tryz.prog 3 w g.selM (S.sel.map fun i=>(idAt al i,some (g.blk i)))
 maps:[g.dayM,g.othM,g.endM,g.buyM,g.selM].Nodup
 ord: ∀(i:Nat) (o:Ord),al[i]? =some o→o.status=1→w.heap[g.blk i]? =some (.cells (o.code i) 234 (0,0))
 inj: ∀(i j:Nat),i<al.length→j<al.length→g.blk i=g.blk j→i=j
 drw:w.heap[g.drwB]? =some (.cells #[g.dls,iV (drawn:Int)] 94 (0,0))
 dls:w.ownsRow base 3 1 g.dls draws.length (draws.map (iV))
 fd:F g.dayM∧F g.othM∧F g.endM∧F g.buyM∧F g.selM∧F g.drwB
 fo: ∀i,i<al.length→F (g.blk i)
structure CRep(F:Nat→Prop)(base:Nat)(w:World)(b:Nat)(e:Eng)(g:Gh)(S:Sets):Prop where
 blk:w.heap[b]? =some (.cells (codCells e g) 117 (0,0))
 own:F b
 up: ∀k,w.heap.size≤k→F k
 low:base≤w.heap.size
 txt:TX F base w g.txt e.out
 body:CBody F base w e.all e.draws e.drawn g S
 old: ∀i,i<e.all.length→g.blk i<w.heap.size
 fb:F g.buyB∧F g.selB∧∀q,g.dls.ownBlock=some q→F q
theorem PM.is_map{V:Type}{E:Elem V}{K:TypeId}{l:List (Int×V)}(h:PM E P K w b l): ∃es c,w.heap[b]? =some (.map es c):=by
 obtain⟨es,⟨es',clock,h1,h3⟩,h2⟩:=h;exact⟨es',clock,h1⟩
theorem CBody.keep{al:List Ord}{draws:List Int}{drawn:Nat}{g:Gh}{S:Sets}(h:CBody F base w al draws drawn g S)
 (hk: ∀k,k<w.heap.size→(∀c f,w.heap[k]? ≠some (.cells c 5 f))→(∀c f,w.heap[k]? ≠some (.cells c 117 f))→w'.heap[k]? =w.heap[k]?):CBody F base w' al draws drawn g S:=by
 have lt: ∀{k:Nat} {o:Obj},w.heap[k]? =some o→k<w.heap.size:=fun hq=>(Array.getElem?_eq_some_iff.1 hq).1
 have hm: ∀{V:Type} {E:Elem V} {b:Nat} {l:List (Int×V)},PM E Tryz.prog 3 w b l→PM E Tryz.prog 3 w' b l:=by
  intro V E b l hp;obtain⟨es,c,hq⟩:=hp.is_map;exact hp.of_block (hk b (lt hq) (fun c f e=>by rw[hq]at e;cases e) (fun c f e=>by rw[hq]at e;cases e))
 have hc: ∀{k:Nat} {c:Array Value} {t:TypeId} {f:Nat×Nat},w.heap[k]? =some (.cells c t f)→t≠5→t≠117→w'.heap[k]? =some (.cells c t f):=by
  intro k c t f hq h1 h2;rw[hk k (lt hq) (fun c f e=>by rw[hq]at e;injection e with e;injection e with _ e _;exact h1 e) (fun c f e=>by rw[hq]at e;injection e with e;injection e with _ e _;exact h2 e)];exact hq
 refine⟨hm h.day,hm h.oth,hm h.ended,hc h.buyB (by decide) (by decide),hc h.selB (by decide) (by decide),hm h.buy,hm h.sel,h.maps,fun i o ho hs=>hc (h.ord i o ho hs) (by decide) (by decide),h.inj,hc h.drw (by decide) (by decide),⟨h.dls.1,?_⟩,h.fd,h.fo⟩;rcases h.dls.2 with h2|⟨g',cap,cur,hv,hg,hh,r⟩
 ·exact .inl h2
 ·exact .inr ⟨g',cap,cur,hv,hg,hc hh (by decide) (by decide),r⟩
namespace CRep
variable {F:Nat→Prop} {base:Nat} {w w':World} {b:Nat} {e:Eng} {g:Gh} {S:Sets}
theorem lt(h:CRep F base w b e g S):b<w.heap.size:=(Array.getElem?_eq_some_iff.1 h.blk).1
theorem cell(h:CRep F base w b e g S)(j:Nat):w.cell? (iA b j)=(codCells e g)[j]? :=by simp[World.cell?,h.blk]
theorem froz(h:CRep F base w b e g S)(j:Nat):w.frozen? (iA b j)=false:=by simp[World.frozen?,h.blk]
theorem keep(h:CRep F base w b e g S)(hs:w.heap.size≤w'.heap.size)(hk: ∀k,k<w.heap.size→w'.heap[k]? =w.heap[k]?):CRep F base w' b e g S:=
 ⟨(hk b h.lt).trans h.blk,h.own,fun k hk'=>h.up k (Nat.le_trans hs hk'),Nat.le_trans h.low hs,⟨zCs h.txt.row hk,h.txt.own⟩,h.body.keep fun k h1 _ _=>hk k h1,fun i hi=>Nat.lt_of_lt_of_le (h.old i hi) hs,h.fb⟩
theorem alloc(h:CRep F base w b e g S)(o:Obj):CRep F base (w.alloc o) b e g S:=h.keep (by simp) (fun k hk=>Below.heap_alloc w o k hk)
theorem drewN(h:CRep F base w b e g S)(n:Nat):CRep F base (w.drewN n) b e g S:=h.keep (Nat.le_refl _) (fun k hk=>rfl)
theorem drew(h:CRep F base w b e g S):CRep F base w.drew b e g S:=h.keep (Nat.le_refl _) (fun k hk=>rfl)
theorem txt_ne(h:CRep F base w b e g S){k:Nat}{t:TypeId}(hq:w.heap[k]? =some (.cells c t f))(ht:t≠5):g.txt.ownBlock≠some k:=by
 intro hc;rcases h.txt.row.2 with h2|⟨g',cap,cur,hv,hg,hh,r⟩
 ·rw[h2.1]at hc;exact absurd hc (by simp[Value.ownBlock])
 ·rw[hv]at hc;have:g'=k:=by simpa [Value.ownBlock] using hc
  subst this;rw[hh]at hq;injection hq with hq;injection hq with _ hq _;exact ht hq.symm
theorem set(h:CRep F base w b e g S)(j:Nat)(u:Value)(e':Eng)(hc:(codCells e g).setIfInBounds j u=codCells e' g)(hd:e'.draws=e.draws)(hn:e'.drawn=e.drawn)(ha:e'.all=e.all)(ho:e'.out=e.out):CRep F base (w.setCell (iA b j) u) b e' g S:=by
 have hb:=zA7 w b j u _ _ _ h.blk;have oth: ∀k,k≠b→(w.setCell (iA b j) u).heap[k]? =w.heap[k]? :=fun k hk=>Below.heap_setCell _ _ _ _ hk
 refine⟨by rw[hb,hc],h.own,fun k hk=>h.up k (by simpa using hk),by simpa using h.low,?_,?_,fun i hi=>by rw[ha]at hi;simpa using h.old i hi,h.fb⟩
 ·rw[ho];refine⟨⟨h.txt.row.1,?_⟩,h.txt.own⟩;rcases h.txt.row.2 with h2|⟨g',cap,cur,hv,hg,hh,r⟩
  ·exact .inl h2
  ·refine .inr ⟨g',cap,cur,hv,hg,?_,r⟩;rw[oth g' (fun e1=>h.txt_ne h.blk (by decide) (by rw[hv,←e1];rfl))];exact hh
 ·rw[ha,hd,hn];exact h.body.keep fun k hk h1 h2=>oth k (fun e1=>h2 _ _ (e1▸h.blk))
theorem retext(h:CRep F base w b e g S){w2:World}{t:Value}{l:List UInt8}(hT:Touch (fun k=>g.txt.ownBlock=some k∨w.heap.size≤k) w w2)(hX:TX (fun k=>g.txt.ownBlock=some k∨w.heap.size≤k) base w2 t l):CRep F base (w2.setCell (iA b 7) t) b { e with out:=l } { g with txt:=t } S∧Touch F w (w2.setCell (iA b 7) t):=by
 have hne:=h.txt_ne h.blk (by decide);have hb2:=(hT.block b h.lt (fun hc=>by rcases hc with hc|hc;exact hne hc;have:=h.lt;omega)).trans h.blk;have hFF: ∀k,(g.txt.ownBlock=some k∨w.heap.size≤k)→F k:=fun k hk=>hk.elim (h.txt.own k) (h.up k)
 have hb:=zA7 w2 b 7 t _ _ _ hb2;have oth: ∀k,k≠b→(w2.setCell (iA b 7) t).heap[k]? =w2.heap[k]? :=fun k hk=>Below.heap_setCell _ _ _ _ hk
 have htb:t.ownBlock≠some b:=fun hc=>by
  rcases hX.own b hc with h1|h1
  ·exact hne h1
  ·have:=h.lt;omega
 refine⟨⟨by rw[hb];rfl,h.own,fun k hk=>h.up k (by have:=hT.size;simp at hk;omega),by have:=hT.size;have:=h.low;simp;omega,⟨⟨hX.row.1,?_⟩,fun q hq=>hFF q (hX.own q hq)⟩,?_,fun i hi=>by have h1:=h.old i hi;have h2:=hT.size;show g.blk i<_;simp;omega,h.fb⟩,?_⟩
 ·rcases hX.row.2 with h2|⟨g',cap,cur,hv,hg,hh,r⟩
  ·exact .inl h2
  ·refine .inr ⟨g',cap,cur,hv,hg,?_,r⟩;rw[oth g' (fun e1=>htb (by rw[hv,←e1];rfl))];exact hh
 ·have hB:=h.body.keep (w':=w2.setCell (iA b 7) t) fun k hk h1 h2=>by
   rw[oth k (fun e1=>h2 _ _ (e1▸h.blk))];refine hT.block k hk (fun hc=>?_);rcases hc with hc|hc
   ·rcases h.txt.row.2 with h3|⟨g',cap,cur,hv,hg,hh,r⟩
    ·rw[h3.1]at hc;exact absurd hc (by simp[Value.ownBlock])
    ·rw[hv]at hc;have:g'=k:=by simpa [Value.ownBlock] using hc
     subst this;exact h1 _ _ hh
   ·omega
  exact⟨hB.day,hB.oth,hB.ended,hB.buyB,hB.selB,hB.buy,hB.sel,hB.maps,hB.ord,hB.inj,hB.drw,hB.dls,hB.fd,hB.fo⟩
 ·have hT':Touch F w w2:=⟨hT.os,hT.tape,hT.output,hT.size,fun k hk hf=>hT.block k hk (fun hc=>hf (hFF k hc))⟩;exact hT'.set b _ _ h.own
end CRep
theorem zB4{g:Gh}{S:Sets}(k s i o p q r:Int)(h:CRep F base w b e g S)(hq:e.seq<4611686018427387904)(hl:e.out.length≤70368744177642)
 (hr:r63 k∧r63 i∧r63 o∧r63 p∧r63 q∧r63 r):
 Cl 116 #[.pointer (some (iA b 6)),recV k s i o p q r] w fun en w'=>en=rV #[]∧∃t,CRep F base w' b (e.tell k i o p q r) { g with txt:=t } S∧Touch F w w':=by
 have HR:=hid h;have c6:w.cell? (iA b 6)=sI (e.seq:Int):=h.cell 6;have c7:w.cell? (iA b 7)=some g.txt:=h.cell 7;have f6:=h.froz 6;have f7:=h.froz 7;have hbl:=h.lt;have hbn:b≠w.heap.size:=Nat.ne_of_lt hbl;have hw1:wrap64 ((e.seq:Int)+1)=(e.seq:Int)+1:=by unfold wrap64;omega
 have HRR:=hid hr;clear h hr;unfold recV;go_enter Tryz.func116,Tryz.ntmps116;go_wp2_with fail;have hC0:CRep F base (w.setCell (iA b 6) (iV ((e.seq:Int)+1))) b { e with seq:=e.seq+1 } g S:=HR.set 6 _ { e with seq:=e.seq+1 } (by simp[codCells]) rfl rfl rfl rfl;have hT0:Touch F w (w.setCell (iA b 6) (iV ((e.seq:Int)+1))):=(Touch.refl F w).set b _ _ HR.own;have hz0:(w.setCell (iA b 6) (iV ((e.seq:Int)+1))).heap.size=w.heap.size:=by simp
 clear c6 c7 f6 f7;generalize w.setCell (iA b 6) (iV ((e.seq:Int)+1))=W at *;have HC1:=hid (hC0.alloc (.cells #[iV k,iV ((e.seq:Int)+1),iV i,iV o,iV p,iV q,iV r] 73));have HT1:=hid (hT0.alloc (.cells #[iV k,iV ((e.seq:Int)+1),iV i,iV o,iV p,iV q,iV r] 73));have hb1:=heap_alloc_new W (.cells #[iV k,iV ((e.seq:Int)+1),iV i,iV o,iV p,iV q,iV r] 73);rw[hz0]at hb1;clear hC0 hT0 hz0;generalize W.alloc (.cells #[iV k,iV ((e.seq:Int)+1),iV i,iV o,iV p,iV q,iV r] 73)=W1 at *;have r0:W1.cell? (iA w.heap.size 0)=sI k:=by simp[World.cell?,hb1]
 have r1:W1.cell? (iA w.heap.size 1)=sI ((e.seq:Int)+1):=by simp[World.cell?,hb1]
 have r2:W1.cell? (iA w.heap.size 2)=sI i:=by simp[World.cell?,hb1]
 have r3:W1.cell? (iA w.heap.size 3)=sI o:=by simp[World.cell?,hb1]
 have r4:W1.cell? (iA w.heap.size 4)=sI p:=by simp[World.cell?,hb1]
 have r5:W1.cell? (iA w.heap.size 5)=sI q:=by simp[World.cell?,hb1]
 have r6:W1.cell? (iA w.heap.size 6)=sI r:=by simp[World.cell?,hb1]
 have c7:W1.cell? (iA b 7)=some g.txt:=HC1.cell 7;have HAP:Hid (∀X:World,X.heap=W1.heap→X.os=W1.os→X.tape=W1.tape→X.output=W1.output→Cl 149 #[g.txt,.agg #[iV k,iV ((e.seq:Int)+1),iV i,iV o,iV p,iV q,iV r]] X fun en w'=> ∃g' n cap,en=.returned (sL g' n cap)∧w'.cell? (iA b 7)=some g.txt∧w'.frozen? (iA b 7)=false∧Hid (CRep F base (w'.setCell (iA b 7) (sL g' n cap)) b (e.tell k i o p q r) { g with txt:=sL g' n cap } S∧Touch F w (w'.setCell (iA b 7) (sL g' n cap)))):=by
  intro X hX x1 x2 x3;have hCX:CRep F base X b { e with seq:=e.seq+1 } g S:=HC1.keep (by rw[hX];exact Nat.le_refl _) (fun k _=>by rw[hX]);have hTX:Touch F w X:=⟨x1.trans HT1.os,x2.trans HT1.tape,x3.trans HT1.output,by rw[hX];exact HT1.size,fun k h1 h2=>by rw[hX];exact HT1.block k h1 h2⟩;refine(zM1 (F:=fun k=>g.txt.ownBlock=some k∨X.heap.size≤k) base g.txt e.out k ((e.seq:Int)+1) i o p q r X hl hCX.low (fun k hk=>.inr hk) ⟨hCX.txt.row,fun q hq=>.inl hq⟩ ⟨HRR.1,⟨by omega,by omega⟩,HRR.2⟩).mono ?_;rintro en w2 ⟨t,rfl,ht,hu⟩;have hne:=hCX.txt_ne hCX.blk (by decide);have hb2:w2.heap[b]? =some (.cells (codCells { e with seq:=e.seq+1 } g) 117 (0,0)):=(hu.block b hCX.lt (fun hc=>by rcases hc with hc|hc;exact hne hc;have:=hCX.lt;omega)).trans hCX.blk;obtain⟨g',n,cap,rfl⟩: ∃g' n cap,t=sL g' n cap:=by
   rcases ht.row.2 with⟨_,h0⟩|⟨g',cap,cur,hv,_⟩
   ·rw[List.length_append,Eng.recB_length]at h0;omega
   ·exact⟨g',_,cap,hv⟩
  obtain⟨q1,q2⟩:=hCX.retext hu ht;exact⟨g',n,cap,rfl,by simp[World.cell?,hb2,codCells],by simp[World.frozen?,hb2],q1,hTX.trans q2⟩
 clear hb1;go_region_with(first|(go_at_call 149;refine(HAP.out W1.drew rfl rfl rfl rfl).mono ?_;rintro en w2 ⟨g',n',cap',rfl,c7',f7',HZ⟩));all_goals(go_end0;exact⟨rfl,_,HZ.1,HZ.2⟩)
theorem zM5{g:Gh}{S:Sets}(id reason:Int)(h:CRep F base w b e g S)(hq:e.seq<4611686018427387904)(hl:e.out.length≤70368744177642)(h1:r63 id)(h2:r63 reason):
 Cl 72 #[iP b,iV id,iV reason] w fun en w'=>en=rV #[]∧∃t,CRep F base w' b (e.reject id reason) { g with txt:=t } S∧Touch F w w':=by
 have HR:=hid h;have z:r63 0:=⟨by omega,by omega⟩;have HTL:=hid (zB4 2 0 id 0 0 0 reason h hq hl ⟨⟨by omega,by omega⟩,h1,z,z,z,h2⟩);unfold recV at HTL;go_enter Tryz.func72,Tryz.ntmps72;go_wp2_with fail;refine HTL.mono ?_;rintro en w2 ⟨rfl,HZ⟩;have HZ:=hid HZ;go_wp2;go_end0;exact⟨rfl,HZ⟩
structure OA(w:World)(q:Nat)(i:Nat)(o:Ord):Prop where
 blk:w.heap[q]? =some (.cells (o.code i) 234 (0,0))
theorem OA.cell{o:Ord}(h:OA w q i o)(j:Nat):w.cell? (iA q j)=(o.code i)[j]? :=by simp[World.cell?,h.blk]
theorem OA.froz{o:Ord}(h:OA w q i o)(j:Nat):w.frozen? (iA q j)=false:=by simp[World.frozen?,h.blk]
theorem OA.lt{o:Ord}(h:OA w q i o):q<w.heap.size:=(Array.getElem?_eq_some_iff.1 h.blk).1
theorem CRep.oa{g:Gh}{S:Sets}(h:CRep F base w b e g S){o:Ord}(ho:e.all[i]? =some o)(hs:o.status=1):OA w (g.blk i) i o:=⟨h.body.ord i o ho hs⟩
theorem zAi{o:Ord}(h:OA w q i o)(hr:r63 (o.qty - o.filled)):
 Cl 124 #[iP q] w fun en w'=>en=.returned (iV (o.qty - o.filled))∧Same w w':=by
 have c4:cI w q 4 o.qty:=h.cell 4;have c10:cI w q 10 o.filled:=h.cell 10;have hw:=zA8 _ hr.1 hr.2;have hw':wrap64 (o.qty - o.filled)=o.qty - o.filled:=by unfold wrap64;obtain⟨h1,h2⟩:=hr;omega
 go_enter Tryz.func124,Tryz.ntmps124;go_wp2_with fail;go_quiet (fail);go_wp2;go_ret;exact⟨rfl,(Same.refl w).drewN nq⟩
def Ord.isThere(o:Ord):Bool:=if o.typ=3 then !(o.price == 0) else decide (0<o.shown)
theorem zGw{o:Ord}(h:OA w q i o):
 Cl 208 #[iP q] w fun en w'=>en=.returned (.bool o.isThere)∧Same w w':=by
 have c2:cI w q 2 o.typ:=h.cell 2;have c3:cI w q 3 o.price:=h.cell 3;have c11:cI w q 11 o.shown:=h.cell 11;cases q1:(o.typ == 3)
 ·have HE:Hid (o.isThere=decide (0<o.shown)):=if_neg (by simpa using q1);go_enter Tryz.func208,Tryz.ntmps208;go_wp2;go_ret;exact⟨by rw[HE.out];rfl,Same.refl w⟩
 ·have HE:Hid (o.isThere= !(o.price == 0)):=if_pos (by simpa using q1);go_enter Tryz.func208,Tryz.ntmps208;go_wp2;go_ret;exact⟨by rw[HE.out];first|rfl|simp[bne],Same.refl w⟩
theorem zGx(n a c:Int):
 Cl 145 #[iV n,iV a,iV c] w fun en w'=>en=.returned (.bool (Eng.inn n a c))∧Same w w':=by
 unfold Eng.inn;by_cases h1:a≤n
 ·go_enter Tryz.func145,Tryz.ntmps145;have h1b:decide (a≤n)=true:=by simpa using h1
  go_wp2;go_ret;exact⟨by simp[h1],Same.refl w⟩
 ·go_enter Tryz.func145,Tryz.ntmps145;have h1b:decide (a≤n)=false:=by simpa using h1
  go_wp2;go_ret;exact⟨by simp[h1],Same.refl w⟩
theorem OA.same{o:Ord}(h:OA w q i o)(hs:Same w w'):OA w' q i o:=⟨by rw[hs.heap];exact h.blk⟩
theorem OA.of_heap{o:Ord}(h:OA w q i o)(hs:w'.heap=w.heap):OA w' q i o:=⟨by rw[hs];exact h.blk⟩
theorem zGy(a b c:Int):
 Cl 106 #[.agg #[iV a,iV b,iV c]] w fun en w'=>en=.returned (.bool (Eng.inn a 1 64 && Eng.inn b 1 1000000 && Eng.inn c 1 1000))∧Below w.heap.size w w':=by
 have HW:Hid (∀(W:World) (n a c:Int),Cl 145 #[iV n,iV a,iV c] W fun en w'=>en=.returned (.bool (Eng.inn n a c))∧Same W w'):=fun W n a c=>zGx n a c
 go_enter Tryz.func106,Tryz.ntmps106;go_wp2_with fail;have HB1:=hid ((Below.refl w.heap.size w).alloc (Nat.le_refl _) (.cells #[iV a,iV b,iV c] 59));have hb1:=heap_alloc_new w (.cells #[iV a,iV b,iV c] 59);generalize w.alloc (.cells #[iV a,iV b,iV c] 59)=W at *;have r1:W.cell? (iA w.heap.size 1)=sI b:=by simp[World.cell?,hb1]
 have r2:W.cell? (iA w.heap.size 2)=sI c:=by simp[World.cell?,hb1]
 clear hb1;refine(HW.out W a 1 64).mono ?_;rintro en w2 ⟨rfl,hs⟩;have r1:w2.cell? (iA w.heap.size 1)=sI b:=by rw[←r1];simp[World.cell?,hs.heap]
 have r2:w2.cell? (iA w.heap.size 2)=sI c:=by rw[←r2];simp[World.cell?,hs.heap]
 have HB2:Hid (Below w.heap.size w w2):=⟨hs.os.trans HB1.os,hs.tape.trans HB1.tape,hs.output.trans HB1.output,by rw[hs.heap];exact HB1.size,fun k hk=>by rw[hs.heap];exact HB1.block k hk⟩;clear hs;cases q1:Eng.inn a 1 64
 ·go_wp2;go_ret;exact⟨by simp[q1],HB2.out⟩
 go_wp2_with fail;refine(HW.out w2 b 1 1000000).mono ?_;rintro en w3 ⟨rfl,hs⟩;have r2:w3.cell? (iA w.heap.size 2)=sI c:=by rw[←r2];simp[World.cell?,hs.heap]
 have HB3:Hid (Below w.heap.size w w3):=⟨hs.os.trans HB2.os,hs.tape.trans HB2.tape,hs.output.trans HB2.output,by rw[hs.heap];exact HB2.size,fun k hk=>by rw[hs.heap];exact HB2.block k hk⟩;clear hs;cases q2:Eng.inn b 1 1000000
 ·go_wp2;go_ret;exact⟨by simp[q2],HB3.out⟩
 go_wp2_with fail;refine(HW.out w3 c 1 1000).mono ?_;rintro en w4 ⟨rfl,hs⟩;have HB4:Hid (Below w.heap.size w w4):=⟨hs.os.trans HB3.os,hs.tape.trans HB3.tape,hs.output.trans HB3.output,by rw[hs.heap];exact HB3.size,fun k hk=>by rw[hs.heap];exact HB3.block k hk⟩;clear hs;go_wp2;go_ret;exact⟨by simp[q1,q2],HB4.out⟩
theorem zGz{o:Ord}(h:OA w q i o)(hr:r63 (o.qty - o.filled))(ho:o.opn=o.qty - o.filled):
 Cl 204 #[iP q] w fun en w'=>en=.returned (iV (Eng.atRest o))∧Same w w':=by
 have HO:=hid h;have HRR:=hid hr;have HOP:=hid ho;have c2:cI w q 2 o.typ:=h.cell 2;have c5:cI w q 5 o.peak:=h.cell 5;have HCO:Hid (∀W:World,W.heap=w.heap→Cl 124 #[iP q] W fun en w'=>en=.returned (iV (o.qty - o.filled))∧Same W w'):=fun W hW=>zAi (h.of_heap hW) hr
 cases q2:(o.typ == 2)
 ·have HE:Hid (Eng.atRest o=o.qty - o.filled):=by
   show _=_;unfold Eng.atRest;rw[if_neg (fun hc=>by simp[hc.1]at q2),HOP.out]
  go_enter Tryz.func204,Tryz.ntmps204;go_wp2_with fail;refine(HCO w rfl).mono ?_;rintro en w2 ⟨rfl,hs⟩;have HS:=hid hs;go_wp2;go_ret;exact⟨by rw[HE.out];rfl,HS⟩
 ·have HCP:Hid (∀W:World,W.heap=w.heap→W.os=w.os→W.tape=w.tape→W.output=w.output→Cl 124 #[iP q] W fun en w'=>en=.returned (iV (o.qty - o.filled))∧cI w' q 5 o.peak∧Hid (Same w w')):=by
   intro W h1 h2 h3 h4;refine(HCO W h1).mono ?_;rintro en w' ⟨rfl,hs⟩;have hw:Same w W:=⟨h1,h2,h3,h4⟩;exact⟨rfl,((HO.same hw).same hs).cell 5,hw.trans hs⟩
  go_enter Tryz.func204,Tryz.ntmps204;go_wp2_with fail;have HE:Hid ((if o.peak<o.qty - o.filled then o.peak else o.qty - o.filled)=Eng.atRest o):=by
   show _=_;unfold Eng.atRest;have h2:o.typ=2:=by simpa using q2
   rw[HOP.out];simp[h2]
  go_region_with(first|(go_at_call 124;refine(HCP w.drew rfl rfl rfl rfl).mono ?_;rintro en w2 ⟨rfl,c5',HZ⟩));all_goals(simp only[HE.out];clear c2 c5 c5';go_wp2;go_ret;exact⟨rfl,HZ⟩)
theorem zM6(a b:Int):Cl 267 #[iV a,iV b] w fun en w'=>en=.returned (.bool (decide (b<a)))∧Same w w':=by
 go_enter Tryz.func267,Tryz.ntmps267;go_wp2;go_ret;exact⟨rfl,Same.refl w⟩
theorem zM7(a b:Int):Cl 271 #[iV a,iV b] w fun en w'=>en=.returned (.bool (decide (a<b)))∧Same w w':=by
 go_enter Tryz.func271,Tryz.ntmps271;go_wp2;go_ret;exact⟨rfl,Same.refl w⟩
def termsV(v:Nat→Int):Value:=.agg #[iV (v 0),iV (v 1),iV (v 2),iV (v 3),iV (v 4),iV (v 5),iV (v 6),iV (v 7),iV (v 8)]
theorem zH{o:Ord}(v:Nat→Int)(h:OA w q i o):
 Cl 158 #[iP q,termsV v] w fun en w'=>en=.returned (.bool (decide (v 4≤o.qty) && (o.typ == 3 || v 3 == o.price)))∧Below w.heap.size w w':=by
 have c2:w.cell? (iA q 2)=sI o.typ:=h.cell 2;have c3:w.cell? (iA q 3)=sI o.price:=h.cell 3;have c4:w.cell? (iA q 4)=sI o.qty:=h.cell 4;have hql:=h.lt;have hqn:q≠w.heap.size:=Nat.ne_of_lt hql;have HO:=hid h;clear h;unfold termsV;cases q2:(o.typ == 3)<;>cases q3:(v 3 == o.price)<;>cases q4:decide (v 4≤o.qty);all_goals(
  go_enter Tryz.func158,Tryz.ntmps158;go_wp2_with fail;have HB1:=hid ((Below.refl w.heap.size w).alloc (Nat.le_refl _) (.cells #[iV (v 0),iV (v 1),iV (v 2),iV (v 3),iV (v 4),iV (v 5),iV (v 6),iV (v 7),iV (v 8)] 100));have hb1:=heap_alloc_new w (.cells #[iV (v 0),iV (v 1),iV (v 2),iV (v 3),iV (v 4),iV (v 5),iV (v 6),iV (v 7),iV (v 8)] 100);have hoa:OA (w.alloc (.cells #[iV (v 0),iV (v 1),iV (v 2),iV (v 3),iV (v 4),iV (v 5),iV (v 6),iV (v 7),iV (v 8)] 100)) q i o:=⟨by rw[Below.heap_alloc _ _ _ hql];exact HO.blk⟩;generalize w.alloc (.cells #[iV (v 0),iV (v 1),iV (v 2),iV (v 3),iV (v 4),iV (v 5),iV (v 6),iV (v 7),iV (v 8)] 100)=W at *;have r3:W.cell? (iA w.heap.size 3)=sI (v 3):=by simp[World.cell?,hb1]
  have r4:W.cell? (iA w.heap.size 4)=sI (v 4):=by simp[World.cell?,hb1]
  have d2:W.cell? (iA q 2)=sI o.typ:=hoa.cell 2;have d3:W.cell? (iA q 3)=sI o.price:=hoa.cell 3;have d4:W.cell? (iA q 4)=sI o.qty:=hoa.cell 4;clear hb1 hoa c2 c3 c4;go_quiet (fail);go_wp2_with fail)
 all_goals(go_ret;exact⟨rfl,⟨HB1.os,HB1.tape,HB1.output,HB1.size,HB1.block⟩⟩)
def Ord.left(o:Ord):Int:=if o.typ=2 then(if o.qty - o.filled<o.shown then o.qty - o.filled else o.shown) else if o.isThere=true then o.qty - o.filled else o.shown
theorem zH0{o:Ord}(h:OA w q i o)(hr:r63 (o.qty - o.filled)):
 Cl 160 #[iP q] w fun en w'=>en=rV #[]∧∃W,Same w W∧(w'=W.setCell (iA q 11) (iV o.left)∨(o.left=o.shown∧w'=W)):=by
 have HO:=hid h;have c2:cI w q 2 o.typ:=h.cell 2;have c11:cI w q 11 o.shown:=h.cell 11;have f11:=h.froz 11;have HCP:Hid (∀W:World,Same w W→Cl 124 #[iP q] W fun en w'=>en=.returned (iV (o.qty - o.filled))∧cI w' q 11 o.shown∧w'.frozen? (iA q 11)=false∧Hid (Same w w')):=by
  intro W hw;refine(zAi (h.same hw) hr).mono ?_;rintro en w' ⟨rfl,hs⟩;exact⟨rfl,((HO.same hw).same hs).cell 11,((HO.same hw).same hs).froz 11,hw.trans hs⟩
 have HRS:=hid (zGw h);cases q1:(o.typ == 2)
 ·have HT:Hid (¬o.typ=2):=by show¬o.typ=2;simpa using q1
  go_enter Tryz.func160,Tryz.ntmps160;go_wp2_with fail;refine HRS.mono ?_;rintro en w2 ⟨rfl,hs⟩;have d11:cI w2 q 11 o.shown:=(HO.same hs).cell 11;have g11:=(HO.same hs).froz 11;have HS:=hid hs;cases q3:o.isThere
  ·have HE:Hid (o.left=o.shown):=by show _=_;unfold Ord.left;rw[if_neg HT.out,if_neg (by simp[q3])]
   go_wp2;go_end0;exact⟨rfl,w2,HS,.inr ⟨HE,rfl⟩⟩
  ·have HE:Hid (o.left=o.qty - o.filled):=by show _=_;unfold Ord.left;rw[if_neg HT.out,if_pos q3]
   go_wp2_with fail;refine(HCP w2 HS).mono ?_;rintro en w3 ⟨rfl,c11',f11',HZ⟩;go_wp2;go_end0;exact⟨rfl,w3,HZ,.inl (by rw[HE.out])⟩
 ·have HE:Hid (o.left=if o.qty - o.filled<o.shown then o.qty - o.filled else o.shown):=by show _=_;unfold Ord.left;rw[if_pos (by simpa using q1)]
  go_enter Tryz.func160,Tryz.ntmps160;go_wp2_with fail;go_region_with(first|(go_at_call 124;refine(HCP w.drew ((Same.refl w).drew)).mono ?_;rintro en w2 ⟨rfl,c11',f11',HZ⟩));all_goals(go_end0;exact⟨rfl,w2,HZ,.inl (by rw[HE.out])⟩)
def Gh.home(g:Gh)(o:Ord):Nat:=if o.life=1 then g.dayM else g.othM
theorem zCu{g:Gh}{S:Sets}{o:Ord}(h:CRep F base w b e g S)(ho:OA w q i o):
 Cl 201 #[.pointer (some (iA b 8)),iP q] w fun en w'=>en=.returned (.map (some (g.home o)))∧Same w w':=by
 have c8:w.cell? (iA b 8)=some (.map (some g.dayM)):=h.cell 8;have c9:w.cell? (iA b 9)=some (.map (some g.othM)):=h.cell 9;have c7:cI w q 7 o.life:=ho.cell 7;cases q1:(o.life == 1)
 ·have HE:Hid (g.home o=g.othM):=if_neg (by simpa using q1);go_enter Tryz.func201,Tryz.ntmps201;go_wp2;go_ret;exact⟨by rw[HE.out];rfl,Same.refl w⟩
 ·have HE:Hid (g.home o=g.dayM):=if_pos (by simpa using q1);go_enter Tryz.func201,Tryz.ntmps201;go_wp2;go_ret;exact⟨by rw[HE.out];rfl,Same.refl w⟩
theorem zH1{g:Gh}{S:Sets}(h:CRep F base w b e g S)(hl:S.day.length+S.oth.length≤1000000000):
 Cl 151 #[.pointer (some (iA b 8))] w fun en w'=>en=.returned (iV ((S.day.length+S.oth.length:Nat):Int))∧Same w w':=by
 have c8:w.cell? (iA b 8)=some (.map (some g.dayM)):=h.cell 8;have c9:w.cell? (iA b 9)=some (.map (some g.othM)):=h.cell 9;have l8: ∀ty,(Builtin.len_ #[110] ty #[.map (some g.dayM)]).run Tryz.prog w.drew=.ok (iV (S.day.length:Int)) w.drew:=fun ty=>by have:=h.drew.body.day.len Tryz.underlying110 ty;rw[List.length_map]at this;exact this
 have l9: ∀ty,(Builtin.len_ #[110] ty #[.map (some g.othM)]).run Tryz.prog w.drew=.ok (iV (S.oth.length:Int)) w.drew:=fun ty=>by have:=h.drew.body.oth.len Tryz.underlying110 ty;rw[List.length_map]at this;exact this
 have hw:IntKind.i64.wrap ((S.day.length:Int)+(S.oth.length:Int))=(S.day.length:Int)+(S.oth.length:Int):=zA8 _ (by omega) (by omega);have hw':wrap64 ((S.day.length:Int)+(S.oth.length:Int))=(S.day.length:Int)+(S.oth.length:Int):=by unfold wrap64;omega
 go_enter Tryz.func151,Tryz.ntmps151;go_wp2_with fail;go_region_law(fail);all_goals(go_wp2;go_ret;exact⟨rfl,(Same.refl w).drew⟩)
end
section
open Go.Extern Go.Maps Go.RowKit
theorem keyedInt:Keyed Tryz.prog 3:=int_keyed Tryz.underlying3
theorem zeroPtr(w:World):(zeroValue 158).run Tryz.prog w=.ok (ptrElem.val none) w:=by kernel_rfl
theorem wf63{k:Int}(h:r63 k):(Lit.int .i64 k).wf=true:=by
 obtain⟨h1,h2⟩:=h;have e1:IntKind.i64.min= -9223372036854775808:=by decide
 have e2:IntKind.i64.max=9223372036854775807:=by decide
 simp[Lit.wf,e1,e2];omega
section
variable {F:Nat→Prop} {base:Nat} {w:World} {b:Nat} {e:Eng} {g:Gh} {S:Sets}
theorem zM8(id:Int)(hid63:r63 id)(h:CRep F base w b e g S)(i:Nat)(hi:i∈S.day)(hid':idAt e.all i=id):
 Cl 154 #[.pointer (some (iA b 8)),iV id] w fun en w'=>en=rV #[iP (g.blk i),.bool true]∧Same w w':=by
 have c8:w.cell? (iA b 8)=some (.map (some g.dayM)):=h.cell 8;have c9:w.cell? (iA b 9)=some (.map (some g.othM)):=h.cell 9;have l8:(Instr.lookup 110 (.map (some g.dayM)) (iV id) true).run Tryz.prog w=.ok (.tuple #[iP (g.blk i),.bool true]) w:=h.body.day.hit keyedInt Tryz.underlying3 Tryz.underlying110 (zeroPtr w) (v:=some (g.blk i)) (List.mem_map.2 ⟨i,hi,by rw[hid']⟩) (wf63 hid63);go_enter Tryz.func154,Tryz.ntmps154;go_wp2_with fail;exact bodyPost_ret (v:=.tuple #[iP (g.blk i),.bool true]) (by simp[results,Tryz.results154,go_sem]) rfl ⟨rfl,Same.refl w⟩
theorem zM9(id:Int)(hid63:r63 id)(h:CRep F base w b e g S)(i:Nat)(hi:i∈S.oth)(hid':idAt e.all i=id)(hn: ∀j∈S.day,idAt e.all j≠id):
 Cl 154 #[.pointer (some (iA b 8)),iV id] w fun en w'=>en=rV #[iP (g.blk i),.bool true]∧Same w w':=by
 have c8:w.cell? (iA b 8)=some (.map (some g.dayM)):=h.cell 8;have c9:w.cell? (iA b 9)=some (.map (some g.othM)):=h.cell 9;have l8:(Instr.lookup 110 (.map (some g.dayM)) (iV id) true).run Tryz.prog w=.ok (.tuple #[.pointer none,.bool false]) w:=h.body.day.miss keyedInt Tryz.underlying3 Tryz.underlying110 (zeroPtr w) (fun p hp=>by obtain⟨j,hj,rfl⟩:=List.mem_map.1 hp;exact hn j hj) (wf63 hid63);have l9:(Instr.lookup 110 (.map (some g.othM)) (iV id) true).run Tryz.prog w=.ok (.tuple #[iP (g.blk i),.bool true]) w:=h.body.oth.hit keyedInt Tryz.underlying3 Tryz.underlying110 (zeroPtr w) (v:=some (g.blk i)) (List.mem_map.2 ⟨i,hi,by rw[hid']⟩) (wf63 hid63);go_enter Tryz.func154,Tryz.ntmps154;go_wp2_with fail;exact bodyPost_ret (v:=.tuple #[iP (g.blk i),.bool true]) (by simp[results,Tryz.results154,go_sem]) rfl ⟨rfl,Same.refl w⟩
theorem zMa(id:Int)(hid63:r63 id)(h:CRep F base w b e g S)(hn: ∀j∈S.day,idAt e.all j≠id)(hm: ∀j∈S.oth,idAt e.all j≠id):
 Cl 154 #[.pointer (some (iA b 8)),iV id] w fun en w'=>en=rV #[.pointer none,.bool false]∧Same w w':=by
 have c8:w.cell? (iA b 8)=some (.map (some g.dayM)):=h.cell 8;have c9:w.cell? (iA b 9)=some (.map (some g.othM)):=h.cell 9;have l8:(Instr.lookup 110 (.map (some g.dayM)) (iV id) true).run Tryz.prog w=.ok (.tuple #[.pointer none,.bool false]) w:=h.body.day.miss keyedInt Tryz.underlying3 Tryz.underlying110 (zeroPtr w) (fun p hp=>by obtain⟨j,hj,rfl⟩:=List.mem_map.1 hp;exact hn j hj) (wf63 hid63);have l9:(Instr.lookup 110 (.map (some g.othM)) (iV id) true).run Tryz.prog w=.ok (.tuple #[.pointer none,.bool false]) w:=h.body.oth.miss keyedInt Tryz.underlying3 Tryz.underlying110 (zeroPtr w) (fun p hp=>by obtain⟨j,hj,rfl⟩:=List.mem_map.1 hp;exact hm j hj) (wf63 hid63);go_enter Tryz.func154,Tryz.ntmps154;go_wp2_with fail;exact bodyPost_ret (v:=.tuple #[.pointer none,.bool false]) (by simp[results,Tryz.results154,go_sem]) rfl ⟨rfl,Same.refl w⟩
end
section
variable {F:Nat→Prop} {base:Nat} {w w':World} {b:Nat} {e:Eng} {g:Gh} {S:Sets}
structure Turned(m:Nat)(w w':World):Prop where
 os:w'.os=w.os
 tape:w'.tape=w.tape
 output:w'.output=w.output
 size:w.heap.size≤w'.heap.size
 block: ∀k,k<w.heap.size→k≠m→w'.heap[k]? =w.heap[k]?
 is: ∃es c,w.heap[m]? =some (.map es c)
theorem Turned.of(h:w.mapTurned w' m):Turned m w w':=by
 have hg:=h.grown;obtain⟨es,c,es',c',h1,h2⟩:=h;exact⟨hg.os,hg.tape,hg.output,hg.size,fun k hk hne=>hg.block k hk (fun e=>hne (by injection e)),es,c,h1⟩
theorem Turned.cells(h:Turned m w w'){k:Nat}{t:TypeId}(hq:w.heap[k]? =some (.cells c t f)):w'.heap[k]? =some (.cells c t f):=by
 rw[h.block k (Array.getElem?_eq_some_iff.1 hq).1 (fun e1=>by obtain⟨es,c',hm⟩:=h.is;rw[e1,hm]at hq;cases hq)];exact hq
theorem Turned.row(h:Turned m w w'){B:Nat}{t:TypeId}{s:Nat}{v:Value}{n:Nat}{xs:List Value}(ho:w.ownsRow B t s v n xs):w'.ownsRow B t s v n xs:=by
 refine⟨ho.1,?_⟩;rcases ho.2 with h2|⟨g,cap,cur,hv,hg,hh,r⟩
 ·exact .inl h2
 ·exact .inr ⟨g,cap,cur,hv,hg,h.cells hh,r⟩
theorem Turned.other(h:Turned m w w'){V:Type}{E:Elem V}{K:TypeId}{x:Nat}{l:List (Int×V)}(hp:PM E P K w x l)(hne:x≠m):PM E P K w' x l:=hp.of_block (h.block x hp.lt hne)
theorem Turned.touch(h:Turned m w w')(hF:F m):Touch F w w':=⟨h.os,h.tape,h.output,h.size,fun k hk hf=>h.block k hk (fun e1=>hf (e1▸hF))⟩
theorem CBody.distinct(h:CBody F base w e.all e.draws e.drawn g S):g.dayM≠g.othM∧g.dayM≠g.endM∧g.dayM≠g.buyM∧g.dayM≠g.selM∧g.othM≠g.endM∧g.othM≠g.buyM∧g.othM≠g.selM∧g.endM≠g.buyM∧g.endM≠g.selM∧g.buyM≠g.selM:=by
 have:=h.maps;simp at this;obtain⟨⟨a1,a2,a3,a4⟩,⟨a5,a6,a7⟩,⟨a8,a9⟩,a10⟩:=this;exact⟨a1,a2,a3,a4,a5,a6,a7,a8,a9,a10⟩
theorem CRep.turn_day(h:CRep F base w b e g S)(ht:Turned g.dayM w w')(l:List Nat)(hp:PM ptrElem Tryz.prog 3 w' g.dayM (l.map fun i=>(idAt e.all i,some (g.blk i)))):CRep F base w' b e g { S with day:=l }∧Touch F w w':=by
 obtain⟨a1,a2,a3,a4,a5,a6,a7,a8,a9,a10⟩:=h.body.distinct;obtain⟨f1,f2,f3,f4,f5,f6⟩:=h.body.fd;exact⟨⟨ht.cells h.blk,h.own,fun k hk=>h.up k (Nat.le_trans ht.size hk),Nat.le_trans h.low ht.size,⟨ht.row h.txt.row,h.txt.own⟩,⟨hp,ht.other h.body.oth (by omega),ht.other h.body.ended (by omega),ht.cells h.body.buyB,ht.cells h.body.selB,ht.other h.body.buy (by omega),ht.other h.body.sel (by omega),h.body.maps,fun i o ho hs=>ht.cells (h.body.ord i o ho hs),h.body.inj,ht.cells h.body.drw,ht.row h.body.dls,h.body.fd,h.body.fo⟩,fun i hi=>Nat.lt_of_lt_of_le (h.old i hi) ht.size,h.fb⟩,ht.touch (by assumption)⟩
theorem CRep.turn_oth(h:CRep F base w b e g S)(ht:Turned g.othM w w')(l:List Nat)(hp:PM ptrElem Tryz.prog 3 w' g.othM (l.map fun i=>(idAt e.all i,some (g.blk i)))):CRep F base w' b e g { S with oth:=l }∧Touch F w w':=by
 obtain⟨a1,a2,a3,a4,a5,a6,a7,a8,a9,a10⟩:=h.body.distinct;obtain⟨f1,f2,f3,f4,f5,f6⟩:=h.body.fd;exact⟨⟨ht.cells h.blk,h.own,fun k hk=>h.up k (Nat.le_trans ht.size hk),Nat.le_trans h.low ht.size,⟨ht.row h.txt.row,h.txt.own⟩,⟨ht.other h.body.day (by omega),hp,ht.other h.body.ended (by omega),ht.cells h.body.buyB,ht.cells h.body.selB,ht.other h.body.buy (by omega),ht.other h.body.sel (by omega),h.body.maps,fun i o ho hs=>ht.cells (h.body.ord i o ho hs),h.body.inj,ht.cells h.body.drw,ht.row h.body.dls,h.body.fd,h.body.fo⟩,fun i hi=>Nat.lt_of_lt_of_le (h.old i hi) ht.size,h.fb⟩,ht.touch (by assumption)⟩
theorem CRep.turn_ended(h:CRep F base w b e g S)(ht:Turned g.endM w w')(l:List Nat)(hp:PM aggElem Tryz.prog 3 w' g.endM (l.map fun i=>(idAt e.all i,stAt e.all i))):CRep F base w' b e g { S with ended:=l }∧Touch F w w':=by
 obtain⟨a1,a2,a3,a4,a5,a6,a7,a8,a9,a10⟩:=h.body.distinct;obtain⟨f1,f2,f3,f4,f5,f6⟩:=h.body.fd;exact⟨⟨ht.cells h.blk,h.own,fun k hk=>h.up k (Nat.le_trans ht.size hk),Nat.le_trans h.low ht.size,⟨ht.row h.txt.row,h.txt.own⟩,⟨ht.other h.body.day (by omega),ht.other h.body.oth (by omega),hp,ht.cells h.body.buyB,ht.cells h.body.selB,ht.other h.body.buy (by omega),ht.other h.body.sel (by omega),h.body.maps,fun i o ho hs=>ht.cells (h.body.ord i o ho hs),h.body.inj,ht.cells h.body.drw,ht.row h.body.dls,h.body.fd,h.body.fo⟩,fun i hi=>Nat.lt_of_lt_of_le (h.old i hi) ht.size,h.fb⟩,ht.touch (by assumption)⟩
theorem CRep.turn_buy(h:CRep F base w b e g S)(ht:Turned g.buyM w w')(l:List Nat)(hp:PM ptrElem Tryz.prog 3 w' g.buyM (l.map fun i=>(idAt e.all i,some (g.blk i)))):CRep F base w' b e g { S with buy:=l }∧Touch F w w':=by
 obtain⟨a1,a2,a3,a4,a5,a6,a7,a8,a9,a10⟩:=h.body.distinct;obtain⟨f1,f2,f3,f4,f5,f6⟩:=h.body.fd;exact⟨⟨ht.cells h.blk,h.own,fun k hk=>h.up k (Nat.le_trans ht.size hk),Nat.le_trans h.low ht.size,⟨ht.row h.txt.row,h.txt.own⟩,⟨ht.other h.body.day (by omega),ht.other h.body.oth (by omega),ht.other h.body.ended (by omega),ht.cells h.body.buyB,ht.cells h.body.selB,hp,ht.other h.body.sel (by omega),h.body.maps,fun i o ho hs=>ht.cells (h.body.ord i o ho hs),h.body.inj,ht.cells h.body.drw,ht.row h.body.dls,h.body.fd,h.body.fo⟩,fun i hi=>Nat.lt_of_lt_of_le (h.old i hi) ht.size,h.fb⟩,ht.touch (by assumption)⟩
theorem CRep.turn_sel(h:CRep F base w b e g S)(ht:Turned g.selM w w')(l:List Nat)(hp:PM ptrElem Tryz.prog 3 w' g.selM (l.map fun i=>(idAt e.all i,some (g.blk i)))):CRep F base w' b e g { S with sel:=l }∧Touch F w w':=by
 obtain⟨a1,a2,a3,a4,a5,a6,a7,a8,a9,a10⟩:=h.body.distinct;obtain⟨f1,f2,f3,f4,f5,f6⟩:=h.body.fd;exact⟨⟨ht.cells h.blk,h.own,fun k hk=>h.up k (Nat.le_trans ht.size hk),Nat.le_trans h.low ht.size,⟨ht.row h.txt.row,h.txt.own⟩,⟨ht.other h.body.day (by omega),ht.other h.body.oth (by omega),ht.other h.body.ended (by omega),ht.cells h.body.buyB,ht.cells h.body.selB,ht.other h.body.buy (by omega),hp,h.body.maps,fun i o ho hs=>ht.cells (h.body.ord i o ho hs),h.body.inj,ht.cells h.body.drw,ht.row h.body.dls,h.body.fd,h.body.fo⟩,fun i hi=>Nat.lt_of_lt_of_le (h.old i hi) ht.size,h.fb⟩,ht.touch (by assumption)⟩
end
theorem zAy{V:Type}(f:Nat→Int×V)(l:List Nat)(k:Int):strike (l.map f) k=(l.filter fun i=> !decide ((f i).1=k)).map f:=by
 unfold strike;rw[List.filter_map];rfl
def less(al:List Ord)(l:List Nat)(id:Int):List Nat:=l.filter fun i=> !decide (idAt al i=id)
section
variable {F:Nat→Prop} {base:Nat} {w:World} {b q i:Nat} {e:Eng} {g:Gh} {S:Sets} {o:Ord}
theorem zMb(h:CRep F base w b e g S)(ho:OA w q i o)(hr:r63 o.id):
 Cl 265 #[iP g.buyB,iP q] w fun en w'=>en=rV #[]∧CRep F base w' b e g { S with buy:=less e.all S.buy o.id }∧Touch F w w'∧OA w' q i o:=by
 have c0:cI w q 0 o.id:=ho.cell 0;have d0:w.cell? (iA g.buyB 0)=some (.map (some g.buyM)):=by simp[World.cell?,h.body.buyB]
 have HD:Hid (∀(W:World) (ty:TypeId),Same w W→∃w',(Builtin.delete_ #[110,3] ty #[.map (some g.buyM),iV o.id]).run Tryz.prog W=.ok (.tuple #[]) w'∧Hid (CRep F base w' b e g { S with buy:=less e.all S.buy o.id }∧Touch F w w'∧OA w' q i o)):=by
  intro W ty hs;have hW:=h.keep (by rw[hs.heap];exact Nat.le_refl _) (fun k _=>by rw[hs.heap]);obtain⟨w',h1,h2,h3⟩:=hW.body.buy.del keyedInt Tryz.underlying3 Tryz.underlying110 (wf63 hr) ty;rw[zAy]at h2;obtain⟨q1,q2⟩:=hW.turn_buy (Turned.of h3) (less e.all S.buy o.id) h2;exact⟨w',h1,q1,hs.touch.trans q2,⟨(Turned.of h3).cells (ho.same hs).blk⟩⟩
 go_enter Tryz.func265,Tryz.ntmps265;obtain⟨w1,hw1,HZ⟩:=HD w.drew 0 ((Same.refl w).drew);go_wp2_with fail;go_region_law(fail);all_goals(go_end0;exact⟨rfl,HZ⟩)
theorem zMc(h:CRep F base w b e g S)(ho:OA w (g.blk i) i o)(hr:r63 o.id)(hi:idAt e.all i=o.id)(hl:S.buy.length≤1000000000):
 Cl 262 #[iP g.buyB,iP (g.blk i)] w fun en w'=>en=rV #[]∧CRep F base w' b e g { S with buy:=less e.all S.buy o.id++ [i] }∧Touch F w w'∧OA w' (g.blk i) i o:=by
 have c0:cI w (g.blk i) 0 o.id:=ho.cell 0;have d0:w.cell? (iA g.buyB 0)=some (.map (some g.buyM)):=by simp[World.cell?,h.body.buyB]
 have HD:Hid (∀(W:World),Same w W→∃w',(Instr.mapUpdate 110 (.map (some g.buyM)) (iV o.id) (iP (g.blk i))).run Tryz.prog W=.ok () w'∧Hid (CRep F base w' b e g { S with buy:=less e.all S.buy o.id++ [i] }∧Touch F w w'∧OA w' (g.blk i) i o)):=by
  intro W hs;have hW:=h.keep (by rw[hs.heap];exact Nat.le_refl _) (fun k _=>by rw[hs.heap]);obtain⟨w',h1,h2,h3⟩:=hW.body.buy.put keyedInt Tryz.underlying3 Tryz.underlying110 (by rw[List.length_map];unfold maxLen;omega) (wf63 hr) (some (g.blk i));rw[zAy]at h2;have h2':PM ptrElem Tryz.prog 3 w' g.buyM ((less e.all S.buy o.id++ [i]).map fun i=>(idAt e.all i,some (g.blk i))):=by
   rw[List.map_append,List.map_singleton,hi];exact h2
  obtain⟨q1,q2⟩:=hW.turn_buy (Turned.of h3) _ h2';exact⟨w',h1,q1,hs.touch.trans q2,⟨(Turned.of h3).cells (ho.same hs).blk⟩⟩
 go_enter Tryz.func262,Tryz.ntmps262;obtain⟨w1,hw1,HZ⟩:=HD w.drew ((Same.refl w).drew);go_wp2_with fail;go_region_law(fail);all_goals(go_end0;exact⟨rfl,HZ⟩)
theorem zMd(h:CRep F base w b e g S)(ho:OA w q i o)(hr:r63 o.id):
 Cl 265 #[iP g.selB,iP q] w fun en w'=>en=rV #[]∧CRep F base w' b e g { S with sel:=less e.all S.sel o.id }∧Touch F w w'∧OA w' q i o:=by
 have c0:cI w q 0 o.id:=ho.cell 0;have d0:w.cell? (iA g.selB 0)=some (.map (some g.selM)):=by simp[World.cell?,h.body.selB]
 have HD:Hid (∀(W:World) (ty:TypeId),Same w W→∃w',(Builtin.delete_ #[110,3] ty #[.map (some g.selM),iV o.id]).run Tryz.prog W=.ok (.tuple #[]) w'∧Hid (CRep F base w' b e g { S with sel:=less e.all S.sel o.id }∧Touch F w w'∧OA w' q i o)):=by
  intro W ty hs;have hW:=h.keep (by rw[hs.heap];exact Nat.le_refl _) (fun k _=>by rw[hs.heap]);obtain⟨w',h1,h2,h3⟩:=hW.body.sel.del keyedInt Tryz.underlying3 Tryz.underlying110 (wf63 hr) ty;rw[zAy]at h2;obtain⟨q1,q2⟩:=hW.turn_sel (Turned.of h3) (less e.all S.sel o.id) h2;exact⟨w',h1,q1,hs.touch.trans q2,⟨(Turned.of h3).cells (ho.same hs).blk⟩⟩
 go_enter Tryz.func265,Tryz.ntmps265;obtain⟨w1,hw1,HZ⟩:=HD w.drew 0 ((Same.refl w).drew);go_wp2_with fail;go_region_law(fail);all_goals(go_end0;exact⟨rfl,HZ⟩)
theorem zMe(h:CRep F base w b e g S)(ho:OA w (g.blk i) i o)(hr:r63 o.id)(hi:idAt e.all i=o.id)(hl:S.sel.length≤1000000000):
 Cl 262 #[iP g.selB,iP (g.blk i)] w fun en w'=>en=rV #[]∧CRep F base w' b e g { S with sel:=less e.all S.sel o.id++ [i] }∧Touch F w w'∧OA w' (g.blk i) i o:=by
 have c0:cI w (g.blk i) 0 o.id:=ho.cell 0;have d0:w.cell? (iA g.selB 0)=some (.map (some g.selM)):=by simp[World.cell?,h.body.selB]
 have HD:Hid (∀(W:World),Same w W→∃w',(Instr.mapUpdate 110 (.map (some g.selM)) (iV o.id) (iP (g.blk i))).run Tryz.prog W=.ok () w'∧Hid (CRep F base w' b e g { S with sel:=less e.all S.sel o.id++ [i] }∧Touch F w w'∧OA w' (g.blk i) i o)):=by
  intro W hs;have hW:=h.keep (by rw[hs.heap];exact Nat.le_refl _) (fun k _=>by rw[hs.heap]);obtain⟨w',h1,h2,h3⟩:=hW.body.sel.put keyedInt Tryz.underlying3 Tryz.underlying110 (by rw[List.length_map];unfold maxLen;omega) (wf63 hr) (some (g.blk i));rw[zAy]at h2;have h2':PM ptrElem Tryz.prog 3 w' g.selM ((less e.all S.sel o.id++ [i]).map fun i=>(idAt e.all i,some (g.blk i))):=by
   rw[List.map_append,List.map_singleton,hi];exact h2
  obtain⟨q1,q2⟩:=hW.turn_sel (Turned.of h3) _ h2';exact⟨w',h1,q1,hs.touch.trans q2,⟨(Turned.of h3).cells (ho.same hs).blk⟩⟩
 go_enter Tryz.func262,Tryz.ntmps262;obtain⟨w1,hw1,HZ⟩:=HD w.drew ((Same.refl w).drew);go_wp2_with fail;go_region_law(fail);all_goals(go_end0;exact⟨rfl,HZ⟩)
end
theorem CRep.same{g:Gh}{S:Sets}(h:CRep F base w b e g S)(hs:Same w w'):CRep F base w' b e g S:=h.keep (by rw[hs.heap];exact Nat.le_refl _) (fun k _=>by rw[hs.heap])
section
variable {F:Nat→Prop} {base:Nat} {w:World} {b q i:Nat} {e:Eng} {g:Gh} {S:Sets} {o:Ord}
theorem zMf(h:CRep F base w b e g S)(ho:OA w q i o)(hr:r63 o.id)(hL:o.life=1):
 Cl 155 #[.pointer (some (iA b 8)),iP q] w fun en w'=>en=rV #[]∧CRep F base w' b e g { S with day:=less e.all S.day o.id }∧Touch F w w'∧OA w' q i o:=by
 have c0:cI w q 0 o.id:=ho.cell 0;have HD:Hid (∀(W:World) (ty:TypeId),Same w W→∃w',(Builtin.delete_ #[110,3] ty #[.map (some g.dayM),iV o.id]).run Tryz.prog W=.ok (.tuple #[]) w'∧Hid (CRep F base w' b e g { S with day:=less e.all S.day o.id }∧Touch F w w'∧OA w' q i o)):=by
  intro W ty hs;have hW:=h.same hs;obtain⟨w',h1,h2,h3⟩:=hW.body.day.del keyedInt Tryz.underlying3 Tryz.underlying110 (wf63 hr) ty;rw[zAy]at h2;obtain⟨q1,q2⟩:=hW.turn_day (Turned.of h3) (less e.all S.day o.id) h2;exact⟨w',h1,q1,hs.touch.trans q2,⟨(Turned.of h3).cells (ho.same hs).blk⟩⟩
 have HH:Hid (∀W:World,Same w W→Cl 201 #[.pointer (some (iA b 8)),iP q] W fun en w'=>en=.returned (.map (some g.dayM))∧cI w' q 0 o.id∧∃w1,(Builtin.delete_ #[110,3] 0 #[.map (some g.dayM),iV o.id]).run Tryz.prog w'=.ok (.tuple #[]) w1∧Hid (CRep F base w1 b e g { S with day:=less e.all S.day o.id }∧Touch F w w1∧OA w1 q i o)):=by
  intro W hs;refine(zCu (h.same hs) (ho.same hs)).mono ?_;rintro en w' ⟨rfl,hs2⟩;have hh:g.home o=g.dayM:=if_pos hL;obtain⟨w1,h1,h2⟩:=HD w' 0 (hs.trans hs2);exact⟨by rw[hh],(ho.same (hs.trans hs2)).cell 0,w1,h1,h2⟩
 go_enter Tryz.func155,Tryz.ntmps155;go_wp2_with fail;go_region_with(first|(go_at_call 201;refine(HH w.drew ((Same.refl w).drew)).mono ?_;rintro en w2 ⟨rfl,c0',w1,hw1,HZ⟩));all_goals(go_end0;exact⟨rfl,HZ⟩)
theorem zMg(h:CRep F base w b e g S)(ho:OA w (g.blk i) i o)(hr:r63 o.id)(hi:idAt e.all i=o.id)(hl:S.day.length≤1000000000)(hL:o.life=1):
 Cl 152 #[.pointer (some (iA b 8)),iP (g.blk i)] w fun en w'=>en=rV #[]∧CRep F base w' b e g { S with day:=less e.all S.day o.id++ [i] }∧Touch F w w'∧OA w' (g.blk i) i o:=by
 have c0:cI w (g.blk i) 0 o.id:=ho.cell 0;have HD:Hid (∀(W:World),Same w W→∃w',(Instr.mapUpdate 110 (.map (some g.dayM)) (iV o.id) (iP (g.blk i))).run Tryz.prog W=.ok () w'∧Hid (CRep F base w' b e g { S with day:=less e.all S.day o.id++ [i] }∧Touch F w w'∧OA w' (g.blk i) i o)):=by
  intro W hs;have hW:=h.same hs;obtain⟨w',h1,h2,h3⟩:=hW.body.day.put keyedInt Tryz.underlying3 Tryz.underlying110 (by rw[List.length_map];unfold maxLen;omega) (wf63 hr) (some (g.blk i));rw[zAy]at h2;have h2':PM ptrElem Tryz.prog 3 w' g.dayM ((less e.all S.day o.id++ [i]).map fun i=>(idAt e.all i,some (g.blk i))):=by
   rw[List.map_append,List.map_singleton,hi];exact h2
  obtain⟨q1,q2⟩:=hW.turn_day (Turned.of h3) _ h2';exact⟨w',h1,q1,hs.touch.trans q2,⟨(Turned.of h3).cells (ho.same hs).blk⟩⟩
 have HH:Hid (∀W:World,Same w W→Cl 201 #[.pointer (some (iA b 8)),iP (g.blk i)] W fun en w'=>en=.returned (.map (some g.dayM))∧cI w' (g.blk i) 0 o.id∧∃w1,(Instr.mapUpdate 110 (.map (some g.dayM)) (iV o.id) (iP (g.blk i))).run Tryz.prog w'=.ok () w1∧Hid (CRep F base w1 b e g { S with day:=less e.all S.day o.id++ [i] }∧Touch F w w1∧OA w1 (g.blk i) i o)):=by
  intro W hs;refine(zCu (h.same hs) (ho.same hs)).mono ?_;rintro en w' ⟨rfl,hs2⟩;have hh:g.home o=g.dayM:=if_pos hL;obtain⟨w1,h1,h2⟩:=HD w' (hs.trans hs2);exact⟨by rw[hh],(ho.same (hs.trans hs2)).cell 0,w1,h1,h2⟩
 go_enter Tryz.func152,Tryz.ntmps152;go_wp2_with fail;go_region_with(first|(go_at_call 201;refine(HH w.drew ((Same.refl w).drew)).mono ?_;rintro en w2 ⟨rfl,c0',w1,hw1,HZ⟩));all_goals(go_end0;exact⟨rfl,HZ⟩)
theorem zMh(h:CRep F base w b e g S)(ho:OA w q i o)(hr:r63 o.id)(hL: ¬o.life=1):
 Cl 155 #[.pointer (some (iA b 8)),iP q] w fun en w'=>en=rV #[]∧CRep F base w' b e g { S with oth:=less e.all S.oth o.id }∧Touch F w w'∧OA w' q i o:=by
 have c0:cI w q 0 o.id:=ho.cell 0;have HD:Hid (∀(W:World) (ty:TypeId),Same w W→∃w',(Builtin.delete_ #[110,3] ty #[.map (some g.othM),iV o.id]).run Tryz.prog W=.ok (.tuple #[]) w'∧Hid (CRep F base w' b e g { S with oth:=less e.all S.oth o.id }∧Touch F w w'∧OA w' q i o)):=by
  intro W ty hs;have hW:=h.same hs;obtain⟨w',h1,h2,h3⟩:=hW.body.oth.del keyedInt Tryz.underlying3 Tryz.underlying110 (wf63 hr) ty;rw[zAy]at h2;obtain⟨q1,q2⟩:=hW.turn_oth (Turned.of h3) (less e.all S.oth o.id) h2;exact⟨w',h1,q1,hs.touch.trans q2,⟨(Turned.of h3).cells (ho.same hs).blk⟩⟩
 have HH:Hid (∀W:World,Same w W→Cl 201 #[.pointer (some (iA b 8)),iP q] W fun en w'=>en=.returned (.map (some g.othM))∧cI w' q 0 o.id∧∃w1,(Builtin.delete_ #[110,3] 0 #[.map (some g.othM),iV o.id]).run Tryz.prog w'=.ok (.tuple #[]) w1∧Hid (CRep F base w1 b e g { S with oth:=less e.all S.oth o.id }∧Touch F w w1∧OA w1 q i o)):=by
  intro W hs;refine(zCu (h.same hs) (ho.same hs)).mono ?_;rintro en w' ⟨rfl,hs2⟩;have hh:g.home o=g.othM:=if_neg hL;obtain⟨w1,h1,h2⟩:=HD w' 0 (hs.trans hs2);exact⟨by rw[hh],(ho.same (hs.trans hs2)).cell 0,w1,h1,h2⟩
 go_enter Tryz.func155,Tryz.ntmps155;go_wp2_with fail;go_region_with(first|(go_at_call 201;refine(HH w.drew ((Same.refl w).drew)).mono ?_;rintro en w2 ⟨rfl,c0',w1,hw1,HZ⟩));all_goals(go_end0;exact⟨rfl,HZ⟩)
theorem zMi(h:CRep F base w b e g S)(ho:OA w (g.blk i) i o)(hr:r63 o.id)(hi:idAt e.all i=o.id)(hl:S.oth.length≤1000000000)(hL: ¬o.life=1):
 Cl 152 #[.pointer (some (iA b 8)),iP (g.blk i)] w fun en w'=>en=rV #[]∧CRep F base w' b e g { S with oth:=less e.all S.oth o.id++ [i] }∧Touch F w w'∧OA w' (g.blk i) i o:=by
 have c0:cI w (g.blk i) 0 o.id:=ho.cell 0;have HD:Hid (∀(W:World),Same w W→∃w',(Instr.mapUpdate 110 (.map (some g.othM)) (iV o.id) (iP (g.blk i))).run Tryz.prog W=.ok () w'∧Hid (CRep F base w' b e g { S with oth:=less e.all S.oth o.id++ [i] }∧Touch F w w'∧OA w' (g.blk i) i o)):=by
  intro W hs;have hW:=h.same hs;obtain⟨w',h1,h2,h3⟩:=hW.body.oth.put keyedInt Tryz.underlying3 Tryz.underlying110 (by rw[List.length_map];unfold maxLen;omega) (wf63 hr) (some (g.blk i));rw[zAy]at h2;have h2':PM ptrElem Tryz.prog 3 w' g.othM ((less e.all S.oth o.id++ [i]).map fun i=>(idAt e.all i,some (g.blk i))):=by
   rw[List.map_append,List.map_singleton,hi];exact h2
  obtain⟨q1,q2⟩:=hW.turn_oth (Turned.of h3) _ h2';exact⟨w',h1,q1,hs.touch.trans q2,⟨(Turned.of h3).cells (ho.same hs).blk⟩⟩
 have HH:Hid (∀W:World,Same w W→Cl 201 #[.pointer (some (iA b 8)),iP (g.blk i)] W fun en w'=>en=.returned (.map (some g.othM))∧cI w' (g.blk i) 0 o.id∧∃w1,(Instr.mapUpdate 110 (.map (some g.othM)) (iV o.id) (iP (g.blk i))).run Tryz.prog w'=.ok () w1∧Hid (CRep F base w1 b e g { S with oth:=less e.all S.oth o.id++ [i] }∧Touch F w w1∧OA w1 (g.blk i) i o)):=by
  intro W hs;refine(zCu (h.same hs) (ho.same hs)).mono ?_;rintro en w' ⟨rfl,hs2⟩;have hh:g.home o=g.othM:=if_neg hL;obtain⟨w1,h1,h2⟩:=HD w' (hs.trans hs2);exact⟨by rw[hh],(ho.same (hs.trans hs2)).cell 0,w1,h1,h2⟩
 go_enter Tryz.func152,Tryz.ntmps152;go_wp2_with fail;go_region_with(first|(go_at_call 201;refine(HH w.drew ((Same.refl w).drew)).mono ?_;rintro en w2 ⟨rfl,c0',w1,hw1,HZ⟩));all_goals(go_end0;exact⟨rfl,HZ⟩)
end
end
end Go.Proofs.YtanfmhonjpjpoaaGreatDoor
