import Derived.Test.YtanfmhonjpjpoaaGreatDoorQ00
import Derived.Test.YtanfmhonjpjpoaaGreatDoorQ17
import Derived.Test.YtanfmhonjpjpoaaGreatDoorQ20
import Derived.Test.YtanfmhonjpjpoaaGreatDoorQ21
import Derived.Deep.RegionHeld3
import Derived.Deep.RegionLaw
set_option linter.all false
set_option maxRecDepth 100000
set_option maxHeartbeats 8000000
namespace Go.Proofs.YtanfmhonjpjpoaaGreatDoor
variable{sd p:Int}{m:Nat}{Q:Ord→Prop}
section
open Go.Extern Go.Maps Go.RowKit
structure AOk(o:Ord):Prop where
 id:0≤o.id∧o.id≤4294967295
 fil:0≤o.filled∧o.filled≤o.qty∧o.qty≤4294967295
 sh:0≤o.shown∧o.shown≤o.qty - o.filled
 peg:o.typ=3→o.price=0→o.shown=0
theorem AOk.r{o:Ord}(h:AOk o):r63 o.id:=by obtain⟨h1,h2⟩:=h.id;exact⟨by omega,by omega⟩
theorem AOk.opn{o:Ord}(h:AOk o):r63 (o.qty - o.filled):=by obtain⟨h1,h2,h3⟩:=h.fil;exact⟨by omega,by omega⟩
structure AW(pr:Nat→Option (Array Value×TypeId))(base:Nat)(w:World)(ab lm em n:Nat)(L:List (Int×Option Nat))(E:List (Int×List Int)):Prop where
 blk:w.heap[ab]? =some (.cells #[.map (some lm),.map (some em)] 166 (0,0))
 live:PM ptrElem Tryz.prog 3 w lm L
 ended:PM aggElem Tryz.prog 3 w em E
 ords: ∀p∈L,∃q o,p.2=some q∧base≤q∧OA w q 0 o∧AOk o
 ents: ∀p∈E,∃o:Ord,p=(o.id,o.state)
 ne:lm≠em
 lo:base≤ab∧base≤lm∧base≤em
 ll:L.length≤n
 el:E.length≤n
 rows: ∀(b:Nat) (c:Array Value) (t:TypeId),pr b=some (c,t)→t≠234∧w.heap[b]? =some (.cells c t (0,0))
def AG(pr:Nat→Option (Array Value×TypeId))(base:Nat)(w:World)(ab lm em n:Nat):Prop:= ∃L E,AW pr base w ab lm em n L E
section
variable {pr:Nat→Option (Array Value×TypeId)} {base:Nat} {w w':World} {ab lm em n:Nat} {L:List (Int×Option Nat)} {E:List (Int×List Int)} {q:Nat} {o:Ord}
theorem AW.lt(h:AW pr base w ab lm em n L E):ab<w.heap.size∧lm<w.heap.size∧em<w.heap.size:=⟨(Array.getElem?_eq_some_iff.1 h.blk).1,h.live.lt,h.ended.lt⟩
theorem AW.keep(h:AW pr base w ab lm em n L E)(hk: ∀k,k<w.heap.size→w'.heap[k]? =w.heap[k]?):AW pr base w' ab lm em n L E:=by
 obtain⟨l1,l2,l3⟩:=h.lt;refine⟨by rw[hk ab l1];exact h.blk,h.live.of_block (hk _ l2),h.ended.of_block (hk _ l3),fun p hp=>?_,h.ents,h.ne,h.lo,h.ll,h.el,fun b c t hb=>⟨(h.rows b c t hb).1,by rw[hk b (Array.getElem?_eq_some_iff.1 (h.rows b c t hb).2).1];exact(h.rows b c t hb).2⟩⟩;obtain⟨q,o,h1,h2,h3,h4⟩:=h.ords p hp;exact⟨q,o,h1,h2,⟨by rw[hk q h3.lt];exact h3.blk⟩,h4⟩
theorem AW.below(h:AW pr base w ab lm em n L E)(hb:Below w.heap.size w w'):AW pr base w' ab lm em n L E:=h.keep fun k hk=>hb.block k hk
theorem AW.same(h:AW pr base w ab lm em n L E)(hs:Same w w'):AW pr base w' ab lm em n L E:=h.keep fun k _=>by rw[hs.heap]
theorem AW.more(h:AW pr base w ab lm em n L E)(hm:n≤m):AW pr base w ab lm em m L E:=⟨h.blk,h.live,h.ended,h.ords,h.ents,h.ne,h.lo,Nat.le_trans h.ll hm,Nat.le_trans h.el hm,h.rows⟩
theorem AW.ag(h:AW pr base w ab lm em n L E):AG pr base w ab lm em n:=⟨L,E,h⟩
theorem AW.c0(h:AW pr base w ab lm em n L E):w.cell? ⟨ab,0,none⟩=some (.map (some lm)):=by simp[World.cell?,h.blk]
theorem AW.c1(h:AW pr base w ab lm em n L E):w.cell? ⟨ab,1,none⟩=some (.map (some em)):=by simp[World.cell?,h.blk]
theorem AG.keep(h:AG pr base w ab lm em n)(hk: ∀k,k<w.heap.size→w'.heap[k]? =w.heap[k]?):AG pr base w' ab lm em n:=by obtain⟨L,E,h⟩:=h;exact⟨L,E,h.keep hk⟩
theorem AG.below(h:AG pr base w ab lm em n)(hb:Below w.heap.size w w'):AG pr base w' ab lm em n:=h.keep fun k hk=>hb.block k hk
theorem AG.same(h:AG pr base w ab lm em n)(hs:Same w w'):AG pr base w' ab lm em n:=h.keep fun k _=>by rw[hs.heap]
theorem AG.more(h:AG pr base w ab lm em n)(hm:n≤m):AG pr base w ab lm em m:=by obtain⟨L,E,h⟩:=h;exact⟨L,E,h.more hm⟩
theorem AG.c0(h:AG pr base w ab lm em n):w.cell? ⟨ab,0,none⟩=some (.map (some lm)):=by obtain⟨L,E,h⟩:=h;exact h.c0
theorem AG.c1(h:AG pr base w ab lm em n):w.cell? ⟨ab,1,none⟩=some (.map (some em)):=by obtain⟨L,E,h⟩:=h;exact h.c1
theorem AG.lt(h:AG pr base w ab lm em n):ab<w.heap.size∧lm<w.heap.size∧em<w.heap.size:=by obtain⟨L,E,h⟩:=h;exact h.lt
theorem AW.turn_live{L':List (Int×Option Nat)}(h:AW pr base w ab lm em n L E)(ht:Turned lm w w')(hp:PM ptrElem Tryz.prog 3 w' lm L')(ho: ∀p∈L',∃q o,p.2=some q∧base≤q∧OA w q 0 o∧AOk o)(hl:L'.length≤m)(hm:n≤m):AW pr base w' ab lm em m L' E:=
 ⟨ht.cells h.blk,hp,ht.other h.ended h.ne.symm,fun p hp=>by
  obtain⟨q,o,h1,h2,h3,h4⟩:=ho p hp;exact⟨q,o,h1,h2,⟨ht.cells h3.blk⟩,h4⟩,h.ents,h.ne,h.lo,hl,Nat.le_trans h.el hm,fun b c t hb=>⟨(h.rows b c t hb).1,ht.cells (h.rows b c t hb).2⟩⟩
theorem AW.turn_ended{E':List (Int×List Int)}(h:AW pr base w ab lm em n L E)(ht:Turned em w w')(hp:PM aggElem Tryz.prog 3 w' em E')(ho: ∀p∈E',∃o:Ord,p=(o.id,o.state))(hl:E'.length≤m)(hm:n≤m):AW pr base w' ab lm em m L E':=
 ⟨ht.cells h.blk,ht.other h.live h.ne,hp,fun p hp=>by
  obtain⟨q,o,h1,h2,h3,h4⟩:=h.ords p hp;exact⟨q,o,h1,h2,⟨ht.cells h3.blk⟩,h4⟩,ho,h.ne,h.lo,Nat.le_trans h.ll hm,hl,fun b c t hb=>⟨(h.rows b c t hb).1,ht.cells (h.rows b c t hb).2⟩⟩
theorem Turned.low(ht:Turned m w w')(hm:base≤m)(hw:base≤w.heap.size):Below base w w':=⟨ht.os,ht.tape,ht.output,ht.size,fun k hk=>ht.block k (by omega) (by omega)⟩
theorem Same.low(hs:Same w w'):Below base w w':=⟨hs.os,hs.tape,hs.output,by rw[hs.heap];exact Nat.le_refl _,fun k _=>by rw[hs.heap]⟩
theorem zE4{V:Type}(l:List (Int×V))(k:Int):(strike l k).length≤l.length:=List.length_filter_le _ _
theorem zBx{V:Type}{l:List (Int×V)}{k:Int}{p:Int×V}(h:p∈strike l k):p∈l:=(List.mem_filter.1 h).1
end
theorem Eng.EInv.hide{e:Eng}(h:Eng.EInv e)(i:Nat):Eng.EInv (e.upd i fun o=>{ o with shown:=0 }):=by
 refine h.upd i _ (fun x hx=>?_) (fun _=>rfl) (fun x hx hx2=>absurd rfl hx2) (fun _ hl=>hl);have k:=h.ok i x hx;exact{ k with shn0:=by show(0:Int)≤0;omega,shn1:=k.opn0,whole:=fun _=>.inl rfl,dead:=fun _=>rfl,shp:=fun hl=>absurd hl (by show¬(0:Int)<0;omega) }
def goneC(o:Ord):Ord:={ o with cancelled:=o.opn,opn:=0,shown:=0,status:=3 }
section
variable {F:Nat→Prop} {base:Nat} {w:World} {b i k:Nat} {e:Eng} {g:Gh} {S:Sets} {o r:Ord}
def Coff(F:Nat→Prop)(base:Nat)(w:World)(b:Nat)(g:Gh)(e0:Eng)(reason:Int)(L:List Nat)(wr:World):Prop:= ∃t S' E,CRep F base wr b E { g with txt:=t } S'∧Holds E S' L []∧Touch F w wr∧Eng.EInv E∧Room L.length E∧L.Nodup∧(∀j∈L,∃o,E.all[j]? =some o∧o.status=1)∧Eng.goneAll reason E L=e0
theorem Coff.one{e0:Eng}{reason:Int}{L:List Nat}{wr:World}(hr0:0≤reason∧reason≤255)(h:Coff F base w b g e0 reason (i::L) wr): ∃o:Ord,OA wr (g.blk i) i o∧r63 (o.qty - o.filled)∧∀W,Same wr W→
 Cl 116 #[.pointer (some (iA b 6)),.agg #[iV 4,iV 0,iV o.id,iV 0,iV 0,iV (o.qty - o.filled),iV reason]] W fun en w1=>en=rV #[]∧w1.cell? (iA (g.blk i) 0)=sI o.id∧
  Hid (Cl 207 #[iP b,iP (g.blk i),iV 3] w1 fun en w2=>en=rV #[]∧Hid (Coff F base w b g e0 reason L w2)):=by
 obtain⟨t,S',E,hC,hH,hT,inv,hro,hnd,hlv,hE⟩:=h;obtain⟨o,ho,hs⟩:=hlv i (List.mem_cons_self ..);obtain⟨hiL,hndL⟩:=List.nodup_cons.1 hnd;have k:=inv.ok i o ho;have hop:=k.open_ hs;have hb:0≤o.opn∧o.opn≤1000:=by have:=k.sum;have:=k.fil0;have:=k.can0;have:=k.qty1;have:=k.opn0;omega
 have hq63:r63 (o.qty - o.filled):=by rw[←hop];exact zA0 (by omega) (by omega)
 have hid63:r63 o.id:=zA0 (by have:=k.id0;omega) (by have:=k.id1;omega);have z:r63 0:=⟨by omega,by omega⟩;have hlen:(i::L).length=L.length+1:=rfl;refine⟨o,hC.oa ho hs,hq63,fun W hW=>?_⟩;refine(zB4 4 0 o.id 0 0 (o.qty - o.filled) reason (hC.same hW) (by have:=hro.seq;omega) (by have:=hro.out;omega) ⟨⟨by omega,by omega⟩,hid63,z,z,hq63,⟨by omega,by omega⟩⟩).mono ?_;rintro en w1 ⟨rfl,t1,q1,q2⟩;refine⟨rfl,(q1.oa (i:=i) ho hs).cell 0,?_⟩;have hsm:=(hC.small hH).mono hro.len;refine(zH5 3 [o.id,3,o.price,0,o.filled,o.qty - o.filled,0] goneC q1 (i:=i) ho hs (hH.live ho hs) hid63 hsm (fun W hW=>(zH6 hW hq63).mono ?_) (by simp[Ord.state,goneC,hop]) rfl (by show¬(3:Int)=1;decide)).mono ?_
 ·rintro en w' ⟨rfl,hb'⟩;exact⟨rfl,hb'⟩
 rintro en w2 ⟨rfl,p1,p2⟩;have hge:E.gone i reason=(E.tell 4 o.id 0 0 (o.qty - o.filled) reason).upd i goneC:=by
  unfold Eng.gone;rw[ho];simp only;rw[hop];rfl
 have hg0:=Eng.gone_inv inv ho hs reason;have hst:=Eng.gone_stays E i reason;have hH2:Holds (E.gone i reason) ((S'.off E.all o).fin E.all o i) L []:=by
  rw[hge];exact((hH.gone (f:=goneC) (out':=L) inv ho hs (List.mem_cons_self ..) (fun j hj=>by simp[hj]) (fun j hj=>by cases hj) (by show¬(3:Int)=1;decide) rfl rfl rfl (inv.hide i)).cong rfl)
 refine⟨rfl,t1,_,E.gone i reason,by rw[hge];exact p1,hH2,((hT.trans hW.touch).trans q2).trans p2,hg0,?_,hndL,fun j hj=>?_,?_⟩
 ·have hg1:=Eng.gone_grew E i reason;have:=hro.grew hg1 hst.len (by omega);exact this.mono (by omega)
 ·rw[Eng.gone_ne E i j reason (fun e1=>hiL (e1▸hj))];exact hlv j (List.mem_cons_of_mem _ hj)
 ·rw[←hE];rfl
end
end
section
def IsBest(sd:Int)(Q:Ord→Prop)(p:Int):Prop:=(p=0∧∀x,¬Q x)∨((∃x,Q x∧x.price=p)∧∀y,Q y→bt sd y.price p=false)
theorem zN3{a c:Int}(h1:bt sd a c=false)(h2:bt sd c a=false):a=c:=by
 unfold bt at h1 h2;by_cases hs:sd=2
 ·simp[hs]at *;omega
 ·simp[hs]at *;omega
theorem IsBest.unique{p':Int}(h:IsBest sd Q p)(h':IsBest sd Q p'):p=p':=by
 rcases h with⟨h1,h2⟩|⟨⟨x,hx,hp⟩,h2⟩
 ·rcases h' with⟨h3,h4⟩|⟨⟨y,hy,_⟩,_⟩
  ·rw[h1,h3]
  ·exact absurd hy (h2 y)
 ·rcases h' with⟨h3,h4⟩|⟨⟨y,hy,hq⟩,h4⟩
  ·exact absurd hx (h4 x)
  ·subst hp hq;exact zN3 (h4 x hx) (h2 y hy)
theorem IsBest.cong{Q':Ord→Prop}(h:IsBest sd Q p)(hq: ∀x,Q x↔Q' x):IsBest sd Q' p:=by
 rcases h with⟨h1,h2⟩|⟨⟨x,hx,hp⟩,h2⟩
 ·exact .inl ⟨h1,fun x hx=>h2 x ((hq x).2 hx)⟩
 ·exact .inr ⟨⟨x,(hq x).1 hx,hp⟩,fun y hy=>h2 y ((hq y).2 hy)⟩
theorem zHe(sd a:Int):bt sd a a=false:=by unfold bt;split<;>simp
theorem zN4{a c d:Int}(h1:bt sd a c=true)(h2:bt sd d c=false):bt sd d a=false:=by
 unfold bt at *;by_cases hs:sd=2
 ·simp[hs]at *;omega
 ·simp[hs]at *;omega
theorem IsBest.more{x:Ord}(h:IsBest sd Q p)(hpos:1≤x.price)(hp: ∀y,Q y→1≤y.price):IsBest sd (fun y=>Q y∨y=x) (if p=0∨bt sd x.price p=true then x.price else p):=by
 rcases h with⟨h1,h2⟩|⟨⟨z,hz,hpz⟩,h2⟩
 ·rw[if_pos (.inl h1)];refine .inr ⟨⟨x,.inr rfl,rfl⟩,fun y hy=>?_⟩;rcases hy with hy|rfl
  ·exact absurd hy (h2 y)
  ·exact zHe _ _
 ·have h0:p≠0:=by have:=hp z hz;omega
  by_cases hb:bt sd x.price p=true
  ·rw[if_pos (.inr hb)];refine .inr ⟨⟨x,.inr rfl,rfl⟩,fun y hy=>?_⟩;rcases hy with hy|rfl
   ·exact zN4 hb (h2 y hy)
   ·exact zHe _ _
  ·rw[if_neg (fun hc=>hc.elim h0 hb)];refine .inr ⟨⟨z,.inl hz,hpz⟩,fun y hy=>?_⟩;rcases hy with hy|rfl
   ·exact h2 y hy
   ·simpa using hb
def good(sd:Int)(x:Ord):Prop:=x.side=sd∧x.typ≠3∧0<x.shown
theorem zE5(hsd:sd=1∨sd=2): ∀(l:List Ord) (p:Int) (Q:Ord→Prop),IsBest sd Q p→(∀y,Q y→1≤y.price)→(∀y∈l,good sd y→1≤y.price)→IsBest sd (fun y=>Q y∨(y∈l∧good sd y)) (l.foldl (fun p x=>if x.side=sd∧x.typ≠3∧0<x.shown∧(p=0∨(sd=1∧p<x.price)∨(sd=2∧x.price<p)) then x.price else p) p)
 | [],p,Q,h,_,_=>h.cong fun x=>by simp
 |x::l,p,Q,h,hQ,hl=>by
  rw[List.foldl_cons];have hbt: ∀a c:Int,bt sd a c=true↔(sd=1∧c<a)∨(sd=2∧a<c):=fun a c=>by
   unfold bt;rcases hsd with rfl|rfl<;>simp
  by_cases hg:good sd x
  ·have hm:=h.more (x:=x) (hl x (List.mem_cons_self ..) hg) hQ;have he:(if x.side=sd∧x.typ≠3∧0<x.shown∧(p=0∨(sd=1∧p<x.price)∨(sd=2∧x.price<p)) then x.price else p)=if p=0∨bt sd x.price p=true then x.price else p:=by
    by_cases hc:p=0∨(sd=1∧p<x.price)∨(sd=2∧x.price<p)
    ·rw[if_pos (hc.imp_right (hbt _ _).2),if_pos ⟨hg.1,hg.2.1,hg.2.2,hc⟩]
    ·rw[if_neg (fun hd=>hc hd.2.2.2),if_neg (fun hd=>hc (hd.imp_right (hbt _ _).1))]
   rw[he];refine(zE5 hsd l _ _ hm (fun y hy=>?_) (fun y hy=>hl y (List.mem_cons_of_mem _ hy))).cong fun y=>?_
   ·rcases hy with hy|rfl
    ·exact hQ y hy
    ·exact hl y (List.mem_cons_self ..) hg
   ·constructor
    ·rintro((h1|rfl)|⟨h1,h2⟩)
     ·exact .inl h1
     ·exact .inr ⟨List.mem_cons_self ..,hg⟩
     ·exact .inr ⟨List.mem_cons_of_mem _ h1,h2⟩
    ·rintro(h1|⟨h1,h2⟩)
     ·exact .inl (.inl h1)
     ·rcases List.mem_cons.1 h1 with rfl|h1
      ·exact .inl (.inr rfl)
      ·exact .inr ⟨h1,h2⟩
  ·rw[if_neg (fun hc=>hg ⟨hc.1,hc.2.1,hc.2.2.1⟩)];refine(zE5 hsd l p Q h hQ (fun y hy=>hl y (List.mem_cons_of_mem _ hy))).cong fun y=>?_
   constructor
   ·rintro(h1|⟨h1,h2⟩)
    ·exact .inl h1
    ·exact .inr ⟨List.mem_cons_of_mem _ h1,h2⟩
   ·rintro(h1|⟨h1,h2⟩)
    ·exact .inl h1
    ·rcases List.mem_cons.1 h1 with rfl|h1
     ·exact absurd h2 hg
     ·exact .inr ⟨h1,h2⟩
theorem zN5(hsd:sd=1∨sd=2)(l:List Ord)(hl: ∀y∈l,good sd y→1≤y.price):IsBest sd (fun y=>y∈l∧good sd y) (Eng.bestOf sd l):=
 (zE5 hsd l 0 (fun _=>False) (.inl ⟨rfl,fun _ h=>h⟩) (fun _ h=>h.elim) hl).cong fun x=>by simp
def Came(al:List Ord)(g:Gh)(B:List Nat)(seen:List (Int×Option Nat))(x:Ord):Prop:= ∃j∈B,ent al g j∈seen∧al[j]? =some x∧x.typ≠3
section
variable {sd:Int} {al:List Ord} {g:Gh} {B:List Nat} {seen:List (Int×Option Nat)} {j0:Nat} {o:Ord} {p:Int}
theorem Came.nil:IsBest sd (Came al g B []) 0:=.inl ⟨rfl,fun x ⟨j,_,h,_⟩=>by cases h⟩
theorem Came.skip(hinj: ∀i j,i∈B→j∈B→g.blk i=g.blk j→i=j)(h0:j0∈B)(ho:al[j0]? =some o)(h:IsBest sd (Came al g B seen) p)(ht:o.typ=3):IsBest sd (Came al g B (seen++ [ent al g j0])) p:=
 h.cong fun x=>by
  constructor
  ·rintro⟨j,hj,h1,h2,h3⟩;exact⟨j,hj,List.mem_append_left _ h1,h2,h3⟩
  ·rintro⟨j,hj,h1,h2,h3⟩;rcases zBk hinj h0 hj h1 with h4|rfl
   ·exact⟨j,hj,h4,h2,h3⟩
   ·obtain rfl:o=x:=Option.some.inj (ho.symm.trans h2);exact absurd ht h3
theorem Came.take(hinj: ∀i j,i∈B→j∈B→g.blk i=g.blk j→i=j)(h0:j0∈B)(ho:al[j0]? =some o)(h:IsBest sd (Came al g B seen) p)(ht:o.typ≠3)(hpos: ∀j∈B,∀x,al[j]? =some x→1≤x.price):IsBest sd (Came al g B (seen++ [ent al g j0])) (if p=0∨bt sd o.price p=true then o.price else p):=
 (h.more (hpos j0 h0 o ho) (fun y ⟨j,hj,_,h2,_⟩=>hpos j hj y h2)).cong fun x=>by
  constructor
  ·rintro(⟨j,hj,h1,h2,h3⟩|rfl)
   ·exact⟨j,hj,List.mem_append_left _ h1,h2,h3⟩
   ·exact⟨j0,h0,by simp,ho,ht⟩
  ·rintro⟨j,hj,h1,h2,h3⟩;rcases zBk hinj h0 hj h1 with h4|rfl
   ·exact .inl ⟨j,hj,h4,h2,h3⟩
   ·exact .inr (Option.some.inj (h2.symm.trans ho))
theorem Came.pos(hpos: ∀j∈B,∀x,al[j]? =some x→1≤x.price)(h:IsBest sd (Came al g B seen) p):0≤p∧(p=0∨1≤p):=by
 rcases h with⟨rfl,_⟩|⟨⟨x,⟨j,hj,_,h2,_⟩,rfl⟩,_⟩
 ·exact⟨by omega,.inl rfl⟩
 ·have:=hpos j hj x h2;exact⟨by omega,.inr this⟩
end
theorem Came.best{e:Eng}{g:Gh}{B:List Nat}{seen:List (Int×Option Nat)}(inv:Eng.EInv e)(hsd:sd=1∨sd=2)(hB: ∀j,j∈B↔∃x,e.all[j]? =some x∧Eng.rests sd x=true)(hall: ∀j∈B,ent e.all g j∈seen)(h:IsBest sd (Came e.all g B seen) p):p=Eng.bestOf sd e.all:=by
 refine h.unique ?_;refine(zN5 hsd e.all (fun y hy hg=>?_)).cong fun x=>?_
 ·obtain⟨j,hj⟩:=List.mem_iff_getElem?.1 hy;exact(inv.ok j y hj).shp hg.2.2
 ·constructor
  ·rintro⟨hx,hg⟩;obtain⟨j,hj⟩:=List.mem_iff_getElem?.1 hx;have hjB:=(hB j).2 ⟨x,hj,by have:=hg.2.2;simp[Eng.rests,hg.1];omega⟩;exact⟨j,hjB,hall j hjB,hj,hg.2.1⟩
  ·rintro⟨j,hj,_,h2,h3⟩;obtain⟨y,hy,hr⟩:=(hB j).1 hj;obtain rfl:x=y:=Option.some.inj (h2.symm.trans hy);obtain⟨h4,h5⟩:=Eng.rests_shown hr;exact⟨List.mem_iff_getElem?.2 ⟨j,h2⟩,h5,h3,by have:=(inv.ok j x h2).shn0;omega⟩
end
section
open Go.Extern Go.Maps Go.RowKit
section
variable {F:Nat→Prop} {base:Nat} {w:World} {b:Nat} {e:Eng} {g:Gh} {S:Sets}
def found(p:Int):Value:=.bool (!(p == 0))
theorem zN6(h:CRep F base w b e g S)(inv:Eng.EInv e)(hH:Holds e S [] []):
 Cl 266 #[iP g.buyB,.func (.func 267) #[] #[]] w fun en w'=>en=rV #[iV (Eng.bestOf 1 e.all),found (Eng.bestOf 1 e.all)]∧Below w.heap.size w w':=by
 have hpm:=h.body.buy;have d0:w.cell? (iA g.buyB 0)=some (.map (some g.buyM)):=by simp[World.cell?,h.body.buyB]
 have hin: ∀j∈S.buy,∃x,e.all[j]? =some x∧¬x.shown=0:=fun j hj=>by
  obtain⟨x,h1,h2,h3⟩:=hH.buy1 j hj;exact⟨x,h1,h3.resolve_right (by simp)⟩
 have hinj: ∀i j,i∈S.buy→j∈S.buy→g.blk i=g.blk j→i=j:=fun i j hi hj hij=>by
  obtain⟨x,h1,_⟩:=hin i hi;obtain⟨y,h2,_⟩:=hin j hj;exact h.body.inj i j (List.getElem?_eq_some_iff.1 h1).1 (List.getElem?_eq_some_iff.1 h2).1 hij
 have hoa: ∀(W:World),Bw w W→∀j∈S.buy,∃x,e.all[j]? =some x∧OA W (g.blk j) j x:=fun W hW j hj=>by
  obtain⟨x,h1,h2⟩:=hin j hj;have hst:x.status=1:=Classical.byContradiction fun hc=>h2 ((inv.ok j x h1).dead hc)
  have hO:=h.oa h1 hst;exact⟨x,h1,⟨(hW.block _ hO.lt).trans hO.blk⟩⟩
 have hpos: ∀j∈S.buy,∀x,e.all[j]? =some x→1≤x.price:=fun j hj x hx=>by
  obtain⟨y,h1,h2⟩:=hin j hj;obtain rfl:x=y:=Option.some.inj (hx.symm.trans h1);exact(inv.ok j x hx).shp (by have:=(inv.ok j x hx).shn0;omega)
 have HINJ:=hid hinj;have HOA:=hid hoa;have HPO:=hid hpos;have HFIN:Hid (∀seen p,(∀j∈S.buy,ent e.all g j∈seen)→IsBest 1 (Came e.all g S.buy seen) p→p=Eng.bestOf 1 e.all):=fun seen p h1 h2=>Came.best inv (by decide) hH.inBuy h1 h2
 go_enter Tryz.func266,Tryz.ntmps266;go_wp2_with(first
  |(at_range;refine zBu _ rfl _ _ rfl keyedInt Tryz.underlying110 rfl hpm ?_;intro w0 hpr0 hg0 hs0)
  |go_in)
 go_frame;go_loopw [6,7] (fun av fv wr=> ∃(seen rem:List (Int×Option Nat)) (p:Int),av=iV p∧fv=found p∧PR ptrElem Tryz.prog 3 wr g.buyM w.heap.size (S.buy.map fun i=>(idAt e.all i,some (g.blk i))) seen rem∧IsBest 1 (Came e.all g S.buy seen) p∧Bw w wr) (fun _ _ wr=>wr.rangeLeft g.buyM w.heap.size)
 case atStart=>exact⟨[],_,0,rfl,rfl,hpr0,Came.nil,(Below.refl w.heap.size w).grown hg0 (Nat.le_refl _) (by simp)⟩
 case round=>
  obtain⟨seen,rem,p,rfl,rfl,hpr,hbest,hbel⟩:=hrel;have HBE:=hid hbest;have HBL:=hid hbel;go_wp2_with(first
   |(at_next;refine zBv _ rfl _ rfl keyedInt Tryz.underlying3 g.buyM w.heap.size seen rem rfl hpr ?_ ?_)
   |go_in)
  ·intro h0;have HALL:Hid (∀j∈S.buy,ent e.all g j∈seen):=fun j hj=>by
    have:=hpr.1;rw[h0,List.append_nil]at this;exact this.mem_iff.2 (List.mem_map_of_mem (f:=fun i=>(idAt e.all i,some (g.blk i))) hj)
   have HP:=hid (HFIN.out seen p HALL.out HBE.out);go_wp2;exact bodyPost_ret (v:=.tuple #[iV p,found p]) (by simp[results,Tryz.results266,go_sem]) rfl ⟨by rw[←HP.out],HBL.out⟩
  ·intro k v rem' w1 j0 hj0 hk hv hpr1 hg1 hs1 hlt hen;subst hk hv;have hval:ptrElem.val (some (g.blk j0))=iP (g.blk j0):=rfl;rw[hval]at hen⊢;have hB1:Bw w w1:=HBL.grown hg1 HBL.size (by intro k hk;injection hk with hk;omega);obtain⟨x,hx,hO⟩:=HOA.out w1 hB1 j0 hj0;have x2:cI w1 (g.blk j0) 2 x.typ:=hO.cell 2;have x3:cI w1 (g.blk j0) 3 x.price:=hO.cell 3;have HPR:=hid hpr1;have HB1:=hid hB1;have HLT:=hid hlt;have HX:=hid hx;have HJ:=hid hj0;by_cases q1:x.typ=3
   ·have HQ:=hid q1;go_wp2;go_roundw
    case rel=>exact⟨_,rem',p,rfl,rfl,HPR.out,Came.skip HINJ.out HJ.out HX.out HBE.out HQ.out,HB1.out⟩
    case measure=>exact HLT.out
   ·have HTK:=hid (Came.take HINJ.out HJ.out HX.out HBE.out q1 HPO.out);have HP0:Hid (1≤x.price):=HPO.out j0 HJ.out x HX.out;unfold found;cases q2:(p == 0)
    case true=>
     have HE:Hid ((if p=0∨bt 1 x.price p=true then x.price else p)=x.price):=if_pos (.inl (by simpa using q2));simp only[Bool.not_true];go_wp2;go_roundw
     case rel=>exact⟨_,rem',x.price,rfl,(by unfold found;have:=HP0.out;have h3:(x.price == 0)=false:=(by simp;omega);rw[h3];rfl),HPR.out,(by have:=HTK.out;rw[HE.out]at this;exact this),HB1.out⟩
     case measure=>exact HLT.out
    case false=>
     simp only[Bool.not_false];go_wp2_with fail;refine(zHa x.price p).mono ?_;rintro en w2 ⟨rfl,rfl⟩;cases q3:decide (p<x.price)
     case true=>
      have HE:Hid ((if p=0∨bt 1 x.price p=true then x.price else p)=x.price):=if_pos (.inr (by simpa [bt] using q3));go_wp2;go_roundw
      case rel=>exact⟨_,rem',x.price,rfl,(by unfold found;have:=HP0.out;have h3:(x.price == 0)=false:=(by simp;omega);rw[h3];rfl),HPR.out,(by have:=HTK.out;rw[HE.out]at this;exact this),HB1.out⟩
      case measure=>exact HLT.out
     case false=>
      have HE:Hid ((if p=0∨bt 1 x.price p=true then x.price else p)=p):=if_neg (fun hc=>hc.elim (by simpa using q2) (by simpa [bt] using q3));go_wp2;go_roundw
      case rel=>exact⟨_,rem',p,rfl,(by unfold found;rw[q2];rfl),HPR.out,(by have:=HTK.out;rw[HE.out]at this;exact this),HB1.out⟩
      case measure=>exact HLT.out
theorem zN7(h:CRep F base w b e g S)(inv:Eng.EInv e)(hH:Holds e S [] []):
 Cl 263 #[iP g.buyB] w fun en w'=>en=rV #[iV (Eng.bestOf 1 e.all),found (Eng.bestOf 1 e.all)]∧Below w.heap.size w w':=by
 have HF:=hid (zN6 h inv hH);generalize Eng.bestOf 1 e.all=p at *;go_enter Tryz.func263,Tryz.ntmps263;go_wp2_with fail;refine HF.mono ?_;rintro en w1 ⟨rfl,hB⟩;have HB:=hid hB;go_wp2;exact bodyPost_ret (v:=.tuple #[iV p,found p]) (by simp[results,Tryz.results263,go_sem]) rfl ⟨rfl,HB⟩
theorem zN8(h:CRep F base w b e g S)(inv:Eng.EInv e)(hH:Holds e S [] []):
 Cl 266 #[iP g.selB,.func (.func 271) #[] #[]] w fun en w'=>en=rV #[iV (Eng.bestOf 2 e.all),found (Eng.bestOf 2 e.all)]∧Below w.heap.size w w':=by
 have hpm:=h.body.sel;have d0:w.cell? (iA g.selB 0)=some (.map (some g.selM)):=by simp[World.cell?,h.body.selB]
 have hin: ∀j∈S.sel,∃x,e.all[j]? =some x∧¬x.shown=0:=fun j hj=>by
  obtain⟨x,h1,h2,h3⟩:=hH.sel1 j hj;exact⟨x,h1,h3.resolve_right (by simp)⟩
 have hinj: ∀i j,i∈S.sel→j∈S.sel→g.blk i=g.blk j→i=j:=fun i j hi hj hij=>by
  obtain⟨x,h1,_⟩:=hin i hi;obtain⟨y,h2,_⟩:=hin j hj;exact h.body.inj i j (List.getElem?_eq_some_iff.1 h1).1 (List.getElem?_eq_some_iff.1 h2).1 hij
 have hoa: ∀(W:World),Bw w W→∀j∈S.sel,∃x,e.all[j]? =some x∧OA W (g.blk j) j x:=fun W hW j hj=>by
  obtain⟨x,h1,h2⟩:=hin j hj;have hst:x.status=1:=Classical.byContradiction fun hc=>h2 ((inv.ok j x h1).dead hc)
  have hO:=h.oa h1 hst;exact⟨x,h1,⟨(hW.block _ hO.lt).trans hO.blk⟩⟩
 have hpos: ∀j∈S.sel,∀x,e.all[j]? =some x→1≤x.price:=fun j hj x hx=>by
  obtain⟨y,h1,h2⟩:=hin j hj;obtain rfl:x=y:=Option.some.inj (hx.symm.trans h1);exact(inv.ok j x hx).shp (by have:=(inv.ok j x hx).shn0;omega)
 have HINJ:=hid hinj;have HOA:=hid hoa;have HPO:=hid hpos;have HFIN:Hid (∀seen p,(∀j∈S.sel,ent e.all g j∈seen)→IsBest 2 (Came e.all g S.sel seen) p→p=Eng.bestOf 2 e.all):=fun seen p h1 h2=>Came.best inv (by decide) (hH.inSel inv) h1 h2
 go_enter Tryz.func266,Tryz.ntmps266;go_wp2_with(first
  |(at_range;refine zBu _ rfl _ _ rfl keyedInt Tryz.underlying110 rfl hpm ?_;intro w0 hpr0 hg0 hs0)
  |go_in)
 go_frame;go_loopw [6,7] (fun av fv wr=> ∃(seen rem:List (Int×Option Nat)) (p:Int),av=iV p∧fv=found p∧PR ptrElem Tryz.prog 3 wr g.selM w.heap.size (S.sel.map fun i=>(idAt e.all i,some (g.blk i))) seen rem∧IsBest 2 (Came e.all g S.sel seen) p∧Bw w wr) (fun _ _ wr=>wr.rangeLeft g.selM w.heap.size)
 case atStart=>exact⟨[],_,0,rfl,rfl,hpr0,Came.nil,(Below.refl w.heap.size w).grown hg0 (Nat.le_refl _) (by simp)⟩
 case round=>
  obtain⟨seen,rem,p,rfl,rfl,hpr,hbest,hbel⟩:=hrel;have HBE:=hid hbest;have HBL:=hid hbel;go_wp2_with(first
   |(at_next;refine zBv _ rfl _ rfl keyedInt Tryz.underlying3 g.selM w.heap.size seen rem rfl hpr ?_ ?_)
   |go_in)
  ·intro h0;have HALL:Hid (∀j∈S.sel,ent e.all g j∈seen):=fun j hj=>by
    have:=hpr.1;rw[h0,List.append_nil]at this;exact this.mem_iff.2 (List.mem_map_of_mem (f:=fun i=>(idAt e.all i,some (g.blk i))) hj)
   have HP:=hid (HFIN.out seen p HALL.out HBE.out);go_wp2;exact bodyPost_ret (v:=.tuple #[iV p,found p]) (by simp[results,Tryz.results266,go_sem]) rfl ⟨by rw[←HP.out],HBL.out⟩
  ·intro k v rem' w1 j0 hj0 hk hv hpr1 hg1 hs1 hlt hen;subst hk hv;have hval:ptrElem.val (some (g.blk j0))=iP (g.blk j0):=rfl;rw[hval]at hen⊢;have hB1:Bw w w1:=HBL.grown hg1 HBL.size (by intro k hk;injection hk with hk;omega);obtain⟨x,hx,hO⟩:=HOA.out w1 hB1 j0 hj0;have x2:cI w1 (g.blk j0) 2 x.typ:=hO.cell 2;have x3:cI w1 (g.blk j0) 3 x.price:=hO.cell 3;have HPR:=hid hpr1;have HB1:=hid hB1;have HLT:=hid hlt;have HX:=hid hx;have HJ:=hid hj0;by_cases q1:x.typ=3
   ·have HQ:=hid q1;go_wp2;go_roundw
    case rel=>exact⟨_,rem',p,rfl,rfl,HPR.out,Came.skip HINJ.out HJ.out HX.out HBE.out HQ.out,HB1.out⟩
    case measure=>exact HLT.out
   ·have HTK:=hid (Came.take HINJ.out HJ.out HX.out HBE.out q1 HPO.out);have HP0:Hid (1≤x.price):=HPO.out j0 HJ.out x HX.out;unfold found;cases q2:(p == 0)
    case true=>
     have HE:Hid ((if p=0∨bt 2 x.price p=true then x.price else p)=x.price):=if_pos (.inl (by simpa using q2));simp only[Bool.not_true];go_wp2;go_roundw
     case rel=>exact⟨_,rem',x.price,rfl,(by unfold found;have:=HP0.out;have h3:(x.price == 0)=false:=(by simp;omega);rw[h3];rfl),HPR.out,(by have:=HTK.out;rw[HE.out]at this;exact this),HB1.out⟩
     case measure=>exact HLT.out
    case false=>
     simp only[Bool.not_false];go_wp2_with fail;refine(zHb x.price p).mono ?_;rintro en w2 ⟨rfl,rfl⟩;cases q3:decide (x.price<p)
     case true=>
      have HE:Hid ((if p=0∨bt 2 x.price p=true then x.price else p)=x.price):=if_pos (.inr (by simpa [bt] using q3));go_wp2;go_roundw
      case rel=>exact⟨_,rem',x.price,rfl,(by unfold found;have:=HP0.out;have h3:(x.price == 0)=false:=(by simp;omega);rw[h3];rfl),HPR.out,(by have:=HTK.out;rw[HE.out]at this;exact this),HB1.out⟩
      case measure=>exact HLT.out
     case false=>
      have HE:Hid ((if p=0∨bt 2 x.price p=true then x.price else p)=p):=if_neg (fun hc=>hc.elim (by simpa using q2) (by simpa [bt] using q3));go_wp2;go_roundw
      case rel=>exact⟨_,rem',p,rfl,(by unfold found;rw[q2];rfl),HPR.out,(by have:=HTK.out;rw[HE.out]at this;exact this),HB1.out⟩
      case measure=>exact HLT.out
theorem zN9(h:CRep F base w b e g S)(inv:Eng.EInv e)(hH:Holds e S [] []):
 Cl 269 #[iP g.selB] w fun en w'=>en=rV #[iV (Eng.bestOf 2 e.all),found (Eng.bestOf 2 e.all)]∧Below w.heap.size w w':=by
 have HF:=hid (zN8 h inv hH);generalize Eng.bestOf 2 e.all=p at *;go_enter Tryz.func269,Tryz.ntmps269;go_wp2_with fail;refine HF.mono ?_;rintro en w1 ⟨rfl,hB⟩;have HB:=hid hB;go_wp2;exact bodyPost_ret (v:=.tuple #[iV p,found p]) (by simp[results,Tryz.results269,go_sem]) rfl ⟨rfl,HB⟩
end
section
theorem Cmid.drew{F:Nat→Prop}{base:Nat}{w w':World}{b:Nat}{g:Gh}{S:Sets}{e':Eng}(h:Cmid F base w b g S e' w'):Cmid F base w b g S e' w'.drew:=by
 obtain⟨t,h1,h2⟩:=h;exact⟨t,h1.drew,h2.drewN 1⟩
variable {F:Nat→Prop} {base:Nat} {w:World} {b i k:Nat} {e:Eng} {g:Gh} {S:Sets} {o r:Ord}
theorem zNa(h:CRep F base w b e g S)(inv:Eng.EInv e)(hH:Holds e S [] [])(ho:e.all[i]? =some o)(hr:e.all[k]? =some r)(hne:i≠k)(hos:o.status=1)(hsh:o.shown=0)(hop:0<o.opn)(hrs:r.shown≠0)(hrst:r.status=1)(hro:Room 2 e)(hsu:Sums o.opn e)(hd:Dr e):
 Cl 205 #[iP b,iP (g.blk i),iP (g.blk k)] w fun en w'=>en=rV #[]∧Hid (Cdone F base w b g (e.trade i k) w'):=by
 have hOi:=h.oa ho hos;have hOk:=h.oa hr hrst;have ko:=inv.ok i o ho;have kr:=inv.ok k r hr;obtain⟨hq1,hq2,hq3⟩:=Eng.qty_bd kr hop hrs;have hopn:=ko.open_ hos;have hrpn:=kr.open_ hrst;have hob:o.opn≤1000∧0≤o.filled∧o.filled≤1000:=by have:=ko.sum;have:=ko.fil0;have:=ko.can0;have:=ko.qty1;have:=ko.opn0;omega
 have hrb:r.opn≤1000∧0≤r.filled∧r.filled≤1000∧r.shown≤r.opn:=by have:=kr.sum;have:=kr.fil0;have:=kr.can0;have:=kr.qty1;have:=kr.opn0;have:=kr.shn1;omega
 have hpr:0≤r.price∧r.price≤1000000:=⟨kr.prc0,by have:=kr.prc1;have:=inv.mp1;omega⟩;have hmul0:0≤r.price*Eng.qtyOf o r:=Int.mul_nonneg hpr.1 (by omega);have hmul1:r.price*Eng.qtyOf o r≤1000000*1000:=Int.mul_le_mul hpr.2 (by omega) (by omega) (by omega);have HQE:Hid ((if r.shown<o.opn then r.shown else o.opn)=Eng.qtyOf o r):=rfl;have hid63:r63 o.id:=zA0 (by have:=ko.id0;omega) (by have:=ko.id1;omega);have hrd63:r63 r.id:=zA0 (by have:=kr.id0;omega) (by have:=kr.id1;omega);have z:r63 0:=⟨by omega,by omega⟩;have hle:=hro.len;have hbi:b≠g.blk i:=fun e1=>by
  have:=h.blk;rw[e1,hOi.blk]at this;injection this with this;injection this with _ this _;exact absurd this (by decide)
 have hbk:b≠g.blk k:=fun e1=>by
  have:=h.blk;rw[e1,hOk.blk]at this;injection this with this;injection this with _ this _;exact absurd this (by decide)
 have hik:g.blk i≠g.blk k:=fun e1=>hne (h.body.inj i k (List.getElem?_eq_some_iff.1 ho).1 (List.getElem?_eq_some_iff.1 hr).1 e1)
 have hbi':=hbi.symm;have hbk':=hbk.symm;have hik':=hik.symm;have hw1:wrap64 (r.price*Eng.qtyOf o r)=r.price*Eng.qtyOf o r:=by unfold wrap64;omega
 have hw2:wrap64 (e.worth+r.price*Eng.qtyOf o r)=e.worth+r.price*Eng.qtyOf o r:=by have:=hsu.w0;have:=hsu.w1;unfold wrap64;omega
 have hw3:wrap64 (e.volume+Eng.qtyOf o r)=e.volume+Eng.qtyOf o r:=by have:=hsu.v0;have:=hsu.v1;unfold wrap64;omega
 have hw4:wrap64 (o.filled+Eng.qtyOf o r)=o.filled+Eng.qtyOf o r:=by unfold wrap64;omega
 have hw5:wrap64 (r.filled+Eng.qtyOf o r)=r.filled+Eng.qtyOf o r:=by unfold wrap64;omega
 have hw6:wrap64 (r.shown - Eng.qtyOf o r)=r.shown - Eng.qtyOf o r:=by unfold wrap64;omega
 have hv1:IntKind.i64.wrap (r.price*Eng.qtyOf o r)=r.price*Eng.qtyOf o r:=zA8 _ (by omega) (by omega);have hv2:IntKind.i64.wrap (e.worth+r.price*Eng.qtyOf o r)=e.worth+r.price*Eng.qtyOf o r:=zA8 _ (by have:=hsu.w0;omega) (by have:=hsu.w1;omega);have HOP:Hid (∀W,Same w W→Cl 124 #[iP (g.blk i)] W fun en w1=>en=.returned (iV o.opn)∧cI w1 (g.blk k) 11 r.shown∧cI w1 (g.blk i) 0 o.id∧cI w1 (g.blk k) 0 r.id∧cI w1 (g.blk k) 3 r.price∧Hid (Same w w1)):=by
  intro W hW;refine(zAi (hOi.same hW) (zA0 (by omega) (by omega))).mono ?_;rintro en w1 ⟨rfl,hs1⟩;have hs:=hW.trans hs1;exact⟨by rw[hopn],(hOk.same hs).cell 11,(hOi.same hs).cell 0,(hOk.same hs).cell 0,(hOk.same hs).cell 3,hs⟩
 have HTL:Hid (∀W,Same w W→Cl 116 #[.pointer (some (iA b 6)),.agg #[iV 3,iV 0,iV o.id,iV r.id,iV r.price,iV (Eng.qtyOf o r),iV 0]] W fun en w1=>en=rV #[]∧cI w1 b 14 e.worth∧w1.frozen? (iA b 14)=false∧cI w1 b 15 e.volume∧w1.frozen? (iA b 15)=false∧cI w1 (g.blk i) 10 o.filled∧w1.frozen? (iA (g.blk i) 10)=false∧cI w1 (g.blk k) 3 r.price∧cI w1 (g.blk k) 10 r.filled∧w1.frozen? (iA (g.blk k) 10)=false∧cI w1 (g.blk k) 11 r.shown∧w1.frozen? (iA (g.blk k) 11)=false∧cI w1 (g.blk i) 0 o.id∧cI w1 (g.blk k) 0 r.id∧
  Hid (Cmid F base w b g S (e.trade1 i k o r) (((((w1.setCell (iA b 14) (iV (e.worth+r.price*Eng.qtyOf o r))).setCell (iA b 15) (iV (e.volume+Eng.qtyOf o r))).setCell (iA (g.blk i) 10) (iV (o.filled+Eng.qtyOf o r))).setCell (iA (g.blk k) 10) (iV (r.filled+Eng.qtyOf o r))).setCell (iA (g.blk k) 11) (iV (r.shown - Eng.qtyOf o r))))):=by
  intro W hW;refine(zB4 3 0 o.id r.id r.price (Eng.qtyOf o r) 0 (h.same hW) (by have:=hro.seq;omega) (by have:=hro.out;omega) ⟨⟨by omega,by omega⟩,hid63,hrd63,zA0 hpr.1 (by omega),zA0 (by omega) (by omega),z⟩).mono ?_;rintro en w1 ⟨rfl,t,q1,q2⟩;have hOi1:=q1.oa (i:=i) ho hos;have hOk1:=q1.oa (i:=k) hr hrst;refine⟨rfl,q1.cell 14,q1.froz 14,q1.cell 15,q1.froz 15,hOi1.cell 10,hOi1.froz 10,hOk1.cell 3,hOk1.cell 10,hOk1.froz 10,hOk1.cell 11,hOk1.froz 11,hOi1.cell 0,hOk1.cell 0,t,?_⟩;obtain⟨p1,p2⟩:=q1.traded (i:=i) (k:=k) ho hr hne hos hrst (hH.live ho hos) (hH.live hr hrst) (e.worth+r.price*Eng.qtyOf o r) (e.volume+Eng.qtyOf o r) (by rw[Int.mul_comm];rfl) rfl;refine⟨?_,(hW.touch.trans q2).trans p2⟩
  have hE:e.trade1 i k o r=({ (e.tell 3 o.id r.id r.price (Eng.qtyOf o r) 0) with worth:=e.worth+r.price*Eng.qtyOf o r,volume:=e.volume+Eng.qtyOf o r }.upd i fun _=>Eng.tradeO o r).upd k fun _=>Eng.tradeR o r:=by
   rw[Int.mul_comm];rfl
  rw[hE];exact p1
 have inv1:=Eng.EInv.trade1 inv i k o r ho hr hne hos hsh hop hrs;have hk1:(e.trade1 i k o r).all[k]? =some (Eng.tradeR o r):=by rw[Eng.trade1_at,if_pos rfl,hr];rfl
 have HOR:Hid (∀W,Cmid F base w b g S (e.trade1 i k o r) W→Cl 124 #[iP (g.blk k)] W fun en w1=>en=.returned (iV (r.opn - Eng.qtyOf o r))∧cI w1 (g.blk k) 11 (r.shown - Eng.qtyOf o r)∧Hid (Cmid F base w b g S (e.trade1 i k o r) w1)):=by
  rintro W ⟨t,q1,q2⟩;have hO:=q1.oa (i:=k) hk1 hrst;have hx:(Eng.tradeR o r).qty - (Eng.tradeR o r).filled=r.opn - Eng.qtyOf o r:=by show r.qty - (r.filled+Eng.qtyOf o r)=_;omega
  refine(zAi hO (by rw[hx];exact zA0 (by omega) (by omega))).mono ?_;rintro en w1 ⟨rfl,hs1⟩;exact⟨by rw[hx],(hO.same hs1).cell 11,t,q1.same hs1,q2.trans hs1.touch⟩
 have HFL:Hid (r.opn - Eng.qtyOf o r=0→∀W,Cmid F base w b g S (e.trade1 i k o r) W→Cl 206 #[iP b,iP (g.blk k)] W fun en w'=>en=rV #[]∧Hid (Cdone F base w b g (e.trade i k) w')):=fun h0 W hW=>zMx inv hH ho hr hne hos hsh hop hrs hrst hle h0 W hW
 have HDR:Hid (r.opn - Eng.qtyOf o r≠0→r.shown - Eng.qtyOf o r=0→∀W,Cmid F base w b g S (e.trade1 i k o r) W→Cl 231 #[iP b,iP (g.blk k)] W fun en w1=>en=.returned (iV ((e.trade1 i k o r).again (Eng.tradeR o r)))∧Hid (Cl 203 #[iP b,iP (g.blk k),iV ((e.trade1 i k o r).again (Eng.tradeR o r))] w1 fun en w'=>en=rV #[]∧Hid (Cdone F base w b g (e.trade i k) w'))):=fun h0 h1 W hW=>zMy inv hH ho hr hne hos hsh hop hrs hrst hro hd h0 h1 W hW
 have HNO:Hid (r.opn - Eng.qtyOf o r≠0→r.shown - Eng.qtyOf o r≠0→∀W,Cmid F base w b g S (e.trade1 i k o r) W→Cdone F base w b g (e.trade i k) W):=by
  rintro h0 h1 W ⟨t,q1,q2⟩;have het:e.trade i k=e.trade1 i k o r:=by
   rw[Eng.trade_eq e i k o r ho hr hne];unfold Eng.trade2;rw[if_neg (show¬(Eng.tradeR o r).opn=0 from h0),if_neg (show¬(Eng.tradeR o r).shown=0 from h1)]
  rw[het];exact⟨t,S,q1,hH.traded' ho hr hne hsh hrs h1,q2⟩
 have ck11:cI w (g.blk k) 11 r.shown:=hOk.cell 11;clear h inv hH ho hr hne hos hsh hop hrs hrst hro hsu hd hOi hOk ko kr hopn hrpn hob hrb hpr hmul0 hmul1 hid63 hrd63 z hle inv1 hk1 hq1 hq2 hq3;generalize e.trade i k=e9 at *;generalize (e.trade1 i k o r).again (Eng.tradeR o r)=ag at *;generalize e.trade1 i k o r=e1 at *;generalize Eng.qtyOf o r=n at *;by_cases hc:r.shown<o.opn
 ·obtain rfl:n=r.shown:=by rw[←HQE.out,if_pos hc]
  clear HQE;have HV:=hid (And.intro hv1 hv2);clear hv1 hv2;go_enter Tryz.func205,Tryz.ntmps205;go_wp2_with fail;go_region_held3(fun X=>X.cell? (iA (g.blk k) 11)=sI r.shown) (first|exact ck11|exact k11) ((go_at_call 124;refine(HOP.out w.drew ((Same.refl w).drew)).mono ?_;rintro en w1 ⟨rfl,k11,i0,k0,k3,HS1⟩));clear ck11;go_wp2_with fail;go_region_held3(fun X=>X.cell? (iA (g.blk i) 0)=sI o.id∧X.cell? (iA (g.blk k) 0)=sI r.id∧X.cell? (iA (g.blk k) 3)=sI r.price) (first|exact⟨i0,k0,k3⟩|exact⟨i0',k0',k3'⟩) ((go_at_call 116;refine(HTL.out w1.drew (HS1.drew)).mono ?_;rintro en w2 ⟨rfl,b14,f14,b15,f15,i10,fi10,k3',k10,fk10,k11',fk11,i0',k0',HM⟩));clear k11 i0 k0 k3 i0' k0' HS1;go_wp2_with fail;apply merge
  ·intro hh;go_region_law(fail);all_goals exact hh
  rw[HV.out.1,HV.out.2];go_wp2_with fail;try simp only[Int.sub_self]at HM
  refine(HOR.out _ HM.drew).mono ?_;rintro en w3 ⟨rfl,k11,HM3⟩;clear HM b14 f14 b15 f15 i10 fi10 k3' k10 fk10 k11' fk11;by_cases h0:r.opn - r.shown=0
  ·have HF:=hid (HFL.out h0 w3 HM3.out);go_wp2_with fail;refine HF.mono ?_;rintro en w4 ⟨rfl,HD⟩;go_wp2;go_end0;exact⟨rfl,HD⟩
  ·by_cases h1:r.shown - r.shown=0
   ·have HF:=hid (HDR.out h0 h1 w3 HM3.out);go_wp2_with fail;refine HF.mono ?_;rintro en w4 ⟨rfl,HF2⟩;go_wp2_with fail;refine HF2.mono ?_;rintro en w5 ⟨rfl,HD⟩;go_wp2;go_end0;exact⟨rfl,HD⟩
   ·exact absurd (Int.sub_self _) h1
 ·obtain rfl:n=o.opn:=by rw[←HQE.out,if_neg hc]
  clear HQE;have HV:=hid (And.intro hv1 hv2);clear hv1 hv2;go_enter Tryz.func205,Tryz.ntmps205;go_wp2_with fail;go_region_held3(fun X=>X.cell? (iA (g.blk k) 11)=sI r.shown) (first|exact ck11|exact k11) ((go_at_call 124;refine(HOP.out w.drew ((Same.refl w).drew)).mono ?_;rintro en w1 ⟨rfl,k11,i0,k0,k3,HS1⟩));clear ck11;go_wp2_with fail;go_region_held3(fun X=>X.cell? (iA (g.blk i) 0)=sI o.id∧X.cell? (iA (g.blk k) 0)=sI r.id∧X.cell? (iA (g.blk k) 3)=sI r.price) (first|exact⟨i0,k0,k3⟩|exact⟨i0',k0',k3'⟩) ((go_at_call 116;refine(HTL.out w1.drew (HS1.drew)).mono ?_;rintro en w2 ⟨rfl,b14,f14,b15,f15,i10,fi10,k3',k10,fk10,k11',fk11,i0',k0',HM⟩));clear k11 i0 k0 k3 i0' k0' HS1;go_wp2_with fail;apply merge
  ·intro hh;go_region_law(fail);all_goals exact hh
  rw[HV.out.1,HV.out.2];go_wp2_with fail;try simp only[Int.sub_self]at HM
  refine(HOR.out _ HM.drew).mono ?_;rintro en w3 ⟨rfl,k11,HM3⟩;clear HM b14 f14 b15 f15 i10 fi10 k3' k10 fk10 k11' fk11;by_cases h0:r.opn - o.opn=0
  ·have HF:=hid (HFL.out h0 w3 HM3.out);go_wp2_with fail;refine HF.mono ?_;rintro en w4 ⟨rfl,HD⟩;go_wp2;go_end0;exact⟨rfl,HD⟩
  ·by_cases h1:r.shown - o.opn=0
   ·have HF:=hid (HDR.out h0 h1 w3 HM3.out);go_wp2_with fail;refine HF.mono ?_;rintro en w4 ⟨rfl,HF2⟩;go_wp2_with fail;refine HF2.mono ?_;rintro en w5 ⟨rfl,HD⟩;go_wp2;go_end0;exact⟨rfl,HD⟩
   ·have HD:=hid (HNO.out h0 h1 w3 HM3.out);go_wp2;go_end0;exact⟨rfl,HD⟩
end
end
end Go.Proofs.YtanfmhonjpjpoaaGreatDoor
