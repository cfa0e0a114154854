import Derived.Test.YtanfmhonjpjpoaaGreatDoorQ00
import Derived.Test.YtanfmhonjpjpoaaGreatDoorQ17
import Derived.Test.YtanfmhonjpjpoaaGreatDoorQ19
import Derived.Deep.RegionHeld
set_option linter.all false
set_option maxRecDepth 100000
set_option maxHeartbeats 8000000
namespace Go.Proofs.YtanfmhonjpjpoaaGreatDoor
variable{i q j:Nat}{w w':World}{o:Ord}{al:List Ord}{l:List Nat}
open Go.Extern Go.Maps Go.RowKit
theorem OA.alloc(h:OA w q i o)(x:Obj):OA (w.alloc x) q i o:=⟨by rw[Below.heap_alloc _ _ _ h.lt];exact h.blk⟩
theorem zCv(h:Below w.heap.size w w')(o:Obj):Below w.heap.size w (w'.alloc o):=h.alloc h.size o
theorem zB5{B:Nat}{a:World}(h:Below B a w):Below B a w.drew:=⟨h.os,h.tape,h.output,h.size,h.block⟩
def stV(a b c d e f g:Int):Value:=.agg #[iV a,iV b,iV c,iV d,iV e,iV f,iV g]
theorem zH2(h:OA w q i o):
 Cl 77 #[iP q,iV 2] w fun en w'=>en=.returned (stV o.id 2 o.price 0 o.filled 0 0)∧Below w.heap.size w w':=by
 have c0:w.cell? (iA q 0)=sI o.id:=h.cell 0;have c3:w.cell? (iA q 3)=sI o.price:=h.cell 3;have c10:w.cell? (iA q 10)=sI o.filled:=h.cell 10;have hql:=h.lt;have hqn:q≠w.heap.size:=Nat.ne_of_lt hql;unfold stV;go_enter Tryz.func77,Tryz.ntmps77;go_wp2_with fail;have hoa:=h.alloc (.cells #[iV 0,iV 0,iV 0,iV 0,iV 0,iV 0,iV 0] 48);have HB1:=hid ((Below.refl w.heap.size w).alloc (Nat.le_refl _) (.cells #[iV 0,iV 0,iV 0,iV 0,iV 0,iV 0,iV 0] 48));have hb1:=heap_alloc_new w (.cells #[iV 0,iV 0,iV 0,iV 0,iV 0,iV 0,iV 0] 48);have hsW:(w.alloc (.cells #[iV 0,iV 0,iV 0,iV 0,iV 0,iV 0,iV 0] 48)).heap.size=w.heap.size+1:=by simp
 generalize w.alloc (.cells #[iV 0,iV 0,iV 0,iV 0,iV 0,iV 0,iV 0] 48)=W at *;have r0:W.cell? (iA w.heap.size 0)=sI 0:=by simp[World.cell?,hb1]
 have g0:W.frozen? (iA w.heap.size 0)=false:=by simp[World.frozen?,hb1]
 have r1:W.cell? (iA w.heap.size 1)=sI 0:=by simp[World.cell?,hb1]
 have g1:W.frozen? (iA w.heap.size 1)=false:=by simp[World.frozen?,hb1]
 have r2:W.cell? (iA w.heap.size 2)=sI 0:=by simp[World.cell?,hb1]
 have g2:W.frozen? (iA w.heap.size 2)=false:=by simp[World.frozen?,hb1]
 have r3:W.cell? (iA w.heap.size 3)=sI 0:=by simp[World.cell?,hb1]
 have g3:W.frozen? (iA w.heap.size 3)=false:=by simp[World.frozen?,hb1]
 have r4:W.cell? (iA w.heap.size 4)=sI 0:=by simp[World.cell?,hb1]
 have g4:W.frozen? (iA w.heap.size 4)=false:=by simp[World.frozen?,hb1]
 have r5:W.cell? (iA w.heap.size 5)=sI 0:=by simp[World.cell?,hb1]
 have g5:W.frozen? (iA w.heap.size 5)=false:=by simp[World.frozen?,hb1]
 have r6:W.cell? (iA w.heap.size 6)=sI 0:=by simp[World.cell?,hb1]
 have g6:W.frozen? (iA w.heap.size 6)=false:=by simp[World.frozen?,hb1]
 have hwl:w.heap.size<W.heap.size:=by omega
 have hwn:w.heap.size≠W.heap.size:=Nat.ne_of_lt hwl;clear hb1 hsW;have c0:W.cell? (iA q 0)=sI o.id:=hoa.cell 0;have c3:W.cell? (iA q 3)=sI o.price:=hoa.cell 3;have c10:W.cell? (iA q 10)=sI o.filled:=hoa.cell 10;have hql:q<W.heap.size:=hoa.lt;have hqn:q≠W.heap.size:=Nat.ne_of_lt hql;clear h hoa
 go_region_held (fun X=>X.cell? (iA q 0)=sI o.id∧X.cell? (iA q 3)=sI o.price∧X.cell? (iA q 10)=sI o.filled) (go_keep) (fail)
 go_wp2;refine bodyPost_ret (v:=.agg #[iV o.id,iV 2,iV o.price,iV 0,iV o.filled,iV 0,iV 0]) (by simp[results,Tryz.results77,go_sem,r0,r1,r2,r3,r4,r5,r6,hwl,hwn]) rfl ⟨rfl,?_⟩;refine zB5 (zCv ?_ _);have hle:w.heap.size≤w.heap.size:=Nat.le_refl _;iterate 7 (refine Below.setCell ?_ hle _)
 exact HB1.out
theorem zH3(e:Eng)(i:Nat)(f:Ord→Ord)(hid: ∀o,e.all[i]? =some o→(f o).id=o.id)(j:Nat):idAt (e.upd i f).all j=idAt e.all j:=by
 unfold idAt;rw[Eng.upd_at];by_cases h:i=j
 ·subst h;rw[if_pos rfl];rcases ho:e.all[i]? with _|o
  ·rfl
  ·exact hid o ho
 ·rw[if_neg h]
theorem zMj(e:Eng)(i:Nat)(f:Ord→Ord)(j:Nat)(h:i≠j):stAt (e.upd i f).all j=stAt e.all j:=by
 unfold stAt;rw[Eng.upd_ne _ _ _ _ h]
structure Alike(S:Sets)(al al':List Ord):Prop where
 len:al'.length=al.length
 ids: ∀j,idAt al' j=idAt al j
 st: ∀j,j∈S.ended→stAt al' j=stAt al j
theorem Alike.upd{S:Sets}(e:Eng)(i:Nat)(f:Ord→Ord)(hid: ∀o,e.all[i]? =some o→(f o).id=o.id)(hn:i∉S.ended):Alike S e.all (e.upd i f).all:=
 ⟨Eng.upd_len _ _ _,zH3 e i f hid,fun j hj=>zMj e i f j (fun h=>hn (h▸hj))⟩
section
variable {F:Nat→Prop} {base:Nat} {w w':World} {b i:Nat} {e e':Eng} {g:Gh} {S:Sets} {o:Ord}
theorem CBody.recast{al':List Ord}{draws:List Int}{drawn:Nat}(h:CBody F base w al draws drawn g S)(ha:Alike S al al')(ho: ∀(j:Nat) (x:Ord),al'[j]? =some x→x.status=1→w.heap[g.blk j]? =some (.cells (x.code j) 234 (0,0))):CBody F base w al' draws drawn g S:=by
 have h1:(fun i=>(idAt al' i,some (g.blk i)))=fun i=>(idAt al i,some (g.blk i)):=by funext j;rw[ha.ids]
 have h2:S.ended.map (fun i=>(idAt al' i,stAt al' i))=S.ended.map fun i=>(idAt al i,stAt al i):=List.map_congr_left fun j hj=>by rw[ha.ids,ha.st j hj]
 exact⟨h1▸h.day,h1▸h.oth,h2▸h.ended,h.buyB,h.selB,h1▸h.buy,h1▸h.sel,h.maps,ho,fun i j hi hj=>h.inj i j (ha.len▸hi) (ha.len▸hj),h.drw,h.dls,h.fd,fun i hi=>h.fo i (ha.len▸hi)⟩
theorem CRep.recast(h:CRep F base w b e g S)(hc:codCells e' g=codCells e g)(hx:e'.out=e.out)(hd:e'.draws=e.draws)(hn:e'.drawn=e.drawn)(ha:Alike S e.all e'.all)(ho: ∀(j:Nat) (x:Ord),e'.all[j]? =some x→x.status=1→∃y,e.all[j]? =some y∧y.status=1∧x.code j=y.code j):CRep F base w b e' g S:=by
 refine⟨hc▸h.blk,h.own,h.up,h.low,hx▸h.txt,?_,fun i hi=>h.old i (ha.len▸hi),h.fb⟩;rw[hd,hn];exact h.body.recast ha fun j x hj hs=>by
  obtain⟨y,h1,h2,h3⟩:=ho j x hj hs;rw[h3];exact h.body.ord j y h1 h2
theorem CRep.as(h:CRep F base w b e g S)(ho:e.all[i]? =some o)(hs:o.status=1)(hn:i∉S.ended)(f:Ord→Ord)(hid:(f o).id=o.id)(hc:(f o).status=1→(f o).code i=o.code i):CRep F base w b (e.upd i f) g S:=by
 refine h.recast rfl rfl rfl rfl (Alike.upd e i f (fun o' ho'=>?_) hn) fun j x hj hx=>?_
 ·obtain rfl:o=o':=Option.some.inj (ho.symm.trans ho');exact hid
 ·rw[Eng.upd_at]at hj;by_cases e1:i=j
  ·subst e1;rw[if_pos rfl,ho]at hj;obtain rfl:f o=x:=Option.some.inj hj;exact⟨o,ho,hs,hc hx⟩
  ·rw[if_neg e1]at hj;exact⟨x,hj,hx,rfl⟩
theorem CRep.wr(h:CRep F base w b e g S)(ho:e.all[i]? =some o)(hs:o.status=1)(hn:i∉S.ended)(j:Nat)(u:Value)(f:Ord→Ord)(hid:(f o).id=o.id)(hc:(o.code i).setIfInBounds j u=(f o).code i):CRep F base (w.setCell (iA (g.blk i) j) u) b (e.upd i f) g S∧Touch F w (w.setCell (iA (g.blk i) j) u):=by
 have hb:=h.body.ord i o ho hs;have hlt:i<e.all.length:=(List.getElem?_eq_some_iff.1 ho).1;have hq:=zA7 w (g.blk i) j u _ _ _ hb;have oth: ∀k,k≠g.blk i→(w.setCell (iA (g.blk i) j) u).heap[k]? =w.heap[k]? :=fun k hk=>Below.heap_setCell _ _ _ _ hk
 have ne: ∀{k:Nat} {c:Array Value} {t:TypeId} {f:Nat×Nat},w.heap[k]? =some (.cells c t f)→t≠234→(w.setCell (iA (g.blk i) j) u).heap[k]? =some (.cells c t f):=by
  intro k c t f hk ht;rw[oth k (fun e1=>by rw[e1,hb]at hk;injection hk with hk;injection hk with _ hk _;exact ht hk.symm)];exact hk
 have row: ∀{B:Nat} {t:TypeId} {s:Nat} {v:Value} {n:Nat} {xs:List Value},w.ownsRow B t s v n xs→t≠234→(w.setCell (iA (g.blk i) j) u).ownsRow B t s v n xs:=by
  intro B t s v n xs hr ht;refine⟨hr.1,?_⟩;rcases hr.2 with h2|⟨g',cap,cur,hv,hg,hh,r⟩
  ·exact .inl h2
  ·exact .inr ⟨g',cap,cur,hv,hg,ne hh ht,r⟩
 have mp: ∀{V:Type} {E:Elem V} {x:Nat} {l:List (Int×V)},PM E Tryz.prog 3 w x l→PM E Tryz.prog 3 (w.setCell (iA (g.blk i) j) u) x l:=by
  intro V E x l hp;obtain⟨es,c,hm⟩:=hp.is_map;exact hp.of_block (oth x (fun e1=>by rw[e1,hb]at hm;cases hm))
 refine⟨⟨ne h.blk (by decide),h.own,fun k hk=>h.up k (by simpa using hk),by simpa using h.low,⟨row h.txt.row (by decide),h.txt.own⟩,?_,fun j hj=>by rw[Eng.upd_len]at hj;simpa using h.old j hj,h.fb⟩,(Touch.refl F w).set _ _ _ (h.body.fo i hlt)⟩;have hA:Alike S e.all (e.upd i f).all:=Alike.upd e i f (fun o' ho'=>by
  obtain rfl:o=o':=Option.some.inj (ho.symm.trans ho');exact hid) hn
 have h1:(fun k=>(idAt (e.upd i f).all k,some (g.blk k)))=fun k=>(idAt e.all k,some (g.blk k)):=by funext k;rw[hA.ids]
 have h2:S.ended.map (fun k=>(idAt (e.upd i f).all k,stAt (e.upd i f).all k))=S.ended.map fun k=>(idAt e.all k,stAt e.all k):=List.map_congr_left fun k hk=>by rw[hA.ids,hA.st k hk]
 have B:=h.body;refine⟨h1▸mp B.day,h1▸mp B.oth,h2▸mp B.ended,ne B.buyB (by decide),ne B.selB (by decide),h1▸mp B.buy,h1▸mp B.sel,B.maps,fun k x hk hx=>?_,fun k l hk hl=>B.inj k l (hA.len▸hk) (hA.len▸hl),ne B.drw (by decide),row B.dls (by decide),B.fd,fun k hk=>B.fo k (hA.len▸hk)⟩;rw[Eng.upd_at]at hk;by_cases e1:i=k
 ·subst e1;rw[if_pos rfl,ho]at hk;obtain rfl:f o=x:=Option.some.inj hk;rw[hq,hc]
 ·rw[if_neg e1]at hk;have hkl:k<e.all.length:=(List.getElem?_eq_some_iff.1 hk).1;rw[oth _ (fun e2=>e1 (B.inj i k hlt hkl e2.symm))];exact B.ord k x hk hx
theorem CRep.touch_same(hs:Same w w'):Touch F w w':=hs.touch
end
structure Holds(e:Eng)(S:Sets)(out odd:List Nat):Prop where
 day: ∀j,j∈S.day↔∃o,e.all[j]? =some o∧o.status=1∧o.life=1∧j∉out
 oth: ∀j,j∈S.oth↔∃o,e.all[j]? =some o∧o.status=1∧¬o.life=1∧j∉out
 ended: ∀j,j∈S.ended↔∃o,e.all[j]? =some o∧¬o.status=1
 buy1: ∀j,j∈S.buy→∃o,e.all[j]? =some o∧o.side=1∧(¬o.shown=0∨j∈odd)
 buy2: ∀j o,e.all[j]? =some o→o.side=1→¬o.shown=0→j∉odd→j∈S.buy
 sel1: ∀j,j∈S.sel→∃o,e.all[j]? =some o∧¬o.side=1∧(¬o.shown=0∨j∈odd)
 sel2: ∀j o,e.all[j]? =some o→¬o.side=1→¬o.shown=0→j∉odd→j∈S.sel
theorem Holds.live{e:Eng}{S:Sets}{out odd:List Nat}(h:Holds e S out odd)(ho:e.all[i]? =some o)(hs:o.status=1):i∉S.ended:=by
 intro hc;obtain⟨o',h1,h2⟩:=(h.ended i).1 hc;obtain rfl:o=o':=Option.some.inj (ho.symm.trans h1);exact h2 hs
theorem zMk{id:Int}:j∈less al l id↔j∈l∧idAt al j≠id:=by simp[less]
theorem zAu(e:Eng)(i:Nat)(f:Ord→Ord)(hid: ∀o,e.all[i]? =some o→(f o).id=o.id)(l:List Nat)(id:Int):less (e.upd i f).all l id=less e.all l id:=by
 unfold less
 congr 1
 funext j
 rw[zH3 e i f hid]
theorem zAe(h:al[i]? =some o):idAt al i=o.id:=by unfold idAt;rw[h]
theorem Eng.EInv.id_ne{e:Eng}(h:Eng.EInv e){x y:Ord}(hx:e.all[i]? =some x)(hy:e.all[j]? =some y):idAt e.all j≠x.id↔j≠i:=by
 rw[zAe hy];constructor
 ·rintro h1 rfl;obtain rfl:x=y:=Option.some.inj (hx.symm.trans hy);exact h1 rfl
 ·intro h1 h2;exact h1 (h.ids j i y x hy hx h2)
def Sets.lay(S:Sets)(al:List Ord)(o:Ord)(i:Nat):Sets:=if o.side=1 then{ S with buy:=less al S.buy o.id++ [i] } else{ S with sel:=less al S.sel o.id++ [i] }
def Sets.off(S:Sets)(al:List Ord)(o:Ord):Sets:=if o.side=1 then{ S with buy:=less al S.buy o.id } else{ S with sel:=less al S.sel o.id }
def Sets.leave(S:Sets)(al:List Ord)(o:Ord):Sets:=if o.life=1 then{ S with day:=less al S.day o.id } else{ S with oth:=less al S.oth o.id }
def Sets.join(S:Sets)(al:List Ord)(o:Ord)(i:Nat):Sets:=if o.life=1 then{ S with day:=less al S.day o.id++ [i] } else{ S with oth:=less al S.oth o.id++ [i] }
def Sets.fin(S:Sets)(al:List Ord)(o:Ord)(i:Nat):Sets:={ S with ended:=less al S.ended o.id++ [i] }
structure Sets.Small(S:Sets)(n:Nat):Prop where
 day:S.day.length≤n
 oth:S.oth.length≤n
 ended:S.ended.length≤n
 buy:S.buy.length≤n
 sel:S.sel.length≤n
section
variable {e:Eng} {S:Sets} {out odd out' odd':List Nat} {i:Nat} {o:Ord} {f:Ord→Ord}
theorem zC5(ho:e.all[i]? =some o){x:Ord}(h:(e.upd i f).all[j]? =some x):(j=i∧x=f o)∨(j≠i∧e.all[j]? =some x):=by
 rw[Eng.upd_at]at h;by_cases e1:i=j
 ·subst e1;rw[if_pos rfl,ho]at h;exact .inl ⟨rfl,(Option.some.inj h).symm⟩
 ·rw[if_neg e1]at h;exact .inr ⟨fun e2=>e1 e2.symm,h⟩
theorem zB6(ho:e.all[i]? =some o)(P:Ord→Prop)(j:Nat):(∃x,(e.upd i f).all[j]? =some x∧P x)↔(j=i∧P (f o))∨(j≠i∧∃x,e.all[j]? =some x∧P x):=by
 constructor
 ·rintro⟨x,hx,hp⟩;rcases zC5 ho hx with⟨h1,rfl⟩|⟨h1,h2⟩
  ·exact .inl ⟨h1,hp⟩
  ·exact .inr ⟨h1,x,h2,hp⟩
 ·rintro(⟨rfl,hp⟩|⟨h1,x,hx,hp⟩)
  ·exact⟨f o,Eng.upd_same e j f o ho,hp⟩
  ·exact⟨x,(Eng.upd_ne e i j f (fun e2=>h1 e2.symm)).trans hx,hp⟩
theorem zBi(ho:e.all[i]? =some o)(P:Ord→Prop):(∃x,e.all[i]? =some x∧P x)↔P o:=
 ⟨fun⟨x,hx,hp⟩=>by obtain rfl:o=x:=Option.some.inj (ho.symm.trans hx);exact hp,fun hp=>⟨o,ho,hp⟩⟩
theorem zE0(ho:e.all[i]? =some o)(P:Ord→Prop)(hp:P (f o)↔P o)(j:Nat):(∃x,(e.upd i f).all[j]? =some x∧P x)↔∃x,e.all[j]? =some x∧P x:=by
 rw[zB6 ho];by_cases h:j=i
 ·subst h;rw[zBi ho];simp[hp]
 ·simp[h]
theorem Holds.upd(h:Holds e S out odd)(ho:e.all[i]? =some o)(h1:(f o).status=o.status)(h2:(f o).life=o.life)(h3:(f o).side=o.side)(hodd: ∀j,j≠i→(j∈odd'↔j∈odd))(hi:i∈odd'∨(i∉odd∧((f o).shown=0↔o.shown=0))):Holds (e.upd i f) S out odd':=by
 refine⟨fun j=>?_,fun j=>?_,fun j=>?_,fun j hj=>?_,fun j x hx hs hn hq=>?_,fun j hj=>?_,fun j x hx hs hn hq=>?_⟩
 ·rw[h.day,zE0 ho (fun x=>x.status=1∧x.life=1∧j∉out) (by rw[h1,h2])]
 ·rw[h.oth,zE0 ho (fun x=>x.status=1∧¬x.life=1∧j∉out) (by rw[h1,h2])]
 ·rw[h.ended,zE0 ho (fun x=> ¬x.status=1) (by rw[h1])]
 ·rw[zB6 ho (fun x=>x.side=1∧(¬x.shown=0∨j∈odd'))];by_cases e1:j=i
  ·subst e1;have:=(zBi ho _).1 (h.buy1 j hj);rcases hi with hi|⟨hi,hk⟩
   ·exact .inl ⟨rfl,h3▸this.1,.inr hi⟩
   ·exact .inl ⟨rfl,h3▸this.1,.inl (by rw[hk];exact this.2.resolve_right hi)⟩
  ·refine .inr ⟨e1,?_⟩;rw[hodd j e1];exact h.buy1 j hj
 ·rcases zC5 ho hx with⟨rfl,rfl⟩|⟨e1,e2⟩
  ·rcases hi with hi|⟨hi,hk⟩
   ·exact absurd hi hq
   ·exact h.buy2 j o ho (h3▸hs) (by rw[←hk];exact hn) hi
  ·exact h.buy2 j x e2 hs hn (by rw[←hodd j e1];exact hq)
 ·rw[zB6 ho (fun x=> ¬x.side=1∧(¬x.shown=0∨j∈odd'))];by_cases e1:j=i
  ·subst e1;have:=(zBi ho _).1 (h.sel1 j hj);rcases hi with hi|⟨hi,hk⟩
   ·exact .inl ⟨rfl,h3▸this.1,.inr hi⟩
   ·exact .inl ⟨rfl,h3▸this.1,.inl (by rw[hk];exact this.2.resolve_right hi)⟩
  ·refine .inr ⟨e1,?_⟩;rw[hodd j e1];exact h.sel1 j hj
 ·rcases zC5 ho hx with⟨rfl,rfl⟩|⟨e1,e2⟩
  ·rcases hi with hi|⟨hi,hk⟩
   ·exact absurd hi hq
   ·exact h.sel2 j o ho (h3▸hs) (by rw[←hk];exact hn) hi
  ·exact h.sel2 j x e2 hs hn (by rw[←hodd j e1];exact hq)
theorem zAz(inv:Eng.EInv e)(ho:e.all[i]? =some o)(hl: ∀j∈l,∃x,e.all[j]? =some x)(j:Nat):j∈less e.all l o.id↔j∈l∧j≠i:=by
 rw[zMk];constructor
 ·rintro⟨h1,h2⟩;obtain⟨x,hx⟩:=hl j h1;exact⟨h1,(inv.id_ne ho hx).1 h2⟩
 ·rintro⟨h1,h2⟩;obtain⟨x,hx⟩:=hl j h1;exact⟨h1,(inv.id_ne ho hx).2 h2⟩
theorem Holds.lay(h:Holds e S out odd)(inv:Eng.EInv e)(ho:e.all[i]? =some o)(h1:(f o).status=o.status)(h2:(f o).life=o.life)(h3:(f o).side=o.side)(hodd: ∀j∈odd,j=i)(hn: ¬(f o).shown=0):Holds (e.upd i f) (S.lay e.all o i) out []:=by
 have hU:=h.upd (f:=f) (odd':=[i]) ho h1 h2 h3 (fun j hj=>⟨fun hc=>absurd (by simpa using hc) hj,fun hc=>absurd (hodd j hc) hj⟩) (.inl (by simp));have hu:=Eng.upd_same e i f o ho;unfold Sets.lay;by_cases hs:o.side=1
 ·rw[if_pos hs];have hl:=zAz inv ho (l:=S.buy) (fun j hj=>by obtain⟨x,hx,_⟩:=h.buy1 j hj;exact⟨x,hx⟩);refine⟨hU.day,hU.oth,hU.ended,fun j hj=>?_,fun j x hx hs' hn' _=>?_,fun j hj=>?_,fun j x hx hs' hn' _=>?_⟩
  ·rcases List.mem_append.1 hj with hj|hj
   ·obtain⟨hj,hne⟩:=(hl j).1 hj;obtain⟨x,q1,q2,q3⟩:=hU.buy1 j hj;exact⟨x,q1,q2,.inl (q3.resolve_right (by simpa using hne))⟩
   ·obtain rfl:j=i:=by simpa using hj
    exact⟨f o,hu,h3▸hs,.inl hn⟩
  ·by_cases e1:j=i
   ·exact List.mem_append_right _ (by simp[e1])
   ·exact List.mem_append_left _ ((hl j).2 ⟨hU.buy2 j x hx hs' hn' (by simpa using e1),e1⟩)
  ·obtain⟨x,q1,q2,q3⟩:=hU.sel1 j hj;refine⟨x,q1,q2,.inl (q3.resolve_right (fun hc=>q2 ?_))⟩;obtain rfl:j=i:=by simpa using hc
   obtain rfl:f o=x:=Option.some.inj (hu.symm.trans q1);rw[h3];exact hs
  ·refine hU.sel2 j x hx hs' hn' (fun hc=>hs' ?_);obtain rfl:j=i:=by simpa using hc
   obtain rfl:f o=x:=Option.some.inj (hu.symm.trans hx);rw[h3];exact hs
 ·rw[if_neg hs];have hl:=zAz inv ho (l:=S.sel) (fun j hj=>by obtain⟨x,hx,_⟩:=h.sel1 j hj;exact⟨x,hx⟩);refine⟨hU.day,hU.oth,hU.ended,fun j hj=>?_,fun j x hx hs' hn' _=>?_,fun j hj=>?_,fun j x hx hs' hn' _=>?_⟩
  ·obtain⟨x,q1,q2,q3⟩:=hU.buy1 j hj;refine⟨x,q1,q2,.inl (q3.resolve_right (fun hc=>hs ?_))⟩;obtain rfl:j=i:=by simpa using hc
   obtain rfl:f o=x:=Option.some.inj (hu.symm.trans q1);rw[←h3];exact q2
  ·refine hU.buy2 j x hx hs' hn' (fun hc=>hs ?_);obtain rfl:j=i:=by simpa using hc
   obtain rfl:f o=x:=Option.some.inj (hu.symm.trans hx);rw[←h3];exact hs'
  ·rcases List.mem_append.1 hj with hj|hj
   ·obtain⟨hj,hne⟩:=(hl j).1 hj;obtain⟨x,q1,q2,q3⟩:=hU.sel1 j hj;exact⟨x,q1,q2,.inl (q3.resolve_right (by simpa using hne))⟩
   ·obtain rfl:j=i:=by simpa using hj
    exact⟨f o,hu,h3▸hs,.inl hn⟩
  ·by_cases e1:j=i
   ·exact List.mem_append_right _ (by simp[e1])
   ·exact List.mem_append_left _ ((hl j).2 ⟨hU.sel2 j x hx hs' hn' (by simpa using e1),e1⟩)
theorem Holds.off(h:Holds e S out odd)(inv:Eng.EInv e)(ho:e.all[i]? =some o)(h1:(f o).status=o.status)(h2:(f o).life=o.life)(h3:(f o).side=o.side)(hodd: ∀j∈odd,j=i)(hn:(f o).shown=0):Holds (e.upd i f) (S.off e.all o) out []:=by
 have hU:=h.upd (f:=f) (odd':=[i]) ho h1 h2 h3 (fun j hj=>⟨fun hc=>absurd (by simpa using hc) hj,fun hc=>absurd (hodd j hc) hj⟩) (.inl (by simp));have hu:=Eng.upd_same e i f o ho;have hno: ∀j x,(e.upd i f).all[j]? =some x→¬x.shown=0→j∉[i]:=fun j x hx hn' hc=>hn' (by
  obtain rfl:j=i:=by simpa using hc
  obtain rfl:f o=x:=Option.some.inj (hu.symm.trans hx);exact hn)
 unfold Sets.off;by_cases hs:o.side=1
 ·rw[if_pos hs];have hl:=zAz inv ho (l:=S.buy) (fun j hj=>by obtain⟨x,hx,_⟩:=h.buy1 j hj;exact⟨x,hx⟩);refine⟨hU.day,hU.oth,hU.ended,fun j hj=>?_,fun j x hx hs' hn' _=>?_,fun j hj=>?_,fun j x hx hs' hn' _=>hU.sel2 j x hx hs' hn' (hno j x hx hn')⟩
  ·obtain⟨hj,hne⟩:=(hl j).1 hj;obtain⟨x,q1,q2,q3⟩:=hU.buy1 j hj;exact⟨x,q1,q2,.inl (q3.resolve_right (by simpa using hne))⟩
  ·have hq:=hno j x hx hn';exact(hl j).2 ⟨hU.buy2 j x hx hs' hn' hq,by simpa using hq⟩
  ·obtain⟨x,q1,q2,q3⟩:=hU.sel1 j hj;refine⟨x,q1,q2,.inl (q3.resolve_right (fun hc=>q2 ?_))⟩;obtain rfl:j=i:=by simpa using hc
   obtain rfl:f o=x:=Option.some.inj (hu.symm.trans q1);rw[h3];exact hs
 ·rw[if_neg hs];have hl:=zAz inv ho (l:=S.sel) (fun j hj=>by obtain⟨x,hx,_⟩:=h.sel1 j hj;exact⟨x,hx⟩);refine⟨hU.day,hU.oth,hU.ended,fun j hj=>?_,fun j x hx hs' hn' _=>hU.buy2 j x hx hs' hn' (hno j x hx hn'),fun j hj=>?_,fun j x hx hs' hn' _=>?_⟩
  ·obtain⟨x,q1,q2,q3⟩:=hU.buy1 j hj;refine⟨x,q1,q2,.inl (q3.resolve_right (fun hc=>hs ?_))⟩;obtain rfl:j=i:=by simpa using hc
   obtain rfl:f o=x:=Option.some.inj (hu.symm.trans q1);rw[←h3];exact q2
  ·obtain⟨hj,hne⟩:=(hl j).1 hj;obtain⟨x,q1,q2,q3⟩:=hU.sel1 j hj;exact⟨x,q1,q2,.inl (q3.resolve_right (by simpa using hne))⟩
  ·have hq:=hno j x hx hn';exact(hl j).2 ⟨hU.sel2 j x hx hs' hn' hq,by simpa using hq⟩
theorem Holds.leave(h:Holds e S out odd)(inv:Eng.EInv e)(ho:e.all[i]? =some o):Holds e (S.leave e.all o) (i::out) odd:=by
 unfold Sets.leave;have hd:=zAz inv ho (l:=S.day) (fun j hj=>by obtain⟨x,hx,_⟩:=(h.day j).1 hj;exact⟨x,hx⟩);have hq:=zAz inv ho (l:=S.oth) (fun j hj=>by obtain⟨x,hx,_⟩:=(h.oth j).1 hj;exact⟨x,hx⟩);by_cases hl:o.life=1
 ·rw[if_pos hl];refine⟨fun j=>?_,fun j=>?_,h.ended,h.buy1,h.buy2,h.sel1,h.sel2⟩
  ·show j∈less e.all S.day o.id↔_;rw[hd,h.day];simp only[List.mem_cons,not_or];exact⟨fun⟨⟨x,a,b,c,d⟩,q⟩=>⟨x,a,b,c,q,d⟩,fun⟨x,a,b,c,q,d⟩=>⟨⟨x,a,b,c,d⟩,q⟩⟩
  ·show j∈S.oth↔_;rw[h.oth];simp only[List.mem_cons,not_or];refine⟨fun⟨x,a,b,c,d⟩=>⟨x,a,b,c,?_,d⟩,fun⟨x,a,b,c,q,d⟩=>⟨x,a,b,c,d⟩⟩;rintro rfl;obtain rfl:o=x:=Option.some.inj (ho.symm.trans a);exact c hl
 ·rw[if_neg hl];refine⟨fun j=>?_,fun j=>?_,h.ended,h.buy1,h.buy2,h.sel1,h.sel2⟩
  ·show j∈S.day↔_;rw[h.day];simp only[List.mem_cons,not_or];refine⟨fun⟨x,a,b,c,d⟩=>⟨x,a,b,c,?_,d⟩,fun⟨x,a,b,c,q,d⟩=>⟨x,a,b,c,d⟩⟩;rintro rfl;obtain rfl:o=x:=Option.some.inj (ho.symm.trans a);exact hl c
  ·show j∈less e.all S.oth o.id↔_;rw[hq,h.oth];simp only[List.mem_cons,not_or];exact⟨fun⟨⟨x,a,b,c,d⟩,q⟩=>⟨x,a,b,c,q,d⟩,fun⟨x,a,b,c,q,d⟩=>⟨⟨x,a,b,c,d⟩,q⟩⟩
theorem Holds.fin(h:Holds e S out odd)(inv:Eng.EInv e)(ho:e.all[i]? =some o)(hs:o.status=1)(hi:i∈out)(h1: ¬(f o).status=1)(h3:(f o).side=o.side)(h4:(f o).shown=0)(h5:o.shown=0)(hodd:i∉odd)(hout: ∀j,j≠i→(j∈out'↔j∈out)):Holds (e.upd i f) (S.fin e.all o i) out' odd:=by
 have hl:=zAz inv ho (l:=S.ended) (fun j hj=>by obtain⟨x,hx,_⟩:=(h.ended j).1 hj;exact⟨x,hx⟩);refine⟨fun j=>?_,fun j=>?_,fun j=>?_,fun j hj=>?_,fun j x hx hs' hn hq=>?_,fun j hj=>?_,fun j x hx hs' hn hq=>?_⟩
 ·show j∈S.day↔_;rw[h.day,zB6 ho (fun x=>x.status=1∧x.life=1∧j∉out')];by_cases e1:j=i
  ·subst e1;rw[zBi ho (fun x=>x.status=1∧x.life=1∧j∉out)];simp[hi,h1]
  ·simp[e1,hout j e1]
 ·show j∈S.oth↔_;rw[h.oth,zB6 ho (fun x=>x.status=1∧¬x.life=1∧j∉out')];by_cases e1:j=i
  ·subst e1;rw[zBi ho (fun x=>x.status=1∧¬x.life=1∧j∉out)];simp[hi,h1]
  ·simp[e1,hout j e1]
 ·show j∈less e.all S.ended o.id++ [i]↔_;rw[List.mem_append,hl,h.ended,zB6 ho (fun x=> ¬x.status=1)];by_cases e1:j=i
  ·subst e1;simp[h1]
  ·simp[e1]
 ·rw[zB6 ho (fun x=>x.side=1∧(¬x.shown=0∨j∈odd))];by_cases e1:j=i
  ·subst e1;have:=(zBi ho _).1 (h.buy1 j hj);exact absurd this.2 (by simp[h5,hodd])
  ·exact .inr ⟨e1,h.buy1 j hj⟩
 ·rcases zC5 ho hx with⟨rfl,rfl⟩|⟨e1,e2⟩
  ·exact absurd h4 hn
  ·exact h.buy2 j x e2 hs' hn hq
 ·rw[zB6 ho (fun x=> ¬x.side=1∧(¬x.shown=0∨j∈odd))];by_cases e1:j=i
  ·subst e1;have:=(zBi ho _).1 (h.sel1 j hj);exact absurd this.2 (by simp[h5,hodd])
  ·exact .inr ⟨e1,h.sel1 j hj⟩
 ·rcases zC5 ho hx with⟨rfl,rfl⟩|⟨e1,e2⟩
  ·exact absurd h4 hn
  ·exact h.sel2 j x e2 hs' hn hq
theorem Holds.cong{e':Eng}(h:Holds e S out odd)(ha:e'.all=e.all):Holds e' S out odd:=by
 obtain⟨a,b,c,d,e1,f1,g1⟩:=h;constructor<;>rw[ha]<;>assumption
end
section
variable {F:Nat→Prop} {base:Nat} {w:World} {b q i:Nat} {e:Eng} {g:Gh} {S:Sets} {o:Ord}
theorem zCw(h:CRep F base w b e g S)(ho:OA w q i o)(hs:o.side=1):
 Cl 202 #[iP b,iP q] w fun en w'=>en=rV #[.iface 214 (iP g.buyB),.iface 220 (iP g.selB)]∧Same w w':=by
 have c11:w.cell? (iA b 11)=some (.iface 214 (iP g.buyB)):=h.cell 11;have c12:w.cell? (iA b 12)=some (.iface 220 (iP g.selB)):=h.cell 12;have c1:cI w q 1 o.side:=ho.cell 1;have q1:(o.side == 1)=true:=by simpa using hs
 go_enter Tryz.func202,Tryz.ntmps202;go_wp2_with fail;go_quiet (fail);go_wp2_with fail;exact bodyPost_ret (v:=.tuple #[.iface 214 (iP g.buyB),.iface 220 (iP g.selB)]) (by simp[results,Tryz.results202,go_sem]) rfl ⟨rfl,(Same.refl w).drewN nq⟩
theorem zCx(h:CRep F base w b e g S)(ho:OA w q i o)(hs: ¬o.side=1):
 Cl 202 #[iP b,iP q] w fun en w'=>en=rV #[.iface 220 (iP g.selB),.iface 214 (iP g.buyB)]∧Same w w':=by
 have c11:w.cell? (iA b 11)=some (.iface 214 (iP g.buyB)):=h.cell 11;have c12:w.cell? (iA b 12)=some (.iface 220 (iP g.selB)):=h.cell 12;have c1:cI w q 1 o.side:=ho.cell 1;have q1:(o.side == 1)=false:=by simpa using hs
 go_enter Tryz.func202,Tryz.ntmps202;go_wp2_with fail;go_quiet (fail);go_wp2_with fail;exact bodyPost_ret (v:=.tuple #[.iface 220 (iP g.selB),.iface 214 (iP g.buyB)]) (by simp[results,Tryz.results202,go_sem]) rfl ⟨rfl,(Same.refl w).drewN nq⟩
theorem zMl(n:Int)(h:CRep F base w b e g S)(ho:e.all[i]? =some o)(hst:o.status=1)(hne:i∉S.ended)(hid63:r63 o.id)(hq:e.stamp<4611686018427387904)(hl:S.buy.length≤1000000000)(hs:o.side=1):
 Cl 210 #[iP b,iP (g.blk i),iV n] w fun en w'=>en=rV #[]∧CRep F base w' b ({ e with stamp:=e.stamp+1 }.upd i fun o=>{ o with stamp:=(e.stamp+1:Nat),shown:=n }) g (S.lay e.all o i)∧Touch F w w':=by
 have hO:=h.oa ho hst;have c13:cI w b 13 (e.stamp:Int):=h.cell 13;have f13:=h.froz 13;have d11:cI w (g.blk i) 11 o.shown:=hO.cell 11;have e11:=hO.froz 11;have d12:cI w (g.blk i) 12 o.stamp:=hO.cell 12;have e12:=hO.froz 12;have hbn:b≠g.blk i:=fun e1=>by
  have:=h.blk;rw[e1,hO.blk]at this;injection this with this;injection this with _ this _;exact absurd this (by decide)
 have hbn':g.blk i≠b:=fun e1=>hbn e1.symm
 have hw1:wrap64 ((e.stamp:Int)+1)=(e.stamp:Int)+1:=by unfold wrap64;omega
 have hC1:CRep F base (w.setCell (iA b 13) (iV ((e.stamp:Int)+1))) b { e with stamp:=e.stamp+1 } g S:=h.set 13 _ { e with stamp:=e.stamp+1 } (by simp[codCells]) rfl rfl rfl rfl;have hT1:Touch F w (w.setCell (iA b 13) (iV ((e.stamp:Int)+1))):=(Touch.refl F w).set b _ _ h.own;obtain⟨hC2,hT2⟩:=hC1.wr ho hst hne 12 (iV ((e.stamp:Int)+1)) (fun o=>{ o with stamp:=(e.stamp+1:Nat) }) rfl (by simp[Ord.code]);obtain⟨hC3,hT3⟩:=hC2.wr (o:={ o with stamp:=(e.stamp+1:Nat) }) (Eng.upd_same _ i _ o ho) hst hne 11 (iV n) (fun o=>{ o with shown:=n }) rfl (by simp[Ord.code]);rw[Eng.upd_upd]at hC3;have hT:=(hT1.trans hT2).trans hT3;have hat:({ e with stamp:=e.stamp+1 }.upd i fun o=>{ o with stamp:=(e.stamp+1:Nat),shown:=n }).all[i]? =some { o with stamp:=(e.stamp+1:Nat),shown:=n }:=Eng.upd_same { e with stamp:=e.stamp+1 } i _ o ho;have hO3:=hC3.oa hat hst;have HSD:=hid (zCw hC3 hO3 hs)
 have HAD:Hid (∀W,Same (((w.setCell (iA b 13) (iV ((e.stamp:Int)+1))).setCell (iA (g.blk i) 12) (iV ((e.stamp:Int)+1))).setCell (iA (g.blk i) 11) (iV n)) W→Cl 262 #[iP g.buyB,iP (g.blk i)] W fun en w'=>en=rV #[]∧Hid (CRep F base w' b ({ e with stamp:=e.stamp+1 }.upd i fun o=>{ o with stamp:=(e.stamp+1:Nat),shown:=n }) g (S.lay e.all o i)∧Touch F w w')):=by
  intro W hW;refine(zMc (o:={ o with stamp:=(e.stamp+1:Nat),shown:=n }) (hC3.same hW) (hO3.same hW) hid63 (zAe hat) hl).mono ?_;rintro en w' ⟨rfl,h1,h2,_⟩;refine⟨rfl,?_,hT.trans (hW.touch.trans h2)⟩;have hL:S.lay e.all o i={ S with buy:=less e.all S.buy o.id++ [i] }:=if_pos hs;rw[hL,←zAu { e with stamp:=e.stamp+1 } i (fun o=>{ o with stamp:=(e.stamp+1:Nat),shown:=n }) (fun _ _=>rfl)];exact h1
 go_enter Tryz.func210,Tryz.ntmps210;go_wp2_with fail;refine HSD.mono ?_;rintro en w2 ⟨rfl,hsm⟩;have HSM:=hid hsm;go_wp2_with fail;refine(HAD w2 HSM).mono ?_;rintro en w3 ⟨rfl,HZ⟩;go_wp2;go_end0;exact⟨rfl,HZ⟩
theorem zMm(n:Int)(h:CRep F base w b e g S)(ho:e.all[i]? =some o)(hst:o.status=1)(hne:i∉S.ended)(hid63:r63 o.id)(hq:e.stamp<4611686018427387904)(hl:S.sel.length≤1000000000)(hs: ¬o.side=1):
 Cl 210 #[iP b,iP (g.blk i),iV n] w fun en w'=>en=rV #[]∧CRep F base w' b ({ e with stamp:=e.stamp+1 }.upd i fun o=>{ o with stamp:=(e.stamp+1:Nat),shown:=n }) g (S.lay e.all o i)∧Touch F w w':=by
 have hO:=h.oa ho hst;have c13:cI w b 13 (e.stamp:Int):=h.cell 13;have f13:=h.froz 13;have d11:cI w (g.blk i) 11 o.shown:=hO.cell 11;have e11:=hO.froz 11;have d12:cI w (g.blk i) 12 o.stamp:=hO.cell 12;have e12:=hO.froz 12;have hbn:b≠g.blk i:=fun e1=>by
  have:=h.blk;rw[e1,hO.blk]at this;injection this with this;injection this with _ this _;exact absurd this (by decide)
 have hbn':g.blk i≠b:=fun e1=>hbn e1.symm
 have hw1:wrap64 ((e.stamp:Int)+1)=(e.stamp:Int)+1:=by unfold wrap64;omega
 have hC1:CRep F base (w.setCell (iA b 13) (iV ((e.stamp:Int)+1))) b { e with stamp:=e.stamp+1 } g S:=h.set 13 _ { e with stamp:=e.stamp+1 } (by simp[codCells]) rfl rfl rfl rfl;have hT1:Touch F w (w.setCell (iA b 13) (iV ((e.stamp:Int)+1))):=(Touch.refl F w).set b _ _ h.own;obtain⟨hC2,hT2⟩:=hC1.wr ho hst hne 12 (iV ((e.stamp:Int)+1)) (fun o=>{ o with stamp:=(e.stamp+1:Nat) }) rfl (by simp[Ord.code]);obtain⟨hC3,hT3⟩:=hC2.wr (o:={ o with stamp:=(e.stamp+1:Nat) }) (Eng.upd_same _ i _ o ho) hst hne 11 (iV n) (fun o=>{ o with shown:=n }) rfl (by simp[Ord.code]);rw[Eng.upd_upd]at hC3;have hT:=(hT1.trans hT2).trans hT3;have hat:({ e with stamp:=e.stamp+1 }.upd i fun o=>{ o with stamp:=(e.stamp+1:Nat),shown:=n }).all[i]? =some { o with stamp:=(e.stamp+1:Nat),shown:=n }:=Eng.upd_same { e with stamp:=e.stamp+1 } i _ o ho;have hO3:=hC3.oa hat hst;have HSD:=hid (zCx hC3 hO3 hs)
 have HAD:Hid (∀W,Same (((w.setCell (iA b 13) (iV ((e.stamp:Int)+1))).setCell (iA (g.blk i) 12) (iV ((e.stamp:Int)+1))).setCell (iA (g.blk i) 11) (iV n)) W→Cl 262 #[iP g.selB,iP (g.blk i)] W fun en w'=>en=rV #[]∧Hid (CRep F base w' b ({ e with stamp:=e.stamp+1 }.upd i fun o=>{ o with stamp:=(e.stamp+1:Nat),shown:=n }) g (S.lay e.all o i)∧Touch F w w')):=by
  intro W hW;refine(zMe (o:={ o with stamp:=(e.stamp+1:Nat),shown:=n }) (hC3.same hW) (hO3.same hW) hid63 (zAe hat) hl).mono ?_;rintro en w' ⟨rfl,h1,h2,_⟩;refine⟨rfl,?_,hT.trans (hW.touch.trans h2)⟩;have hL:S.lay e.all o i={ S with sel:=less e.all S.sel o.id++ [i] }:=if_neg hs;rw[hL,←zAu { e with stamp:=e.stamp+1 } i (fun o=>{ o with stamp:=(e.stamp+1:Nat),shown:=n }) (fun _ _=>rfl)];exact h1
 go_enter Tryz.func210,Tryz.ntmps210;go_wp2_with fail;refine HSD.mono ?_;rintro en w2 ⟨rfl,hsm⟩;have HSM:=hid hsm;go_wp2_with fail;refine(HAD w2 HSM).mono ?_;rintro en w3 ⟨rfl,HZ⟩;go_wp2;go_end0;exact⟨rfl,HZ⟩
theorem zMn(h:CRep F base w b e g S)(ho:e.all[i]? =some o)(hst:o.status=1)(hne:i∉S.ended)(hid63:r63 o.id)(hs:o.side=1):
 Cl 209 #[iP b,iP (g.blk i)] w fun en w'=>en=rV #[]∧CRep F base w' b (e.upd i fun o=>{ o with shown:=0 }) g (S.off e.all o)∧Touch F w w':=by
 have hO:=h.oa ho hst;have HSD:=hid (zCw h hO hs);have HAD:Hid (∀W,Same w W→Cl 265 #[iP g.buyB,iP (g.blk i)] W fun en w'=>en=rV #[]∧cI w' (g.blk i) 11 o.shown∧w'.frozen? (iA (g.blk i) 11)=false∧Hid (CRep F base (w'.setCell (iA (g.blk i) 11) (iV 0)) b (e.upd i fun o=>{ o with shown:=0 }) g (S.off e.all o)∧Touch F w (w'.setCell (iA (g.blk i) 11) (iV 0)))):=by
  intro W hW;refine(zMb (h.same hW) (hO.same hW) hid63).mono ?_;rintro en w' ⟨rfl,h1,h2,h3⟩;have hL:S.off e.all o={ S with buy:=less e.all S.buy o.id }:=if_pos hs;obtain⟨q1,q2⟩:=h1.wr ho hst hne 11 (iV 0) (fun o=>{ o with shown:=0 }) rfl (by simp[Ord.code]);rw[hL];exact⟨rfl,h3.cell 11,h3.froz 11,q1,(hW.touch.trans h2).trans q2⟩
 go_enter Tryz.func209,Tryz.ntmps209;go_wp2_with fail;refine HSD.mono ?_;rintro en w2 ⟨rfl,hsm⟩;have HSM:=hid hsm;go_wp2_with fail;refine(HAD w2 HSM).mono ?_;rintro en w3 ⟨rfl,c11,f11,HZ⟩;go_wp2;go_end0;exact⟨rfl,HZ⟩
theorem zMo(h:CRep F base w b e g S)(ho:e.all[i]? =some o)(hst:o.status=1)(hne:i∉S.ended)(hid63:r63 o.id)(hs: ¬o.side=1):
 Cl 209 #[iP b,iP (g.blk i)] w fun en w'=>en=rV #[]∧CRep F base w' b (e.upd i fun o=>{ o with shown:=0 }) g (S.off e.all o)∧Touch F w w':=by
 have hO:=h.oa ho hst;have HSD:=hid (zCx h hO hs);have HAD:Hid (∀W,Same w W→Cl 265 #[iP g.selB,iP (g.blk i)] W fun en w'=>en=rV #[]∧cI w' (g.blk i) 11 o.shown∧w'.frozen? (iA (g.blk i) 11)=false∧Hid (CRep F base (w'.setCell (iA (g.blk i) 11) (iV 0)) b (e.upd i fun o=>{ o with shown:=0 }) g (S.off e.all o)∧Touch F w (w'.setCell (iA (g.blk i) 11) (iV 0)))):=by
  intro W hW;refine(zMd (h.same hW) (hO.same hW) hid63).mono ?_;rintro en w' ⟨rfl,h1,h2,h3⟩;have hL:S.off e.all o={ S with sel:=less e.all S.sel o.id }:=if_neg hs;obtain⟨q1,q2⟩:=h1.wr ho hst hne 11 (iV 0) (fun o=>{ o with shown:=0 }) rfl (by simp[Ord.code]);rw[hL];exact⟨rfl,h3.cell 11,h3.froz 11,q1,(hW.touch.trans h2).trans q2⟩
 go_enter Tryz.func209,Tryz.ntmps209;go_wp2_with fail;refine HSD.mono ?_;rintro en w2 ⟨rfl,hsm⟩;have HSM:=hid hsm;go_wp2_with fail;refine(HAD w2 HSM).mono ?_;rintro en w3 ⟨rfl,c11,f11,HZ⟩;go_wp2;go_end0;exact⟨rfl,HZ⟩
theorem zH4(n:Int)(h:CRep F base w b e g S)(ho:e.all[i]? =some o)(hst:o.status=1)(hne:i∉S.ended)(hid63:r63 o.id)(hq:e.stamp<4611686018427387904)(hl:S.Small 1000000000):
 Cl 210 #[iP b,iP (g.blk i),iV n] w fun en w'=>en=rV #[]∧CRep F base w' b ({ e with stamp:=e.stamp+1 }.upd i fun o=>{ o with stamp:=(e.stamp+1:Nat),shown:=n }) g (S.lay e.all o i)∧Touch F w w':=by
 by_cases hs:o.side=1
 ·exact zMl n h ho hst hne hid63 hq hl.buy hs
 ·exact zMm n h ho hst hne hid63 hq hl.sel hs
theorem zE1(h:CRep F base w b e g S)(ho:e.all[i]? =some o)(hst:o.status=1)(hne:i∉S.ended)(hid63:r63 o.id):
 Cl 209 #[iP b,iP (g.blk i)] w fun en w'=>en=rV #[]∧CRep F base w' b (e.upd i fun o=>{ o with shown:=0 }) g (S.off e.all o)∧Touch F w w':=by
 by_cases hs:o.side=1
 ·exact zMn h ho hst hne hid63 hs
 ·exact zMo h ho hst hne hid63 hs
end
section
variable {F:Nat→Prop} {base:Nat} {w:World} {b q i:Nat} {e:Eng} {g:Gh} {S:Sets} {o:Ord}
theorem zE2(h:CRep F base w b e g S)(ho:OA w q i o)(hr:r63 o.id):
 Cl 155 #[.pointer (some (iA b 8)),iP q] w fun en w'=>en=rV #[]∧CRep F base w' b e g (S.leave e.all o)∧Touch F w w'∧OA w' q i o:=by
 by_cases hL:o.life=1
 ·have:=zMf h ho hr hL;rw[show S.leave e.all o=_ from if_pos hL];exact this
 ·have:=zMh h ho hr hL;rw[show S.leave e.all o=_ from if_neg hL];exact this
theorem zMp(h:CRep F base w b e g S)(ho:OA w (g.blk i) i o)(hr:r63 o.id)(hi:idAt e.all i=o.id)(hl:S.Small 1000000000):
 Cl 152 #[.pointer (some (iA b 8)),iP (g.blk i)] w fun en w'=>en=rV #[]∧CRep F base w' b e g (S.join e.all o i)∧Touch F w w'∧OA w' (g.blk i) i o:=by
 by_cases hL:o.life=1
 ·have:=zMg h ho hr hi hl.day hL;rw[show S.join e.all o i=_ from if_pos hL];exact this
 ·have:=zMi h ho hr hi hl.oth hL;rw[show S.join e.all o i=_ from if_neg hL];exact this
theorem CRep.below(h:CRep F base w b e g S)(hb:Below w.heap.size w w'):CRep F base w' b e g S:=h.keep hb.size (fun k hk=>hb.block k hk)
theorem zAp(hF: ∀k,w.heap.size≤k→F k)(hb:Below w.heap.size w w'):Touch F w w':=⟨hb.os,hb.tape,hb.output,hb.size,fun k hk _=>hb.block k hk⟩
theorem zH5(st:Int)(l:List Int)(f:Ord→Ord)(h:CRep F base w b e g S)(ho:e.all[i]? =some o)(hst:o.status=1)(hne:i∉S.ended)(hid63:r63 o.id)(hl:S.Small 1000000000)
 (hS: ∀W,OA W (g.blk i) i { o with shown:=0 }→Cl 77 #[iP (g.blk i),iV st] W fun en w'=>en=.returned (aggElem.val l)∧Below W.heap.size W w') (hf:(f o).state=l) (hfi:(f o).id=o.id) (hfs: ¬(f o).status=1):
 Cl 207 #[iP b,iP (g.blk i),iV st] w fun en w'=>en=rV #[]∧CRep F base w' b (e.upd i f) g ((S.off e.all o).fin e.all o i)∧Touch F w w':=by
 have hE: ∀S:Sets,(S.off e.all o).ended=S.ended:=fun S=>by unfold Sets.off;split<;>rfl
 have HTB:Hid (Cl 209 #[iP b,iP (g.blk i)] w fun en w1=>en=rV #[]∧w1.cell? (iA b 10)=some (.map (some g.endM))∧cI w1 (g.blk i) 0 o.id∧
  Hid (∀W,Same w1 W→Cl 77 #[iP (g.blk i),iV st] W fun en w'=>en=.returned (.agg (l.map (iV)).toArray)∧w'.cell? (iA b 10)=some (.map (some g.endM))∧cI w' (g.blk i) 0 o.id∧∃w2,(Instr.mapUpdate 113 (.map (some g.endM)) (iV o.id) (.agg (l.map (iV)).toArray)).run Tryz.prog w'=.ok () w2∧Hid (CRep F base w2 b (e.upd i f) g ((S.off e.all o).fin e.all o i)∧Touch F w w2))):=by
  refine(zE1 h ho hst hne hid63).mono ?_;rintro en w1 ⟨rfl,h1,h2⟩;have hat:(e.upd i fun o=>{ o with shown:=0 }).all[i]? =some { o with shown:=0 }:=Eng.upd_same e i _ o ho;have hO1:=h1.oa hat hst;refine⟨rfl,h1.cell 10,hO1.cell 0,?_⟩;intro W hW;refine(hS W (hO1.same hW)).mono ?_;rintro en w' ⟨rfl,hb⟩;have hC:CRep F base w' b (e.upd i fun o=>{ o with shown:=0 }) g (S.off e.all o):=(h1.same hW).below hb;have hT:Touch F w w':=(h2.trans hW.touch).trans (zAp (fun k hk=>h1.up k (by rw[←hW.heap];exact hk)) hb);have hC2:=hC.as (i:=i) hat hst (by rw[hE];exact hne) (fun _=>f o) hfi (fun hc=>absurd hc hfs);rw[Eng.upd_upd,Eng.upd_congr e i _ f (fun x hx=>by obtain rfl:o=x:=Option.some.inj (ho.symm.trans hx);rfl)]at hC2;have hx:(e.upd i f).all[i]? =some (f o):=Eng.upd_same e i f o ho
  obtain⟨w2,q1,q2,q3⟩:=hC2.body.ended.put keyedInt Tryz.underlying3 Tryz.underlying113 (by rw[List.length_map,hE];have:=hl.ended;unfold maxLen;omega) (wf63 hid63) l;rw[zAy]at q2;have hle:less (e.upd i f).all (S.off e.all o).ended o.id=less e.all (S.off e.all o).ended o.id:=zAu e i f (fun x hx=>by obtain rfl:o=x:=Option.some.inj (ho.symm.trans hx);exact hfi) _ _;have q2':PM aggElem Tryz.prog 3 w2 g.endM ((less (e.upd i f).all (S.off e.all o).ended o.id++ [i]).map fun j=>(idAt (e.upd i f).all j,stAt (e.upd i f).all j)):=by
   rw[List.map_append,List.map_singleton,zAe hx,hfi,show stAt (e.upd i f).all i=l by unfold stAt;rw[hx];exact hf];exact q2
  obtain⟨r1,r2⟩:=hC2.turn_ended (Turned.of q3) _ q2';rw[hle]at r1;exact⟨rfl,hC.cell 10,(hC.oa hat hst).cell 0,w2,q1,r1,hT.trans r2⟩
 go_enter Tryz.func207,Tryz.ntmps207;go_wp2_with fail;refine HTB.mono ?_;rintro en w1 ⟨rfl,c10,c0,HST⟩;go_wp2_with fail;go_region_with(first|(go_at_call 77;refine(HST w1.drew ((Same.refl w1).drew)).mono ?_;rintro en w2 ⟨rfl,c10',c0',w3,hw3,HZ⟩));all_goals(go_end0;exact⟨rfl,HZ⟩)
end
theorem OA.set(h:OA w q i o)(c:Addr)(u:Value)(hc:q≠c.block):OA (w.setCell c u) q i o:=⟨by rw[Below.heap_setCell _ _ _ _ hc];exact h.blk⟩
theorem OA.drew(h:OA w q i o):OA w.drew q i o:=⟨h.blk⟩
theorem zH6(h:OA w q i o)(hr:r63 (o.qty - o.filled)):
 Cl 77 #[iP q,iV 3] w fun en w'=>en=.returned (stV o.id 3 o.price 0 o.filled (o.qty - o.filled) 0)∧Below w.heap.size w w':=by
 have c0:w.cell? (iA q 0)=sI o.id:=h.cell 0;have c3:w.cell? (iA q 3)=sI o.price:=h.cell 3;have c10:w.cell? (iA q 10)=sI o.filled:=h.cell 10;have hql:=h.lt;have hqn:q≠w.heap.size:=Nat.ne_of_lt hql;unfold stV;go_enter Tryz.func77,Tryz.ntmps77;go_wp2_with fail;have hoa:=h.alloc (.cells #[iV 0,iV 0,iV 0,iV 0,iV 0,iV 0,iV 0] 48);have HB1:=hid ((Below.refl w.heap.size w).alloc (Nat.le_refl _) (.cells #[iV 0,iV 0,iV 0,iV 0,iV 0,iV 0,iV 0] 48));have hb1:=heap_alloc_new w (.cells #[iV 0,iV 0,iV 0,iV 0,iV 0,iV 0,iV 0] 48);have hsW:(w.alloc (.cells #[iV 0,iV 0,iV 0,iV 0,iV 0,iV 0,iV 0] 48)).heap.size=w.heap.size+1:=by simp
 generalize w.alloc (.cells #[iV 0,iV 0,iV 0,iV 0,iV 0,iV 0,iV 0] 48)=W at *;have r0:W.cell? (iA w.heap.size 0)=sI 0:=by simp[World.cell?,hb1]
 have g0:W.frozen? (iA w.heap.size 0)=false:=by simp[World.frozen?,hb1]
 have r1:W.cell? (iA w.heap.size 1)=sI 0:=by simp[World.cell?,hb1]
 have g1:W.frozen? (iA w.heap.size 1)=false:=by simp[World.frozen?,hb1]
 have r2:W.cell? (iA w.heap.size 2)=sI 0:=by simp[World.cell?,hb1]
 have g2:W.frozen? (iA w.heap.size 2)=false:=by simp[World.frozen?,hb1]
 have r3:W.cell? (iA w.heap.size 3)=sI 0:=by simp[World.cell?,hb1]
 have g3:W.frozen? (iA w.heap.size 3)=false:=by simp[World.frozen?,hb1]
 have r4:W.cell? (iA w.heap.size 4)=sI 0:=by simp[World.cell?,hb1]
 have g4:W.frozen? (iA w.heap.size 4)=false:=by simp[World.frozen?,hb1]
 have r5:W.cell? (iA w.heap.size 5)=sI 0:=by simp[World.cell?,hb1]
 have g5:W.frozen? (iA w.heap.size 5)=false:=by simp[World.frozen?,hb1]
 have r6:W.cell? (iA w.heap.size 6)=sI 0:=by simp[World.cell?,hb1]
 have g6:W.frozen? (iA w.heap.size 6)=false:=by simp[World.frozen?,hb1]
 have hwl:w.heap.size<W.heap.size:=by omega
 have hwn:w.heap.size≠W.heap.size:=Nat.ne_of_lt hwl;clear hsW;have c0:W.cell? (iA q 0)=sI o.id:=hoa.cell 0;have c3:W.cell? (iA q 3)=sI o.price:=hoa.cell 3;have c10:W.cell? (iA q 10)=sI o.filled:=hoa.cell 10;have hql:q<W.heap.size:=hoa.lt;have hqW:q≠W.heap.size:=Nat.ne_of_lt hql;have HOA:=hid hoa;have HRR:=hid hr;have HB0:=hid hb1;clear h hoa hr hb1
 go_region_held (fun X=>X.cell? (iA q 0)=sI o.id∧X.cell? (iA q 3)=sI o.price∧X.cell? (iA q 10)=sI o.filled) (go_keep) (fail)
 go_wp2_with fail;have hX:OA (W.alloc (.cells #[iV o.id,iV 3,iV o.price,iV 0,iV o.filled,iV 0,iV 0] 48)).drew q i o:=(HOA.alloc _).drew;have hB:Below w.heap.size w (W.alloc (.cells #[iV o.id,iV 3,iV o.price,iV 0,iV o.filled,iV 0,iV 0] 48)).drew:=zB5 (zCv HB1.out _);have hN:=heap_alloc_new W (.cells #[iV o.id,iV 3,iV o.price,iV 0,iV o.filled,iV 0,iV 0] 48);have hN:(W.alloc (.cells #[iV o.id,iV 3,iV o.price,iV 0,iV o.filled,iV 0,iV 0] 48)).drew.heap[W.heap.size]? =_:=hN;have hQ0:(W.alloc (.cells #[iV o.id,iV 3,iV o.price,iV 0,iV o.filled,iV 0,iV 0] 48)).drew.heap[w.heap.size]? =some (.cells #[iV 0,iV 0,iV 0,iV 0,iV 0,iV 0,iV 0] 48 (0,0)):=(Below.heap_alloc W _ _ hwl).trans HB0.out;generalize (W.alloc (.cells #[iV o.id,iV 3,iV o.price,iV 0,iV o.filled,iV 0,iV 0] 48)).drew=X at *;have hle:w.heap.size≤W.heap.size:=by omega
 have hQ:X.heap[w.heap.size]? =some (.cells #[iV 0,iV 0,iV 0,iV 0,iV 0,iV 0,iV 0] 48 (0,0)):=hQ0;have hzn:w.heap.size≠W.heap.size:=by omega
 clear HOA HB1 HB0 r0 r1 r2 r3 r4 r5 r6 g0 g1 g2 g3 g4 g5 g6 c0 c3 c10;generalize W.heap.size=z at *;refine(zAi hX HRR.out).mono ?_;rintro en w2 ⟨rfl,hs2⟩;rw[←hs2.heap]at hN;have HB2:Hid (Below w.heap.size w w2):=⟨hs2.os.trans hB.os,hs2.tape.trans hB.tape,hs2.output.trans hB.output,by rw[hs2.heap];exact hB.size,fun k hk=>by rw[hs2.heap];exact hB.block k hk⟩;have s0:w2.cell? (iA z 0)=sI o.id:=by simp[World.cell?,hN]
 have s1:w2.cell? (iA z 1)=sI 3:=by simp[World.cell?,hN]
 have s2:w2.cell? (iA z 2)=sI o.price:=by simp[World.cell?,hN]
 have s3:w2.cell? (iA z 3)=sI 0:=by simp[World.cell?,hN]
 have s4:w2.cell? (iA z 4)=sI o.filled:=by simp[World.cell?,hN]
 have s5:w2.cell? (iA z 5)=sI 0:=by simp[World.cell?,hN]
 have s6:w2.cell? (iA z 6)=sI 0:=by simp[World.cell?,hN]
 have t5:w2.frozen? (iA z 5)=false:=by simp[World.frozen?,hN]
 rw[←hs2.heap]at hQ;have p0:w2.cell? (iA w.heap.size 0)=sI 0:=by simp[World.cell?,hQ]
 have u0:w2.frozen? (iA w.heap.size 0)=false:=by simp[World.frozen?,hQ]
 have p1:w2.cell? (iA w.heap.size 1)=sI 0:=by simp[World.cell?,hQ]
 have u1:w2.frozen? (iA w.heap.size 1)=false:=by simp[World.frozen?,hQ]
 have p2:w2.cell? (iA w.heap.size 2)=sI 0:=by simp[World.cell?,hQ]
 have u2:w2.frozen? (iA w.heap.size 2)=false:=by simp[World.frozen?,hQ]
 have p3:w2.cell? (iA w.heap.size 3)=sI 0:=by simp[World.cell?,hQ]
 have u3:w2.frozen? (iA w.heap.size 3)=false:=by simp[World.frozen?,hQ]
 have p4:w2.cell? (iA w.heap.size 4)=sI 0:=by simp[World.cell?,hQ]
 have u4:w2.frozen? (iA w.heap.size 4)=false:=by simp[World.frozen?,hQ]
 have p5:w2.cell? (iA w.heap.size 5)=sI 0:=by simp[World.cell?,hQ]
 have u5:w2.frozen? (iA w.heap.size 5)=false:=by simp[World.frozen?,hQ]
 have p6:w2.cell? (iA w.heap.size 6)=sI 0:=by simp[World.cell?,hQ]
 have u6:w2.frozen? (iA w.heap.size 6)=false:=by simp[World.frozen?,hQ]
 have hle0:w.heap.size≤w.heap.size:=Nat.le_refl _;clear hs2 hN hX hB hQ;go_wp2;refine bodyPost_ret (v:=.agg #[iV o.id,iV 3,iV o.price,iV 0,iV o.filled,iV (o.qty - o.filled),iV 0]) (by simp[results,Tryz.results77,go_sem,s0,s1,s2,s3,s4,s5,s6,p0,p1,p2,p3,p4,p5,p6,hzn]) rfl ⟨rfl,?_⟩;iterate 7 (refine Below.setCell ?_ hle0 _)
 exact Below.setCell HB2.out hle _
theorem zH7(h:OA w q i o)(hr:r63 (o.qty - o.filled)):
 Cl 77 #[iP q,iV 1] w fun en w'=>en=.returned (stV o.id 1 o.price (o.qty - o.filled) o.filled 0 o.shown)∧Below w.heap.size w w':=by
 have c0:w.cell? (iA q 0)=sI o.id:=h.cell 0;have c3:w.cell? (iA q 3)=sI o.price:=h.cell 3;have c10:w.cell? (iA q 10)=sI o.filled:=h.cell 10;have hql:=h.lt;have hqn:q≠w.heap.size:=Nat.ne_of_lt hql;unfold stV;go_enter Tryz.func77,Tryz.ntmps77;go_wp2_with fail;have hoa:=h.alloc (.cells #[iV 0,iV 0,iV 0,iV 0,iV 0,iV 0,iV 0] 48);have HB1:=hid ((Below.refl w.heap.size w).alloc (Nat.le_refl _) (.cells #[iV 0,iV 0,iV 0,iV 0,iV 0,iV 0,iV 0] 48));have hb1:=heap_alloc_new w (.cells #[iV 0,iV 0,iV 0,iV 0,iV 0,iV 0,iV 0] 48);have hsW:(w.alloc (.cells #[iV 0,iV 0,iV 0,iV 0,iV 0,iV 0,iV 0] 48)).heap.size=w.heap.size+1:=by simp
 generalize w.alloc (.cells #[iV 0,iV 0,iV 0,iV 0,iV 0,iV 0,iV 0] 48)=W at *;have r0:W.cell? (iA w.heap.size 0)=sI 0:=by simp[World.cell?,hb1]
 have g0:W.frozen? (iA w.heap.size 0)=false:=by simp[World.frozen?,hb1]
 have r1:W.cell? (iA w.heap.size 1)=sI 0:=by simp[World.cell?,hb1]
 have g1:W.frozen? (iA w.heap.size 1)=false:=by simp[World.frozen?,hb1]
 have r2:W.cell? (iA w.heap.size 2)=sI 0:=by simp[World.cell?,hb1]
 have g2:W.frozen? (iA w.heap.size 2)=false:=by simp[World.frozen?,hb1]
 have r3:W.cell? (iA w.heap.size 3)=sI 0:=by simp[World.cell?,hb1]
 have g3:W.frozen? (iA w.heap.size 3)=false:=by simp[World.frozen?,hb1]
 have r4:W.cell? (iA w.heap.size 4)=sI 0:=by simp[World.cell?,hb1]
 have g4:W.frozen? (iA w.heap.size 4)=false:=by simp[World.frozen?,hb1]
 have r5:W.cell? (iA w.heap.size 5)=sI 0:=by simp[World.cell?,hb1]
 have g5:W.frozen? (iA w.heap.size 5)=false:=by simp[World.frozen?,hb1]
 have r6:W.cell? (iA w.heap.size 6)=sI 0:=by simp[World.cell?,hb1]
 have g6:W.frozen? (iA w.heap.size 6)=false:=by simp[World.frozen?,hb1]
 have hwl:w.heap.size<W.heap.size:=by omega
 have hwn:w.heap.size≠W.heap.size:=Nat.ne_of_lt hwl;clear hsW;have c0:W.cell? (iA q 0)=sI o.id:=hoa.cell 0;have c3:W.cell? (iA q 3)=sI o.price:=hoa.cell 3;have c10:W.cell? (iA q 10)=sI o.filled:=hoa.cell 10;have hql:q<W.heap.size:=hoa.lt;have hqW:q≠W.heap.size:=Nat.ne_of_lt hql;have HOA:=hid hoa;have HRR:=hid hr;have HB0:=hid hb1;clear h hoa hr hb1
 go_region_held (fun X=>X.cell? (iA q 0)=sI o.id∧X.cell? (iA q 3)=sI o.price∧X.cell? (iA q 10)=sI o.filled) (go_keep) (fail)
 go_wp2_with fail;have hX:OA (W.alloc (.cells #[iV o.id,iV 1,iV o.price,iV 0,iV o.filled,iV 0,iV 0] 48)).drew q i o:=(HOA.alloc _).drew;have hB:Below w.heap.size w (W.alloc (.cells #[iV o.id,iV 1,iV o.price,iV 0,iV o.filled,iV 0,iV 0] 48)).drew:=zB5 (zCv HB1.out _);have hN:=heap_alloc_new W (.cells #[iV o.id,iV 1,iV o.price,iV 0,iV o.filled,iV 0,iV 0] 48);have hN:(W.alloc (.cells #[iV o.id,iV 1,iV o.price,iV 0,iV o.filled,iV 0,iV 0] 48)).drew.heap[W.heap.size]? =_:=hN;have hQ0:(W.alloc (.cells #[iV o.id,iV 1,iV o.price,iV 0,iV o.filled,iV 0,iV 0] 48)).drew.heap[w.heap.size]? =some (.cells #[iV 0,iV 0,iV 0,iV 0,iV 0,iV 0,iV 0] 48 (0,0)):=(Below.heap_alloc W _ _ hwl).trans HB0.out;generalize (W.alloc (.cells #[iV o.id,iV 1,iV o.price,iV 0,iV o.filled,iV 0,iV 0] 48)).drew=X at *;have hle:w.heap.size≤W.heap.size:=by omega
 have hQ:X.heap[w.heap.size]? =some (.cells #[iV 0,iV 0,iV 0,iV 0,iV 0,iV 0,iV 0] 48 (0,0)):=hQ0;have hzn:w.heap.size≠W.heap.size:=by omega
 clear HOA HB1 HB0 r0 r1 r2 r3 r4 r5 r6 g0 g1 g2 g3 g4 g5 g6 c0 c3 c10;generalize W.heap.size=z at *
 have HOP:Hid (∀Y,Same X Y→Cl 124 #[iP q] Y fun en w2=>en=.returned (iV (o.qty - o.filled))∧w2.cell? (iA q 11)=sI o.shown∧(w2.cell? (iA z 0)=sI o.id∧w2.cell? (iA z 1)=sI 1∧w2.cell? (iA z 2)=sI o.price∧w2.cell? (iA z 3)=sI 0∧w2.cell? (iA z 4)=sI o.filled∧w2.cell? (iA z 5)=sI 0∧w2.cell? (iA z 6)=sI 0∧w2.frozen? (iA z 3)=false∧w2.frozen? (iA z 6)=false)∧(w2.cell? (iA w.heap.size 0)=sI 0∧w2.frozen? (iA w.heap.size 0)=false∧w2.cell? (iA w.heap.size 1)=sI 0∧w2.frozen? (iA w.heap.size 1)=false∧w2.cell? (iA w.heap.size 2)=sI 0∧w2.frozen? (iA w.heap.size 2)=false∧w2.cell? (iA w.heap.size 3)=sI 0∧w2.frozen? (iA w.heap.size 3)=false∧w2.cell? (iA w.heap.size 4)=sI 0∧w2.frozen? (iA w.heap.size 4)=false∧w2.cell? (iA w.heap.size 5)=sI 0∧w2.frozen? (iA w.heap.size 5)=false∧w2.cell? (iA w.heap.size 6)=sI 0∧w2.frozen? (iA w.heap.size 6)=false)∧Hid (Below w.heap.size w w2)):=by
  intro Y hY;refine(zAi (hX.same hY) HRR.out).mono ?_;rintro en w2 ⟨rfl,hs2⟩;have hs2:=hY.trans hs2;rw[←hs2.heap]at hN hQ;refine⟨rfl,(hX.same hs2).cell 11,⟨by simp[World.cell?,hN],by simp[World.cell?,hN],by simp[World.cell?,hN],by simp[World.cell?,hN],by simp[World.cell?,hN],by simp[World.cell?,hN],by simp[World.cell?,hN],by simp[World.frozen?,hN],by simp[World.frozen?,hN]⟩,⟨by simp[World.cell?,hQ],by simp[World.frozen?,hQ],by simp[World.cell?,hQ],by simp[World.frozen?,hQ],by simp[World.cell?,hQ],by simp[World.frozen?,hQ],by simp[World.cell?,hQ],by simp[World.frozen?,hQ],by simp[World.cell?,hQ],by simp[World.frozen?,hQ],by simp[World.cell?,hQ],by simp[World.frozen?,hQ],by simp[World.cell?,hQ],by simp[World.frozen?,hQ]⟩,?_⟩;exact⟨hs2.os.trans hB.os,hs2.tape.trans hB.tape,hs2.output.trans hB.output,by rw[hs2.heap];exact hB.size,fun k hk=>by rw[hs2.heap];exact hB.block k hk⟩
 have x11:X.cell? (iA q 11)=sI o.shown:=hX.cell 11;clear hN hX hB hQ;go_region_with(first|(go_at_call 124;refine(HOP.out X.drew ((Same.refl X).drew)).mono ?_;rintro en w2 ⟨rfl,y11,⟨s0,s1,s2,s3,s4,s5,s6,t3,t6⟩,⟨p0,u0,p1,u1,p2,u2,p3,u3,p4,u4,p5,u5,p6,u6⟩,HB2⟩));all_goals(
  go_wp2;refine bodyPost_ret (v:=.agg #[iV o.id,iV 1,iV o.price,iV (o.qty - o.filled),iV o.filled,iV 0,iV o.shown]) (by simp[results,Tryz.results77,go_sem,s0,s1,s2,s3,s4,s5,s6,p0,p1,p2,p3,p4,p5,p6,hzn]) rfl ⟨rfl,?_⟩;have hle0:w.heap.size≤w.heap.size:=Nat.le_refl _;iterate 7 (refine Below.setCell ?_ hle0 _)
  exact Below.setCell (Below.setCell HB2.out hle _) hle _)
theorem zH8(al:List Ord)(l:List Nat)(id:Int):(less al l id).length≤l.length:=List.length_filter_le _ _
section
variable {F:Nat→Prop} {base:Nat} {w:World} {b q i:Nat} {e:Eng} {g:Gh} {S:Sets} {o:Ord} {n:Nat}
theorem Sets.Small.leave(h:S.Small n)(al:List Ord)(o:Ord):(S.leave al o).Small n:=by
 unfold Sets.leave;split
 ·exact⟨Nat.le_trans (zH8 _ _ _) h.day,h.oth,h.ended,h.buy,h.sel⟩
 ·exact⟨h.day,Nat.le_trans (zH8 _ _ _) h.oth,h.ended,h.buy,h.sel⟩
theorem Sets.leave_ended(S:Sets)(al:List Ord)(o:Ord):(S.leave al o).ended=S.ended:=by unfold Sets.leave;split<;>rfl
theorem Sets.off_ended(S:Sets)(al:List Ord)(o:Ord):(S.off al o).ended=S.ended:=by unfold Sets.off;split<;>rfl
theorem Sets.lay_ended(S:Sets)(al:List Ord)(o:Ord)(i:Nat):(S.lay al o i).ended=S.ended:=by unfold Sets.lay;split<;>rfl
def Sets.gone(S:Sets)(al:List Ord)(o:Ord)(i:Nat):Sets:=(S.off al o).fin al o i
theorem zH9(f:Ord→Ord)(h:CRep F base w b e g S)(ho:e.all[i]? =some o)(hst:o.status=1)(hne:i∉S.ended)(hid63:r63 o.id)(hl:S.Small 1000000000)(hf:(f o).state= [o.id,2,o.price,0,o.filled,0,0]):
 Cl 206 #[iP b,iP (g.blk i)] w fun en w'=>en=rV #[]∧CRep F base w' b (e.upd i f) g ((S.leave e.all o).gone e.all o i)∧Touch F w w':=by
 have hf':=hf;simp only[Ord.state,List.cons.injEq,and_true]at hf';have HRM:Hid (Cl 155 #[.pointer (some (iA b 8)),iP (g.blk i)] w fun en w1=>en=rV #[]∧Hid (Cl 207 #[iP b,iP (g.blk i),iV 2] w1 fun en w'=>en=rV #[]∧Hid (CRep F base w' b (e.upd i f) g ((S.leave e.all o).gone e.all o i)∧Touch F w w'))):=by
  refine(zE2 h (h.oa ho hst) hid63).mono ?_;rintro en w1 ⟨rfl,h1,h2,h3⟩;refine⟨rfl,?_⟩;refine(zH5 2 _ f h1 ho hst (by rw[Sets.leave_ended];exact hne) hid63 (hl.leave _ _) (fun W hW=>(zH2 hW).mono ?_) hf hf'.1 (by rw[hf'.2.1];decide)).mono ?_
  ·rintro en w' ⟨rfl,hb⟩;exact⟨rfl,hb⟩
  ·rintro en w' ⟨rfl,q1,q2⟩;exact⟨rfl,q1,h2.trans q2⟩
 go_enter Tryz.func206,Tryz.ntmps206;go_wp2_with fail;refine HRM.mono ?_;rintro en w1 ⟨rfl,HL⟩;go_wp2_with fail;refine HL.mono ?_;rintro en w2 ⟨rfl,HZ⟩;go_wp2;go_end0;exact⟨rfl,HZ⟩
theorem zE3(n:Int)(h:CRep F base w b e g S)(ho:e.all[i]? =some o)(hst:o.status=1)(hne:i∉S.ended)(hid63:r63 o.id)(hp63:r63 o.price)(hn63:r63 n)(hq:e.stamp<4611686018427387904)(hl:S.Small 1000000000)(hsq:e.seq<4611686018427387904)(hol:e.out.length≤70368744177642):
 Cl 203 #[iP b,iP (g.blk i),iV n] w fun en w'=>en=rV #[]∧∃t,CRep F base w' b (e.lay i n) { g with txt:=t } (S.lay e.all o i)∧Touch F w w':=by
 have z:r63 0:=⟨by omega,by omega⟩;have HRS:Hid (Cl 210 #[iP b,iP (g.blk i),iV n] w fun en w1=>en=rV #[]∧cI w1 (g.blk i) 0 o.id∧cI w1 (g.blk i) 3 o.price∧
  Hid (∀W,Same w1 W→Cl 116 #[.pointer (some (iA b 6)),.agg #[iV 6,iV 0,iV o.id,iV 0,iV o.price,iV n,iV 0]] W fun en w'=>en=rV #[]∧Hid (∃t,CRep F base w' b (e.lay i n) { g with txt:=t } (S.lay e.all o i)∧Touch F w w'))):=by
  refine(zH4 n h ho hst hne hid63 hq hl).mono ?_;rintro en w1 ⟨rfl,h1,h2⟩;have hat:({ e with stamp:=e.stamp+1 }.upd i fun o=>{ o with stamp:=(e.stamp+1:Nat),shown:=n }).all[i]? =some { o with stamp:=(e.stamp+1:Nat),shown:=n }:=Eng.upd_same { e with stamp:=e.stamp+1 } i _ o ho;have hO:=h1.oa hat hst;refine⟨rfl,hO.cell 0,hO.cell 3,fun W hW=>?_⟩;refine(zB4 6 0 o.id 0 o.price n 0 (h1.same hW) hsq hol ⟨⟨by omega,by omega⟩,hid63,z,hp63,hn63,z⟩).mono ?_;rintro en w' ⟨rfl,t,q1,q2⟩;refine⟨rfl,t,?_,h2.trans (hW.touch.trans q2)⟩;unfold Eng.lay;rw[ho];exact q1
 go_enter Tryz.func203,Tryz.ntmps203;go_wp2_with fail;refine HRS.mono ?_;rintro en w1 ⟨rfl,c0,c3,HT⟩;go_wp2_with fail
 first
 |(refine(HT w1 (Same.refl w1)).mono ?_
   rintro en w2 ⟨rfl,HZ⟩;go_wp2;go_end0;exact⟨rfl,HZ⟩)
 |(go_region_with(first|(go_at_call 116;refine(HT w1.drew ((Same.refl w1).drew)).mono ?_;rintro en w2 ⟨rfl,HZ⟩))
   all_goals(go_end0;exact⟨rfl,HZ⟩))
end
section
variable {e:Eng} {S:Sets} {out out' odd:List Nat} {i:Nat} {o:Ord} {f:Ord→Ord}
theorem Holds.gone(h:Holds e S out odd)(inv:Eng.EInv e)(ho:e.all[i]? =some o)(hs:o.status=1)(hi:i∈out)(hout: ∀j,j≠i→(j∈out'↔j∈out))(hodd: ∀j∈odd,j=i)(h1: ¬(f o).status=1)(h2:(f o).id=o.id)(h3:(f o).side=o.side)(h4:(f o).shown=0)(inv1:Eng.EInv (e.upd i fun o=>{ o with shown:=0 })):Holds (e.upd i f) (S.gone e.all o i) out' []:=by
 have k1:=Holds.off (f:=fun o=>{ o with shown:=0 }) h inv ho rfl rfl rfl hodd rfl;have hat:(e.upd i fun o=>{ o with shown:=0 }).all[i]? =some { o with shown:=0 }:=Eng.upd_same e i _ o ho;have k2:=Holds.fin (f:=fun _=>f o) k1 inv1 hat hs hi h1 h3 h4 rfl (by simp) hout;rw[Eng.upd_upd,Eng.upd_congr e i _ f (fun x hx=>by obtain rfl:o=x:=Option.some.inj (ho.symm.trans hx);rfl)]at k2;have hle:Sets.fin (S.off e.all o) (e.upd i fun o=>{ o with shown:=0 }).all { o with shown:=0 } i=S.gone e.all o i:=by
  unfold Sets.gone Sets.fin;rw[zAu e i (fun o=>{ o with shown:=0 }) (fun _ _=>rfl)]
 rw[hle]at k2;exact k2
end
section
variable {F:Nat→Prop} {base:Nat} {w:World} {b q i:Nat} {e:Eng} {g:Gh} {S:Sets} {o:Ord}
theorem CRep.drawn(h:CRep F base w b e g S):CRep F base (w.setCell (iA g.drwB 1) (iV ((e.drawn:Int)+1))) b e.draw.2 g S∧Touch F w (w.setCell (iA g.drwB 1) (iV ((e.drawn:Int)+1))):=by
 have hb:=h.body.drw;have hq:=zA7 w g.drwB 1 (iV ((e.drawn:Int)+1)) _ _ _ hb;generalize hu:iV ((e.drawn:Int)+1)=u at *;have oth: ∀k,k≠g.drwB→(w.setCell (iA g.drwB 1) u).heap[k]? =w.heap[k]? :=fun k hk=>Below.heap_setCell _ _ _ _ hk
 have ne: ∀{k:Nat} {c:Array Value} {t:TypeId} {f:Nat×Nat},w.heap[k]? =some (.cells c t f)→t≠94→(w.setCell (iA g.drwB 1) u).heap[k]? =some (.cells c t f):=by
  intro k c t f hk ht;rw[oth k (fun e1=>by rw[e1,hb]at hk;injection hk with hk;injection hk with _ hk _;exact ht hk.symm)];exact hk
 have row: ∀{B:Nat} {t:TypeId} {s:Nat} {v:Value} {n:Nat} {xs:List Value},w.ownsRow B t s v n xs→t≠94→(w.setCell (iA g.drwB 1) u).ownsRow B t s v n xs:=by
  intro B t s v n xs hr ht;refine⟨hr.1,?_⟩;rcases hr.2 with h2|⟨g',cap,cur,hv,hg,hh,r⟩
  ·exact .inl h2
  ·exact .inr ⟨g',cap,cur,hv,hg,ne hh ht,r⟩
 have mp: ∀{V:Type} {E:Elem V} {x:Nat} {l:List (Int×V)},PM E Tryz.prog 3 w x l→PM E Tryz.prog 3 (w.setCell (iA g.drwB 1) u) x l:=by
  intro V E x l hp;obtain⟨es,c,hm⟩:=hp.is_map;exact hp.of_block (oth x (fun e1=>by rw[e1,hb]at hm;cases hm))
 have B:=h.body;refine⟨⟨ne h.blk (by decide),h.own,fun k hk=>h.up k (by simpa using hk),by simpa using h.low,⟨row h.txt.row (by decide),h.txt.own⟩,⟨mp B.day,mp B.oth,mp B.ended,ne B.buyB (by decide),ne B.selB (by decide),mp B.buy,mp B.sel,B.maps,fun k x hk hx=>ne (B.ord k x hk hx) (by decide),B.inj,?_,row B.dls (by decide),B.fd,B.fo⟩,fun j hj=>by have:=h.old j hj;simpa using this,h.fb⟩,(Touch.refl F w).set _ _ _ B.fd.2.2.2.2.2⟩;rw[hq,←hu];rfl
theorem CRep.dshape(h:CRep F base w b e g S):(g.dls=.slice none 0 0∧e.draws= [])∨∃d cap,g.dls=sL d e.draws.length cap∧d≠g.drwB∧d<w.heap.size∧∀(j:Nat) (x:Int),e.draws[j]? =some x→w.cell? (iA d j)=sI x:=by
 rcases h.body.dls.2 with⟨h1,h2⟩|⟨d,cap,cur,hv,hg,hh,h3⟩
 ·exact .inl ⟨h1,List.length_eq_zero_iff.1 h2⟩
 ·right;have hal:=h.body.dls;rw[hv]at hal;refine⟨d,cap,hv,fun e1=>?_,(Array.getElem?_eq_some_iff.1 hh).1,fun j x hx=>?_⟩
  ·rw[e1,h.body.drw]at hh;injection hh with hh;injection hh with _ hh _;exact absurd hh (by decide)
  ·have hj:j<e.draws.length:=(List.getElem?_eq_some_iff.1 hx).1;rw[hal.cellAt j (by omega),List.getElem?_map,hx];rfl
def Eng.raw(e:Eng):Int:=if e.draws.length=0 then 0 else e.draws.getD (e.drawn % e.draws.length) 0
theorem Eng.draw_raw(e:Eng):e.draw.1=e.raw % 4294967296:=by
 unfold Eng.draw Eng.raw;split<;>rfl
theorem zMq(h:CRep F base w b e g S)(hdr:e.drawn<4611686018427387904)(hd:e.draws.length≤1000000000):
 Cl 255 #[iP g.drwB] w fun en w'=>en=.returned (iV e.raw)∧CRep F base w' b e.draw.2 g S∧Touch F w w':=by
 obtain⟨hC,hT⟩:=h.drawn;have hsh:=hC.dshape;have c1:w.cell? (iA g.drwB 1)=sI (e.drawn:Int):=by simp[World.cell?,h.body.drw]
 have f1:w.frozen? (iA g.drwB 1)=false:=by simp[World.frozen?,h.body.drw]
 have c0':(w.setCell (iA g.drwB 1) (iV ((e.drawn:Int)+1))).cell? (iA g.drwB 0)=some g.dls:=by simp[World.cell?,hC.body.drw]
 have c1':(w.setCell (iA g.drwB 1) (iV ((e.drawn:Int)+1))).cell? (iA g.drwB 1)=sI ((e.drawn:Int)+1):=by
  have:=hC.body.drw;simp[World.cell?,this];rfl
 have hw1:wrap64 ((e.drawn:Int)+1)=(e.drawn:Int)+1:=by unfold wrap64;omega
 have hw2:wrap64 ((e.drawn:Int)+1 - 1)=(e.drawn:Int):=by unfold wrap64;omega
 have hw3:IntKind.i64.wrap ((e.drawn:Int)+1 - 1)=(e.drawn:Int):=by rw[show(e.drawn:Int)+1 - 1=e.drawn by omega];exact zA8 _ (by omega) (by omega)
 have HC:=hid hC;have HT:=hid hT;clear h hC hT;have hdd:e.draw.2.draws=e.draws:=rfl;rw[hdd]at hsh;generalize g.dls=dv at *;generalize g.drwB=db at *;go_enter Tryz.func255,Tryz.ntmps255;rcases hsh with⟨rfl,he⟩|⟨d,cap,rfl,hgb,hgs,hcell⟩
 ·go_wp2;go_ret;refine⟨?_,HC.out,HT.out⟩;have:e.raw=0:=by unfold Eng.raw;rw[he];rfl
  rw[this];rfl
 ·by_cases hn0:e.draws.length=0
  ·have hres:Hid (e.raw=0):=by
    show _=_;unfold Eng.raw;rw[if_pos hn0]
   rw[hn0]at c0';clear hcell;go_wp2;go_ret;exact⟨by rw[hres.out];rfl,HC.out,HT.out⟩
  ·have hlt:e.drawn % e.draws.length<e.draws.length:=Nat.mod_lt _ (by omega);have hxe:e.draws[e.drawn % e.draws.length]? =some e.draws[e.drawn % e.draws.length]:=List.getElem?_eq_getElem hlt;have cx:=hcell _ _ hxe;have hres:Hid (e.raw=e.draws[e.drawn % e.draws.length]):=by
    show _=_;unfold Eng.raw;rw[if_neg hn0,List.getD_eq_getElem?_getD,hxe];rfl
   generalize e.draws[e.drawn % e.draws.length]=x at *;clear hcell hxe;generalize hn:e.draws.length=n at *;have ht:Int.tmod (e.drawn:Int) (n:Int)=((e.drawn % n:Nat):Int):=(Int.ofNat_tmod _ _).symm;have hn1:((n:Int) == 0)=false:=by simp;omega
   have hlI:((e.drawn % n:Nat):Int)<(n:Int):=by omega
   generalize e.drawn % n=q at *;go_wp2_with fail;generalize w.setCell (iA db 1) (iV ((e.drawn:Int)+1))=W1 at *;go_quiet (fail);go_wp2;go_ret;exact⟨by rw[hres.out];rfl,HC.drewN _,HT.drewN _⟩
end
end Go.Proofs.YtanfmhonjpjpoaaGreatDoor
