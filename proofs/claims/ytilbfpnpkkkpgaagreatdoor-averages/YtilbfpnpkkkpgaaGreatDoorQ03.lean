import Derived.Test.YtilbfpnpkkkpgaaGreatDoorQ00
import Derived.Test.YtilbfpnpkkkpgaaGreatDoorQ02
set_option linter.all false
set_option maxRecDepth 100000
set_option maxHeartbeats 8000000
namespace Go.Proofs.YtilbfpnpkkkpgaaGreatDoor
variable{e:Eng}{l:List Nat}{v:Nat→Int}
namespace Eng
structure Keeps(e e':Eng):Prop where
 mo:e'.mo=e.mo
 mp:e'.mp=e.mp
 mq:e'.mq=e.mq
 draws:e'.draws=e.draws
 rest:e'.rest=e.rest
 len0:e.all.length≤e'.all.length
 len1:e'.all.length≤e.all.length+1
theorem Stays.keeps{e':Eng}(h:Stays e e'):Keeps e e':=⟨h.mo,h.mp,h.mq,h.draws,h.rest,by rw[h.len];exact Nat.le_refl _,by rw[h.len];exact Nat.le_succ _⟩
theorem Keeps.stays{a b c:Eng}(h:Keeps a b)(k:Stays b c):Keeps a c:=⟨k.mo.trans h.mo,k.mp.trans h.mp,k.mq.trans h.mq,k.draws.trans h.draws,k.rest.trans h.rest,by rw[k.len];exact h.len0,by rw[k.len];exact h.len1⟩
theorem enter_keeps(e:Eng)(v:Nat→Int):Keeps e (e.enter v):=⟨rfl,rfl,rfl,rfl,rfl,by show e.all.length≤(e.all++ [newOrd v]).length;simp,by show(e.all++ [newOrd v]).length≤_;simp⟩
theorem reject_keeps(e:Eng)(id reason:Int):Keeps e (e.reject id reason):=(Stays.tell e 2 id 0 0 0 reason).keeps
theorem fresh_more(h:EInv e)(hv:VOk v):Keeps e (e.fresh v)∧Grew 2010 1000 e (e.fresh v):=by
 rw[fresh_eq];split
 ·exact⟨reject_keeps _ _ _,(Grew.tell _ _ _ _ _ _ _).mono (by omega) (by omega)⟩
 ·rename_i hw;have hw:e.why v=0:=by simpa using hw
  obtain⟨h1,h2⟩:=enter_inv h hv hw;split
  ·exact⟨enter_keeps _ _,(enter_grew _ _).mono (by omega) (by omega)⟩
  ·rename_i ht;exact⟨(enter_keeps _ _).stays (sweep_inv h1 h2 rfl rfl ht).2,((enter_grew _ _).trans (sweep_grew h1 h2 rfl rfl)).mono (by omega) (by omega)⟩
theorem cancel_more(h:EInv e)(id:Int):Keeps e (e.cancel id)∧Grew 2010 1000 e (e.cancel id):=by
 unfold cancel;split
 ·exact⟨(gone_stays _ _ _).keeps,(gone_grew _ _ _).mono (by omega) (by omega)⟩
 ·exact⟨reject_keeps _ _ _,(Grew.tell _ _ _ _ _ _ _).mono (by omega) (by omega)⟩
theorem rep_sw_inv(h:EInv e){i:Nat}{o:Ord}(ho:e.all[i]? =some o)(hs:o.status=1)(v:Nat→Int)(ht:o.typ≠3)(h5:(if o.typ=3 then v 3 == 0 else inn (v 3) 1 e.mp)=true)(h6:inn (v 4) (o.filled+1) e.mq=true):EInv ((e.repTell i o v).upd i fun o=>{ o with price:=v 3,shown:=0 }):=by
 have k:=h.ok i o ho;rw[inn_iff]at h6;rw[if_neg ht,inn_iff]at h5;have hq:=h.mq1;have hl:=k.live hs;have hf:=k.fil0;have hsm:=k.sum;show EInv (((e.upd i fun _=>repO o (v 4)).upd i fun o=>{ o with price:=v 3,shown:=0 }).tell _ _ _ _ _ _);rw[upd_upd];refine EInv.tell (?_:EInv (e.upd i fun _=>{ repO o (v 4) with price:=v 3,shown:=0 })) _ _ _ _ _ _;rw[upd_congr e i _ (fun x=>{ x with qty:=v 4,opn:=v 4 - x.filled,price:=v 3,shown:=0 }) (fun x hx=>by obtain rfl:o=x:=Option.some.inj (ho.symm.trans hx);rfl)];refine h.upd i _ (fun x hx=>?_) (fun _=>rfl) (fun x hx hx2=>absurd rfl hx2) (fun _ hl=>hl);obtain rfl:o=x:=Option.some.inj (ho.symm.trans hx)
 exact{ k with qty1:=by show v 4≤1000;omega,opn0:=by show 0≤v 4 - o.filled;omega,sum:=by show v 4 - o.filled+o.filled+o.cancelled=v 4;omega,shn0:=by show(0:Int)≤0;omega,shn1:=by show 0≤v 4 - o.filled;omega,whole:=fun _=>.inl rfl,dead:=fun _=>rfl,prc0:=by show 0≤v 3;omega,prc1:=h5.2,shp:=fun hl=>absurd hl (by show¬(0:Int)<0;omega),own:=fun _=>h5.1 }
theorem repTell_stays(e:Eng)(i:Nat)(o:Ord)(v:Nat→Int):Stays e (e.repTell i o v):=(Stays.upd e i _).trans (Stays.tell _ _ _ _ _ _ _)
theorem replace_more(h:EInv e)(v:Nat→Int):Keeps e (e.replace v)∧Grew 2010 1000 e (e.replace v):=by
 rw[replace_eq];split
 ·exact⟨reject_keeps _ _ _,(Grew.tell _ _ _ _ _ _ _).mono (by omega) (by omega)⟩
 ·rename_i i hi;obtain⟨o,ho,_,hs⟩:=liveAt_some hi;rw[ho];simp only;by_cases h5:(if o.typ=3 then v 3 == 0 else inn (v 3) 1 e.mp)=false
  ·rw[if_pos h5];exact⟨reject_keeps _ _ _,(Grew.tell _ _ _ _ _ _ _).mono (by omega) (by omega)⟩
  ·rw[if_neg h5];by_cases h6:inn (v 4) (o.filled+1) e.mq=false
   ·rw[if_pos h6];exact⟨reject_keeps _ _ _,(Grew.tell _ _ _ _ _ _ _).mono (by omega) (by omega)⟩
   ·rw[if_neg h6];have h5':=Bool.not_eq_false _▸h5;have h6':=Bool.not_eq_false _▸h6;refine⟨?_,(repEnd_grew h ho hs v h5' h6' (fun ht=>rep_sw_inv h ho hs v ht h5' h6')).mono (by omega) (by omega)⟩;unfold repEnd;split
    ·exact((repTell_stays e i o v).trans (Stays.upd _ _ _)).keeps
    ·split
     ·rename_i ht;have hi2:((e.repTell i o v).upd i fun o=>{ o with price:=v 3,shown:=0 }).all[i]? =some { repO o (v 4) with price:=v 3,shown:=0 }:=
       upd_same _ _ _ (repO o (v 4)) (by show(e.upd i fun _=>repO o (v 4)).all[i]? =_;exact upd_same _ _ _ _ ho)
      exact(((repTell_stays e i o v).trans (Stays.upd _ _ _)).trans (sweep_inv (rep_sw_inv h ho hs v ht h5' h6') hi2 hs rfl ht).2).keeps
     ·split
      ·exact((repTell_stays e i o v).trans (Stays.lay _ _ _)).keeps
      ·exact(repTell_stays e i o v).keeps
theorem run_more(h:EInv e)(kind:Int)(hv:VOk v):Keeps e (e.run kind v)∧Grew 2010 1000 e (e.run kind v):=by
 unfold run;split
 ·exact fresh_more h hv
 ·split
  ·exact cancel_more h _
  ·split
   ·exact replace_more h v
   ·split
    ·unfold tick;split
     ·exact⟨reject_keeps _ _ _,(Grew.tell _ _ _ _ _ _ _).mono (by omega) (by omega)⟩
     ·have hI:EInv { e with now:=v 8 }:=⟨h.mo0,h.mo1,h.mp0,h.mp1,h.mq0,h.mq1,h.ok,h.ids,h.apart,hv.t0,hv.t1,h.live⟩;obtain⟨b1,b2,b3,b4,b5,b6,b7,b8,b9,b10⟩:=due_grew hI (fun o=>o.life == 3 && decide (o.time≤v 8)) 2;have hs:=(due_inv hI (fun o=>o.life == 3 && decide (o.time≤v 8)) 2).2;have h1:Grew 64 0 e (due (fun o=>o.life == 3 && decide (o.time≤v 8)) 2 { e with now:=v 8 }):=⟨b1,b2,b3,b4,b5,b6,b7,b8,b9,b10⟩;refine⟨⟨hs.mo,hs.mp,hs.mq,hs.draws,hs.rest,?_,?_⟩,h1.mono (by omega) (by omega)⟩
      ·rw[hs.len];exact Nat.le_refl _
      ·rw[hs.len];exact Nat.le_succ _
    ·split
     ·exact⟨(due_inv h _ _).2.keeps,(due_grew h _ _).mono (by omega) (by omega)⟩
     ·exact⟨(Stays.refl e).keeps,(Grew.refl e).mono (by omega) (by omega)⟩
end Eng
namespace Eng
def atQ(q:Ord→Bool)(e:Eng)(j:Nat):Bool:=match e.all[j]? with|some o=>q o|none=>false
theorem fold_skip(f:Eng→Nat→Eng)(q:Ord→Bool)(h1: ∀e i,atQ q e i=false→f e i=e)(h2: ∀e i j,i≠j→(f e i).all[j]? =e.all[j]?): ∀(l:List Nat),l.Nodup→∀e,l.foldl f e=(l.filter (atQ q e)).foldl f e
 | [],_,e=>rfl
 |i::r,hn,e=>by
  obtain⟨hi,hr⟩:=List.nodup_cons.1 hn;rw[List.foldl_cons];cases hq:atQ q e i with
  |false=>
   rw[h1 e i hq,List.filter_cons_of_neg (by simp[hq])];exact fold_skip f q h1 h2 r hr e
  |true=>
   rw[List.filter_cons_of_pos hq,List.foldl_cons,fold_skip f q h1 h2 r hr (f e i)]
   congr 1
   refine List.filter_congr fun j hj=>?_
   unfold atQ;rw[h2 e i j (fun e1=>hi (e1▸hj))]
theorem list_is(hs:l.Pairwise (· < ·)){n:Nat}{p:Nat→Bool}(hm: ∀j,j∈l↔j<n∧p j=true):l=(List.range n).filter p:=by
 have hp:((List.range n).filter p).Pairwise (· < ·):=(List.pairwise_lt_range).filter _;have d1:l.Nodup:=hs.imp (fun h=>Nat.ne_of_lt h);have d2:((List.range n).filter p).Nodup:=hp.imp (fun h=>Nat.ne_of_lt h);refine List.Perm.eq_of_pairwise (le:=fun a b=>a<b) (fun a b _ _ h1 h2=>absurd h1 (Nat.lt_asymm h2)) hs hp ?_;exact(List.perm_ext_iff_of_nodup d1 d2).2 fun j=>by rw[hm];simp
theorem follow_ne(e:Eng)(i j:Nat)(h:i≠j):(followOne e i).all[j]? =e.all[j]? :=by
 rcases followOne_at e i with h1|⟨o,h1,h2,h3,h4,⟨h5,h6⟩|⟨h5,h6⟩⟩
 ·rw[h1]
 ·rw[h6];exact upd_ne _ _ _ _ h
 ·rw[h6];exact upd_ne _ _ _ _ h
theorem dueOne_ne(p:Ord→Bool)(reason:Int)(e:Eng)(i j:Nat)(h:i≠j):(dueOne p reason e i).all[j]? =e.all[j]? :=by
 rcases dueOne_at p reason e i with h1|⟨h1,h2⟩
 ·rw[h1]
 ·rw[h2];exact gone_ne e i j reason h
theorem follow_list(hs:l.Pairwise (· < ·))(hm: ∀j,j∈l↔∃o,e.all[j]? =some o∧o.status=1):e.follow=l.foldl followOne e:=by
 have h:=fold_skip followOne (fun o=>o.status == 1) (fun e i hq=>by
  unfold atQ at hq;unfold followOne;split at hq
  ·rename_i o ho;rw[ho];simp only;rw[if_neg (fun hc=>by simp[hc.1]at hq)]
  ·rename_i ho;rw[ho]) follow_ne (List.range e.all.length) List.nodup_range e
 unfold follow;rw[h,←list_is hs (n:=e.all.length) (p:=atQ (fun o=>o.status == 1) e)];intro j;rw[hm];constructor
 ·rintro⟨o,ho,hst⟩;refine⟨(List.getElem?_eq_some_iff.1 ho).1,?_⟩;unfold atQ;rw[ho];simp[hst]
 ·rintro⟨_,hq⟩;unfold atQ at hq;split at hq
  ·rename_i o ho;exact⟨o,ho,by simpa using hq⟩
  ·cases hq
def goneAll(reason:Int)(e:Eng)(l:List Nat):Eng:=l.foldl (fun e j=>e.gone j reason) e
theorem due_list(p:Ord→Bool)(reason:Int)(hs:l.Pairwise (· < ·))(hm: ∀j,j∈l↔∃o,e.all[j]? =some o∧o.status=1∧p o=true):e.due p reason=goneAll reason e l:=by
 have h:=fold_skip (dueOne p reason) (fun o=>o.status == 1 && p o) (fun e i hq=>by
  unfold atQ at hq;unfold dueOne;split at hq
  ·rename_i o ho;rw[ho];simp only;rw[if_neg (fun hc=>by simp[hc.1,hc.2]at hq)]
  ·rename_i ho;rw[ho]) (dueOne_ne p reason) (List.range e.all.length) List.nodup_range e
 have hl:l=(List.range e.all.length).filter (atQ (fun o=>o.status == 1 && p o) e):=by
  refine list_is hs ?_;intro j;rw[hm];constructor
  ·rintro⟨o,ho,hst,hp⟩;refine⟨(List.getElem?_eq_some_iff.1 ho).1,?_⟩;unfold atQ;rw[ho];simp[hst,hp]
  ·rintro⟨_,hq⟩;unfold atQ at hq;split at hq
   ·rename_i o ho;exact⟨o,ho,by simpa using hq⟩
   ·cases hq
 unfold due;rw[h,←hl];have hd:l.Nodup:=hs.imp (fun h=>Nat.ne_of_lt h);have hm': ∀j∈l,∃o,e.all[j]? =some o∧o.status=1∧p o=true:=fun j hj=>(hm j).1 hj
 clear h hl hm hs;unfold goneAll
 induction l generalizing e with
 |nil=>rfl
 |cons i r ih=>
  obtain⟨hi,hr⟩:=List.nodup_cons.1 hd;obtain⟨o,ho,hst,hp⟩:=hm' i (List.mem_cons_self ..);have h1:dueOne p reason e i=e.gone i reason:=by
   unfold dueOne;rw[ho];exact if_pos ⟨hst,hp⟩
  rw[List.foldl_cons,List.foldl_cons,h1];refine ih hr (fun j hj=>?_);rw[gone_ne e i j reason (fun e1=>hi (e1▸hj))];exact hm' j (List.mem_cons_of_mem _ hj)
end Eng
namespace Eng
def wr(e:Eng)(r:List UInt8):Eng:={ e with rest:=r }
theorem wr_wr(e:Eng)(r s:List UInt8):(e.wr r).wr s=e.wr s:=rfl
theorem wr_self(e:Eng):e.wr e.rest=e:=rfl
theorem tell_wr(e:Eng)(r:List UInt8)(a b c d f g:Int):(e.wr r).tell a b c d f g=(e.tell a b c d f g).wr r:=rfl
theorem upd_wr(e:Eng)(r:List UInt8)(i:Nat)(f:Ord→Ord):(e.wr r).upd i f=(e.upd i f).wr r:=rfl
theorem lay_wr(e:Eng)(r:List UInt8)(i:Nat)(n:Int):(e.wr r).lay i n=(e.lay i n).wr r:=by
 unfold lay;have h:(e.wr r).all[i]? =e.all[i]? :=rfl;rw[h];cases e.all[i]?<;>rfl
theorem trade_wr(e:Eng)(r:List UInt8)(i k:Nat):(e.wr r).trade i k=(e.trade i k).wr r:=by
 unfold trade;have h1:(e.wr r).all[i]? =e.all[i]? :=rfl;have h2:(e.wr r).all[k]? =e.all[k]? :=rfl;rw[h1,h2];rcases e.all[i]? with _|o
 ·rfl
 ·rcases e.all[k]? with _|x
  ·rfl
  ·simp only;by_cases c1:x.opn - (if x.shown<o.opn then x.shown else o.opn)=0
   ·rw[if_pos c1,if_pos c1];rfl
   ·rw[if_neg c1,if_neg c1];by_cases c2:x.shown - (if x.shown<o.opn then x.shown else o.opn)=0
    ·rw[if_pos c2,if_pos c2,←lay_wr];rfl
    ·rw[if_neg c2,if_neg c2];rfl
theorem mate_wr(e:Eng)(r:List UInt8)(i:Nat):(e.wr r).mate i=e.mate i:=rfl
theorem trades_wr(r:List UInt8)(i:Nat): ∀(f:Nat) (e:Eng),trades f (e.wr r) i=(trades f e i).wr r
 |0,e=>rfl
 |f+1,e=>by
  unfold trades;rw[mate_wr];cases e.mate i with
  |none=>rfl
  |some k=>simp only;rw[trade_wr,trades_wr r i f]
theorem sweep_wr(e:Eng)(r:List UInt8)(i:Nat):(e.wr r).sweep i=(e.sweep i).wr r:=by
 rw[sweep_eq,sweep_eq];have h:(e.wr r).opnOf i=e.opnOf i:=rfl;rw[h,trades_wr];generalize trades (e.opnOf i).toNat e i=E;unfold swept;have h1:(E.wr r).all[i]? =E.all[i]? :=rfl;rw[h1];rcases E.all[i]? with _|o
 ·rfl
 ·simp only;by_cases c:o.opn=0
  ·rw[if_pos c,if_pos c];rfl
  ·rw[if_neg c,if_neg c,lay_wr]
theorem gone_wr(e:Eng)(r:List UInt8)(i:Nat)(reason:Int):(e.wr r).gone i reason=(e.gone i reason).wr r:=by
 unfold gone;have h:(e.wr r).all[i]? =e.all[i]? :=rfl;rw[h];cases e.all[i]?<;>rfl
theorem dueOne_wr(p:Ord→Bool)(reason:Int)(e:Eng)(r:List UInt8)(i:Nat):dueOne p reason (e.wr r) i=(dueOne p reason e i).wr r:=by
 unfold dueOne;have h:(e.wr r).all[i]? =e.all[i]? :=rfl;rw[h];rcases e.all[i]? with _|o
 ·rfl
 ·simp only;by_cases c:o.status=1∧p o
  ·rw[if_pos c,if_pos c,gone_wr]
  ·rw[if_neg c,if_neg c]
theorem fold_wr(f:Eng→Nat→Eng)(r:List UInt8)(h: ∀e i,f (e.wr r) i=(f e i).wr r): ∀(l:List Nat) (e:Eng),l.foldl f (e.wr r)=(l.foldl f e).wr r
 | [],e=>rfl
 |i::l,e=>by rw[List.foldl_cons,List.foldl_cons,h,fold_wr f r h l]
theorem due_wr(p:Ord→Bool)(reason:Int)(e:Eng)(r:List UInt8):(e.wr r).due p reason=(e.due p reason).wr r:=fold_wr _ r (fun e i=>dueOne_wr p reason e r i) _ e
theorem fresh_wr(e:Eng)(r:List UInt8)(v:Nat→Int):(e.wr r).fresh v=(e.fresh v).wr r:=by
 rw[fresh_eq,fresh_eq];have h1:(e.wr r).why v=e.why v:=rfl;have h2:(e.wr r).enter v=(e.enter v).wr r:=rfl;have h3:(e.wr r).all.length=e.all.length:=rfl;rw[h1,h2,h3];by_cases c1:e.why v≠0
 ·rw[if_pos c1,if_pos c1];rfl
 ·rw[if_neg c1,if_neg c1];by_cases c2:v 2=3
  ·rw[if_pos c2,if_pos c2]
  ·rw[if_neg c2,if_neg c2,sweep_wr]
theorem cancel_wr(e:Eng)(r:List UInt8)(id:Int):(e.wr r).cancel id=(e.cancel id).wr r:=by
 unfold cancel;have h:(e.wr r).liveAt id=e.liveAt id:=rfl;rw[h];cases e.liveAt id with
 |none=>rfl
 |some i=>simp only;rw[gone_wr]
theorem replace_wr(e:Eng)(r:List UInt8)(v:Nat→Int):(e.wr r).replace v=(e.replace v).wr r:=by
 rw[replace_eq,replace_eq];have h:(e.wr r).liveAt (v 0)=e.liveAt (v 0):=rfl;rw[h];rcases e.liveAt (v 0) with _|i
 ·rfl
 ·simp only;have h1:(e.wr r).all[i]? =e.all[i]? :=rfl;rw[h1];rcases e.all[i]? with _|o
  ·rfl
  ·simp only;have h2:(e.wr r).mp=e.mp:=rfl;have h3:(e.wr r).mq=e.mq:=rfl;rw[h2,h3];by_cases c1:(if o.typ=3 then v 3 == 0 else inn (v 3) 1 e.mp)=false
   ·rw[if_pos c1,if_pos c1];rfl
   ·rw[if_neg c1,if_neg c1];by_cases c2:inn (v 4) (o.filled+1) e.mq=false
    ·rw[if_pos c2,if_pos c2];rfl
    ·rw[if_neg c2,if_neg c2];unfold repEnd;have h4:(e.wr r).repTell i o v=(e.repTell i o v).wr r:=rfl;rw[h4];by_cases c3:keepsPl o v=true
     ·rw[if_pos c3,if_pos c3];rfl
     ·rw[if_neg c3,if_neg c3];by_cases c4:o.typ≠3
      ·rw[if_pos c4,if_pos c4,upd_wr,sweep_wr]
      ·rw[if_neg c4,if_neg c4];by_cases c5:0<o.shown
       ·rw[if_pos c5,if_pos c5,lay_wr]
       ·rw[if_neg c5,if_neg c5]
theorem tick_wr(e:Eng)(r:List UInt8)(t:Int):(e.wr r).tick t=(e.tick t).wr r:=by
 unfold tick;have h:(e.wr r).now=e.now:=rfl;rw[h];by_cases c:t<e.now
 ·rw[if_pos c,if_pos c];rfl
 ·rw[if_neg c,if_neg c];exact due_wr _ 2 { e with now:=t } r
theorem followOne_wr(e:Eng)(r:List UInt8)(i:Nat):(e.wr r).followOne i=(e.followOne i).wr r:=by
 unfold followOne;have h:(e.wr r).all[i]? =e.all[i]? :=rfl;rw[h];rcases e.all[i]? with _|o
 ·rfl
 ·simp only;have h1:(e.wr r).target o=e.target o:=rfl;rw[h1];by_cases c1:o.status=1∧o.typ=3
  ·rw[if_pos c1,if_pos c1];by_cases c2:e.target o=o.price
   ·rw[if_pos c2,if_pos c2]
   ·rw[if_neg c2,if_neg c2];by_cases c3:e.target o=0
    ·rw[if_pos c3,if_pos c3];rfl
    ·rw[if_neg c3,if_neg c3];rfl
  ·rw[if_neg c1,if_neg c1]
theorem follow_wr(e:Eng)(r:List UInt8):(e.wr r).follow=e.follow.wr r:=fold_wr _ r (fun e i=>followOne_wr e r i) _ e
theorem run_wr(e:Eng)(r:List UInt8)(kind:Int)(v:Nat→Int):(e.wr r).run kind v=(e.run kind v).wr r:=by
 unfold run;by_cases c1:kind=1
 ·rw[if_pos c1,if_pos c1,fresh_wr]
 ·rw[if_neg c1,if_neg c1];by_cases c2:kind=2
  ·rw[if_pos c2,if_pos c2,cancel_wr]
  ·rw[if_neg c2,if_neg c2];by_cases c3:kind=3
   ·rw[if_pos c3,if_pos c3,replace_wr]
   ·rw[if_neg c3,if_neg c3];by_cases c4:kind=4
    ·rw[if_pos c4,if_pos c4,tick_wr]
    ·rw[if_neg c4,if_neg c4];by_cases c5:kind=5
     ·rw[if_pos c5,if_pos c5];exact due_wr _ 3 e r
     ·rw[if_neg c5,if_neg c5]
end Eng
end Go.Proofs.YtilbfpnpkkkpgaaGreatDoor
