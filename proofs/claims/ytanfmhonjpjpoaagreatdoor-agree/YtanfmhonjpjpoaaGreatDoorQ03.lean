import Derived.Test.YtanfmhonjpjpoaaGreatDoorQ00
import Derived.Test.YtanfmhonjpjpoaaGreatDoorQ02
set_option linter.all false
set_option maxRecDepth 100000
set_option maxHeartbeats 8000000
namespace Go.Proofs.YtanfmhonjpjpoaaGreatDoor
variable{i k n:Nat}{e e':Eng}{a b c d off side:Int}{v:Nat→Int}{l:List Nat}
section
namespace Eng
structure Keeps(e e':Eng):Prop where
 mo:e'.mo=e.mo
 mp:e'.mp=e.mp
 mq:e'.mq=e.mq
 draws:e'.draws=e.draws
 rest:e'.rest=e.rest
 len0:e.all.length≤e'.all.length
 len1:e'.all.length≤e.all.length+1
theorem Stays.keeps(h:Stays e e'):Keeps e e':=⟨h.mo,h.mp,h.mq,h.draws,h.rest,by rw[h.len];exact Nat.le_refl _,by rw[h.len];exact Nat.le_succ _⟩
theorem Keeps.stays{a b c:Eng}(h:Keeps a b)(k:Stays b c):Keeps a c:=⟨k.mo.trans h.mo,k.mp.trans h.mp,k.mq.trans h.mq,k.draws.trans h.draws,k.rest.trans h.rest,by rw[k.len];exact h.len0,by rw[k.len];exact h.len1⟩
theorem enter_keeps(e:Eng)(v:Nat→Int):Keeps e (e.enter v):=⟨rfl,rfl,rfl,rfl,rfl,by show e.all.length≤(e.all++ [newOrd v]).length;simp,by show(e.all++ [newOrd v]).length≤_;simp⟩
theorem reject_keeps(e:Eng)(id reason:Int):Keeps e (e.reject id reason):=(Stays.tell e 2 id 0 0 0 reason).keeps
theorem fresh_more(h:EInv e)(hv:VOk v):Keeps e (e.fresh v)∧Grew 2010 1000 e (e.fresh v):=by
 rw[fresh_eq];split
 ·exact⟨reject_keeps _ _ _,(Grew.tell _ _ _ _ _ _ _).mono (by omega) (by omega)⟩
 ·rename_i hw;have hw:e.why v=0:=by simpa using hw
  obtain⟨h1,h2⟩:=enter_inv h hv hw;split
  ·exact⟨enter_keeps _ _,(enter_grew _ _).mono (by omega) (by omega)⟩
  ·rename_i ht;exact⟨(enter_keeps _ _).stays (sweep_inv h1 h2 rfl rfl ht).2,((enter_grew _ _).trans (sweep_grew h1 h2 rfl rfl)).mono (by omega) (by omega)⟩
theorem cancel_more(h:EInv e)(id:Int):Keeps e (e.cancel id)∧Grew 2010 1000 e (e.cancel id):=by
 unfold cancel;split
 ·exact⟨(gone_stays _ _ _).keeps,(gone_grew _ _ _).mono (by omega) (by omega)⟩
 ·exact⟨reject_keeps _ _ _,(Grew.tell _ _ _ _ _ _ _).mono (by omega) (by omega)⟩
theorem rep_sw_inv(h:EInv e){o:Ord}(ho:e.all[i]? =some o)(hs:o.status=1)(v:Nat→Int)(ht:o.typ≠3)(h5:(if o.typ=3 then v 3 == 0 else inn (v 3) 1 e.mp)=true)(h6:inn (v 4) (o.filled+1) e.mq=true):EInv ((e.repTell i o v).upd i fun o=>{ o with price:=v 3,shown:=0 }):=by
 have k:=h.ok i o ho;rw[inn_iff]at h6;rw[if_neg ht,inn_iff]at h5;have hq:=h.mq1;have hl:=k.live hs;have hf:=k.fil0;have hsm:=k.sum;show EInv (((e.upd i fun _=>repO o (v 4)).upd i fun o=>{ o with price:=v 3,shown:=0 }).tell _ _ _ _ _ _);rw[upd_upd];refine EInv.tell (?_:EInv (e.upd i fun _=>{ repO o (v 4) with price:=v 3,shown:=0 })) _ _ _ _ _ _;rw[upd_congr e i _ (fun x=>{ x with qty:=v 4,opn:=v 4 - x.filled,price:=v 3,shown:=0 }) (fun x hx=>by obtain rfl:o=x:=Option.some.inj (ho.symm.trans hx);rfl)];refine h.upd i _ (fun x hx=>?_) (fun _=>rfl) (fun x hx hx2=>absurd rfl hx2) (fun _ hl=>hl);obtain rfl:o=x:=Option.some.inj (ho.symm.trans hx)
 exact{ k with qty1:=by show v 4≤1000;omega,opn0:=by show 0≤v 4 - o.filled;omega,sum:=by show v 4 - o.filled+o.filled+o.cancelled=v 4;omega,shn0:=by show(0:Int)≤0;omega,shn1:=by show 0≤v 4 - o.filled;omega,whole:=fun _=>.inl rfl,dead:=fun _=>rfl,prc0:=by show 0≤v 3;omega,prc1:=h5.2,shp:=fun hl=>absurd hl (by show¬(0:Int)<0;omega),own:=fun _=>h5.1 }
theorem repTell_stays(e:Eng)(i:Nat)(o:Ord)(v:Nat→Int):Stays e (e.repTell i o v):=(Stays.upd e i _).trans (Stays.tell _ _ _ _ _ _ _)
theorem replace_more(h:EInv e)(v:Nat→Int):Keeps e (e.replace v)∧Grew 2010 1000 e (e.replace v):=by
 rw[replace_eq];split
 ·exact⟨reject_keeps _ _ _,(Grew.tell _ _ _ _ _ _ _).mono (by omega) (by omega)⟩
 ·rename_i i hi;obtain⟨o,ho,_,hs⟩:=liveAt_some hi;rw[ho];simp only;by_cases h5:(if o.typ=3 then v 3 == 0 else inn (v 3) 1 e.mp)=false
  ·rw[if_pos h5];exact⟨reject_keeps _ _ _,(Grew.tell _ _ _ _ _ _ _).mono (by omega) (by omega)⟩
  ·rw[if_neg h5];by_cases h6:inn (v 4) (o.filled+1) e.mq=false
   ·rw[if_pos h6];exact⟨reject_keeps _ _ _,(Grew.tell _ _ _ _ _ _ _).mono (by omega) (by omega)⟩
   ·rw[if_neg h6];have h5':=Bool.not_eq_false _▸h5;have h6':=Bool.not_eq_false _▸h6;refine⟨?_,(repEnd_grew h ho hs v h5' h6' (fun ht=>rep_sw_inv h ho hs v ht h5' h6')).mono (by omega) (by omega)⟩;unfold repEnd;split
    ·exact((repTell_stays e i o v).trans (Stays.upd _ _ _)).keeps
    ·split
     ·rename_i ht;have hi2:((e.repTell i o v).upd i fun o=>{ o with price:=v 3,shown:=0 }).all[i]? =some { repO o (v 4) with price:=v 3,shown:=0 }:=
       upd_same _ _ _ (repO o (v 4)) (by show(e.upd i fun _=>repO o (v 4)).all[i]? =_;exact upd_same _ _ _ _ ho)
      exact(((repTell_stays e i o v).trans (Stays.upd _ _ _)).trans (sweep_inv (rep_sw_inv h ho hs v ht h5' h6') hi2 hs rfl ht).2).keeps
     ·split
      ·exact((repTell_stays e i o v).trans (Stays.lay _ _ _)).keeps
      ·exact(repTell_stays e i o v).keeps
theorem run_more(h:EInv e)(kind:Int)(hv:VOk v):Keeps e (e.run kind v)∧Grew 2010 1000 e (e.run kind v):=by
 unfold run;split
 ·exact fresh_more h hv
 ·split
  ·exact cancel_more h _
  ·split
   ·exact replace_more h v
   ·split
    ·unfold tick;split
     ·exact⟨reject_keeps _ _ _,(Grew.tell _ _ _ _ _ _ _).mono (by omega) (by omega)⟩
     ·have hI:EInv { e with now:=v 8 }:=⟨h.mo0,h.mo1,h.mp0,h.mp1,h.mq0,h.mq1,h.ok,h.ids,h.apart,hv.t0,hv.t1,h.live⟩;obtain⟨b1,b2,b3,b4,b5,b6,b7,b8,b9,b10⟩:=due_grew hI (fun o=>o.life == 3 && decide (o.time≤v 8)) 2;have hs:=(due_inv hI (fun o=>o.life == 3 && decide (o.time≤v 8)) 2).2;have h1:Grew 64 0 e (due (fun o=>o.life == 3 && decide (o.time≤v 8)) 2 { e with now:=v 8 }):=⟨b1,b2,b3,b4,b5,b6,b7,b8,b9,b10⟩;refine⟨⟨hs.mo,hs.mp,hs.mq,hs.draws,hs.rest,?_,?_⟩,h1.mono (by omega) (by omega)⟩
      ·rw[hs.len];exact Nat.le_refl _
      ·rw[hs.len];exact Nat.le_succ _
    ·split
     ·exact⟨(due_inv h _ _).2.keeps,(due_grew h _ _).mono (by omega) (by omega)⟩
     ·exact⟨(Stays.refl e).keeps,(Grew.refl e).mono (by omega) (by omega)⟩
end Eng
namespace Eng
def atQ(q:Ord→Bool)(e:Eng)(j:Nat):Bool:=match e.all[j]? with|some o=>q o|none=>false
theorem fold_skip(f:Eng→Nat→Eng)(q:Ord→Bool)(h1: ∀e i,atQ q e i=false→f e i=e)(h2: ∀e i j,i≠j→(f e i).all[j]? =e.all[j]?): ∀(l:List Nat),l.Nodup→∀e,l.foldl f e=(l.filter (atQ q e)).foldl f e
 | [],_,e=>rfl
 |i::r,hn,e=>by
  obtain⟨hi,hr⟩:=List.nodup_cons.1 hn;rw[List.foldl_cons];cases hq:atQ q e i with
  |false=>
   rw[h1 e i hq,List.filter_cons_of_neg (by simp[hq])];exact fold_skip f q h1 h2 r hr e
  |true=>
   rw[List.filter_cons_of_pos hq,List.foldl_cons,fold_skip f q h1 h2 r hr (f e i)]
   congr 1
   refine List.filter_congr fun j hj=>?_
   unfold atQ;rw[h2 e i j (fun e1=>hi (e1▸hj))]
theorem list_is(hs:l.Pairwise (· < ·)){p:Nat→Bool}(hm: ∀j,j∈l↔j<n∧p j=true):l=(List.range n).filter p:=by
 have hp:((List.range n).filter p).Pairwise (· < ·):=(List.pairwise_lt_range).filter _;have d1:l.Nodup:=hs.imp (fun h=>Nat.ne_of_lt h);have d2:((List.range n).filter p).Nodup:=hp.imp (fun h=>Nat.ne_of_lt h);refine List.Perm.eq_of_pairwise (le:=fun a b=>a<b) (fun a b _ _ h1 h2=>absurd h1 (Nat.lt_asymm h2)) hs hp ?_;exact(List.perm_ext_iff_of_nodup d1 d2).2 fun j=>by rw[hm];simp
theorem follow_ne(e:Eng)(i j:Nat)(h:i≠j):(followOne e i).all[j]? =e.all[j]? :=by
 rcases followOne_at e i with h1|⟨o,h1,h2,h3,h4,⟨h5,h6⟩|⟨h5,h6⟩⟩
 ·rw[h1]
 ·rw[h6];exact upd_ne _ _ _ _ h
 ·rw[h6];exact upd_ne _ _ _ _ h
theorem dueOne_ne(p:Ord→Bool)(reason:Int)(e:Eng)(i j:Nat)(h:i≠j):(dueOne p reason e i).all[j]? =e.all[j]? :=by
 rcases dueOne_at p reason e i with h1|⟨h1,h2⟩
 ·rw[h1]
 ·rw[h2];exact gone_ne e i j reason h
theorem follow_list(hs:l.Pairwise (· < ·))(hm: ∀j,j∈l↔∃o,e.all[j]? =some o∧o.status=1):e.follow=l.foldl followOne e:=by
 have h:=fold_skip followOne (fun o=>o.status == 1) (fun e i hq=>by
  unfold atQ at hq;unfold followOne;split at hq
  ·rename_i o ho;rw[ho];simp only;rw[if_neg (fun hc=>by simp[hc.1]at hq)]
  ·rename_i ho;rw[ho]) follow_ne (List.range e.all.length) List.nodup_range e
 unfold follow;rw[h,←list_is hs (n:=e.all.length) (p:=atQ (fun o=>o.status == 1) e)];intro j;rw[hm];constructor
 ·rintro⟨o,ho,hst⟩;refine⟨(List.getElem?_eq_some_iff.1 ho).1,?_⟩;unfold atQ;rw[ho];simp[hst]
 ·rintro⟨_,hq⟩;unfold atQ at hq;split at hq
  ·rename_i o ho;exact⟨o,ho,by simpa using hq⟩
  ·cases hq
def goneAll(reason:Int)(e:Eng)(l:List Nat):Eng:=l.foldl (fun e j=>e.gone j reason) e
theorem due_list(p:Ord→Bool)(reason:Int)(hs:l.Pairwise (· < ·))(hm: ∀j,j∈l↔∃o,e.all[j]? =some o∧o.status=1∧p o=true):e.due p reason=goneAll reason e l:=by
 have h:=fold_skip (dueOne p reason) (fun o=>o.status == 1 && p o) (fun e i hq=>by
  unfold atQ at hq;unfold dueOne;split at hq
  ·rename_i o ho;rw[ho];simp only;rw[if_neg (fun hc=>by simp[hc.1,hc.2]at hq)]
  ·rename_i ho;rw[ho]) (dueOne_ne p reason) (List.range e.all.length) List.nodup_range e
 have hl:l=(List.range e.all.length).filter (atQ (fun o=>o.status == 1 && p o) e):=by
  refine list_is hs ?_;intro j;rw[hm];constructor
  ·rintro⟨o,ho,hst,hp⟩;refine⟨(List.getElem?_eq_some_iff.1 ho).1,?_⟩;unfold atQ;rw[ho];simp[hst,hp]
  ·rintro⟨_,hq⟩;unfold atQ at hq;split at hq
   ·rename_i o ho;exact⟨o,ho,by simpa using hq⟩
   ·cases hq
 unfold due;rw[h,←hl];have hd:l.Nodup:=hs.imp (fun h=>Nat.ne_of_lt h);have hm': ∀j∈l,∃o,e.all[j]? =some o∧o.status=1∧p o=true:=fun j hj=>(hm j).1 hj
 clear h hl hm hs;unfold goneAll
 induction l generalizing e with
 |nil=>rfl
 |cons i r ih=>
  obtain⟨hi,hr⟩:=List.nodup_cons.1 hd;obtain⟨o,ho,hst,hp⟩:=hm' i (List.mem_cons_self ..);have h1:dueOne p reason e i=e.gone i reason:=by
   unfold dueOne;rw[ho];exact if_pos ⟨hst,hp⟩
  rw[List.foldl_cons,List.foldl_cons,h1];refine ih hr (fun j hj=>?_);rw[gone_ne e i j reason (fun e1=>hi (e1▸hj))];exact hm' j (List.mem_cons_of_mem _ hj)
end Eng
namespace Eng
def wr(e:Eng)(r:List UInt8):Eng:={ e with rest:=r }
theorem wr_wr(e:Eng)(r s:List UInt8):(e.wr r).wr s=e.wr s:=rfl
theorem wr_self(e:Eng):e.wr e.rest=e:=rfl
theorem tell_wr(e:Eng)(r:List UInt8)(a b c d f g:Int):(e.wr r).tell a b c d f g=(e.tell a b c d f g).wr r:=rfl
theorem upd_wr(e:Eng)(r:List UInt8)(i:Nat)(f:Ord→Ord):(e.wr r).upd i f=(e.upd i f).wr r:=rfl
theorem lay_wr(e:Eng)(r:List UInt8)(i:Nat)(n:Int):(e.wr r).lay i n=(e.lay i n).wr r:=by
 unfold lay;have h:(e.wr r).all[i]? =e.all[i]? :=rfl;rw[h];cases e.all[i]?<;>rfl
theorem trade_wr(e:Eng)(r:List UInt8)(i k:Nat):(e.wr r).trade i k=(e.trade i k).wr r:=by
 unfold trade;have h1:(e.wr r).all[i]? =e.all[i]? :=rfl;have h2:(e.wr r).all[k]? =e.all[k]? :=rfl;rw[h1,h2];rcases e.all[i]? with _|o
 ·rfl
 ·rcases e.all[k]? with _|x
  ·rfl
  ·simp only;by_cases c1:x.opn - (if x.shown<o.opn then x.shown else o.opn)=0
   ·rw[if_pos c1,if_pos c1];rfl
   ·rw[if_neg c1,if_neg c1];by_cases c2:x.shown - (if x.shown<o.opn then x.shown else o.opn)=0
    ·rw[if_pos c2,if_pos c2,←lay_wr];rfl
    ·rw[if_neg c2,if_neg c2];rfl
theorem mate_wr(e:Eng)(r:List UInt8)(i:Nat):(e.wr r).mate i=e.mate i:=rfl
theorem trades_wr(r:List UInt8)(i:Nat): ∀(f:Nat) (e:Eng),trades f (e.wr r) i=(trades f e i).wr r
 |0,e=>rfl
 |f+1,e=>by
  unfold trades;rw[mate_wr];cases e.mate i with
  |none=>rfl
  |some k=>simp only;rw[trade_wr,trades_wr r i f]
theorem sweep_wr(e:Eng)(r:List UInt8)(i:Nat):(e.wr r).sweep i=(e.sweep i).wr r:=by
 rw[sweep_eq,sweep_eq];have h:(e.wr r).opnOf i=e.opnOf i:=rfl;rw[h,trades_wr];generalize trades (e.opnOf i).toNat e i=E;unfold swept;have h1:(E.wr r).all[i]? =E.all[i]? :=rfl;rw[h1];rcases E.all[i]? with _|o
 ·rfl
 ·simp only;by_cases c:o.opn=0
  ·rw[if_pos c,if_pos c];rfl
  ·rw[if_neg c,if_neg c,lay_wr]
theorem gone_wr(e:Eng)(r:List UInt8)(i:Nat)(reason:Int):(e.wr r).gone i reason=(e.gone i reason).wr r:=by
 unfold gone;have h:(e.wr r).all[i]? =e.all[i]? :=rfl;rw[h];cases e.all[i]?<;>rfl
theorem dueOne_wr(p:Ord→Bool)(reason:Int)(e:Eng)(r:List UInt8)(i:Nat):dueOne p reason (e.wr r) i=(dueOne p reason e i).wr r:=by
 unfold dueOne;have h:(e.wr r).all[i]? =e.all[i]? :=rfl;rw[h];rcases e.all[i]? with _|o
 ·rfl
 ·simp only;by_cases c:o.status=1∧p o
  ·rw[if_pos c,if_pos c,gone_wr]
  ·rw[if_neg c,if_neg c]
theorem fold_wr(f:Eng→Nat→Eng)(r:List UInt8)(h: ∀e i,f (e.wr r) i=(f e i).wr r): ∀(l:List Nat) (e:Eng),l.foldl f (e.wr r)=(l.foldl f e).wr r
 | [],e=>rfl
 |i::l,e=>by rw[List.foldl_cons,List.foldl_cons,h,fold_wr f r h l]
theorem due_wr(p:Ord→Bool)(reason:Int)(e:Eng)(r:List UInt8):(e.wr r).due p reason=(e.due p reason).wr r:=fold_wr _ r (fun e i=>dueOne_wr p reason e r i) _ e
theorem fresh_wr(e:Eng)(r:List UInt8)(v:Nat→Int):(e.wr r).fresh v=(e.fresh v).wr r:=by
 rw[fresh_eq,fresh_eq];have h1:(e.wr r).why v=e.why v:=rfl;have h2:(e.wr r).enter v=(e.enter v).wr r:=rfl;have h3:(e.wr r).all.length=e.all.length:=rfl;rw[h1,h2,h3];by_cases c1:e.why v≠0
 ·rw[if_pos c1,if_pos c1];rfl
 ·rw[if_neg c1,if_neg c1];by_cases c2:v 2=3
  ·rw[if_pos c2,if_pos c2]
  ·rw[if_neg c2,if_neg c2,sweep_wr]
theorem cancel_wr(e:Eng)(r:List UInt8)(id:Int):(e.wr r).cancel id=(e.cancel id).wr r:=by
 unfold cancel;have h:(e.wr r).liveAt id=e.liveAt id:=rfl;rw[h];cases e.liveAt id with
 |none=>rfl
 |some i=>simp only;rw[gone_wr]
theorem replace_wr(e:Eng)(r:List UInt8)(v:Nat→Int):(e.wr r).replace v=(e.replace v).wr r:=by
 rw[replace_eq,replace_eq];have h:(e.wr r).liveAt (v 0)=e.liveAt (v 0):=rfl;rw[h];rcases e.liveAt (v 0) with _|i
 ·rfl
 ·simp only;have h1:(e.wr r).all[i]? =e.all[i]? :=rfl;rw[h1];rcases e.all[i]? with _|o
  ·rfl
  ·simp only;have h2:(e.wr r).mp=e.mp:=rfl;have h3:(e.wr r).mq=e.mq:=rfl;rw[h2,h3];by_cases c1:(if o.typ=3 then v 3 == 0 else inn (v 3) 1 e.mp)=false
   ·rw[if_pos c1,if_pos c1];rfl
   ·rw[if_neg c1,if_neg c1];by_cases c2:inn (v 4) (o.filled+1) e.mq=false
    ·rw[if_pos c2,if_pos c2];rfl
    ·rw[if_neg c2,if_neg c2];unfold repEnd;have h4:(e.wr r).repTell i o v=(e.repTell i o v).wr r:=rfl;rw[h4];by_cases c3:keepsPl o v=true
     ·rw[if_pos c3,if_pos c3];rfl
     ·rw[if_neg c3,if_neg c3];by_cases c4:o.typ≠3
      ·rw[if_pos c4,if_pos c4,upd_wr,sweep_wr]
      ·rw[if_neg c4,if_neg c4];by_cases c5:0<o.shown
       ·rw[if_pos c5,if_pos c5,lay_wr]
       ·rw[if_neg c5,if_neg c5]
theorem tick_wr(e:Eng)(r:List UInt8)(t:Int):(e.wr r).tick t=(e.tick t).wr r:=by
 unfold tick;have h:(e.wr r).now=e.now:=rfl;rw[h];by_cases c:t<e.now
 ·rw[if_pos c,if_pos c];rfl
 ·rw[if_neg c,if_neg c];exact due_wr _ 2 { e with now:=t } r
theorem followOne_wr(e:Eng)(r:List UInt8)(i:Nat):(e.wr r).followOne i=(e.followOne i).wr r:=by
 unfold followOne;have h:(e.wr r).all[i]? =e.all[i]? :=rfl;rw[h];rcases e.all[i]? with _|o
 ·rfl
 ·simp only;have h1:(e.wr r).target o=e.target o:=rfl;rw[h1];by_cases c1:o.status=1∧o.typ=3
  ·rw[if_pos c1,if_pos c1];by_cases c2:e.target o=o.price
   ·rw[if_pos c2,if_pos c2]
   ·rw[if_neg c2,if_neg c2];by_cases c3:e.target o=0
    ·rw[if_pos c3,if_pos c3];rfl
    ·rw[if_neg c3,if_neg c3];rfl
  ·rw[if_neg c1,if_neg c1]
theorem follow_wr(e:Eng)(r:List UInt8):(e.wr r).follow=e.follow.wr r:=fold_wr _ r (fun e i=>followOne_wr e r i) _ e
theorem run_wr(e:Eng)(r:List UInt8)(kind:Int)(v:Nat→Int):(e.wr r).run kind v=(e.run kind v).wr r:=by
 unfold run;by_cases c1:kind=1
 ·rw[if_pos c1,if_pos c1,fresh_wr]
 ·rw[if_neg c1,if_neg c1];by_cases c2:kind=2
  ·rw[if_pos c2,if_pos c2,cancel_wr]
  ·rw[if_neg c2,if_neg c2];by_cases c3:kind=3
   ·rw[if_pos c3,if_pos c3,replace_wr]
   ·rw[if_neg c3,if_neg c3];by_cases c4:kind=4
    ·rw[if_pos c4,if_pos c4,tick_wr]
    ·rw[if_neg c4,if_neg c4];by_cases c5:kind=5
     ·rw[if_pos c5,if_pos c5];exact due_wr _ 3 e r
     ·rw[if_neg c5,if_neg c5]
end Eng
end
section
open Eng
structure Rcd where
 kind:Int
 id:Int
 other:Int
 price:Int
 qty:Int
 reason:Int
structure Ent where
 id:Int
 side:Int
 kind:Int
 qty:Int
 off:Int
 price:Int
 opn:Int
 filled:Int
 shown:Int
 gone:Int
 place:Int
 live:Bool
structure Book where
 l:List Ent
 place:Int
namespace Book
def find(b:Book)(id:Int):Option Nat:=b.l.findIdx? (fun x=>x.id == id)
def ahead(side:Int)(x y:Ent):Bool:=(decide (side=1) && decide (y.price<x.price)) || (decide (side=2) && decide (x.price<y.price)) || (x.price == y.price && decide (x.place<y.place))
def rests(side:Int)(x:Ent):Bool:=x.live && x.side == side && x.shown != 0
def firstTo(l:List Ent)(side:Int):Nat→Option Nat
 |0=>none
 |n+1=>match l[n]? with
  |none=>firstTo l side n
  |some x=>if rests side x then(match firstTo l side n with
   |none=>some n
   |some b=>if(match l[b]? with|some y=>ahead side x y|none=>true) then some n else some b) else firstTo l side n
def first(b:Book)(side:Int):Option Nat:=firstTo b.l side b.l.length
def set(b:Book)(i:Nat)(f:Ent→Ent):Book:={ b with l:=b.l.modify i f }
def lay(b:Book)(i:Nat)(n:Int):Book:=⟨b.l.modify i fun x=>{ x with place:=b.place+1,shown:=n },b.place+1⟩
def qty(o p:Ent):Int:=if p.shown<o.opn then p.shown else o.opn
def traded(b:Book)(i:Nat)(o:Ent)(r:Rcd):Option Book:=match b.find r.other with
 |none=>none
 |some k=>match b.l[k]? with
  |none=>none
  |some p=>
   if b.first (3 - o.side)=some k∧p.side≠o.side∧o.shown≤0∧r.price=p.price∧(o.side=1→p.price≤o.price)∧(o.side=2→o.price≤p.price)∧r.qty=qty o p
   then some ((b.set i fun x=>{ x with opn:=x.opn - qty o p,filled:=x.filled+qty o p,live:=decide (0<x.opn - qty o p) }).set k fun x=>{ x with opn:=x.opn - qty o p,filled:=x.filled+qty o p,shown:=x.shown - qty o p,live:=decide (0<x.opn - qty o p) })
   else none
def keeps(o:Ent)(r:Rcd):Bool:=(o.kind == 3 || r.price == o.price) && decide (r.qty≤o.qty)
def replaced(r:Rcd)(o:Ent):Ent:=
 let n:=r.qty - o.filled
 if r.reason=0∧o.kind≠3 then{ o with qty:=r.qty,opn:=n,price:=r.price,shown:=0,live:=decide (0<n) }
 else if r.reason=1∧(n<o.shown∨(0<o.shown∧o.kind≠2)) then{ o with qty:=r.qty,opn:=n,shown:=n,live:=decide (0<n) }
 else{ o with qty:=r.qty,opn:=n,live:=decide (0<n) }
def take(b:Book)(r:Rcd)(off:Int):Option Book:=
 if r.kind=2 then some b
 else if r.kind=1 then(if(b.find r.id).isSome then none else some { b with l:=b.l++ [⟨r.id,r.other,r.reason,r.qty,off,r.price,r.qty,0,0,0,0,true⟩] })
 else match b.find r.id with
  |none=>none
  |some i=>match b.l[i]? with
   |none=>none
   |some o=>
    if o.live=false then none
    else if r.kind=3 then b.traded i o r
    else if r.kind=4 then(if r.qty=o.opn∧1≤r.qty then some (b.set i fun x=>{ x with gone:=r.qty,opn:=0,shown:=0,live:=false }) else none)
    else if r.kind=5 then(if o.filled<r.qty∧r.reason=(if keeps o r then 1 else 0) then some (b.set i (replaced r)) else none)
    else if r.kind=6 then(if r.price=o.price∧1≤r.qty∧r.qty≤o.opn then some (b.lay i r.qty) else none)
    else if r.kind=7 then(if r.qty=o.opn then some ((b.set i fun x=>{ x with price:=r.price }).lay i r.qty) else none)
    else if r.kind=8 then some (b.set i fun x=>{ x with price:=0,shown:=0 })
    else some b
def takes(off:Int):Book→List Rcd→Option Book
 |b,[]=>some b
 |b,r::t=>match b.take r off with
  |some c=>takes off c t
  |none=>none
structure CanAt(o:Ent)(r:Rcd):Prop where
 k3:r.kind=3→o.kind≠3∧r.reason=0∧1≤r.qty
 k4:r.kind=4→r.other=0∧r.price=0∧1≤r.reason∧r.reason≤3
 k5:r.kind=5→r.other=0∧(o.kind=3↔r.price=0)∧(o.kind=3→o.price≠0→0<o.shown)
 k6:r.kind=6→r.other=0∧r.reason=0∧r.price≠0∧(o.kind≠2→r.qty=o.opn)
 k7:r.kind=7→r.other=0∧r.reason=0∧o.kind=3∧r.price≠0∧r.price≠o.price
 k8:r.kind=8→r.other=0∧r.price=0∧r.qty=0∧r.reason=0∧o.kind=3∧o.price≠0
theorem can_3{o:Ent}{e:Int}(h:o.kind≠3∧e=0∧1≤d):CanAt o ⟨3,a,b,c,d,e⟩:=⟨fun _=>h,fun x=>absurd x (show¬(3:Int)=4 by decide),fun x=>absurd x (show¬(3:Int)=5 by decide),fun x=>absurd x (show¬(3:Int)=6 by decide),fun x=>absurd x (show¬(3:Int)=7 by decide),fun x=>absurd x (show¬(3:Int)=8 by decide)⟩
theorem can_4{o:Ent}{e:Int}(h:b=0∧c=0∧1≤e∧e≤3):CanAt o ⟨4,a,b,c,d,e⟩:=⟨fun x=>absurd x (show¬(4:Int)=3 by decide),fun _=>h,fun x=>absurd x (show¬(4:Int)=5 by decide),fun x=>absurd x (show¬(4:Int)=6 by decide),fun x=>absurd x (show¬(4:Int)=7 by decide),fun x=>absurd x (show¬(4:Int)=8 by decide)⟩
theorem can_5{o:Ent}{e:Int}(h:b=0∧(o.kind=3↔c=0)∧(o.kind=3→o.price≠0→0<o.shown)):CanAt o ⟨5,a,b,c,d,e⟩:=⟨fun x=>absurd x (show¬(5:Int)=3 by decide),fun x=>absurd x (show¬(5:Int)=4 by decide),fun _=>h,fun x=>absurd x (show¬(5:Int)=6 by decide),fun x=>absurd x (show¬(5:Int)=7 by decide),fun x=>absurd x (show¬(5:Int)=8 by decide)⟩
theorem can_6{o:Ent}{e:Int}(h:b=0∧e=0∧c≠0∧(o.kind≠2→d=o.opn)):CanAt o ⟨6,a,b,c,d,e⟩:=⟨fun x=>absurd x (show¬(6:Int)=3 by decide),fun x=>absurd x (show¬(6:Int)=4 by decide),fun x=>absurd x (show¬(6:Int)=5 by decide),fun _=>h,fun x=>absurd x (show¬(6:Int)=7 by decide),fun x=>absurd x (show¬(6:Int)=8 by decide)⟩
theorem can_7{o:Ent}{e:Int}(h:b=0∧e=0∧o.kind=3∧c≠0∧c≠o.price):CanAt o ⟨7,a,b,c,d,e⟩:=⟨fun x=>absurd x (show¬(7:Int)=3 by decide),fun x=>absurd x (show¬(7:Int)=4 by decide),fun x=>absurd x (show¬(7:Int)=5 by decide),fun x=>absurd x (show¬(7:Int)=6 by decide),fun _=>h,fun x=>absurd x (show¬(7:Int)=8 by decide)⟩
theorem can_8{o:Ent}{e:Int}(h:b=0∧c=0∧d=0∧e=0∧o.kind=3∧o.price≠0):CanAt o ⟨8,a,b,c,d,e⟩:=⟨fun x=>absurd x (show¬(8:Int)=3 by decide),fun x=>absurd x (show¬(8:Int)=4 by decide),fun x=>absurd x (show¬(8:Int)=5 by decide),fun x=>absurd x (show¬(8:Int)=6 by decide),fun x=>absurd x (show¬(8:Int)=7 by decide),fun _=>h⟩
structure Can(b:Book)(r:Rcd):Prop where
 k1:r.kind=1→r.id≠0∧(r.other=1∨r.other=2)∧(r.reason=1∨r.reason=2∨r.reason=3)∧r.qty≠0∧(r.reason=3↔r.price=0)
 k2:r.kind=2→r.other=0∧r.price=0∧r.qty=0∧1≤r.reason∧r.reason≤10
 at':r.kind≠1→r.kind≠2→∀(i:Nat) (o:Ent),b.find r.id=some i→b.l[i]? =some o→CanAt o r
theorem can_of{b:Book}{r:Rcd}{o:Ent}(h1:r.kind≠1)(h2:r.kind≠2)(hf:b.find r.id=some i)(ho:b.l[i]? =some o)(h:CanAt o r):b.Can r:=
 ⟨fun c=>absurd c h1,fun c=>absurd c h2,fun _ _ j x hj hx=>by
  obtain rfl:=Option.some.inj (hf.symm.trans hj);obtain rfl:=Option.some.inj (ho.symm.trans hx);exact h⟩
def Cans(off:Int):Book→List Rcd→Prop
 |_,[]=>True
 |b,r::t=>b.Can r∧∀c,b.take r off=some c→Cans off c t
theorem cans_append(off:Int): ∀(s t:List Rcd) (b c:Book),takes off b s=some c→Cans off b s→Cans off c t→Cans off b (s++t)
 | [],t,b,c,h,_,k=>by
  obtain rfl:b=c:=Option.some.inj h;exact k
 |r::s,t,b,c,h,g,k=>by
  show Cans off b (r::(s++t));refine⟨g.1,fun x hx=>?_⟩;unfold takes at h;rw[hx]at h;exact cans_append off s t x c h (g.2 x hx) k
def tF(side:Int)(p:Int)(x:Ent):Int:=if x.live=true∧x.side=side∧x.kind≠3∧0<x.shown∧(p=0∨(side=1∧p<x.price)∨(side=2∧x.price<p)) then x.price else p
def target(b:Book)(mp:Int)(o:Ent):Int:=if b.l.foldl (tF o.side) 0=0 then 0 else Eng.clamp (b.l.foldl (tF o.side) 0+o.off) 1 mp
theorem takes_append(off:Int): ∀(s t:List Rcd) (b c d:Book),takes off b s=some c→takes off c t=some d→takes off b (s++t)=some d
 | [],t,b,c,d,h,k=>by
  obtain rfl:b=c:=Option.some.inj h;exact k
 |r::s,t,b,c,d,h,k=>by
  show takes off b (r::(s++t))=some d;unfold takes at h⊢;cases q:b.take r off with
  |none=>rw[q]at h;cases h
  |some x=>rw[q]at h;exact takes_append off s t x c d h k
end Book
def Ord.ent(o:Ord):Ent:=⟨o.id,o.side,o.typ,o.qty,o.off,o.price,o.opn,o.filled,o.shown,o.cancelled,o.stamp,decide (0<o.opn)⟩
def bk(e:Eng):Book:=⟨e.all.map Ord.ent,(e.stamp:Int)⟩
theorem zAf{o:Ord}(h:e.all[i]? =some o):(bk e).l[i]? =some o.ent:=by
 show(e.all.map Ord.ent)[i]? =_;rw[List.getElem?_map,h];rfl
theorem zAw{o:Ord}(ho:e.all[i]? =some o)(f:Ord→Ord)(g:Ent→Ent)(h:(f o).ent=g o.ent):bk (e.upd i f)=(bk e).set i g:=by
 show Book.mk ((e.all.modify i f).map Ord.ent) _=Book.mk ((e.all.map Ord.ent).modify i g) _
 congr 1
 apply List.ext_getElem?;intro j;rw[List.getElem?_map,List.getElem?_modify,List.getElem?_modify,List.getElem?_map];by_cases q:i=j
 ·subst q;simp[ho,h]
 ·simp[q]
theorem zDc(hi: ∀(i j:Nat) (x y:Ord),e.all[i]? =some x→e.all[j]? =some y→x.id=y.id→i=j){o:Ord}(ho:e.all[i]? =some o):(bk e).find o.id=some i:=by
 show(e.all.map Ord.ent).findIdx? (fun x=>x.id == o.id)=some i;rw[List.findIdx?_eq_some_iff_getElem];obtain⟨hl,hx⟩:=List.getElem?_eq_some_iff.1 ho;refine⟨by simpa using hl,?_,?_⟩
 ·simp[hx,Ord.ent]
 ·intro j hj;have hjl:j<e.all.length:=by omega
  have:=hi j i e.all[j] o (List.getElem?_eq_getElem hjl) ho;simp[Ord.ent];intro hc;have:=this hc;omega
theorem zAl(hi:EInv e){o:Ord}(ho:e.all[i]? =some o):(bk e).find o.id=some i:=zDc hi.ids ho
theorem zJf{id:Int}(h:e.find id=none):(bk e).find id=none:=by
 show(e.all.map Ord.ent).findIdx? (fun x=>x.id == id)=none;rw[List.findIdx?_eq_none_iff];intro x hx;obtain⟨o,ho,rfl⟩:=List.mem_map.1 hx;obtain⟨i,hi⟩:=List.getElem?_of_mem ho;have:=find_none h i o hi;simpa [Ord.ent] using this
theorem zJg(hs:side=1∨side=2)(x y:Ord):Book.ahead side x.ent y.ent=Eng.ahead side x y:=by
 unfold Book.ahead Eng.ahead Ord.ent;rcases hs with rfl|rfl<;>simp
theorem zJh{mp:Int}{st:Nat}{x:Ord}(h:Ok mp st x):Book.rests side x.ent=Eng.rests side x:=by
 unfold Book.rests Eng.rests Ord.ent;by_cases q:x.shown=0
 ·simp[q]
 ·have:0<x.opn:=by have:=h.shn0;have:=h.shn1;omega
  simp[this,q]
theorem zDd(hi:EInv e)(hs:side=1∨side=2): ∀n,Book.firstTo (e.all.map Ord.ent) side n=Eng.firstTo e.all side n
 |0=>rfl
 |n+1=>by
  unfold Book.firstTo Eng.firstTo;rw[List.getElem?_map];cases q:e.all[n]? with
  |none=>exact zDd hi hs n
  |some x=>
   show(if Book.rests side x.ent then _ else _)=_;rw[zJh (hi.ok n x q),zDd hi hs n];cases q2:Eng.firstTo e.all side n with
   |none=>rfl
   |some b=>
    obtain⟨_,y,hy,_⟩:=firstTo_some q2;simp only[List.getElem?_map,hy,Option.map_some,zJg hs]
theorem zDe(hi:EInv e)(hs:side=1∨side=2):(bk e).first side=e.first side:=by
 show Book.firstTo (e.all.map Ord.ent) side (e.all.map Ord.ent).length=_;rw[List.length_map,zDd hi hs];rfl
structure Rcd.Fits(r:Rcd):Prop where
 k0:1≤r.kind
 k1:r.kind≤8
 i0:0≤r.id
 i1:r.id<4294967296
 o0:0≤r.other
 o1:r.other<4294967296
 p0:0≤r.price
 p1:r.price<4294967296
 q0:0≤r.qty
 q1:r.qty<4294967296
 r0:0≤r.reason
 r1:r.reason<256
theorem Rcd.fit{k i o p q r:Int}(k0:1≤k)(k1:k≤8)(i0:0≤i)(i1:i<4294967296)(o0:0≤o)(o1:o<4294967296)(p0:0≤p)(p1:p<4294967296)(q0:0≤q)(q1:q<4294967296)(r0:0≤r)(r1:r<256):Rcd.Fits ⟨k,i,o,p,q,r⟩:=⟨k0,k1,i0,i1,o0,o1,p0,p1,q0,q1,r0,r1⟩
def encR:Nat→List Rcd→List UInt8
 |_,[]=> []
 |s,r::t=>recB r.kind (s+1:Nat) r.id r.other r.price r.qty r.reason++encR (s+1) t
theorem zDf: ∀(a b:List Rcd) (s:Nat),encR s (a++b)=encR s a++encR (s+a.length) b
 | [],b,s=>by simp[encR]
 |r::a,b,s=>by
  show recB _ _ _ _ _ _ _++encR (s+1) (a++b)=_;rw[zDf a b (s+1),←List.append_assoc];show _=(recB _ _ _ _ _ _ _++encR (s+1) a)++_
  congr 2
  simp;omega
structure Told(off:Int)(e:Eng)(rs:List Rcd)(e':Eng):Prop where
 out:e'.out=e.out++encR e.seq rs
 seq:e'.seq=e.seq+rs.length
 tk:Book.takes off (bk e) rs=some (bk e')
 fits: ∀r∈rs,r.Fits
 can:Book.Cans off (bk e) rs
theorem Told.silent(h1:e'.out=e.out)(h2:e'.seq=e.seq)(h3:bk e'=bk e):Told off e [] e':=
 ⟨by simp[h1,encR],by simp[h2],by rw[h3];rfl,(fun r hr=>by cases hr),trivial⟩
theorem Told.trans{a b c:Eng}{r s:List Rcd}(h:Told off a r b)(k:Told off b s c):Told off a (r++s) c:=
 ⟨by rw[k.out,h.out,zDf,h.seq,List.append_assoc],by rw[k.seq,h.seq,List.length_append];omega,Book.takes_append off r s _ _ _ h.tk k.tk,fun x hx=>by
  rcases List.mem_append.1 hx with q|q
  ·exact h.fits x q
  ·exact k.fits x q,Book.cans_append off r s _ _ h.tk h.can k.can⟩
theorem Told.then{a b c:Eng}{r:List Rcd}(h:Told off a r b)(h1:c.out=b.out)(h2:c.seq=b.seq)(h3:bk c=bk b):Told off a r c:=by
 have:=h.trans (Told.silent (off:=off) h1 h2 h3);rw[List.append_nil]at this;exact this
theorem Told.tell{X:Eng}(k id other price qty reason:Int)(hx:Eng.out X=e.out)(hs:X.seq=e.seq)(hf:Rcd.Fits ⟨k,id,other,price,qty,reason⟩)(ht:(bk e).take ⟨k,id,other,price,qty,reason⟩ off=some (bk X))(hc:(bk e).Can ⟨k,id,other,price,qty,reason⟩):Told off e [⟨k,id,other,price,qty,reason⟩] (X.tell k id other price qty reason):=
 ⟨by show Eng.out X++recB k ((X.seq+1:Nat):Int) id other price qty reason=_;rw[hx,hs];simp[encR],by show X.seq+1=_;rw[hs];rfl,by
  show(match (bk e).take _ off with|some c=>Book.takes off c []|none=>none)=_;rw[ht];rfl,(fun r hr=>by obtain rfl:=List.mem_singleton.1 hr;exact hf),hc,fun _ _=>trivial⟩
theorem Book.take_at{b:Book}{r:Rcd}{o:Ent}(h1:r.kind≠1)(h2:r.kind≠2)(hf:b.find r.id=some i)(ho:b.l[i]? =some o)(hl:o.live=true):b.take r off=
 (if r.kind=3 then b.traded i o r
     else if r.kind=4 then(if r.qty=o.opn∧1≤r.qty then some (b.set i fun x=>{ x with gone:=r.qty,opn:=0,shown:=0,live:=false }) else none)
     else if r.kind=5 then(if o.filled<r.qty∧r.reason=(if keeps o r then 1 else 0) then some (b.set i (replaced r)) else none)
     else if r.kind=6 then(if r.price=o.price∧1≤r.qty∧r.qty≤o.opn then some (b.lay i r.qty) else none)
     else if r.kind=7 then(if r.qty=o.opn then some ((b.set i fun x=>{ x with price:=r.price }).lay i r.qty) else none)
     else if r.kind=8 then some (b.set i fun x=>{ x with price:=0,shown:=0 })
     else some b):=by
 unfold Book.take;rw[if_neg h2,if_neg h1,hf];simp only[ho];rw[if_neg (by rw[hl];simp)]
theorem zBd{o:Ord}(h:0<o.opn):o.ent.live=true:=by simp[Ord.ent,h]
section
variable {off:Int} {e:Eng}
theorem zBq(id reason:Int)(h0:0≤id)(h1:id<4294967296)(h2:1≤reason)(h3:reason≤10):Told off e [⟨2,id,0,0,0,reason⟩] (e.reject id reason):=
 Told.tell 2 id 0 0 0 reason rfl rfl (Rcd.fit (by decide) (by decide) (h0) (h1) (by decide) (by decide) (by decide) (by decide) (by decide) (by decide) (by omega) (by omega)) rfl ⟨fun c=>absurd c (show¬(2:Int)=1 by decide),fun _=>⟨rfl,rfl,rfl,h2,h3⟩,fun _ c=>absurd rfl c⟩
theorem zEp(h:EInv e){o:Ord}(ho:e.all[i]? =some o)(hp:0<o.opn)(reason:Int)(h2:1≤reason)(h3:reason≤3):Told off e [⟨4,o.id,0,0,o.opn,reason⟩] (e.gone i reason):=by
 have k:=h.ok i o ho;have e1:e.gone i reason=(e.upd i fun o=>{ o with cancelled:=o.opn,opn:=0,shown:=0,status:=3 }).tell 4 o.id 0 0 o.opn reason:=by unfold Eng.gone;rw[ho]
 rw[e1];refine Told.tell 4 o.id 0 0 o.opn reason rfl rfl (Rcd.fit (by decide) (by decide) (by have:=k.id0;show 0≤o.id;omega) (k.id1) (by decide) (by decide) (by decide) (by decide) (k.opn0) (by have:=k.sum;have:=k.qty1;have:=k.fil0;have:=k.can0;show o.opn<_;omega) (by omega) (by omega)) ?_ (Book.can_of (show(4:Int)≠1 by decide) (show(4:Int)≠2 by decide) (zAl h ho) (zAf ho) (Book.can_4 ⟨rfl,rfl,h2,h3⟩));rw[Book.take_at (show(4:Int)≠1 by decide) (show(4:Int)≠2 by decide) (zAl h ho) (zAf ho) (zBd hp)];rw[if_neg (show¬(4:Int)=3 by decide),if_pos rfl,if_pos ⟨rfl,by show 1≤o.opn;omega⟩];rw[zAw ho _ (fun x=>{ x with gone:=o.opn,opn:=0,shown:=0,live:=false }) (by simp[Ord.ent])]
theorem zEq{o:Ord}(ho:e.all[i]? =some o)(n:Int):bk (e.lay i n)=(bk e).lay i n:=by
 have e1:e.lay i n=({ e with stamp:=e.stamp+1 }.upd i fun o=>{ o with stamp:=(e.stamp+1:Nat),shown:=n }).tell 6 o.id 0 o.price n 0:=by unfold Eng.lay;rw[ho]
 rw[e1];have h1:bk ({ e with stamp:=e.stamp+1 }.upd i fun o=>{ o with stamp:=(e.stamp+1:Nat),shown:=n })=(bk { e with stamp:=e.stamp+1 }).set i (fun x=>{ x with place:=(e.stamp:Int)+1,shown:=n }):=
  zAw (e:={ e with stamp:=e.stamp+1 }) ho _ _ (by simp[Ord.ent])
 show bk ({ e with stamp:=e.stamp+1 }.upd i fun o=>{ o with stamp:=(e.stamp+1:Nat),shown:=n })=_;rw[h1];show Book.mk _ _=Book.mk _ _
 congr 1
theorem zEr(hids: ∀(i j:Nat) (x y:Ord),e.all[i]? =some x→e.all[j]? =some y→x.id=y.id→i=j){o:Ord}(ho:e.all[i]? =some o){n:Int}(h1:1≤n)(h2:n≤o.opn)(h3:n≤1000)(a1:0≤o.id)(a2:o.id<4294967296)(a3:1≤o.price)(a4:o.price≤1000000)(a5:o.typ≠2→n=o.opn):Told off e [⟨6,o.id,0,o.price,n,0⟩] (e.lay i n):=by
 have e1:e.lay i n=({ e with stamp:=e.stamp+1 }.upd i fun o=>{ o with stamp:=(e.stamp+1:Nat),shown:=n }).tell 6 o.id 0 o.price n 0:=by unfold Eng.lay;rw[ho]
 have hb:=zEq ho n;rw[e1]at hb⊢;refine Told.tell 6 o.id 0 o.price n 0 rfl rfl (Rcd.fit (by decide) (by decide) a1 a2 (by decide) (by decide) (by omega) (by omega) (by omega) (by omega) (by decide) (by decide)) ?_ (Book.can_of (show(6:Int)≠1 by decide) (show(6:Int)≠2 by decide) (zDc hids ho) (zAf ho) (Book.can_6 ⟨rfl,rfl,by omega,a5⟩));rw[Book.take_at (show(6:Int)≠1 by decide) (show(6:Int)≠2 by decide) (zDc hids ho) (zAf ho) (zBd (by omega))];rw[if_neg (show¬(6:Int)=3 by decide),if_neg (show¬(6:Int)=4 by decide),if_neg (show¬(6:Int)=5 by decide),if_pos rfl,if_pos ⟨rfl,h1,h2⟩];exact congrArg some hb.symm
theorem zEs(h:EInv e){o:Ord}(ho:e.all[i]? =some o){n:Int}(h1:1≤n)(h2:n≤o.opn)(h3:1≤o.price)(h4:o.typ≠2→n=o.opn):Told off e [⟨6,o.id,0,o.price,n,0⟩] (e.lay i n):=by
 have k:=h.ok i o ho;exact zEr h.ids ho h1 h2 (by have:=k.sum;have:=k.qty1;have:=k.fil0;have:=k.can0;omega) (by have:=k.id0;omega) k.id1 h3 (by have:=k.prc1;have:=h.mp1;omega) h4
theorem zJi(h:EInv e){o r:Ord}(ho:e.all[i]? =some o)(hr:e.all[k]? =some r)(hne:i≠k)(hop:0<o.opn)(hsh:o.shown=0)(hrs:r.shown≠0)(hsd:r.side=3 - o.side)(hm:meets o r.price=true)(hf:e.first (3 - o.side)=some k)(ht3:o.typ≠3):Told off e [⟨3,o.id,r.id,r.price,qtyOf o r,0⟩] (e.trade1 i k o r):=by
 have ko:=h.ok i o ho;have kr:=h.ok k r hr;obtain⟨q1,q2,q3⟩:=qty_bd kr hop hrs;have hrp:0<r.opn:=by have:=kr.shn0;have:=kr.shn1;omega
 refine Told.tell (X:={ ((e.upd i fun _=>tradeO o r).upd k fun _=>tradeR o r) with worth:=e.worth+qtyOf o r*r.price,volume:=e.volume+qtyOf o r }) 3 o.id r.id r.price (qtyOf o r) 0 rfl rfl (Rcd.fit (by decide) (by decide) (by have:=ko.id0;show 0≤o.id;omega) (ko.id1) (by have:=kr.id0;show 0≤r.id;omega) (kr.id1) (kr.prc0) (by have:=kr.prc1;have:=h.mp1;show r.price<_;omega) (by show 0≤qtyOf o r;omega) (by have:=ko.sum;have:=ko.qty1;have:=ko.fil0;have:=ko.can0;show qtyOf o r<_;omega) (by decide) (by decide)) ?_ (Book.can_of (show(3:Int)≠1 by decide) (show(3:Int)≠2 by decide) (zAl h ho) (zAf ho) (Book.can_3 ⟨ht3,rfl,by omega⟩));rw[Book.take_at (show(3:Int)≠1 by decide) (show(3:Int)≠2 by decide) (zAl h ho) (zAf ho) (zBd hop)];rw[if_pos rfl];unfold Book.traded;have hfr:(bk e).find r.id=some k:=zAl h hr;simp only[hfr,zAf hr];have hq:Book.qty o.ent r.ent=qtyOf o r:=rfl
 have c1:(bk e).first (3 - o.ent.side)=some k:=by
  show(bk e).first (3 - o.side)=some k;rw[zDe h (by rcases ko.side with q|q<;>rw[q]<;>decide)];exact hf
 have c2:r.ent.side≠o.ent.side:=by
  show r.side≠o.side;rcases ko.side with q|q<;>omega
 have c3:o.ent.shown≤0:=by show o.shown≤0;omega
 have c4:o.ent.side=1→r.ent.price≤o.ent.price:=by
  intro q;have q':o.side=1:=q;unfold meets at hm;rw[if_pos q']at hm;exact of_decide_eq_true hm
 have c5:o.ent.side=2→o.ent.price≤r.ent.price:=by
  intro q;have q':o.side=2:=q;unfold meets at hm;rw[if_neg (by omega)]at hm;exact of_decide_eq_true hm
 rw[if_pos ⟨c1,c2,c3,rfl,c4,c5,rfl⟩,hq];have s1:bk (e.upd i fun _=>tradeO o r)=(bk e).set i fun x=>{ x with opn:=x.opn - qtyOf o r,filled:=x.filled+qtyOf o r,live:=decide (0<x.opn - qtyOf o r) }:=zAw ho _ _ rfl
 have hk1:(e.upd i fun _=>tradeO o r).all[k]? =some r:=by rw[upd_ne _ _ _ _ hne];exact hr
 have s2:=zAw hk1 (fun _=>tradeR o r) (fun x=>{ x with opn:=x.opn - qtyOf o r,filled:=x.filled+qtyOf o r,shown:=x.shown - qtyOf o r,live:=decide (0<x.opn - qtyOf o r) }) rfl;rw[s1]at s2;exact congrArg some s2.symm
end
def Lv(e:Eng):Prop:= ∀(i:Nat) (o:Ord),e.all[i]? =some o→(o.status=1↔0<o.opn)
def LvX(n:Nat)(e:Eng):Prop:= ∀(i:Nat) (o:Ord),i≠n→e.all[i]? =some o→(o.status=1↔0<o.opn)
theorem Lv.x(h:Lv e)(n:Nat):LvX n e:=fun i o _ ho=>h i o ho
theorem zEt(f:Ord→Ord)(h: ∀o,e.all[i]? =some o→(f o).ent=o.ent):bk (e.upd i f)=bk e:=by
 show Book.mk ((e.all.modify i f).map Ord.ent) _=Book.mk (e.all.map Ord.ent) _
 congr 1
 apply List.ext_getElem?;intro j;rw[List.getElem?_map,List.getElem?_modify,List.getElem?_map];by_cases q:i=j
 ·subst q;cases ho:e.all[i]? with
  |none=>simp
  |some o=>simp[h o ho]
 ·simp[q]
section
variable {off:Int} {e:Eng}
theorem zJj{r:Ord}(h:EInv e)(hr:e.all[k]? =some r)(hs:r.status=1)(hw:r.typ≠2→r.shown=r.opn)(hpr:1≤r.price): ∃rs,Told off e rs (e.trade2 k r):=by
 have kr:=h.ok k r hr;unfold Eng.trade2;by_cases h0:r.opn=0
 ·rw[if_pos h0];exact⟨_,Told.silent rfl rfl (zEt _ (fun o _=>rfl))⟩
 ·rw[if_neg h0];by_cases h1:r.shown=0
  ·rw[if_pos h1];have ht:r.typ=2:=Classical.byContradiction fun hc=>h0 (by rw[←hw hc];exact h1)
   have hd:0≤e.draw.1:=by
    unfold Eng.draw;show 0≤(if e.draws.length=0 then(0:Int) else(e.draws.getD (e.drawn % e.draws.length) 0) % 4294967296);split
    ·omega
    ·omega
   have hn:=next_bd kr hs h0 ht e.draw.1 hd;have hl:=zEs (off:=off) h.drew (i:=k) (o:=r) hr hn.1 hn.2 hpr (fun c=>absurd ht c);exact⟨_,(Told.silent (off:=off) (e:=e) (e':=e.draw.2) rfl rfl rfl).trans hl⟩
  ·rw[if_neg h1];exact⟨_,Told.silent rfl rfl rfl⟩
theorem zJk(h:EInv e){o:Ord}(ho:e.all[i]? =some o)(hs:o.status=1)(hsh:o.shown=0)(ht3:o.typ≠3)(hm:e.mate i=some k): ∃rs,Told off e rs (e.trade i k):=by
 obtain⟨o',r',ho',hr',hop,hrs',hmt',hfi⟩:=mate_some hm;obtain rfl:o=o':=Option.some.inj (ho.symm.trans ho');obtain⟨r,hr,hne,hop2,hrs,hst,hsd,hmt,i1,et,i2,_⟩:=trade_step h ho hs hsh hm;have kr:=h.ok k r hr;have t1:=zJi (off:=off) h ho hr hne hop hsh hrs hsd hmt hfi ht3;have hk1:(e.trade1 i k o r).all[k]? =some (tradeR o r):=by rw[trade1_at,if_pos rfl,hr];rfl
 obtain⟨rs,t2⟩:=zJj (off:=off) i1 hk1 hst (fun ht=>by rcases kr.whole ht with hw|hw;exact absurd hw hrs;show r.shown - qtyOf o r=r.opn - qtyOf o r;rw[hw]) (kr.shp (by have:=kr.shn0;omega));rw[et];exact⟨_,t1.trans t2⟩
theorem zEu: ∀(f:Nat) {e:Eng} {i:Nat} {o:Ord},EInv e→e.all[i]? =some o→o.status=1→o.shown=0→o.typ≠3→∃rs,Told off e rs (trades f e i)
 |0,e,i,o,h,ho,hs,hsh,ht3=>⟨[],Told.silent rfl rfl rfl⟩
 |f+1,e,i,o,h,ho,hs,hsh,ht3=>by
  unfold Eng.trades;cases hm:e.mate i with
  |none=>exact⟨[],Told.silent rfl rfl rfl⟩
  |some k=>
   obtain⟨rs,t1⟩:=zJk (off:=off) h ho hs hsh ht3 hm;obtain⟨r,hr,hne,hop2,hrs,hst,hsd,hmt,i1,et,i2,hi,_⟩:=trade_step h ho hs hsh hm;obtain⟨rs2,t2⟩:=zEu f i2 hi hs hsh ht3;exact⟨_,t1.trans t2⟩
theorem zEv(h:EInv e){o:Ord}(ho:e.all[i]? =some o)(hs:o.status=1)(hsh:o.shown=0)(ht:o.typ≠3): ∃rs,Told off e rs (e.sweep i):=by
 obtain⟨rs,t1⟩:=zEu (off:=off) (e.opnOf i).toNat h ho hs hsh ht;obtain⟨o',ho',i2,hs',hsh',hk,_⟩:=trades_inv (e.opnOf i).toNat h ho hs hsh;rw[sweep_eq];unfold Eng.swept;simp only[ho'];by_cases h0:o'.opn=0
 ·rw[if_pos h0];exact⟨_,t1.then rfl rfl (zEt _ (fun o _=>rfl))⟩
 ·rw[if_neg h0];have hb:=atRest_bd (i2.ok i o' ho') h0;exact⟨_,t1.trans (zEs i2 ho' hb.1 hb.2.1 ((i2.ok i o' ho').own (by rw[hk.typ];exact ht)) (fun c=>if_neg (fun q=>c q.1)))⟩
theorem zEw(h:e.why v=0):e.find (v 0)=none∧1≤v 4∧v 4≤e.mq∧(v 1=1∨v 1=2)∧(v 2=1∨v 2=2∨v 2=3)∧0≤v 3∧v 3≤e.mp∧v 0≠0∧(v 2=3↔v 3=0)∨e.mp<0:=by
 unfold Eng.why at h;by_cases h1:v 0=0∨inn (v 1) 1 2=false∨inn (v 2) 1 3=false∨inn (v 7) 1 3=false
 ·rw[if_pos h1]at h;exact absurd h (by decide)
 rw[if_neg h1]at h;by_cases h2:(e.find (v 0)).isSome
 ·rw[if_pos h2]at h;exact absurd h (by decide)
 rw[if_neg h2]at h;by_cases h3:(if v 2=3 then v 3 == 0 else inn (v 3) 1 e.mp)=false
 ·rw[if_pos h3]at h;exact absurd h (by decide)
 rw[if_neg h3]at h;by_cases h4:inn (v 4) 1 e.mq=false∨(if v 2=2 then inn (v 5) 1 (v 4) else v 5 == 0)=false
 ·rw[if_pos h4]at h;exact absurd h (by decide)
 rw[not_or,not_or,not_or]at h1;rw[not_or]at h4;obtain⟨a0,a1,a2,a3⟩:=h1;rw[inn_iff']at a1 a2 a3;have b4:=h4.1;rw[inn_iff']at b4;by_cases hm:e.mp<0
 ·exact .inr hm
 ·refine .inl ⟨?_,b4.1,b4.2,by omega,by omega,?_⟩
  ·cases q:e.find (v 0) with
   |none=>rfl
   |some x=>rw[q]at h2;exact absurd rfl h2
  ·by_cases q:v 2=3
   ·rw[if_pos q]at h3;have:v 3=0:=by simpa using h3
    exact⟨by omega,by omega,a0,⟨fun _=>this,fun _=>q⟩⟩
   ·rw[if_neg q,inn_iff']at h3;exact⟨by omega,by omega,a0,⟨fun c=>absurd c q,fun c=>by omega⟩⟩
theorem zJl(h:EInv e)(hv:VOk v)(hw:e.why v=0):Told (v 6) e [⟨1,v 0,v 1,v 3,v 4,v 2⟩] (e.enter v):=by
 have hm:=h.mp1;have hm0:=h.mp0;have hq:=h.mq1;obtain⟨w1,w2,w3,w4,w5,w6,w7,w8,w9⟩:=(zEw hw).resolve_right (by omega);refine Told.tell (X:={ e with all:=e.all++ [newOrd v] }) 1 (v 0) (v 1) (v 3) (v 4) (v 2) rfl rfl (Rcd.fit (by decide) (by decide) hv.id0 hv.id1 (by omega) (by omega) (by omega) (by omega) (by omega) (by omega) (by omega) (by omega)) ?_ ⟨fun _=>⟨w8,w4,w5,by show v 4≠0;omega,w9⟩,fun c=>absurd c (show¬(1:Int)=2 by decide),fun c=>absurd rfl c⟩;unfold Book.take;rw[if_neg (show¬(1:Int)=2 by decide),if_pos rfl];have hf:(bk e).find (v 0)=none:=zJf w1;simp only[hf];show some _=some _
 congr 1
 show Book.mk _ _=Book.mk ((e.all++ [newOrd v]).map Ord.ent) _
 congr 1
 rw[List.map_append];have:0<v 4:=by omega
 simp[newOrd,Ord.ent,this,bk]
end
section
variable {off:Int} {e:Eng}
theorem zDg(f:Eng→Nat→Eng)(P:Eng→Prop)(h1: ∀e i,P e→(∃rs,Told off e rs (f e i))∧P (f e i)): ∀(l:List Nat) (e:Eng),P e→(∃rs,Told off e rs (l.foldl f e))∧P (l.foldl f e)
 | [],e,h=>⟨⟨[],Told.silent rfl rfl rfl⟩,h⟩
 |i::l,e,h=>by
  obtain⟨⟨r,t1⟩,p1⟩:=h1 e i h;obtain⟨⟨s,t2⟩,p2⟩:=zDg f P h1 l (f e i) p1;exact⟨⟨_,t1.trans t2⟩,p2⟩
theorem Lv.upd(h:Lv e)(f:Ord→Ord)(hf: ∀o,e.all[i]? =some o→((f o).status=1↔0<(f o).opn)):Lv (e.upd i f):=by
 intro j o ho;rw[upd_at]at ho;by_cases q:i=j
 ·subst q;rw[if_pos rfl]at ho;obtain⟨x,hx,rfl⟩:=Option.map_eq_some_iff.1 ho;exact hf x hx
 ·rw[if_neg q]at ho;exact h j o ho
theorem Lv.cong(h:Lv e)(ha:e'.all=e.all):Lv e':=fun i o ho=>h i o (ha▸ho)
theorem Lv.lay(h:Lv e)(n:Int):Lv (e.lay i n):=by
 intro j o ho;rw[lay_at]at ho;by_cases q:i=j
 ·subst q;rw[if_pos rfl]at ho;obtain⟨x,hx,rfl⟩:=Option.map_eq_some_iff.1 ho;exact h i x hx
 ·rw[if_neg q]at ho;exact h j o ho
theorem Lv.gone(h:Lv e)(reason:Int):Lv (e.gone i reason):=by
 unfold Eng.gone;cases ho:e.all[i]? with
 |none=>exact h
 |some o=>exact(h.upd (i:=i) _ (fun x _=>by simp)).cong rfl
theorem zEx(p:Ord→Bool)(reason:Int)(h2:1≤reason)(h3:reason≤3)(i:Nat)(h:EInv e)(hl:Lv e):(∃rs,Told off e rs (dueOne p reason e i))∧EInv (dueOne p reason e i)∧Lv (dueOne p reason e i):=by
 refine⟨?_,dueOne_inv h p reason i,?_⟩
 ·rcases dueOne_at p reason e i with q|⟨q,w⟩
  ·rw[q];exact⟨[],Told.silent rfl rfl rfl⟩
  ·rw[w];unfold lives at q;cases ho:e.all[i]? with
   |none=>rw[ho]at q;cases q
   |some o=>
    rw[ho]at q;have hs:o.status=1:=by simpa using q
    exact⟨_,zEp h ho ((hl i o ho).1 hs) reason h2 h3⟩
 ·rcases dueOne_at p reason e i with q|⟨q,w⟩
  ·rw[q];exact hl
  ·rw[w];exact hl.gone reason
theorem zEy(p:Ord→Bool)(reason:Int)(h2:1≤reason)(h3:reason≤3)(h:EInv e)(hl:Lv e):(∃rs,Told off e rs (e.due p reason))∧Lv (e.due p reason):=by
 obtain⟨t,_,l⟩:=zDg (off:=off) (dueOne p reason) (fun e=>EInv e∧Lv e) (fun e i q=>zEx p reason h2 h3 i q.1 q.2) (List.range e.all.length) e ⟨h,hl⟩;exact⟨t,l⟩
theorem zJm(h:EInv e){o:Ord}(ho:e.all[i]? =some o)(hp:0<o.opn)(ht:o.typ=3)(hpr:o.price≠0):Told off e [⟨8,o.id,0,0,0,0⟩] (e.park i o):=by
 have k:=h.ok i o ho;refine Told.tell (X:=e.upd i fun o=>{ o with price:=0,shown:=0 }) 8 o.id 0 0 0 0 rfl rfl (Rcd.fit (by decide) (by decide) (by have:=k.id0;omega) k.id1 (by decide) (by decide) (by decide) (by decide) (by decide) (by decide) (by decide) (by decide)) ?_ (Book.can_of (show(8:Int)≠1 by decide) (show(8:Int)≠2 by decide) (zAl h ho) (zAf ho) (Book.can_8 ⟨rfl,rfl,rfl,rfl,ht,hpr⟩));rw[Book.take_at (show(8:Int)≠1 by decide) (show(8:Int)≠2 by decide) (zAl h ho) (zAf ho) (zBd hp)];rw[if_neg (show¬(8:Int)=3 by decide),if_neg (show¬(8:Int)=4 by decide),if_neg (show¬(8:Int)=5 by decide),if_neg (show¬(8:Int)=6 by decide),if_neg (show¬(8:Int)=7 by decide),if_pos rfl];exact congrArg some (zAw ho _ _ rfl).symm
theorem zJn(h:EInv e){o:Ord}(ho:e.all[i]? =some o)(hp:0<o.opn){p:Int}(h1:0≤p)(h2:p≤e.mp)(ht:o.typ=3)(hp0:p≠0)(hpr:p≠o.price):Told off e [⟨7,o.id,0,p,o.opn,0⟩] (e.move i o p):=by
 have k:=h.ok i o ho;have hm:=h.mp1;refine Told.tell (off:=off) (e:=e) (X:={ e with stamp:=e.stamp+1 }.upd i fun o=>{ o with price:=p,stamp:=(e.stamp+1:Nat),shown:=o.opn }) 7 o.id 0 p o.opn 0 rfl rfl (Rcd.fit (by decide) (by decide) (by have:=k.id0;omega) k.id1 (by decide) (by decide) h1 (by omega) k.opn0 (by have:=k.sum;have:=k.qty1;have:=k.fil0;have:=k.can0;omega) (by decide) (by decide)) ?_ (Book.can_of (show(7:Int)≠1 by decide) (show(7:Int)≠2 by decide) (zAl h ho) (zAf ho) (Book.can_7 ⟨rfl,rfl,ht,hp0,hpr⟩));rw[Book.take_at (show(7:Int)≠1 by decide) (show(7:Int)≠2 by decide) (zAl h ho) (zAf ho) (zBd hp)];rw[if_neg (show¬(7:Int)=3 by decide),if_neg (show¬(7:Int)=4 by decide),if_neg (show¬(7:Int)=5 by decide),if_neg (show¬(7:Int)=6 by decide),if_pos rfl,if_pos (show o.opn=o.ent.opn from rfl)];have s1:=zAw ho (fun x=>{ x with price:=p }) (fun x=>{ x with price:=p }) rfl
 have ha:(e.upd i fun x=>{ x with price:=p }).all[i]? =some { o with price:=p }:=upd_same _ _ _ _ ho;have s2:=zEq ha o.opn;rw[s1]at s2;refine congrArg some ?_;show((bk e).set i fun x=>{ x with price:=p }).lay i o.opn=_;rw[←s2];show Book.mk _ _=Book.mk _ _;have e1:(e.upd i fun x=>{ x with price:=p }).lay i o.opn=({ (e.upd i fun x=>{ x with price:=p }) with stamp:=e.stamp+1 }.upd i fun o'=>{ o' with stamp:=(e.stamp+1:Nat),shown:=o.opn }).tell 6 o.id 0 p o.opn 0:=by unfold Eng.lay;rw[ha];rfl
 rw[e1];show Book.mk ((((e.all.modify i fun x=>{ x with price:=p }).modify i fun o'=>{ o' with stamp:=(e.stamp+1:Nat),shown:=o.opn }).map Ord.ent)) _=Book.mk ((e.all.modify i fun o=>{ o with price:=p,stamp:=(e.stamp+1:Nat),shown:=o.opn }).map Ord.ent) _
 congr 2
 apply List.ext_getElem?;intro j;rw[List.getElem?_modify,List.getElem?_modify,List.getElem?_modify];by_cases q:i=j
 ·subst q;simp[ho]
 ·simp[q]
theorem zJo(i:Nat)(h:EInv e)(hl:Lv e):(∃rs,Told off e rs (followOne e i))∧EInv (followOne e i)∧Lv (followOne e i):=by
 refine⟨?_,followOne_inv h i,?_⟩
 ·rcases followOne_at e i with q|⟨o,ho,hs,ht,hne,⟨h0,q⟩|⟨h0,q⟩⟩
  ·rw[q];exact⟨[],Told.silent rfl rfl rfl⟩
  ·rw[q];exact⟨_,zJm h ho ((hl i o ho).1 hs) ht (fun c=>hne (by rw[h0,c]))⟩
  ·rw[q];have:=target_bd h o;exact⟨_,zJn h ho ((hl i o ho).1 hs) this.1 this.2 ht h0 hne⟩
 ·rcases followOne_at e i with q|⟨o,ho,hs,ht,hne,⟨h0,q⟩|⟨h0,q⟩⟩
  ·rw[q];exact hl
  ·rw[q];exact(hl.upd (i:=i) (fun o=>{ o with price:=0,shown:=0 }) (fun x hx=>hl i x hx)).cong rfl
  ·rw[q];exact(hl.upd (i:=i) (fun x=>{ x with price:=e.target o,stamp:=(e.stamp+1:Nat),shown:=x.opn }) (fun x hx=>hl i x hx)).cong rfl
theorem zJp(h:EInv e)(hl:Lv e):(∃rs,Told off e rs e.follow)∧Lv e.follow:=by
 obtain⟨t,_,l⟩:=zDg (off:=off) followOne (fun e=>EInv e∧Lv e) (fun e i q=>zJo i q.1 q.2) (List.range e.all.length) e ⟨h,hl⟩;exact⟨t,l⟩
theorem zJq(id:Int)(h0:0≤id)(h1:id<4294967296)(h:EInv e)(hl:Lv e):(∃rs,rs≠[]∧Told off e rs (e.cancel id))∧Lv (e.cancel id):=by
 unfold Eng.cancel;cases q:e.liveAt id with
 |none=>exact⟨⟨_,by simp,zBq id 3 h0 h1 (by decide) (by decide)⟩,hl.cong rfl⟩
 |some i=>
  obtain⟨o,ho,_,hs⟩:=liveAt_some q;exact⟨⟨_,by simp,zEp h ho ((hl i o ho).1 hs) 1 (by decide) (by decide)⟩,hl.gone 1⟩
end
section
variable {off:Int} {e:Eng}
theorem LvX.full(h:LvX n e)(hn: ∀o,e.all[n]? =some o→(o.status=1↔0<o.opn)):Lv e:=fun i o ho=>by
 by_cases q:i=n
 ·subst q;exact hn o ho
 ·exact h i o q ho
theorem zSi{r:Ord}(h:LvX n e)(hne:n≠k)(hi:EInv e)(hr:e.all[k]? =some r)(hs:r.status=1):LvX n (e.trade2 k r):=by
 intro j x hj hx;by_cases q:k=j
 ·subst q;have kr:=hi.ok k r hr;unfold Eng.trade2 at hx;by_cases h0:r.opn=0
  ·rw[if_pos h0,upd_same _ _ _ _ hr]at hx;obtain rfl:=Option.some.inj hx;show((2:Int)=1↔0<r.opn);constructor
   ·intro c;exact absurd c (by decide)
   ·intro c;omega
  ·rw[if_neg h0]at hx;have hp:0<r.opn:=by have:=kr.opn0;omega
   by_cases h1:r.shown=0
   ·rw[if_pos h1]at hx;simp only at hx;rw[lay_at,if_pos rfl]at hx;have hr2:e.draw.2.all[k]? =some r:=hr;rw[hr2]at hx;obtain rfl:=Option.some.inj hx;exact⟨fun _=>hp,fun _=>hs⟩
   ·rw[if_neg h1,hr]at hx;obtain rfl:=Option.some.inj hx;exact⟨fun _=>hp,fun _=>hs⟩
 ·rw[trade2_ne _ _ _ _ q]at hx;exact h j x hj hx
theorem zJr(h:EInv e){o:Ord}(hl:LvX i e)(ho:e.all[i]? =some o)(hs:o.status=1)(hsh:o.shown=0)(hm:e.mate i=some k):LvX i (e.trade i k):=by
 obtain⟨r,hr,hne,hop2,hrs,hst,hsd,hmt,i1,et,i2,_⟩:=trade_step h ho hs hsh hm;have hk1:(e.trade1 i k o r).all[k]? =some (tradeR o r):=by rw[trade1_at,if_pos rfl,hr];rfl
 rw[et];have key: ∀(j:Nat) (x:Ord),j≠i→j≠k→(e.trade1 i k o r).all[j]? =some x→(x.status=1↔0<x.opn):=by
  intro j x h1 h2 hx;rw[trade1_at,if_neg (fun q=>h2 q.symm),if_neg (fun q=>h1 q.symm)]at hx;exact hl j x h1 hx
 intro j x hj hx;by_cases q:j=k
 ·subst q;have kr:=i1.ok j _ hk1;unfold Eng.trade2 at hx;by_cases h0:(tradeR o r).opn=0
  ·rw[if_pos h0,upd_same _ _ _ _ hk1]at hx;obtain rfl:=Option.some.inj hx;show((2:Int)=1↔0<(tradeR o r).opn);constructor
   ·intro c;exact absurd c (by decide)
   ·intro c;omega
  ·rw[if_neg h0]at hx;have hp:0<(tradeR o r).opn:=by have:=kr.opn0;omega
   by_cases h1:(tradeR o r).shown=0
   ·rw[if_pos h1]at hx;simp only at hx;rw[lay_at,if_pos rfl]at hx;have hr2:(e.trade1 i j o r).draw.2.all[j]? =some (tradeR o r):=hk1;rw[hr2]at hx;obtain rfl:=Option.some.inj hx;exact⟨fun _=>hp,fun _=>hst⟩
   ·rw[if_neg h1,hk1]at hx;obtain rfl:=Option.some.inj hx;exact⟨fun _=>hp,fun _=>hst⟩
 ·rw[trade2_ne _ _ _ _ (fun c=>q c.symm)]at hx;exact key j x hj q hx
theorem zEz: ∀(f:Nat) {e:Eng} {i:Nat} {o:Ord},EInv e→LvX i e→e.all[i]? =some o→o.status=1→o.shown=0→LvX i (trades f e i)
 |0,e,i,o,h,hl,ho,hs,hsh=>hl
 |f+1,e,i,o,h,hl,ho,hs,hsh=>by
  unfold Eng.trades;cases hm:e.mate i with
  |none=>exact hl
  |some k=>
   obtain⟨r,hr,hne,hop2,hrs,hst,hsd,hmt,i1,et,i2,hi,_⟩:=trade_step h ho hs hsh hm;exact zEz f i2 (zJr h hl ho hs hsh hm) hi hs hsh
theorem zF(h:EInv e){o:Ord}(hl:LvX i e)(ho:e.all[i]? =some o)(hs:o.status=1)(hsh:o.shown=0):Lv (e.sweep i):=by
 obtain⟨o',ho',i2,hs',hsh',hk,_⟩:=trades_inv (e.opnOf i).toNat h ho hs hsh;have hx:=zEz (e.opnOf i).toNat h hl ho hs hsh;rw[sweep_eq];unfold Eng.swept;simp only[ho'];have ko:=i2.ok i o' ho';by_cases h0:o'.opn=0
 ·rw[if_pos h0];intro j x hj;by_cases q:i=j
  ·subst q;rw[upd_same _ _ _ _ ho']at hj;obtain rfl:=Option.some.inj hj;show((2:Int)=1↔0<o'.opn);constructor
   ·intro c;exact absurd c (by decide)
   ·intro c;omega
  ·rw[upd_ne _ _ _ _ q]at hj;exact hx j x (fun c=>q c.symm) hj
 ·rw[if_neg h0];intro j x hj;rw[lay_at]at hj;by_cases q:i=j
  ·subst q;rw[if_pos rfl,ho']at hj;obtain rfl:=Option.some.inj hj;exact⟨fun _=>by show 0<o'.opn;have:=ko.opn0;omega,fun _=>hs'⟩
  ·rw[if_neg q]at hj;exact hx j x (fun c=>q c.symm) hj
theorem zJs(v:Nat→Int)(h:e.why v≠0):1≤e.why v∧e.why v≤10:=by
 have key:e.why v=0∨(1≤e.why v∧e.why v≤10):=by
  unfold Eng.why;repeat' split
  all_goals first|exact .inl rfl|exact .inr (by decide)
 exact key.resolve_left h
theorem zJt(h:EInv e)(hl:Lv e)(hv:VOk v):(∃rs,rs≠[]∧Told (v 6) e rs (e.fresh v))∧Lv (e.fresh v):=by
 rw[fresh_eq];by_cases hw:e.why v=0
 ·rw[if_neg (by omega)];obtain⟨i1,hn⟩:=enter_inv h hv hw;have t1:=zJl h hv hw;have hm0:=h.mp0;obtain⟨w1,w2,w3,w4,w5,w6,w7,_⟩:=(zEw hw).resolve_right (by omega);have hl1:Lv (e.enter v):=by
   intro j x hx;rcases enter_at e v j x hx with⟨_,q⟩|⟨_,q⟩
   ·exact hl j x q
   ·subst q;show((1:Int)=1↔0<v 4);exact⟨fun _=>by omega,fun _=>rfl⟩
  by_cases h3:v 2=3
  ·rw[if_pos h3];exact⟨⟨_,by simp,t1⟩,hl1⟩
  ·rw[if_neg h3];obtain⟨rs,t2⟩:=zEv (off:=v 6) i1 hn rfl rfl (show(newOrd v).typ≠3 from h3);exact⟨⟨_,by simp,t1.trans t2⟩,zF i1 (hl1.x _) hn rfl rfl⟩
 ·rw[if_pos hw];have hb:=zJs (e:=e) v hw;exact⟨⟨_,by simp,zBq (v 0) (e.why v) hv.id0 hv.id1 hb.1 hb.2⟩,hl.cong rfl⟩
end
end
end Go.Proofs.YtanfmhonjpjpoaaGreatDoor
