import Derived.Test.YtanfmhonjpjpoaaGreatDoorQ00
import Derived.Test.YtanfmhonjpjpoaaGreatDoorQ04
import Derived.Test.YtanfmhonjpjpoaaGreatDoorQ12
import Derived.Test.YtanfmhonjpjpoaaGreatDoorQ13
import Derived.Test.YtanfmhonjpjpoaaGreatDoorQ15
import Derived.Test.YtanfmhonjpjpoaaGreatDoorQ16
import Derived.Test.YtanfmhonjpjpoaaGreatDoorQ17
import Derived.Test.YtanfmhonjpjpoaaGreatDoorQ18
import Derived.Test.YtanfmhonjpjpoaaGreatDoorQ34
set_option linter.all false
set_option maxRecDepth 100000
set_option maxHeartbeats 8000000
namespace Go.Proofs.YtanfmhonjpjpoaaGreatDoor
variable{wb n m k q:Nat}{w w0 w' w5 wr:World}{e e':Eng}{X:Nat→Prop}{b':Book}{ad:Nat→Addr}{st:Nat→ByteArray}{rs:List Rcd}
open Go.Extern Go.Maps Go.RowKit
structure KU(wb:Nat)(w w':World):Prop where
 os:w'.os=w.os
 tape:w'.tape=w.tape
 output:w'.output=w.output
 size:w.heap.size≤w'.heap.size
 block: ∀k,k<w.heap.size→k≠wb→¬LB w wb k→w'.heap[k]? =w.heap[k]?
 list: ∀k,k<w.heap.size→LB w' wb k→LB w wb k
 cell: ∀o,o<6→w'.cell? ⟨wb,o,none⟩=w.cell? ⟨wb,o,none⟩
 froz: ∀o,w'.frozen? ⟨wb,o,none⟩=w.frozen? ⟨wb,o,none⟩
theorem KT.ku(h:KT wb w w'):KU wb w w':=⟨h.os,h.tape,h.output,h.size,h.block,h.list,fun o ho=>h.cell o (by omega) (by omega),h.froz⟩
theorem KU.trans{w'':World}(h:KU wb w w')(k:KU wb w' w''):KU wb w w'':=
 ⟨k.os.trans h.os,k.tape.trans h.tape,k.output.trans h.output,Nat.le_trans h.size k.size,fun j h1 h2 h3=>(k.block j (Nat.lt_of_lt_of_le h1 h.size) h2 (fun c=>h3 (h.list j h1 c))).trans (h.block j h1 h2 h3),fun j h1 h2=>h.list j h1 (k.list j (Nat.lt_of_lt_of_le h1 h.size) h2),fun o h1=>(k.cell o h1).trans (h.cell o h1),fun o=>(k.froz o).trans (h.froz o)⟩
theorem KU.put{j:Nat}(w:World)(v:Value)(hj:6≤j)(h8:j≠8):KU wb w (w.setCell ⟨wb,j,none⟩ v):=by
 have oth: ∀o,o≠j→(w.setCell ⟨wb,j,none⟩ v).cell? ⟨wb,o,none⟩=w.cell? ⟨wb,o,none⟩:=fun o ho=>World.cell?_setCell_other _ _ _ _ (by intro e;injection e with e1 e2;omega)
 exact⟨rfl,rfl,rfl,by simp,fun k h1 h2 h3=>Below.heap_setCell _ _ _ _ h2,fun k hk ⟨n,cap,hc⟩=>⟨n,cap,by rw[←hc,oth 8 (fun e=>h8 e.symm)]⟩,fun o h=>oth o (by omega),fun o=>by simp⟩
theorem KL.put6{base j:Nat}{b:Book}(h:KL base w wb b)(hwb:wb<base)(hj:j<8)(v:Value):KL base (w.setCell ⟨wb,j,none⟩ v) wb b:=by
 obtain⟨⟨lv,c,hr⟩,c9,hl⟩:=h;refine⟨⟨lv,(World.cell?_setCell_other _ _ _ _ (by intro e;injection e with e1 e2;omega)).trans c,hr.1,?_⟩,(World.cell?_setCell_other _ _ _ _ (by intro e;injection e with e1 e2;omega)).trans c9,hl⟩;rcases hr.2 with h2|⟨g,cap,cur,hv,hg,hh,r⟩
 ·exact .inl h2
 ·exact .inr ⟨g,cap,cur,hv,hg,(Below.heap_setCell _ _ _ _ (fun c=>by have c:g=wb:=c;omega)).trans hh,r⟩
def KE(w0 w:World)(wb:Nat)(e:Eng)(X:Nat→Prop):Prop:=Below w0.heap.size w0 w∧w0.heap.size≤wb∧wb<w.heap.size∧(∀k,LB w wb k→wb<k)∧∃(tag:Nat→Prop) (nb eb:Nat) (g:Gh) (S:Sets) (base2:Nat),w.cell? ⟨wb,4,none⟩=some (.pointer (some ⟨nb,0,none⟩))∧w.cell? ⟨nb,0,none⟩=some (.pointer (some ⟨eb,0,none⟩))∧nb≠wb∧¬LB w wb nb∧¬tag nb∧nb<w.heap.size∧(∀k,X k→¬tag k)∧(∀k,tag k→w0.heap.size≤k∧k≠wb∧¬LB w wb k∧k<w.heap.size)∧CRep (fun k=>tag k∨w.heap.size≤k) base2 w eb e g S∧Holds e S [] []
theorem KE.ku(h:KE w0 w wb e X)(k:KU wb w w'):KE w0 w' wb e X:=by
 obtain⟨hl,hw,hwl,hb,tag,nb,eb,g,S,base2,c4,c0,n1,n2,n3,n4,hX,ht,hC,hH⟩:=h;refine⟨⟨k.os.trans hl.os,k.tape.trans hl.tape,k.output.trans hl.output,Nat.le_trans hl.size k.size,fun j hj=>(k.block j (Nat.lt_of_lt_of_le hj hl.size) (by omega) (fun c=>by have:=hb j c;omega)).trans (hl.block j hj)⟩,hw,Nat.lt_of_lt_of_le hwl k.size,fun j hj=>?_,tag,nb,eb,g,S,base2,(k.cell 4 (by omega)).trans c4,(World.cell?_of_block (a:=⟨nb,0,none⟩) (k.block nb n4 n1 n2)).trans c0,n1,fun c=>n2 (k.list nb n4 c),n3,Nat.lt_of_lt_of_le n4 k.size,hX,fun j hj=>?_,?_,hH⟩
 ·by_cases c:j<w.heap.size
  ·exact hb j (k.list j c hj)
  ·omega
 ·obtain⟨t1,t2,t3,t4⟩:=ht j hj;exact⟨t1,t2,fun c=>t3 (k.list j t4 c),Nat.lt_of_lt_of_le t4 k.size⟩
 ·exact hC.move k.size (fun j hj hF=>by
   have hj':tag j:=hF.resolve_right (by omega);obtain⟨t1,t2,t3,t4⟩:=ht j hj';exact⟨k.block j hj t2 t3,.inl hj'⟩) (fun j hj=>.inr hj)
theorem KE.below(h:KE w0 w wb e X)(k:Below w.heap.size w w'):KE w0 w' wb e X:=h.ku (KT.below h.2.2.1 k).ku
theorem KE.fresh(h:KE w0 w wb e X)(k:Below w.heap.size w w'):KE w0 w' wb e (fun j=>w.heap.size≤j):=by
 have hw:=h.2.2.1;obtain⟨hl,hw,hwl,hb,tag,nb,eb,g,S,base2,c4,c0,n1,n2,n3,n4,hX,ht,hC,hH⟩:=h;exact KE.below (X:=fun j=>w.heap.size≤j) ⟨hl,hw,hwl,hb,tag,nb,eb,g,S,base2,c4,c0,n1,n2,n3,n4,fun j hj c=>by have:=(ht j c).2.2.2;omega,ht,hC,hH⟩ k
theorem KE.less{Y:Nat→Prop}(h:KE w0 w wb e X)(hY: ∀k,Y k→X k):KE w0 w wb e Y:=by
 obtain⟨hl,hw,hwl,hb,tag,nb,eb,g,S,base2,c4,c0,n1,n2,n3,n4,hX,ht,hC,hH⟩:=h;exact⟨hl,hw,hwl,hb,tag,nb,eb,g,S,base2,c4,c0,n1,n2,n3,n4,fun k hk=>hX k (hY k hk),ht,hC,hH⟩
theorem KE.apply(h:KE w0 w wb e X)(hXl: ∀k,X k→k<w.heap.size){b0:Book}(hK0:KL (wb+1) w wb b0)(hE:Errs w0 ad st)(hW:Wids w0)(hpg:Eng.Pegs e)(hout:e.out= [])(t:List UInt8)(hT:Taking (e.begin_ t) (e.begin_ t))(hsm:e.all.length+(e.rest++t).length≤99999999):
 ∃nb eb,w.cell? ⟨wb,4,none⟩=some (.pointer (some ⟨nb,0,none⟩))∧w.cell? ⟨nb,0,none⟩=some (.pointer (some ⟨eb,0,none⟩))∧Calls Tryz.prog 22 #[.pointer (some ⟨eb,0,none⟩),.string (ba t)] w fun en w'=>en=.returned (.string (ba (e.apply t).out))∧Hid (KE w0 w' wb (e.apply t).hush X∧(∀b,KL (wb+1) w wb b→KL (wb+1) w' wb b)∧w'.heap[wb]? =w.heap[wb]? ∧(∀k,X k→w'.heap[k]? =w.heap[k]?)∧w.heap.size≤w'.heap.size):=by
 obtain⟨hl,hw,hwl,hb,tag,nb,eb,g,S,base2,c4,c0,n1,n2,n3,n4,hX,ht,hC,hH⟩:=h;refine⟨nb,eb,c4,c0,(zPg (w0:=w0) (F:=fun k=>tag k∨w.heap.size≤k) ⟨hE,hW,fun k hk=>hk.elim (fun c=>(ht k c).1) (fun c=>by have:=hl.size;omega)⟩ hC hH hpg hout hl t hT hsm).mono ?_⟩;rintro en w' ⟨rfl,hz⟩;obtain⟨⟨g',S',q1,q2,q3,q4,q5⟩,qB⟩:=hz.out;have fre: ∀k,k<w.heap.size→¬tag k→w'.heap[k]? =w.heap[k]? :=fun k hk hn=>q3.block k hk (fun c=>c.elim hn (fun c=>by omega))
 have nw: ¬tag wb:=fun c=>(ht wb c).2.1 rfl
 have hwb:=fre wb hwl nw;have lbe: ∀k,LB w' wb k↔LB w wb k:=fun k=>by
  have e8:w'.cell? ⟨wb,8,none⟩=w.cell? ⟨wb,8,none⟩:=World.cell?_of_block (a:=⟨wb,8,none⟩) hwb;unfold LB;rw[e8]
 refine⟨rfl,hidK ⟨⟨qB,hw,Nat.lt_of_lt_of_le hwl q3.size,fun k hk=>hb k ((lbe k).1 hk),fun k=>tag k∨(w.heap.size≤k∧k<w'.heap.size),nb,eb,g',S',base2,(World.cell?_of_block (a:=⟨wb,4,none⟩) hwb).trans c4,(World.cell?_of_block (a:=⟨nb,0,none⟩) (fre nb n4 n3)).trans c0,n1,fun c=>n2 ((lbe nb).1 c),fun c=>c.elim n3 (fun c=>by omega),Nat.lt_of_lt_of_le n4 q3.size,fun k hk c=>c.elim (hX k hk) (fun c=>by have:=hXl k hk;omega),fun k hk=>?_,?_,q2⟩,fun b hK=>?_,hwb,fun k hk=>fre k (hXl k hk) (hX k hk),q3.size⟩⟩
 ·rcases hk with c|c
  ·obtain⟨t1,t2,t3,t4⟩:=ht k c;exact⟨t1,t2,fun d=>t3 ((lbe k).1 d),Nat.lt_of_lt_of_le t4 q3.size⟩
  ·refine⟨by have:=hl.size;omega,by omega,fun d=>?_,c.2⟩;obtain⟨n,cap,e8⟩:=(lbe k).1 d;obtain⟨lv,c8,hr⟩:=hK0.row;obtain rfl:=Option.some.inj (c8.symm.trans e8);have:=(hr.lt k rfl).2;omega
 ·exact q1.move (Nat.le_refl _) (fun k hk hF=>⟨rfl,.inl (hF.elim .inl (fun c=>.inr ⟨c,hk⟩))⟩) (fun k hk=>.inr hk)
 ·obtain⟨⟨lv,c8,hr⟩,c9,hln⟩:=hK;have cw: ∀j,w'.cell? ⟨wb,j,none⟩=w.cell? ⟨wb,j,none⟩:=fun j=>World.cell?_of_block (a:=⟨wb,j,none⟩) hwb
  refine⟨⟨lv,(cw 8).trans c8,zAx hr fun q hq=>fre q (hr.lt q hq).2 (fun c=>(ht q c).2.2.1 ?_)⟩,(cw 9).trans c9,hln⟩;rcases hr.2 with⟨e1,_⟩|⟨g1,cp,_,e1,_⟩
  ·rw[e1]at hq;simp[Value.ownBlock]at hq
  ·rw[e1]at hq;have:g1=q:=by simpa [Value.ownBlock] using hq
   subst this;exact⟨_,_,by rw[c8,e1]⟩
structure KW(w0 w:World)(wb:Nat)(e:Eng)(n:Nat):Prop where
 ke:KE w0 w wb e (fun _=>False)
 kl:KL (wb+1) w wb (bk e)
 fz: ∀o,w.frozen? ⟨wb,o,none⟩=false
 c1:w.cell? ⟨wb,1,none⟩=some (.int .i64 e.mp)
 c5:w.cell? ⟨wb,5,none⟩=some (.bool true)
 c6: ∃s,w.cell? ⟨wb,6,none⟩=some (.string s)∧s.size=22*e.seq
 c7:w.cell? ⟨wb,7,none⟩=some (.int .i64 (e.seq:Int))
 out:e.out= []
 good:Good e (22*e.seq)
 calm:Calm e
 bnd:e.seq≤2100*n
theorem KW.below(h:KW w0 w wb e n)(hb:Below w.heap.size w w'):KW w0 w' wb e n:=by
 obtain⟨s,c6,hz⟩:=h.c6;have hwl:=h.ke.2.2.1;exact⟨h.ke.below hb,h.kl.below hb,fun o=>(World.frozen?_of_block (a:=⟨wb,o,none⟩) (hb.block wb hwl)).trans (h.fz o),zA3 hb hwl h.c1,zA3 hb hwl h.c5,⟨s,zA3 hb hwl c6,hz⟩,zA3 hb hwl h.c7,h.out,h.good,h.calm,h.bnd⟩
theorem KW.later(h:KW w0 w wb e n)(hm:n≤m):KW w0 w wb e m:=⟨h.ke,h.kl,h.fz,h.c1,h.c5,h.c6,h.c7,h.out,h.good,h.calm,by have:=h.bnd;omega⟩
theorem Calm.hush(h:Calm e):Calm e.hush:=⟨h.inv.cong rfl rfl rfl rfl rfl rfl,h.lv.cong rfl,h.fr.cong rfl,h.pegs.cong rfl,h.rest⟩
theorem Good.hush(h:Good e n):Good e.hush n:=⟨h.inv.cong rfl rfl rfl rfl rfl rfl,h.pegs.cong rfl,⟨h.dr.len,h.dr.bd⟩,h.rest,h.stm,h.drw,h.len,h.v0,h.v1,h.w0,h.w1,h.told⟩
theorem zDs(h:Calm e): ∀(j:Nat) (x:Ent),(bk e).l[j]? =some x→EB x∧(x.side=1∨x.side=2)∧(0≤x.price∧x.price≤1000000)∧(-1000000≤x.off∧x.off≤1000000):=by
 intro j x hx;have hx':(e.all.map Ord.ent)[j]? =some x:=hx;rw[List.getElem?_map]at hx';obtain⟨o,ho,rfl⟩:=Option.map_eq_some_iff.1 hx';have k:=h.inv.ok j o ho;have hm:=h.inv.mp1;have k1:=k.sum;have k2:=k.qty1;have k3:=k.prc0;have k4:=k.prc1;have k5:=k.off0;have k6:=k.off1;have k7:=k.can0;have k8:=k.fil0;refine⟨⟨k.shn0,k.shn1,k.fil0,k.can0,?_,?_,⟨k.prc0,?_⟩,fun c=>?_⟩,k.side,⟨k.prc0,?_⟩,?_,?_⟩
 ·show o.filled+o.cancelled+o.opn=o.qty;omega
 ·show o.qty≤_;omega
 ·show o.price≤_;omega
 ·have:0<o.opn:=by
   rcases c with c|c
   ·simpa [Ord.ent] using c
   ·exact c
  exact k.live ((h.lv j o ho).2 this)
 ·show o.price≤_;omega
 ·show -1000000≤o.off;omega
 ·show o.off≤_;omega
theorem Good.taking1(h:Good e n)(hs:e.seq≤2100*m)(hm:m≤20000)(t:List UInt8)(ht:t.length≤1000):Taking (e.begin_ t) (e.begin_ t):=by
 obtain⟨h1,h2,h3,h4,h5,h6,h7,h8,h9,h10,h11,h12⟩:=h;have hr:(e.begin_ t).rest.length=e.rest.length+t.length:=by show(e.rest++t).length=_;rw[List.length_append]
 have ho:(e.begin_ t).out.length=0:=rfl;have hs:(e.begin_ t).seq=e.seq:=rfl;have hm:(e.begin_ t).stamp=e.stamp:=rfl;have hd:(e.begin_ t).drawn=e.drawn:=rfl;have ha:(e.begin_ t).all.length=e.all.length:=rfl;have hv:(e.begin_ t).volume=e.volume:=rfl;have hw:(e.begin_ t).worth=e.worth:=rfl;refine⟨h1.cong rfl rfl rfl rfl rfl rfl,⟨?_,?_,?_,?_,?_⟩,⟨?_,?_,?_,?_⟩,⟨h3.len,h3.bd⟩,?_,?_,⟨_,Nat.le_refl _,rfl⟩⟩<;>omega
theorem zPh(kind:Int)(v:Nat→Int):(encRes kind v).1.length≤1000:=by
 unfold encRes;split
 ·split
  ·simp
  ·have h1:=zCu (terms kind) v (fun p hp=>by rcases(zAe kind p hp).2.1 with q|q<;>omega);have h2:=zBk kind;simp only[List.length_cons];omega
 ·simp
theorem zCo(s:ByteArray): ∀k,(rowsC s k).length=k*7
 |0=>rfl
 |k+1=>by rw[zD7,List.length_append,zCo s k];simp[recL];omega
theorem zPi(s:ByteArray)(k j i:Nat)(hj:j<k)(hi:i<7):(rowsC s k)[j*7+i]? =((recL s (22*j)).map (Value.int .i64))[i]? :=by
 induction k with
 |zero=>omega
 |succ k ih=>
  rw[zD7];by_cases e:j<k
  ·rw[List.getElem?_append_left (by rw[zCo];omega)];exact ih e
  ·have:j=k:=by omega
   subst this;rw[List.getElem?_append_right (by rw[zCo];omega),zCo,show j*7+i - j*7=i by omega]
theorem zPj{s:Nat}(hf: ∀r∈rs,r.Fits)(hs:s+rs.length<4294967296):RecsOf (ba (encR s rs)) rs.length 0∧∀(i:Nat) (r:Rcd),rs[i]? =some r→∀j,j<7→((recL (ba (encR s rs)) (22*i)).map (Value.int .i64))[j]? =(r.cells ((s+i+1:Nat):Int))[j]? :=by
 refine⟨zKg hf hs,fun i r hi j hj=>?_⟩;have hil:=(List.getElem?_eq_some_iff.1 hi).1;rw[zFd hi (hf r (List.mem_of_getElem? hi)) (by omega)];rfl
def TakeOk:Prop:= ∀(base:Nat) (w:World) (wb:Nat) (b b':Book) (r:Rcd) (seq:Int) (rb ro:Nat) (v:Nat→Int),KL base w wb b→wb<base→base≤w.heap.size→(∀o,w.frozen? ⟨wb,o,none⟩=false)→(∀(j:Nat) (x:Ent),b.l[j]? =some x→EB x)→(∀(j:Nat) (x:Ent),b.l[j]? =some x→x.side=1∨x.side=2)→(0≤b.place∧b.place≤1000000000)→b.l.length+1≤100000000→(∀j,j<7→w.cell? ⟨rb,ro+j,none⟩=(r.cells seq)[j]?)→rb<w.heap.size→rb≠wb→¬LB w wb rb→r.Fits→Book.Took b r (v 6) b'→Calls Tryz.prog 24 #[.pointer (some ⟨wb,0,none⟩),.pointer (some ⟨rb,ro,none⟩),.agg #[.int .i64 (v 0),.int .i64 (v 1),.int .i64 (v 2),.int .i64 (v 3),.int .i64 (v 4),.int .i64 (v 5),.int .i64 (v 6),.int .i64 (v 7),.int .i64 (v 8)]] w fun en w'=>en=.returned (.bool true)∧Hid (KL base w' wb b'∧KT wb w w')
theorem zGl(hw:wb<w.heap.size)(hb:Below w.heap.size w w')(h:LB w' wb k):LB w wb k:=by
 obtain⟨n,cap,e⟩:=h;exact⟨n,cap,by rw[←e];exact(World.cell?_of_block (a:=⟨wb,8,none⟩) (hb.block wb hw)).symm⟩
def KR(w0 w5 wr:World)(wb:Nat)(e':Eng)(X:Nat→Prop)(b':Book)(q m:Nat):Prop:=KE w0 wr wb e' X∧KL (wb+1) wr wb b'∧KU wb w5 wr∧(∀o,wr.frozen? ⟨wb,o,none⟩=false)∧(∀s,w5.cell? ⟨wb,6,none⟩=some s→wr.cell? ⟨wb,6,none⟩=some s)∧wr.cell? ⟨wb,7,none⟩=some (.int .i64 (q:Int))∧(∀(j:Nat) (x:Ent),b'.l[j]? =some x→EB x)∧0≤b'.place∧b'.place≤(m:Int)
theorem KR.put7(h:KR w0 w5 wr wb e' X b' q m):KR w0 w5 (wr.setCell ⟨wb,7,none⟩ (.int .i64 ((q:Int)+1))) wb e' X b' (q+1) m:=by
 obtain⟨h1,h2,h3,h4,h5,h6,h7,h8,h9⟩:=h;have hu:KU wb wr (wr.setCell ⟨wb,7,none⟩ (.int .i64 ((q:Int)+1))):=KU.put wr _ (by omega) (by omega);refine⟨h1.ku hu,h2.put6 (by omega) (by omega) _,h3.trans hu,fun o=>by rw[World.frozen?_setCell];exact h4 o,fun s hs=>(World.cell?_setCell_other _ _ _ _ (by intro e;injection e with e1 e2;omega)).trans (h5 s hs),?_,h7,h8,h9⟩;rw[World.cell?_setCell_same _ _ _ h6];rfl
theorem KR.drew(h:KR w0 w5 wr wb e' X b' q m)(n:Nat):KR w0 w5 (wr.drewN n) wb e' X b' q m:=by
 obtain⟨h1,h2,h3,h4,h5,h6,h7,h8,h9⟩:=h;have hu:KU wb wr (wr.drewN n):=⟨rfl,rfl,rfl,Nat.le_refl _,fun _ _ _ _=>rfl,fun _ _ h=>h,fun _ _=>rfl,fun _=>rfl⟩;exact⟨h1.ku hu,h2.drew n,h3.trans hu,h4,h5,h6,h7,h8,h9⟩
theorem KR.took{c:Book}{m':Nat}(h:KR w0 w5 wr wb e' X b' q m)(hT:KT wb wr w')(hK:KL (wb+1) w' wb c)(hE: ∀(j:Nat) (x:Ent),c.l[j]? =some x→EB x)(hp:0≤c.place∧c.place≤(m':Int)):KR w0 w5 w' wb e' X c q m':=by
 obtain⟨h1,h2,h3,h4,h5,h6,h7,h8,h9⟩:=h;exact⟨h1.ku hT.ku,hK,h3.trans hT.ku,fun o=>(hT.froz o).trans (h4 o),fun s hs=>(hT.cell 6 (by omega) (by omega)).trans (h5 s hs),(hT.cell 7 (by omega) (by omega)).trans h6,hE,hp.1,hp.2⟩
theorem zGm(h:k<n):n - (intOf (.int .i64 ((k:Int)+1))).toNat<n - (intOf (.int .i64 (k:Int))).toNat:=by simp[intOf];omega
theorem zPk{off:Int}{e1:Eng}{r:Rcd}(ht:Book.takes off b' (rs.drop k)=some (bk e1))(hr:rs[k]? =some r)(hf: ∀r∈rs,r.Fits)(hE: ∀(j:Nat) (x:Ent),b'.l[j]? =some x→EB x)(hc:Calm e1)(h0:0≤b'.place)(hm:b'.place≤(m:Int)): ∃c,Book.Took b' r off c∧Book.takes off c (rs.drop (k+1))=some (bk e1)∧(∀(j:Nat) (x:Ent),c.l[j]? =some x→EB x)∧(∀(j:Nat) (x:Ent),b'.l[j]? =some x→x.side=1∨x.side=2)∧b'.l.length≤(bk e1).l.length∧0≤c.place∧c.place≤((m+1:Nat):Int):=by
 have hkl:=(List.getElem?_eq_some_iff.1 hr).1;have hd:rs.drop k=r::rs.drop (k+1):=by
  rw[List.drop_eq_getElem_cons hkl]
  congr 1
  rw[List.getElem?_eq_getElem hkl]at hr;exact Option.some.inj hr
 have hfr:=hf r (List.mem_of_getElem? hr);obtain⟨m1,m2⟩:=Book.takes_more off (rs.drop k) b' (bk e1) (fun x hx=>hf x (List.mem_of_mem_drop hx)) ht;rw[hd]at ht;unfold Book.takes at ht;cases q:b'.take r off with
 |none=>rw[q]at ht;cases ht
 |some c=>
  rw[q]at ht;have hT:=Book.take_cases q hfr;obtain⟨_,_,_,p1,p2⟩:=Book.took_more hT;refine⟨c,hT,ht,Book.took_eb hT hfr hE,fun j x hx=>?_,m2,by omega,by omega⟩;obtain⟨y,hy,e⟩:=m1 j x hx;rw[←e];exact(zDs hc j y hy).2.1
theorem kdo(HTK:TakeOk)(h:KW w0 w wb e n)(hn:n+1≤20000)(hE:Errs w0 ad st)(hW:Wids w0)(kk a bb:Int)(v:Nat→Int)(hv: ∀i,i<9→-9223372036854775808≤v i∧v i≤9223372036854775807):
 Calls Tryz.prog 13 #[.pointer (some ⟨wb,0,none⟩),.agg #[.int .i64 kk,.int .i64 a,.int .i64 bb,.int .i64 (v 0),.int .i64 (v 1),.int .i64 (v 2),.int .i64 (v 3),.int .i64 (v 4),.int .i64 (v 5),.int .i64 (v 6),.int .i64 (v 7),.int .i64 (v 8)]] w fun en w'=>en=.returned (.bool true)∧Hid (∃e',KW w0 w' wb e' (n+1)∧((encRes a v).2.1=0→e'=(e.apply (encRes a v).1).hush)):=by
 have hB1:Below w.heap.size w (w.alloc (.cells #[.int .i64 kk,.int .i64 a,.int .i64 bb,.int .i64 (v 0),.int .i64 (v 1),.int .i64 (v 2),.int .i64 (v 3),.int .i64 (v 4),.int .i64 (v 5),.int .i64 (v 6),.int .i64 (v 7),.int .i64 (v 8)] 37)):=(Below.refl _ _).alloc (Nat.le_refl _) _;have HK1:=hid (h.below hB1);have hlow:=HK1.out.ke.1;have HENC:=hid (zKa ad st a v (w.alloc (.cells #[.int .i64 kk,.int .i64 a,.int .i64 bb,.int .i64 (v 0),.int .i64 (v 1),.int .i64 (v 2),.int .i64 (v 3),.int .i64 (v 4),.int .i64 (v 5),.int .i64 (v 6),.int .i64 (v 7),.int .i64 (v 8)] 37)) (hE.below hlow) (hW.below hlow) hv)
 have b1:(w.alloc (.cells #[.int .i64 kk,.int .i64 a,.int .i64 bb,.int .i64 (v 0),.int .i64 (v 1),.int .i64 (v 2),.int .i64 (v 3),.int .i64 (v 4),.int .i64 (v 5),.int .i64 (v 6),.int .i64 (v 7),.int .i64 (v 8)] 37)).cell? ⟨w.heap.size,1,none⟩=some (.int .i64 a):=by rw[World.cell?_alloc_at _ _ _ _ rfl];rfl
 have HBX:Hid (w.heap.size<(w.alloc (.cells #[.int .i64 kk,.int .i64 a,.int .i64 bb,.int .i64 (v 0),.int .i64 (v 1),.int .i64 (v 2),.int .i64 (v 3),.int .i64 (v 4),.int .i64 (v 5),.int .i64 (v 6),.int .i64 (v 7),.int .i64 (v 8)] 37)).heap.size∧w.heap.size≠wb):=⟨by simp,by have:=h.ke.2.2.1;omega⟩;have HBC:Hid (∀j,j<12→(w.alloc (.cells #[.int .i64 kk,.int .i64 a,.int .i64 bb,.int .i64 (v 0),.int .i64 (v 1),.int .i64 (v 2),.int .i64 (v 3),.int .i64 (v 4),.int .i64 (v 5),.int .i64 (v 6),.int .i64 (v 7),.int .i64 (v 8)] 37)).cell? ⟨w.heap.size,j,none⟩= [Value.int .i64 kk,.int .i64 a,.int .i64 bb,.int .i64 (v 0),.int .i64 (v 1),.int .i64 (v 2),.int .i64 (v 3),.int .i64 (v 4),.int .i64 (v 5),.int .i64 (v 6),.int .i64 (v 7),.int .i64 (v 8)][j]?):=fun j hj=>by
  rw[World.cell?_alloc_at _ _ _ _ rfl];simp
 have HNL:Hid (¬LB (w.alloc (.cells #[.int .i64 kk,.int .i64 a,.int .i64 bb,.int .i64 (v 0),.int .i64 (v 1),.int .i64 (v 2),.int .i64 (v 3),.int .i64 (v 4),.int .i64 (v 5),.int .i64 (v 6),.int .i64 (v 7),.int .i64 (v 8)] 37)) wb w.heap.size):=fun c=>by
  obtain⟨lv,c8,hr⟩:=HK1.out.kl.row;obtain⟨m,cp,e8⟩:=c;obtain rfl:=Option.some.inj (c8.symm.trans e8);rcases hr.2 with⟨e1,_⟩|⟨g',cp',cur,e1,_,hh,_⟩
  ·cases e1
  ·injection e1 with e1;injection e1 with e1;injection e1 with e1;subst e1;rw[heapNew]at hh;injection hh with hh;injection hh with h1 h2;exact absurd h2 (by decide)
 have HKE1:=hid (h.ke.fresh hB1);have HE:Hid (Errs w0 ad st∧Wids w0∧n+1≤20000):=⟨hE,hW,hn⟩;clear h hB1 hlow hE hW hv hn;go_enter Tryz.func13,Tryz.ntmps13;go_wp2_with fail;refine HENC.out.mono ?_;rintro en w2 ⟨rfl,hb2⟩;have HK2:=hid (HK1.out.below hb2);have HB2:=hid hb2;clear hb2 HENC b1;by_cases hz:(encRes a v).2.1=0
 ·obtain⟨rs,k3,ho,hs,htk,hft,hstl,hmp,hcalm,h21⟩:=zK5 HK2.out.calm hz;have hqs:e.seq≤2100*n:=HK2.out.bnd;have hn1:=HE.out.2.2;have hrs:e.rest= []:=HK2.out.calm.rest;have hlen0:=HK2.out.good.len;have htl:=zPh a v;have HK2':=hid (show KE w0 w2 wb e (fun k=>k=w.heap.size) from(HKE1.out.below HB2.out).less (fun k hk=>by have hk:k=w.heap.size:=hk;show w.heap.size≤k;omega));obtain⟨nb,eb,c4,c0,hAp⟩:=HK2'.out.apply (fun k hk=>by have hk:k=w.heap.size:=hk;have:=HBX.out.1;have:=HB2.out.size;omega) HK2.out.kl HE.out.1 HE.out.2.1 HK2.out.calm.pegs HK2.out.out (encRes a v).1 (HK2.out.good.taking1 hqs (by omega) _ htl) (by rw[hrs];show e.all.length+(encRes a v).1.length≤_;omega);rw[ho]at hAp;have HAP:=hid hAp;have HNEW:=hid (And.intro (HK2.out.good.apply (encRes a v).1).1 (And.intro hcalm (And.intro hs (And.intro htk (And.intro hft (And.intro hstl (And.intro hmp (And.intro h21 k3))))))))
  have hbt:(⟨(encRes a v).1.toArray⟩:ByteArray)=ba (encRes a v).1:=rfl;rw[hbt];have HZ0:=hid hz;have hz':((encRes a v).2.1 != 0)=false:=by simp[hz]
  clear hs htk hft hstl hmp hcalm h21 k3 hAp hrs hlen0 htl hbt hqs hn1 ho;generalize hE1:e.apply (encRes a v).1=E1 at *;have HE1:=hid hE1;clear hE1;rw[hz];clear hz hz';generalize ba (encRes a v).1=T at *;go_wp2_with fail;refine HAP.out.mono ?_;rintro en w3 ⟨rfl,HZ⟩;obtain⟨s0,c60,hs0⟩:=HK2.out.c6;have HC3:Hid (∀j,w3.cell? ⟨wb,j,none⟩=w2.cell? ⟨wb,j,none⟩):=fun j=>World.cell?_of_block (a:=⟨wb,j,none⟩) HZ.out.2.2.1
  have HF3:Hid (∀j,w3.frozen? ⟨wb,j,none⟩=false):=fun j=>(World.frozen?_of_block (a:=⟨wb,j,none⟩) HZ.out.2.2.1).trans (HK2.out.fz j)
  have c6:w3.cell? ⟨wb,6,none⟩=some (.string s0):=(HC3.out 6).trans c60;have f6:w3.frozen? ⟨wb,6,none⟩=false:=HF3.out 6;have hLS:(ba (encR e.seq rs)).size=22*rs.length:=by rw[zAf,zD9]
  have hfit: ¬9223372036854775807<s0.size+(ba (encR e.seq rs)).size:=by have:=HK2.out.bnd;have:=HE.out.2.2;have:=HNEW.out.2.2.2.2.2.2.2.1;omega
  have HSZ:Hid ((s0++ba (encR e.seq rs)).size=22*(e.seq+rs.length)):=by show _=_;rw[ByteArray.size_append,hs0,hLS];omega
  have hLI:(((ba (encR e.seq rs)).size:Nat):Int)=22*(rs.length:Int):=by rw[hLS];omega
  have HLS:=hid hLS;have HKL3:=hid (HZ.out.2.1 _ HK2.out.kl);have HBX3:Hid (∀j,j<12→w3.cell? ⟨w.heap.size,j,none⟩= [Value.int .i64 kk,.int .i64 a,.int .i64 bb,.int .i64 (v 0),.int .i64 (v 1),.int .i64 (v 2),.int .i64 (v 3),.int .i64 (v 4),.int .i64 (v 5),.int .i64 (v 6),.int .i64 (v 7),.int .i64 (v 8)][j]?):=fun j hj=>((World.cell?_of_block (a:=⟨w.heap.size,j,none⟩) (HZ.out.2.2.2.1 _ rfl)).trans (World.cell?_of_block (a:=⟨w.heap.size,j,none⟩) (HB2.out.block _ HBX.out.1))).trans (HBC.out j hj)
  have HREC:Hid (∀W,Below w0.heap.size w0 W→Calls Tryz.prog 23 #[.string (ba (encR e.seq rs))] W fun en w'=> ∃(k:Nat) (m:Int),RecsOf (ba (encR e.seq rs)) k m∧Below W.heap.size W w'∧RecsBack (ba (encR e.seq rs)) W.heap.size w' k m en):=fun W hW=>zKi ad st _ W (HE.out.1.below hW) (by rw[HLS.out];have:=HNEW.out.2.2.2.2.2.2.2.1;omega)
  have HROW:=hid (zPj (s:=e.seq) HNEW.out.2.2.2.2.1 (by have:=HK2.out.bnd;have:=HE.out.2.2;have:=HNEW.out.2.2.2.2.2.2.2.1;omega));clear c4 c0 c60 HAP hs0 hLS;generalize ba (encR e.seq rs)=SS at *;go_wp2_with(with_reducible first|refine zA1 ?_|refine zA0 ?_);clear hfit;have hwl3:wb<w3.heap.size:=HZ.out.1.2.2.1;have HKE4:Hid (KE w0 (w3.setCell ⟨wb,6,none⟩ (.string (s0++SS))) wb E1.hush (fun k=>k=w.heap.size)):=HZ.out.1.ku (KU.put w3 _ (by omega) (by omega));have HKL4:Hid (KL (wb+1) (w3.setCell ⟨wb,6,none⟩ (.string (s0++SS))) wb (bk e)):=HKL3.out.put6 (by omega) (by omega) _;have HFZ4:Hid (∀o,(w3.setCell ⟨wb,6,none⟩ (.string (s0++SS))).frozen? ⟨wb,o,none⟩=false):=fun o=>by rw[World.frozen?_setCell];exact HF3.out o
  have HCC4:Hid ((w3.setCell ⟨wb,6,none⟩ (.string (s0++SS))).cell? ⟨wb,1,none⟩=some (.int .i64 e.mp)∧(w3.setCell ⟨wb,6,none⟩ (.string (s0++SS))).cell? ⟨wb,5,none⟩=some (.bool true)∧(w3.setCell ⟨wb,6,none⟩ (.string (s0++SS))).cell? ⟨wb,6,none⟩=some (.string (s0++SS))∧(w3.setCell ⟨wb,6,none⟩ (.string (s0++SS))).cell? ⟨wb,7,none⟩=some (.int .i64 (e.seq:Int))):=⟨(World.cell?_setCell_other _ _ _ _ (by intro e;injection e with e1 e2;omega)).trans ((HC3.out 1).trans HK2.out.c1),(World.cell?_setCell_other _ _ _ _ (by intro e;injection e with e1 e2;omega)).trans ((HC3.out 5).trans HK2.out.c5),World.cell?_setCell_same _ _ _ c6,(World.cell?_setCell_other _ _ _ _ (by intro e;injection e with e1 e2;omega)).trans ((HC3.out 7).trans HK2.out.c7)⟩
  have HBX4:Hid (∀j,j<12→(w3.setCell ⟨wb,6,none⟩ (.string (s0++SS))).cell? ⟨w.heap.size,j,none⟩= [Value.int .i64 kk,.int .i64 a,.int .i64 bb,.int .i64 (v 0),.int .i64 (v 1),.int .i64 (v 2),.int .i64 (v 3),.int .i64 (v 4),.int .i64 (v 5),.int .i64 (v 6),.int .i64 (v 7),.int .i64 (v 8)][j]?):=fun j hj=>(World.cell?_setCell_other _ _ _ _ (by intro e;injection e with e1 e2;exact HBX.out.2 e1.symm)).trans (HBX3.out j hj)
  have HBL4:Hid (w.heap.size<(w3.setCell ⟨wb,6,none⟩ (.string (s0++SS))).heap.size∧¬LB (w3.setCell ⟨wb,6,none⟩ (.string (s0++SS))) wb w.heap.size):=⟨by simp;have:=HZ.out.2.2.2.2;have:=HB2.out.size;have:=HBX.out.1;omega,fun c=>HNL.out (by
   obtain⟨m,cp,e8⟩:=c;refine⟨m,cp,?_⟩;rw[World.cell?_setCell_other _ _ _ _ (by intro e;injection e with e1 e2;omega),HC3.out 8]at e8;rw[←e8];exact(World.cell?_of_block (a:=⟨wb,8,none⟩) (HB2.out.block wb HK1.out.ke.2.2.1)).symm)⟩
  clear HZ HC3 HF3 c6 f6 HKL3 HBX3 hwl3;generalize w3.setCell ⟨wb,6,none⟩ (.string (s0++SS))=W4 at *;try with_reducible refine hidO ?_
  have HREC4:=hid (HREC.out W4 HKE4.out.1);clear HREC;go_wp2_with fail;refine HREC4.out.mono ?_;rintro en w5 ⟨kr,m,hR,hb5,hback⟩;obtain⟨rfl,rfl⟩:=HROW.out.1.uniq hR;have HB5:=hid hb5;have hvp: ∃p,en=.returned (.tuple #[.slice p rs.length rs.length,.int .i64 0,.int .i64 (-1)])∧Hid (∀(i:Nat) (r:Rcd),rs[i]? =some r→∃gr,p=some ⟨gr,0,none⟩∧W4.heap.size≤gr∧gr<w5.heap.size∧∀j,j<7→w5.cell? ⟨gr,i*7+j,none⟩=(r.cells ((e.seq+i+1:Nat):Int))[j]?):=by
   rcases hback with⟨_,vv,rfl,hvv⟩|⟨hne,_⟩
   ·rcases hvv with⟨rfl,h0⟩|⟨gr,rfl,cap,hrow⟩
    ·refine⟨none,by rw[h0],fun i r hi=>?_⟩;have:=(List.getElem?_eq_some_iff.1 hi).1;omega
    ·refine⟨_,rfl,fun i r hi=>⟨gr,rfl,(hrow.lt gr rfl).1,(hrow.lt gr rfl).2,fun j hj=>?_⟩⟩;have hil:=(List.getElem?_eq_some_iff.1 hi).1;have:=HROW.out.2 i r hi j hj;rw[←this,←zPi SS rs.length i j hil hj];exact hrow.cellAt (i*7+j) (by omega)
   ·exact absurd rfl hne
  obtain⟨p,rfl,HRW⟩:=hvp;clear hback hR hb5 HREC4;have hw22:wrap64 (22*(rs.length:Int))=22*(rs.length:Int):=by have:=HNEW.out.2.2.2.2.2.2.2.1;unfold wrap64;omega
  have HKR0:Hid (KR w0 w5 w5 wb E1.hush (fun k=>k=w.heap.size) (bk e) e.seq e.seq):=⟨HKE4.out.below HB5.out,HKL4.out.below HB5.out,⟨rfl,rfl,rfl,Nat.le_refl _,fun _ _ _ _=>rfl,fun _ _ h=>h,fun _ _=>rfl,fun _=>rfl⟩,fun o=>(World.frozen?_of_block (a:=⟨wb,o,none⟩) (HB5.out.block wb HKE4.out.2.2.1)).trans (HFZ4.out o),fun _ h=>h,zA3 HB5.out HKE4.out.2.2.1 HCC4.out.2.2.2,fun j x hx=>(zDs HK2.out.calm j x hx).1,by show(0:Int)≤(e.stamp:Int);omega,by show(e.stamp:Int)≤(e.seq:Int);have:=HK2.out.good.stm;omega⟩
  have HBX5:Hid (∀W,KU wb w5 W→∀j,j<12→W.cell? ⟨w.heap.size,j,none⟩= [Value.int .i64 kk,.int .i64 a,.int .i64 bb,.int .i64 (v 0),.int .i64 (v 1),.int .i64 (v 2),.int .i64 (v 3),.int .i64 (v 4),.int .i64 (v 5),.int .i64 (v 6),.int .i64 (v 7),.int .i64 (v 8)][j]?):=fun W hU j hj=>((World.cell?_of_block (a:=⟨w.heap.size,j,none⟩) (hU.block w.heap.size (Nat.lt_of_lt_of_le HBL4.out.1 HB5.out.size) HBX.out.2 (fun c=>HBL4.out.2 (zGl HKE4.out.2.2.1 HB5.out c)))).trans (World.cell?_of_block (a:=⟨w.heap.size,j,none⟩) (HB5.out.block _ HBL4.out.1))).trans (HBX4.out j hj)
  have HGR5:Hid (∀W,KU wb w5 W→∀gr,W4.heap.size≤gr→gr<w5.heap.size→gr<W.heap.size∧gr≠wb∧¬LB W wb gr∧∀j,W.cell? ⟨gr,j,none⟩=w5.cell? ⟨gr,j,none⟩):=fun W hU gr h1 h2=>by
   have n1:gr≠wb:=by have:=HKE4.out.2.2.1;omega
   have n2: ¬LB w5 wb gr:=fun c=>by
    obtain⟨m,cp,e8⟩:=zGl HKE4.out.2.2.1 HB5.out c;obtain⟨lv,c8,hr⟩:=HKL4.out.row;obtain rfl:=Option.some.inj (c8.symm.trans e8);have:=(hr.lt gr rfl).2;omega
   exact⟨Nat.lt_of_lt_of_le h2 hU.size,n1,fun c=>n2 (hU.list gr h2 c),fun j=>World.cell?_of_block (a:=⟨gr,j,none⟩) (hU.block gr h2 n1 n2)⟩
  have HCELL5:Hid (w5.cell? ⟨wb,1,none⟩=some (.int .i64 e.mp)∧w5.cell? ⟨wb,5,none⟩=some (.bool true)∧w5.cell? ⟨wb,6,none⟩=some (.string (s0++SS))):=⟨zA3 HB5.out HKE4.out.2.2.1 HCC4.out.1,zA3 HB5.out HKE4.out.2.2.1 HCC4.out.2.1,zA3 HB5.out HKE4.out.2.2.1 HCC4.out.2.2.1⟩;have HTK':=hid HTK;clear HTK HKE4 HKL4 HFZ4 HCC4 HBX4 HBL4 HB5 HBC HNL HKE1 HK1 HK2' HROW HLS;generalize hbxx:w.heap.size=bx at *;clear hbxx;go_wp2_with fail;clear hLI hw22;go_loopw [11] (fun iv wr=> ∃(k:Nat) (b':Book),iv=.int .i64 k∧k≤rs.length∧Book.takes (v 6) b' (rs.drop k)=some (bk E1)∧KR w0 w5 wr wb E1.hush (fun k=>k=bx) b' (e.seq+k) (e.seq+k)) (fun iv _=>rs.length - (intOf iv).toNat)
  case atStart=>exact⟨0,bk e,rfl,Nat.zero_le _,HNEW.out.2.2.2.1,HKR0.out⟩
  case round=>
   obtain⟨k,b',rfl,hk,htk,hKR⟩:=hrel;have HKR:=hid hKR;have HTKS:=hid htk;clear hKR htk;by_cases hlt:k<rs.length
   ·have hkI:(k:Int)<(rs.length:Int):=by omega
    have hw1:wrap64 ((k:Int)+1)=(k:Int)+1:=by have:=HNEW.out.2.2.2.2.2.2.2.1;unfold wrap64;omega
    have HR1:Hid (rs[k]? =some rs[k]):=List.getElem?_eq_getElem hlt;obtain⟨gr,hp,hg1,hg2,hgc⟩:=HRW.out k _ HR1.out;subst hp;have HGR:=hid (And.intro hg1 (And.intro hg2 hgc));have HSTP:=hid (zPk HTKS.out HR1.out HNEW.out.2.2.2.2.1 HKR.out.2.2.2.2.2.2.1 HNEW.out.2.1 HKR.out.2.2.2.2.2.2.2.1 HKR.out.2.2.2.2.2.2.2.2);have HQ:Hid (e.seq+k+1≤50000000∧(bk E1).l.length≤50000000∧e.seq+(k+1)=e.seq+k+1):=by
     have h1:=HK2.out.bnd;have h2:=HE.out.2.2;have h3:=HNEW.out.2.2.2.2.2.2.2.1;have h4:=HNEW.out.1.len;have h5:=HNEW.out.2.2.1;refine⟨by omega,?_,by omega⟩;show(E1.all.map Ord.ent).length≤_;rw[List.length_map];omega
    have HFT:=hid (HNEW.out.2.2.2.2.1 rs[k] (List.getElem_mem hlt));clear hg1 hg2 hgc;generalize rs[k]=r at *;generalize hqq:e.seq+k=q at *;have c7:wr.cell? ⟨wb,7,none⟩=some (.int .i64 (q:Int)):=HKR.out.2.2.2.2.2.1;have f7:wr.frozen? ⟨wb,7,none⟩=false:=HKR.out.2.2.2.1 7;have hwq:wrap64 ((q:Int)+1)=(q:Int)+1:=by have:=HQ.out.1;unfold wrap64;omega
    have HQQ:=hid hqq;clear hqq;go_wp2_with(with_reducible first|refine zA1 ?_|refine zA0 ?_);replace HKR:=hid (HKR.out.put7);clear c7 f7;generalize wr.setCell ⟨wb,7,none⟩ (.int .i64 ((q:Int)+1))=W7 at *;try with_reducible refine hidO ?_
    have d7:W7.cell? ⟨wb,7,none⟩=some (.int .i64 ((q:Int)+1)):=HKR.out.2.2.2.2.2.1;have d1:W7.cell? ⟨gr,k*7+1,none⟩=some (.int .i64 ((q:Int)+1)):=((HGR5.out W7 HKR.out.2.2.1 gr HGR.out.1 HGR.out.2.1).2.2.2 _).trans (HGR.out.2.2 1 (by omega));go_wp2_with fail;go_quiet (fail);replace HKR:=hid (HKR.out.drew nq);clear d7 d1;generalize W7.drewN nq=W8 at *;obtain⟨c,hTook,htk2,hEB2,hside,hln,hpl0,hpl1⟩:=HSTP.out;have HGW:=hid (HGR5.out W8 HKR.out.2.2.1 gr HGR.out.1 HGR.out.2.1);have HTA:=hid (HTK'.out (wb+1) W8.drew wb b' c r ((q+1:Nat):Int) gr (k*7) v (HKR.out.2.1.drew 1) (by omega) (by have:=HKR.out.1.2.2.1;show wb+1≤W8.heap.size;omega) HKR.out.2.2.2.1 HKR.out.2.2.2.2.2.2.1 hside ⟨HKR.out.2.2.2.2.2.2.2.1,by have:=HKR.out.2.2.2.2.2.2.2.2;have:=HQ.out.1;omega⟩ (by have:=HQ.out.2.1;omega) (fun j hj=>(HGW.out.2.2.2 _).trans (HGR.out.2.2 j hj)) HGW.out.1 HGW.out.2.1 HGW.out.2.2.1 HFT.out hTook)
    have HNXT:=hid (And.intro htk2 (And.intro hEB2 (And.intro hpl0 hpl1)));clear hTook htk2 hEB2 hside hln hpl0 hpl1 HSTP;have HS8:Hid ((fun X=>X.cell? ⟨bx,3,none⟩=some (.int .i64 (v 0))∧X.cell? ⟨bx,4,none⟩=some (.int .i64 (v 1))∧X.cell? ⟨bx,5,none⟩=some (.int .i64 (v 2))∧X.cell? ⟨bx,6,none⟩=some (.int .i64 (v 3))∧X.cell? ⟨bx,7,none⟩=some (.int .i64 (v 4))∧X.cell? ⟨bx,8,none⟩=some (.int .i64 (v 5))∧X.cell? ⟨bx,9,none⟩=some (.int .i64 (v 6))∧X.cell? ⟨bx,10,none⟩=some (.int .i64 (v 7))∧X.cell? ⟨bx,11,none⟩=some (.int .i64 (v 8))) W8.drew):=⟨HBX5.out W8 HKR.out.2.2.1 3 (by omega),HBX5.out W8 HKR.out.2.2.1 4 (by omega),HBX5.out W8 HKR.out.2.2.1 5 (by omega),HBX5.out W8 HKR.out.2.2.1 6 (by omega),HBX5.out W8 HKR.out.2.2.1 7 (by omega),HBX5.out W8 HKR.out.2.2.1 8 (by omega),HBX5.out W8 HKR.out.2.2.1 9 (by omega),HBX5.out W8 HKR.out.2.2.1 10 (by omega),HBX5.out W8 HKR.out.2.2.1 11 (by omega)⟩
    go_wp2_with fail;refine zC 7 (fun X=>X.cell? ⟨bx,3,none⟩=some (.int .i64 (v 0))∧X.cell? ⟨bx,4,none⟩=some (.int .i64 (v 1))∧X.cell? ⟨bx,5,none⟩=some (.int .i64 (v 2))∧X.cell? ⟨bx,6,none⟩=some (.int .i64 (v 3))∧X.cell? ⟨bx,7,none⟩=some (.int .i64 (v 4))∧X.cell? ⟨bx,8,none⟩=some (.int .i64 (v 5))∧X.cell? ⟨bx,9,none⟩=some (.int .i64 (v 6))∧X.cell? ⟨bx,10,none⟩=some (.int .i64 (v 7))∧X.cell? ⟨bx,11,none⟩=some (.int .i64 (v 8))) (by kernel_rfl) ?_;refine zA (i:=0) (v:=.pointer (some ⟨wb,0,none⟩)) (by rfl) (by kernel_rfl) (by kernel_rfl) (by kernel_rfl) (by kernel_rfl) (by exact fun _ _ _ h=>h) (Or.inl ⟨by rfl,?_⟩) HS8.out ?_
    ·intro W _;go_simp
    simp only[Act.put,List.setIfInBounds_toArray,List.set_cons_zero,List.set_cons_succ];refine zA (i:=1) (v:=.slice (some ⟨gr,0,none⟩) rs.length rs.length) (by rfl) (by kernel_rfl) (by kernel_rfl) (by kernel_rfl) (by kernel_rfl) (by exact fun _ _ _ h=>h) (Or.inl ⟨by rfl,?_⟩) HS8.out ?_
    ·intro W _;go_simp
    simp only[Act.put,List.setIfInBounds_toArray,List.set_cons_zero,List.set_cons_succ];refine zA (i:=2) (v:=.int .i64 (k:Int)) (by rfl) (by kernel_rfl) (by kernel_rfl) (by kernel_rfl) (by kernel_rfl) (by exact fun _ _ _ h=>h) (Or.inl ⟨by rfl,?_⟩) HS8.out ?_
    ·intro W _;go_simp
    simp only[Act.put,List.setIfInBounds_toArray,List.set_cons_zero,List.set_cons_succ];refine zA (i:=3) (v:=.pointer (some ⟨gr,k*7,none⟩)) (by rfl) (by kernel_rfl) (by kernel_rfl) (by kernel_rfl) (by kernel_rfl) (by exact fun _ _ _ h=>h) (Or.inl ⟨by rfl,?_⟩) HS8.out ?_
    ·intro W _;go_simp
    simp only[Act.put,List.setIfInBounds_toArray,List.set_cons_zero,List.set_cons_succ];refine zA (i:=4) (v:=.pointer (some ⟨bx,3,none⟩)) (by rfl) (by kernel_rfl) (by kernel_rfl) (by kernel_rfl) (by kernel_rfl) (by exact fun _ _ _ h=>h) (Or.inl ⟨by rfl,?_⟩) HS8.out ?_
    ·intro W _;go_simp
    simp only[Act.put,List.setIfInBounds_toArray,List.set_cons_zero,List.set_cons_succ];refine zA (i:=5) (v:=.agg #[.int .i64 (v 0),.int .i64 (v 1),.int .i64 (v 2),.int .i64 (v 3),.int .i64 (v 4),.int .i64 (v 5),.int .i64 (v 6),.int .i64 (v 7),.int .i64 (v 8)]) (by rfl) (by kernel_rfl) (by kernel_rfl) (by kernel_rfl) (by kernel_rfl) (by exact fun _ _ _ h=>h) (Or.inl ⟨by rfl,?_⟩) HS8.out ?_
    ·intro W hW;obtain⟨y0,y1,y2,y3,y4,y5,y6,y7,y8⟩:=hW;go_simp
    simp only[Act.put,List.setIfInBounds_toArray,List.set_cons_zero,List.set_cons_succ];refine zAb (i:=6) (by kernel_rfl) (by rfl) (fun K hK=>?_);go_simp;refine HTA.out.mono ?_;rintro en W9 ⟨rfl,HZ9⟩;have HKR9:=hid (KR.took (m':=q+1) (HKR.out.drew 1) HZ9.out.2 HZ9.out.1 HNXT.out.2.1 HNXT.out.2.2)
    have HS9:Hid ((fun X=>X.cell? ⟨bx,3,none⟩=some (.int .i64 (v 0))∧X.cell? ⟨bx,4,none⟩=some (.int .i64 (v 1))∧X.cell? ⟨bx,5,none⟩=some (.int .i64 (v 2))∧X.cell? ⟨bx,6,none⟩=some (.int .i64 (v 3))∧X.cell? ⟨bx,7,none⟩=some (.int .i64 (v 4))∧X.cell? ⟨bx,8,none⟩=some (.int .i64 (v 5))∧X.cell? ⟨bx,9,none⟩=some (.int .i64 (v 6))∧X.cell? ⟨bx,10,none⟩=some (.int .i64 (v 7))∧X.cell? ⟨bx,11,none⟩=some (.int .i64 (v 8))) W9):=⟨HBX5.out W9 HKR9.out.2.2.1 3 (by omega),HBX5.out W9 HKR9.out.2.2.1 4 (by omega),HBX5.out W9 HKR9.out.2.2.1 5 (by omega),HBX5.out W9 HKR9.out.2.2.1 6 (by omega),HBX5.out W9 HKR9.out.2.2.1 7 (by omega),HBX5.out W9 HKR9.out.2.2.1 8 (by omega),HBX5.out W9 HKR9.out.2.2.1 9 (by omega),HBX5.out W9 HKR9.out.2.2.1 10 (by omega),HBX5.out W9 HKR9.out.2.2.1 11 (by omega)⟩;clear HZ9 HTA HS8;try simp only[]
    refine hK.out _ _ (.inr HS9.out) ?_;clear hK K;try simp only[Act.put,List.setIfInBounds_toArray,List.set_cons_zero,List.set_cons_succ]
    refine zAb (i:=7) (by kernel_rfl) (by rfl) (fun K hK=>?_);go_simp;refine hK.out _ _ (.inl rfl) ?_;clear hK K HS9;refine zBz (by kernel_rfl) ?_ _;try simp only[Act.put,List.setIfInBounds_toArray,List.set_cons_zero,List.set_cons_succ]
    go_wp2;go_roundw
    case rel=>exact⟨k+1,c,by go_num,hlt,HNXT.out.1,by rw[HQ.out.2.2];exact HKR9.out⟩
    case measure=>rw[hw1];exact zGm hlt
   ·obtain rfl:k=rs.length:=by omega
    have hkI: ¬(rs.length:Int)<(rs.length:Int):=by omega
    have hbk:b'=bk E1:=by
     have:=HTKS.out;rw[List.drop_length]at this;exact Option.some.inj this
    subst hbk;have HBE:=hid (zDs HNEW.out.2.1);have HSTL:=hid (kstill HKR.out.2.1 e.mp ((HKR.out.2.2.1.cell 1 (by omega)).trans HCELL5.out.1) HNEW.out.2.2.2.2.2.1 (fun j x hx=>(HBE.out j x hx).1) (fun j x hx=>(HBE.out j x hx).2.1) (fun x hx=>by obtain⟨j,hj⟩:=List.getElem?_of_mem hx;exact(HBE.out j x hj).2.2.1) (fun x hx=>by obtain⟨j,hj⟩:=List.getElem?_of_mem hx;exact(HBE.out j x hj).2.2.2));go_wp2_with fail;refine HSTL.out.mono ?_;rintro en W9 ⟨rfl,hb9⟩;have HK9:=hid (KR.took (m':=e.seq+rs.length) HKR.out (KT.below HKR.out.1.2.2.1 hb9) (HKR.out.2.1.below hb9) HKR.out.2.2.2.2.2.2.1 HKR.out.2.2.2.2.2.2.2);have b1:W9.cell? ⟨bx,1,none⟩=some (.int .i64 a):=HBX5.out W9 HK9.out.2.2.1 1 (by omega);have HEND:Hid (∃e',KW w0 W9 wb e' (n+1)∧((encRes a v).2.1=0→e'=(e.apply (encRes a v).1).hush)):=by
     have hsq:E1.hush.seq=e.seq+rs.length:=HNEW.out.2.2.1;have hmp:E1.hush.mp=e.mp:=HNEW.out.2.2.2.2.2.2.1;have hgd:=HNEW.out.1.hush;have htd:=hgd.told;refine⟨_,⟨HK9.out.1.less (fun _ c=>c.elim),HK9.out.2.1,HK9.out.2.2.2.1,?_,(HK9.out.2.2.1.cell 5 (by omega)).trans HCELL5.out.2.1,⟨_,HK9.out.2.2.2.2.1 _ HCELL5.out.2.2,by rw[hsq];exact HSZ.out⟩,by rw[hsq];exact HK9.out.2.2.2.2.2.1,rfl,?_,HNEW.out.2.1.hush,?_⟩,fun _=>by rw[HE1.out]⟩
     ·rw[hmp];exact(HK9.out.2.2.1.cell 1 (by omega)).trans HCELL5.out.1
     ·rw[htd]at hgd;exact hgd
     ·rw[hsq];have h1:=HK2.out.bnd;have h2:=HNEW.out.2.2.2.2.2.2.2.1;omega
    clear hb9 HSTL;cases e3:decide (3<a)
    ·have hr1:0<rs.length:=List.length_pos_iff.2 (HNEW.out.2.2.2.2.2.2.2.2 (by have:=of_decide_eq_false e3;omega));have hr0:((0:Int)<(rs.length:Int)):=by
      have h1:=HNEW.out.2.2.2.2.2.2.2.2 (by have:=of_decide_eq_false e3;omega);have:=List.length_pos_iff.2 h1;omega
     go_wp2;go_ret;exact⟨rfl,HEND⟩
    ·go_wp2;go_ret;exact⟨rfl,HEND⟩
 ·have e1:((encRes a v).2.1 != 0)=true:=by simpa using hz
  go_wp2;go_ret;exact⟨rfl,hid ⟨e,HK2.out.later (by omega),fun c=>absurd c hz⟩⟩
theorem takeOk:TakeOk:=by
 intro base w wb b b' r seq rb ro v h hwb hbs fz hE hsd hpl hln hr hrb hrw hrl hf ht;rcases ht with⟨k,rfl⟩|⟨k,hn,rfl⟩|⟨i,o,hfd,ho,hl,⟨k,kk,p,ht,rfl⟩|⟨k,hq,h1,rfl⟩|⟨k,hq,hk,rfl⟩|⟨k,hp,h1,h2,rfl⟩|⟨k,hq,rfl⟩|⟨k,rfl⟩⟩
 ·exact ktake2 h hwb fz hr hrb hrw hrl v k
 ·exact ktake1 h hwb fz hr hrb hrw hrl v k hn hln hbs
 ·exact ktake3 h hwb fz hr hrb hrw hrl v hfd ho hl k (hsd i o ho) (hE i o ho) (hE kk p ht.at') ht
 ·exact ktake4 h hwb fz hr hrb hrw hrl v hfd ho hl k hq h1
 ·have ko:=hE i o ho;have hw:wrap64 (r.qty - o.filled)=r.qty - o.filled:=by
   obtain⟨a1,a2,a3,a4,a5,a6,_,_⟩:=ko;have:=hf.q1;have:=hf.q0;unfold wrap64;omega
  cases e3:(o.kind == 3)
  ·cases e4:(r.price == o.price)
   ·exact ktake5e h hwb fz hr hrb hrw hrl v hfd ho hl k hq hk hw e3 e4
   ·cases e5:decide (r.qty≤o.qty)
    ·exact ktake5d h hwb fz hr hrb hrw hrl v hfd ho hl k hq hk hw e3 e4 e5
    ·exact ktake5c h hwb fz hr hrb hrw hrl v hfd ho hl k hq hk hw e3 e4 e5
  ·cases e5:decide (r.qty≤o.qty)
   ·exact ktake5b h hwb fz hr hrb hrw hrl v hfd ho hl k hq hk hw e3 e5
   ·exact ktake5a h hwb fz hr hrb hrw hrl v hfd ho hl k hq hk hw e3 e5
 ·exact ktake6 h hwb fz hr hrb hrw hrl v hfd ho hl k hpl hp h1 h2
 ·exact ktake7 h hwb fz hr hrb hrw hrl v hfd ho hl k hpl hq
 ·exact ktake8 h hwb fz hr hrb hrw hrl v hfd ho hl k
end Go.Proofs.YtanfmhonjpjpoaaGreatDoor
