import Derived.Test.YtanfmhonjpjpoaaGreatDoorQ00
import Derived.Test.YtanfmhonjpjpoaaGreatDoorQ04
import Derived.Test.YtanfmhonjpjpoaaGreatDoorQ14
import Derived.Test.YtanfmhonjpjpoaaGreatDoorQ16
import Derived.Test.YtanfmhonjpjpoaaGreatDoorQ31
import Derived.Test.YtanfmhonjpjpoaaGreatDoorQ34
import Derived.Deep.RegionHeld3
set_option linter.all false
set_option maxRecDepth 100000
set_option maxHeartbeats 8000000
namespace Go.Proofs.YtanfmhonjpjpoaaGreatDoor
variable{wb n:Nat}{w w0 w':World}{e:Eng}{X:Nat→Prop}{ds:List Int}
open Go.Extern Go.Maps Go.RowKit
structure KU(wb:Nat)(w w':World):Prop where
 os:w'.os=w.os
 tape:w'.tape=w.tape
 output:w'.output=w.output
 size:w.heap.size≤w'.heap.size
 block: ∀k,k<w.heap.size→k≠wb→¬LB w wb k→w'.heap[k]? =w.heap[k]?
 list: ∀k,k<w.heap.size→LB w' wb k→LB w wb k
 cell: ∀o,o<6→w'.cell? ⟨wb,o,none⟩=w.cell? ⟨wb,o,none⟩
 froz: ∀o,w'.frozen? ⟨wb,o,none⟩=w.frozen? ⟨wb,o,none⟩
theorem KT.ku(h:KT wb w w'):KU wb w w':=⟨h.os,h.tape,h.output,h.size,h.block,h.list,fun o ho=>h.cell o (by omega) (by omega),h.froz⟩
theorem KU.trans{w'':World}(h:KU wb w w')(k:KU wb w' w''):KU wb w w'':=
 ⟨k.os.trans h.os,k.tape.trans h.tape,k.output.trans h.output,Nat.le_trans h.size k.size,fun j h1 h2 h3=>(k.block j (Nat.lt_of_lt_of_le h1 h.size) h2 (fun c=>h3 (h.list j h1 c))).trans (h.block j h1 h2 h3),fun j h1 h2=>h.list j h1 (k.list j (Nat.lt_of_lt_of_le h1 h.size) h2),fun o h1=>(k.cell o h1).trans (h.cell o h1),fun o=>(k.froz o).trans (h.froz o)⟩
theorem KU.put{j:Nat}(w:World)(v:Value)(hj:6≤j)(h8:j≠8):KU wb w (w.setCell ⟨wb,j,none⟩ v):=by
 have oth: ∀o,o≠j→(w.setCell ⟨wb,j,none⟩ v).cell? ⟨wb,o,none⟩=w.cell? ⟨wb,o,none⟩:=fun o ho=>World.cell?_setCell_other _ _ _ _ (by intro e;injection e with e1 e2;omega)
 exact⟨rfl,rfl,rfl,by simp,fun k h1 h2 h3=>Below.heap_setCell _ _ _ _ h2,fun k hk ⟨n,cap,hc⟩=>⟨n,cap,by rw[←hc,oth 8 (fun e=>h8 e.symm)]⟩,fun o h=>oth o (by omega),fun o=>by simp⟩
theorem KL.put6{base j:Nat}{b:Book}(h:KL base w wb b)(hwb:wb<base)(hj:j<8)(v:Value):KL base (w.setCell ⟨wb,j,none⟩ v) wb b:=by
 obtain⟨⟨lv,c,hr⟩,c9,hl⟩:=h;refine⟨⟨lv,(World.cell?_setCell_other _ _ _ _ (by intro e;injection e with e1 e2;omega)).trans c,hr.1,?_⟩,(World.cell?_setCell_other _ _ _ _ (by intro e;injection e with e1 e2;omega)).trans c9,hl⟩;rcases hr.2 with h2|⟨g,cap,cur,hv,hg,hh,r⟩
 ·exact .inl h2
 ·exact .inr ⟨g,cap,cur,hv,hg,(Below.heap_setCell _ _ _ _ (fun c=>by have c:g=wb:=c;omega)).trans hh,r⟩
def KE(w0 w:World)(wb:Nat)(e:Eng)(X:Nat→Prop):Prop:=Below w0.heap.size w0 w∧w0.heap.size≤wb∧wb<w.heap.size∧(∀k,LB w wb k→wb<k)∧∃(tag:Nat→Prop) (nb eb:Nat) (g:Gh) (S:Sets) (base2:Nat),w.cell? ⟨wb,4,none⟩=some (.pointer (some ⟨nb,0,none⟩))∧w.cell? ⟨nb,0,none⟩=some (.pointer (some ⟨eb,0,none⟩))∧nb≠wb∧¬LB w wb nb∧¬tag nb∧nb<w.heap.size∧(∀k,X k→¬tag k)∧(∀k,tag k→w0.heap.size≤k∧k≠wb∧¬LB w wb k∧k<w.heap.size)∧CRep (fun k=>tag k∨w.heap.size≤k) base2 w eb e g S∧Holds e S [] []
theorem KE.ku(h:KE w0 w wb e X)(k:KU wb w w'):KE w0 w' wb e X:=by
 obtain⟨hl,hw,hwl,hb,tag,nb,eb,g,S,base2,c4,c0,n1,n2,n3,n4,hX,ht,hC,hH⟩:=h;refine⟨⟨k.os.trans hl.os,k.tape.trans hl.tape,k.output.trans hl.output,Nat.le_trans hl.size k.size,fun j hj=>(k.block j (Nat.lt_of_lt_of_le hj hl.size) (by omega) (fun c=>by have:=hb j c;omega)).trans (hl.block j hj)⟩,hw,Nat.lt_of_lt_of_le hwl k.size,fun j hj=>?_,tag,nb,eb,g,S,base2,(k.cell 4 (by omega)).trans c4,(World.cell?_of_block (a:=⟨nb,0,none⟩) (k.block nb n4 n1 n2)).trans c0,n1,fun c=>n2 (k.list nb n4 c),n3,Nat.lt_of_lt_of_le n4 k.size,hX,fun j hj=>?_,?_,hH⟩
 ·by_cases c:j<w.heap.size
  ·exact hb j (k.list j c hj)
  ·omega
 ·obtain⟨t1,t2,t3,t4⟩:=ht j hj;exact⟨t1,t2,fun c=>t3 (k.list j t4 c),Nat.lt_of_lt_of_le t4 k.size⟩
 ·exact hC.move k.size (fun j hj hF=>by
   have hj':tag j:=hF.resolve_right (by omega);obtain⟨t1,t2,t3,t4⟩:=ht j hj';exact⟨k.block j hj t2 t3,.inl hj'⟩) (fun j hj=>.inr hj)
theorem KE.below(h:KE w0 w wb e X)(k:Below w.heap.size w w'):KE w0 w' wb e X:=h.ku (KT.below h.2.2.1 k).ku
theorem KE.fresh(h:KE w0 w wb e X)(k:Below w.heap.size w w'):KE w0 w' wb e (fun j=>w.heap.size≤j):=by
 have hw:=h.2.2.1;obtain⟨hl,hw,hwl,hb,tag,nb,eb,g,S,base2,c4,c0,n1,n2,n3,n4,hX,ht,hC,hH⟩:=h;exact KE.below (X:=fun j=>w.heap.size≤j) ⟨hl,hw,hwl,hb,tag,nb,eb,g,S,base2,c4,c0,n1,n2,n3,n4,fun j hj c=>by have:=(ht j c).2.2.2;omega,ht,hC,hH⟩ k
theorem KE.less{Y:Nat→Prop}(h:KE w0 w wb e X)(hY: ∀k,Y k→X k):KE w0 w wb e Y:=by
 obtain⟨hl,hw,hwl,hb,tag,nb,eb,g,S,base2,c4,c0,n1,n2,n3,n4,hX,ht,hC,hH⟩:=h;exact⟨hl,hw,hwl,hb,tag,nb,eb,g,S,base2,c4,c0,n1,n2,n3,n4,fun k hk=>hX k (hY k hk),ht,hC,hH⟩
theorem KE.apply{ad:Nat→Addr}{st:Nat→ByteArray}(h:KE w0 w wb e X)(hXl: ∀k,X k→k<w.heap.size){b0:Book}(hK0:KL (wb+1) w wb b0)(hE:Errs w0 ad st)(hW:Wids w0)(hpg:Eng.Pegs e)(hout:e.out= [])(t:List UInt8)(hT:Taking (e.begin_ t) (e.begin_ t))(hsm:e.all.length+(e.rest++t).length≤99999999):
 ∃nb eb,w.cell? ⟨wb,4,none⟩=some (.pointer (some ⟨nb,0,none⟩))∧w.cell? ⟨nb,0,none⟩=some (.pointer (some ⟨eb,0,none⟩))∧Calls Tryz.prog 22 #[.pointer (some ⟨eb,0,none⟩),.string (ba t)] w fun en w'=>en=.returned (.string (ba (e.apply t).out))∧Hid (KE w0 w' wb (e.apply t).hush X∧(∀b,KL (wb+1) w wb b→KL (wb+1) w' wb b)∧w'.heap[wb]? =w.heap[wb]? ∧(∀k,X k→w'.heap[k]? =w.heap[k]?)∧w.heap.size≤w'.heap.size):=by
 obtain⟨hl,hw,hwl,hb,tag,nb,eb,g,S,base2,c4,c0,n1,n2,n3,n4,hX,ht,hC,hH⟩:=h;refine⟨nb,eb,c4,c0,(zRb (w0:=w0) (F:=fun k=>tag k∨w.heap.size≤k) ⟨hE,hW,fun k hk=>hk.elim (fun c=>(ht k c).1) (fun c=>by have:=hl.size;omega)⟩ hC hH hpg hout hl t hT hsm).mono ?_⟩;rintro en w' ⟨rfl,hz⟩;obtain⟨⟨g',S',q1,q2,q3,q4,q5⟩,qB⟩:=hz.out;have fre: ∀k,k<w.heap.size→¬tag k→w'.heap[k]? =w.heap[k]? :=fun k hk hn=>q3.block k hk (fun c=>c.elim hn (fun c=>by omega))
 have nw: ¬tag wb:=fun c=>(ht wb c).2.1 rfl
 have hwb:=fre wb hwl nw;have lbe: ∀k,LB w' wb k↔LB w wb k:=fun k=>by
  have e8:w'.cell? ⟨wb,8,none⟩=w.cell? ⟨wb,8,none⟩:=World.cell?_of_block (a:=⟨wb,8,none⟩) hwb;unfold LB;rw[e8]
 refine⟨rfl,hidK ⟨⟨qB,hw,Nat.lt_of_lt_of_le hwl q3.size,fun k hk=>hb k ((lbe k).1 hk),fun k=>tag k∨(w.heap.size≤k∧k<w'.heap.size),nb,eb,g',S',base2,(World.cell?_of_block (a:=⟨wb,4,none⟩) hwb).trans c4,(World.cell?_of_block (a:=⟨nb,0,none⟩) (fre nb n4 n3)).trans c0,n1,fun c=>n2 ((lbe nb).1 c),fun c=>c.elim n3 (fun c=>by omega),Nat.lt_of_lt_of_le n4 q3.size,fun k hk c=>c.elim (hX k hk) (fun c=>by have:=hXl k hk;omega),fun k hk=>?_,?_,q2⟩,fun b hK=>?_,hwb,fun k hk=>fre k (hXl k hk) (hX k hk),q3.size⟩⟩
 ·rcases hk with c|c
  ·obtain⟨t1,t2,t3,t4⟩:=ht k c;exact⟨t1,t2,fun d=>t3 ((lbe k).1 d),Nat.lt_of_lt_of_le t4 q3.size⟩
  ·refine⟨by have:=hl.size;omega,by omega,fun d=>?_,c.2⟩;obtain⟨n,cap,e8⟩:=(lbe k).1 d;obtain⟨lv,c8,hr⟩:=hK0.row;obtain rfl:=Option.some.inj (c8.symm.trans e8);have:=(hr.lt k rfl).2;omega
 ·exact q1.move (Nat.le_refl _) (fun k hk hF=>⟨rfl,.inl (hF.elim .inl (fun c=>.inr ⟨c,hk⟩))⟩) (fun k hk=>.inr hk)
 ·obtain⟨⟨lv,c8,hr⟩,c9,hln⟩:=hK;have cw: ∀j,w'.cell? ⟨wb,j,none⟩=w.cell? ⟨wb,j,none⟩:=fun j=>World.cell?_of_block (a:=⟨wb,j,none⟩) hwb
  refine⟨⟨lv,(cw 8).trans c8,zB0 hr fun q hq=>fre q (hr.lt q hq).2 (fun c=>(ht q c).2.2.1 ?_)⟩,(cw 9).trans c9,hln⟩;rcases hr.2 with⟨e1,_⟩|⟨g1,cp,_,e1,_⟩
  ·rw[e1]at hq;simp[Value.ownBlock]at hq
  ·rw[e1]at hq;have:g1=q:=by simpa [Value.ownBlock] using hq
   subst this;exact⟨_,_,by rw[c8,e1]⟩
structure KW(w0 w:World)(wb:Nat)(e:Eng)(n:Nat):Prop where
 ke:KE w0 w wb e (fun _=>False)
 kl:KL (wb+1) w wb (bk e)
 fz: ∀o,w.frozen? ⟨wb,o,none⟩=false
 c1:w.cell? ⟨wb,1,none⟩=some (.int .i64 e.mp)
 c5:w.cell? ⟨wb,5,none⟩=some (.bool true)
 c6: ∃s,w.cell? ⟨wb,6,none⟩=some (.string s)∧s.size=22*e.seq
 c7:w.cell? ⟨wb,7,none⟩=some (.int .i64 (e.seq:Int))
 out:e.out= []
 good:Good e (22*e.seq)
 calm:Calm e
 bnd:e.seq≤2100*n
theorem KW.below(h:KW w0 w wb e n)(hb:Below w.heap.size w w'):KW w0 w' wb e n:=by
 obtain⟨s,c6,hz⟩:=h.c6;have hwl:=h.ke.2.2.1;exact⟨h.ke.below hb,h.kl.below hb,fun o=>(World.frozen?_of_block (a:=⟨wb,o,none⟩) (hb.block wb hwl)).trans (h.fz o),zA6 hb hwl h.c1,zA6 hb hwl h.c5,⟨s,zA6 hb hwl c6,hz⟩,zA6 hb hwl h.c7,h.out,h.good,h.calm,h.bnd⟩
theorem KW.later{m:Nat}(h:KW w0 w wb e n)(hm:n≤m):KW w0 w wb e m:=⟨h.ke,h.kl,h.fz,h.c1,h.c5,h.c6,h.c7,h.out,h.good,h.calm,by have:=h.bnd;omega⟩
theorem Calm.hush(h:Calm e):Calm e.hush:=⟨h.inv.cong rfl rfl rfl rfl rfl rfl,h.lv.cong rfl,h.fr.cong rfl,h.pegs.cong rfl,h.rest⟩
theorem Good.hush(h:Good e n):Good e.hush n:=⟨h.inv.cong rfl rfl rfl rfl rfl rfl,h.pegs.cong rfl,⟨h.dr.len,h.dr.bd⟩,h.rest,h.stm,h.drw,h.len,h.v0,h.v1,h.w0,h.w1,h.told⟩
theorem zT9(h:Calm e): ∀(j:Nat) (x:Ent),(bk e).l[j]? =some x→EB x∧(x.side=1∨x.side=2)∧(0≤x.price∧x.price≤1000000)∧(-1000000≤x.off∧x.off≤1000000):=by
 intro j x hx;have hx':(e.all.map Ord.ent)[j]? =some x:=hx;rw[List.getElem?_map]at hx';obtain⟨o,ho,rfl⟩:=Option.map_eq_some_iff.1 hx';have k:=h.inv.ok j o ho;have hm:=h.inv.mp1;have k1:=k.sum;have k2:=k.qty1;have k3:=k.prc0;have k4:=k.prc1;have k5:=k.off0;have k6:=k.off1;have k7:=k.can0;have k8:=k.fil0;refine⟨⟨k.shn0,k.shn1,k.fil0,k.can0,?_,?_,⟨k.prc0,?_⟩,fun c=>?_⟩,k.side,⟨k.prc0,?_⟩,?_,?_⟩
 ·show o.filled+o.cancelled+o.opn=o.qty;omega
 ·show o.qty≤_;omega
 ·show o.price≤_;omega
 ·have:0<o.opn:=by
   rcases c with c|c
   ·simpa [Ord.ent] using c
   ·exact c
  exact k.live ((h.lv j o ho).2 this)
 ·show o.price≤_;omega
 ·show -1000000≤o.off;omega
 ·show o.off≤_;omega
theorem Good.taking1{m:Nat}(h:Good e n)(hs:e.seq≤2100*m)(hm:m≤20000)(t:List UInt8)(ht:t.length≤1000):Taking (e.begin_ t) (e.begin_ t):=by
 obtain⟨h1,h2,h3,h4,h5,h6,h7,h8,h9,h10,h11,h12⟩:=h;have hr:(e.begin_ t).rest.length=e.rest.length+t.length:=by show(e.rest++t).length=_;rw[List.length_append]
 have ho:(e.begin_ t).out.length=0:=rfl;have hs:(e.begin_ t).seq=e.seq:=rfl;have hm:(e.begin_ t).stamp=e.stamp:=rfl;have hd:(e.begin_ t).drawn=e.drawn:=rfl;have ha:(e.begin_ t).all.length=e.all.length:=rfl;have hv:(e.begin_ t).volume=e.volume:=rfl;have hw:(e.begin_ t).worth=e.worth:=rfl;refine⟨h1.cong rfl rfl rfl rfl rfl rfl,⟨?_,?_,?_,?_,?_⟩,⟨?_,?_,?_,?_⟩,⟨h3.len,h3.bd⟩,?_,?_,⟨_,Nat.le_refl _,rfl⟩⟩<;>omega
def pickI(c n:Int):Int:=(if c<0 then -(c+1) else c) % n
theorem zA(c:Int){n:Int}(h:0<n):0≤pickI c n∧pickI c n<n:=⟨Int.emod_nonneg _ (by omega),Int.emod_lt_of_pos _ h⟩
theorem kpick(w:World)(c n:Int)(hc: -9223372036854775808≤c∧c≤9223372036854775807)(hn:0<n∧n≤1000000000):
 Calls Tryz.prog 14 #[.int .i64 c,.int .i64 n] w fun en w'=>en=.returned (.int .i64 (pickI c n))∧w'=w:=by
 have hn0: ¬n=0:=by omega
 have hn1: ¬n= -1:=by omega
 by_cases h:c<0
 ·have hw1:wrap64 (c+1)=c+1:=by unfold wrap64;omega
  have hw2:wrap64 (-(c+1))= -(c+1):=by unfold wrap64;omega
  have hv:(-(c+1)).tmod n=pickI c n:=by unfold pickI;rw[if_pos h,Int.tmod_eq_emod_of_nonneg (by omega)]
  have hw3:wrap64 (pickI c n)=pickI c n:=by have:=zA c hn.1;unfold wrap64;omega
  clear hc;go_enter Tryz.func14,Tryz.ntmps14;go_wp2;go_ret;exact⟨rfl,rfl⟩
 ·have hv:c.tmod n=pickI c n:=by unfold pickI;rw[if_neg h,Int.tmod_eq_emod_of_nonneg (by omega)]
  have hw3:wrap64 (pickI c n)=pickI c n:=by have:=zA c hn.1;unfold wrap64;omega
  clear hc;go_enter Tryz.func14,Tryz.ntmps14;go_wp2;go_ret;exact⟨rfl,rfl⟩
theorem wrapEqK(x:Int):IntKind.i64.wrap x=wrap64 x:=by rw[IntKind.wrap_i64];unfold wrap64;rfl
def KN(w0 w:World)(wb:Nat)(c0 c1 c2:Int)(ds:List Int):Prop:=Below w0.heap.size w0 w∧w0.heap.size≤wb∧(-9223372036854775808≤c0∧c0≤9223372036854775807)∧(-9223372036854775808≤c1∧c1≤9223372036854775807)∧(-9223372036854775808≤c2∧c2≤9223372036854775807)∧(∀x∈ds,-9223372036854775808≤x∧x≤9223372036854775807)∧ds.length≤1000000∧∃dv,w.heap[wb]? =some (.cells #[.int .i64 c0,.int .i64 c1,.int .i64 c2,dv,.pointer none,.bool false,.string ⟨#[]⟩,.int .i64 0,.slice none 0 0,.int .i64 0,.bool false] 33 (0,0))∧w.ownsRow (wb+1) 3 1 dv ds.length (ds.map (Value.int .i64))
def startE(c0 c1 c2:Int)(ds:List Int):Eng:=newEng (1+pickI c0 64) (1+pickI c1 1000000) (1+pickI c2 1000) ds
theorem zEh(c0 c1 c2:Int):okCfg (1+pickI c0 64) (1+pickI c1 1000000) (1+pickI c2 1000)=true:=by
 have h0:=zA c0 (n:=64) (by omega);have h1:=zA c1 (n:=1000000) (by omega);have h2:=zA c2 (n:=1000) (by omega);unfold okCfg;simp;omega
theorem KN.made{W:World}{nb:Nat}{c0 c1 c2:Int}{dv:Value}(h:KN w0 w wb c0 c1 c2 ds)(hb: ∀k,k<w.heap.size→k≠wb→W.heap[k]? =w.heap[k]?)(hos:W.os=w.os∧W.tape=w.tape∧W.output=w.output)(hsz:w.heap.size≤W.heap.size)(hW:W.heap[wb]? =some (.cells #[.int .i64 c0,.int .i64 (1+pickI c1 1000000),.int .i64 c2,dv,.pointer none,.bool true,.string ⟨#[]⟩,.int .i64 0,.slice none 0 0,.int .i64 0,.bool false] 33 (0,0)))(hN:NewDesk W w' nb (1+pickI c0 64) (1+pickI c1 1000000) (1+pickI c2 1000) ds):KW w0 (w'.setCell ⟨wb,4,none⟩ (.pointer (some ⟨nb,0,none⟩))) wb (startE c0 c1 c2 ds) n:=by
 obtain⟨hl,hlo,b0,b1,b2,hds,hdl,_,hwb,_⟩:=h;obtain⟨eb,g,hnb,hd,hC,hH,hP,hG⟩:=hN;have hwl:wb<w.heap.size:=(Array.getElem?_eq_some_iff.1 hwb).1;have hwW:wb<W.heap.size:=Nat.lt_of_lt_of_le hwl hsz;have hG':Below W.heap.size W w':=hG;have hw':w'.heap[wb]? =some (.cells #[.int .i64 c0,.int .i64 (1+pickI c1 1000000),.int .i64 c2,dv,.pointer none,.bool true,.string ⟨#[]⟩,.int .i64 0,.slice none 0 0,.int .i64 0,.bool false] 33 (0,0)):=(hG'.block wb hwW).trans hW;have hx:(w'.setCell ⟨wb,4,none⟩ (.pointer (some ⟨nb,0,none⟩))).heap[wb]? =some (.cells #[.int .i64 c0,.int .i64 (1+pickI c1 1000000),.int .i64 c2,dv,.pointer (some ⟨nb,0,none⟩),.bool true,.string ⟨#[]⟩,.int .i64 0,.slice none 0 0,.int .i64 0,.bool false] 33 (0,0)):=by
  rw[zB3 _ _ _ _ _ _ _ hw'];rfl
 have oth: ∀k,k≠wb→(w'.setCell ⟨wb,4,none⟩ (.pointer (some ⟨nb,0,none⟩))).heap[k]? =w'.heap[k]? :=fun k hk=>Below.heap_setCell _ _ _ _ hk
 have hnl:nb<w'.heap.size:=(Array.getElem?_eq_some_iff.1 hd).1;have hcc: ∀j v,#[Value.int .i64 c0,.int .i64 (1+pickI c1 1000000),.int .i64 c2,dv,.pointer (some ⟨nb,0,none⟩),.bool true,.string ⟨#[]⟩,.int .i64 0,.slice none 0 0,.int .i64 0,.bool false][j]? =some v→(w'.setCell ⟨wb,4,none⟩ (.pointer (some ⟨nb,0,none⟩))).cell? ⟨wb,j,none⟩=some v:=fun j v hv=>by
  unfold World.cell?;rw[hx];exact hv
 have nolb: ∀k,¬LB (w'.setCell ⟨wb,4,none⟩ (.pointer (some ⟨nb,0,none⟩))) wb k:=fun k ⟨m,cp,e⟩=>by
  rw[hcc 8 (.slice none 0 0) rfl]at e;cases e
 have hsz2:(w'.setCell ⟨wb,4,none⟩ (.pointer (some ⟨nb,0,none⟩))).heap.size=w'.heap.size:=by simp
 have hWw:=hG'.size;have hnb':W.heap.size≤nb:=hnb;refine⟨⟨⟨?_,?_,?_,?_,?_⟩,hlo,by rw[hsz2];omega,fun k hk=>absurd hk (nolb k),fun k=>W.heap.size≤k∧k≠nb∧k<w'.heap.size,nb,eb,g,noSets,W.heap.size+1,hcc 4 _ rfl,?_,by omega,nolb nb,fun c=>c.2.1 rfl,by rw[hsz2];exact hnl,fun _ c=>c.elim,fun k hk=>⟨by have:=hl.size;omega,by omega,nolb k,by rw[hsz2];exact hk.2.2⟩,?_,hH⟩,⟨⟨_,hcc 8 _ rfl,World.ownsRow_nil _ _ _ _⟩,hcc 9 _ rfl,by show([]:List Ent).length≤_;simp⟩,fun o=>by simp[World.frozen?,hx],hcc 1 _ rfl,hcc 5 _ rfl,⟨_,hcc 6 _ rfl,rfl⟩,hcc 7 _ rfl,rfl,zNb (zEh c0 c1 c2) (by omega) hds,⟨zGv (zEh c0 c1 c2),fun i o ho=>by simp[startE,newEng]at ho,?_,hP,rfl⟩,Nat.zero_le _⟩
 ·exact(hG'.os.trans hos.1).trans hl.os
 ·exact(hG'.tape.trans hos.2.1).trans hl.tape
 ·exact(hG'.output.trans hos.2.2).trans hl.output
 ·rw[hsz2];have:=hl.size;omega
 ·intro k hk;have:=hl.size;rw[oth k (by omega),hG'.block k (by omega),hb k (by omega) (by omega)];exact hl.block k hk
 ·unfold World.cell?;rw[oth nb (by omega),hd];rfl
 ·exact hC.move (by rw[hsz2];exact Nat.le_refl _) (fun k hk hF=>⟨oth k (by have:=hF.1;omega),.inl ⟨hF.1,hF.2,hk⟩⟩) (fun k hk=>.inr hk)
 ·exact⟨fun i o ho=>by simp[startE,newEng]at ho,fun i o ho=>by simp[startE,newEng]at ho,fun i j x y hx=>by simp[startE,newEng]at hx⟩
theorem kbegin{c0 c1 c2:Int}(n:Nat)(h:KN w0 w wb c0 c1 c2 ds):
 Calls Tryz.prog 12 #[.pointer (some ⟨wb,0,none⟩)] w fun en w'=>en=.returned (.bool true)∧Hid (KW w0 w' wb (startE c0 c1 c2 ds) n∧∀k,k<w.heap.size→k≠wb→w'.heap[k]? =w.heap[k]?):=by
 have HKN:=hid h;obtain⟨hl,hlo,b0,b1,b2,hds,hdl,dv,hwb,hdv⟩:=h;have cw: ∀j v,#[Value.int .i64 c0,.int .i64 c1,.int .i64 c2,dv,.pointer none,.bool false,.string ⟨#[]⟩,.int .i64 0,.slice none 0 0,.int .i64 0,.bool false][j]? =some v→w.cell? ⟨wb,j,none⟩=some v:=fun j v hv=>by
  unfold World.cell?;rw[hwb];exact hv
 have c5:w.cell? ⟨wb,5,none⟩=some (.bool false):=cw 5 _ rfl;have f5:w.frozen? ⟨wb,5,none⟩=false:=by simp[World.frozen?,hwb]
 have hx1:(w.setCell ⟨wb,5,none⟩ (.bool true)).heap[wb]? =some (.cells #[.int .i64 c0,.int .i64 c1,.int .i64 c2,dv,.pointer none,.bool true,.string ⟨#[]⟩,.int .i64 0,.slice none 0 0,.int .i64 0,.bool false] 33 (0,0)):=by
  rw[zB3 _ _ _ _ _ _ _ hwb];rfl
 have HX1:=hid hx1;have HO1:Hid (∀k,k≠wb→(w.setCell ⟨wb,5,none⟩ (.bool true)).heap[k]? =w.heap[k]?):=fun k hk=>Below.heap_setCell _ _ _ _ hk
 have HS1:Hid ((w.setCell ⟨wb,5,none⟩ (.bool true)).heap.size=w.heap.size∧wb<w.heap.size∧(w.setCell ⟨wb,5,none⟩ (.bool true)).os=w.os∧(w.setCell ⟨wb,5,none⟩ (.bool true)).tape=w.tape∧(w.setCell ⟨wb,5,none⟩ (.bool true)).output=w.output):=⟨by simp,(Array.getElem?_eq_some_iff.1 hwb).1,rfl,rfl,rfl⟩;have HDV:=hid hdv;have HP0:Hid (∀W,Calls Tryz.prog 14 #[.int .i64 c0,.int .i64 64] W fun en w'=>en=.returned (.int .i64 (pickI c0 64))∧w'=W):=fun W=>kpick W c0 64 b0 (by omega)
 have HP1:Hid (∀W,Calls Tryz.prog 14 #[.int .i64 c1,.int .i64 1000000] W fun en w'=>en=.returned (.int .i64 (pickI c1 1000000))∧w'=W):=fun W=>kpick W c1 1000000 b1 (by omega)
 have HP2:Hid (∀W,Calls Tryz.prog 14 #[.int .i64 c2,.int .i64 1000] W fun en w'=>en=.returned (.int .i64 (pickI c2 1000))∧w'=W):=fun W=>kpick W c2 1000 b2 (by omega)
 have hA:=zA c0 (n:=64) (by omega);have hB:=zA c1 (n:=1000000) (by omega);have hC:=zA c2 (n:=1000) (by omega);have wA:IntKind.i64.wrap (1+pickI c0 64)=1+pickI c0 64:=by rw[wrapEqK];unfold wrap64;omega
 have wB:IntKind.i64.wrap (1+pickI c1 1000000)=1+pickI c1 1000000:=by rw[wrapEqK];unfold wrap64;omega
 have wC:IntKind.i64.wrap (1+pickI c2 1000)=1+pickI c2 1000:=by rw[wrapEqK];unfold wrap64;omega
 clear hl hlo b0 b1 b2 hds hdl hwb hdv cw hx1 hA hB hC;go_enter Tryz.func12,Tryz.ntmps12;go_wp2_with(with_reducible first|refine zDz ?_|refine zDy ?_);clear c5 f5;generalize w.setCell ⟨wb,5,none⟩ (.bool true)=W1 at *;try with_reducible refine hidO ?_
 have k0:W1.cell? ⟨wb,0,none⟩=some (.int .i64 c0):=by unfold World.cell?;rw[HX1.out];rfl
 have k1:W1.cell? ⟨wb,1,none⟩=some (.int .i64 c1):=by unfold World.cell?;rw[HX1.out];rfl
 have k2:W1.cell? ⟨wb,2,none⟩=some (.int .i64 c2):=by unfold World.cell?;rw[HX1.out];rfl
 go_wp2_with fail;have hwb1:wb<W1.heap.size:=by have:=HS1.out;omega
 go_region_held3(fun X=>X.cell? ⟨wb,0,none⟩=some (.int .i64 c0)∧X.cell? ⟨wb,1,none⟩=some (.int .i64 c1)∧X.cell? ⟨wb,2,none⟩=some (.int .i64 c2)) (first
  |exact⟨k0,k1,k2⟩
  |exact⟨(World.cell?_alloc_lt _ _ _ hwb1).trans k0,(World.cell?_alloc_lt _ _ _ hwb1).trans k1,(World.cell?_alloc_lt _ _ _ hwb1).trans k2⟩) (first
  |(with_reducible refine(HP0.out _).mono ?_;rintro en w' ⟨rfl,rfl⟩)
  |(with_reducible refine(HP1.out _).mono ?_;rintro en w' ⟨rfl,rfl⟩)
  |(with_reducible refine(HP2.out _).mono ?_;rintro en w' ⟨rfl,rfl⟩))
 all_goals(
  clear k0 k1 k2 HP0 HP1 HP2 wA wB wC;have hcb:W1.heap.size≠wb:=by omega
  have HX2:Hid ((W1.alloc (.cells #[.int .i64 (1+pickI c0 64),.int .i64 (1+pickI c1 1000000),.int .i64 (1+pickI c2 1000)] 59)).drew.heap[wb]? =some (.cells #[.int .i64 c0,.int .i64 c1,.int .i64 c2,dv,.pointer none,.bool true,.string ⟨#[]⟩,.int .i64 0,.slice none 0 0,.int .i64 0,.bool false] 33 (0,0))):=(Below.heap_alloc W1 _ wb hwb1).trans HX1.out;have HC2:Hid ((W1.alloc (.cells #[.int .i64 (1+pickI c0 64),.int .i64 (1+pickI c1 1000000),.int .i64 (1+pickI c2 1000)] 59)).drew.heap[W1.heap.size]? =some (.cells #[.int .i64 (1+pickI c0 64),.int .i64 (1+pickI c1 1000000),.int .i64 (1+pickI c2 1000)] 59)):=heapNew W1 _;have HO2:Hid (∀k,k<W1.heap.size→(W1.alloc (.cells #[.int .i64 (1+pickI c0 64),.int .i64 (1+pickI c1 1000000),.int .i64 (1+pickI c2 1000)] 59)).drew.heap[k]? =W1.heap[k]?):=fun k hk=>Below.heap_alloc W1 _ k hk
  have HZ2:Hid ((W1.alloc (.cells #[.int .i64 (1+pickI c0 64),.int .i64 (1+pickI c1 1000000),.int .i64 (1+pickI c2 1000)] 59)).drew.heap.size=W1.heap.size+1∧(W1.alloc (.cells #[.int .i64 (1+pickI c0 64),.int .i64 (1+pickI c1 1000000),.int .i64 (1+pickI c2 1000)] 59)).drew.os=W1.os∧(W1.alloc (.cells #[.int .i64 (1+pickI c0 64),.int .i64 (1+pickI c1 1000000),.int .i64 (1+pickI c2 1000)] 59)).drew.output=W1.output):=⟨by show(W1.alloc _).heap.size=_;simp,rfl,rfl⟩;have HT2:Hid ((W1.alloc (.cells #[.int .i64 (1+pickI c0 64),.int .i64 (1+pickI c1 1000000),.int .i64 (1+pickI c2 1000)] 59)).drew.tape=W1.tape):=rfl;generalize hcc:W1.heap.size=cb at *;generalize (W1.alloc (.cells #[.int .i64 (1+pickI c0 64),.int .i64 (1+pickI c1 1000000),.int .i64 (1+pickI c2 1000)] 59)).drew=W2 at *;clear hcc;have d1:W2.cell? ⟨cb,1,none⟩=some (.int .i64 (1+pickI c1 1000000)):=by unfold World.cell?;rw[HC2.out];rfl
  have e1:W2.cell? ⟨wb,1,none⟩=some (.int .i64 c1):=by unfold World.cell?;rw[HX2.out];rfl
  have g1:W2.frozen? ⟨wb,1,none⟩=false:=by have:=HX2.out;simp[World.frozen?,this]
  go_wp2_with fail;go_region;all_goals(
   have HX3:Hid ((W2.setCell ⟨wb,1,none⟩ (.int .i64 (1+pickI c1 1000000))).drew.heap[wb]? =some (.cells #[.int .i64 c0,.int .i64 (1+pickI c1 1000000),.int .i64 c2,dv,.pointer none,.bool true,.string ⟨#[]⟩,.int .i64 0,.slice none 0 0,.int .i64 0,.bool false] 33 (0,0))):=by
    show(W2.setCell ⟨wb,1,none⟩ (.int .i64 (1+pickI c1 1000000))).heap[wb]? =_;rw[zB3 _ _ _ _ _ _ _ HX2.out];rfl
   have HO3:Hid (∀k,k≠wb→(W2.setCell ⟨wb,1,none⟩ (.int .i64 (1+pickI c1 1000000))).drew.heap[k]? =W2.heap[k]?):=fun k hk=>Below.heap_setCell _ _ _ _ hk
   have HZ3:Hid ((W2.setCell ⟨wb,1,none⟩ (.int .i64 (1+pickI c1 1000000))).drew.heap.size=W2.heap.size∧(W2.setCell ⟨wb,1,none⟩ (.int .i64 (1+pickI c1 1000000))).drew.os=W2.os∧(W2.setCell ⟨wb,1,none⟩ (.int .i64 (1+pickI c1 1000000))).drew.output=W2.output∧(W2.setCell ⟨wb,1,none⟩ (.int .i64 (1+pickI c1 1000000))).drew.tape=W2.tape):=⟨by show(W2.setCell _ _).heap.size=_;simp,rfl,rfl,rfl⟩;clear d1 e1 g1;generalize (W2.setCell ⟨wb,1,none⟩ (.int .i64 (1+pickI c1 1000000))).drew=W3 at *;have HC3:Hid (W3.heap[cb]? =some (.cells #[.int .i64 (1+pickI c0 64),.int .i64 (1+pickI c1 1000000),.int .i64 (1+pickI c2 1000)] 59)):=(HO3.out cb hcb).trans HC2.out;have p0:W3.cell? ⟨cb,0,none⟩=some (.int .i64 (1+pickI c0 64)):=by unfold World.cell?;rw[HC3.out];rfl
   have p1:W3.cell? ⟨cb,1,none⟩=some (.int .i64 (1+pickI c1 1000000)):=by unfold World.cell?;rw[HC3.out];rfl
   have p2:W3.cell? ⟨cb,2,none⟩=some (.int .i64 (1+pickI c2 1000)):=by unfold World.cell?;rw[HC3.out];rfl
   have p3:W3.cell? ⟨wb,3,none⟩=some dv:=by unfold World.cell?;rw[HX3.out];rfl
   have HNW:Hid (Calls Tryz.prog 20 #[.agg #[.int .i64 (1+pickI c0 64),.int .i64 (1+pickI c1 1000000),.int .i64 (1+pickI c2 1000)],dv] W3.drew fun en w'=> ∃nb,en=.returned (.tuple #[.pointer (some ⟨nb,0,none⟩),.int .i64 0])∧Hid (NewDesk W3.drew w' nb (1+pickI c0 64) (1+pickI c1 1000000) (1+pickI c2 1000) ds)):=by
    refine zQh _ _ _ dv (wb+1) ds W3.drew ?_ (by have:=HKN.out.2.2.2.2.2.2.1;omega) (zEh c0 c1 c2);have hr:=HDV.out;refine⟨hr.1,?_⟩;rcases hr.2 with h2|⟨gg,cp,cur,hv,hg,hh,r⟩
    ·exact .inl h2
    ·refine .inr ⟨gg,cp,cur,hv,hg,?_,r⟩;have hgl:=(Array.getElem?_eq_some_iff.1 hh).1;show W3.heap[gg]? =_;rw[HO3.out gg (by omega),HO2.out gg (by have:=HS1.out.1;omega),HO1.out gg (by omega)];exact hh
   go_wp2_with fail;have HS3:Hid ((fun X=>X.cell? ⟨cb,0,none⟩=some (.int .i64 (1+pickI c0 64))∧X.cell? ⟨cb,1,none⟩=some (.int .i64 (1+pickI c1 1000000))∧X.cell? ⟨cb,2,none⟩=some (.int .i64 (1+pickI c2 1000))∧X.cell? ⟨wb,3,none⟩=some dv) W3.drew):=⟨p0,p1,p2,p3⟩;refine zF2 10 (fun X=>X.cell? ⟨cb,0,none⟩=some (.int .i64 (1+pickI c0 64))∧X.cell? ⟨cb,1,none⟩=some (.int .i64 (1+pickI c1 1000000))∧X.cell? ⟨cb,2,none⟩=some (.int .i64 (1+pickI c2 1000))∧X.cell? ⟨wb,3,none⟩=some dv) (by kernel_rfl) ?_;refine zA9 (i:=0) (v:=.agg #[.int .i64 (1+pickI c0 64),.int .i64 (1+pickI c1 1000000),.int .i64 (1+pickI c2 1000)]) (by rfl) (by kernel_rfl) (by kernel_rfl) (by kernel_rfl) (by kernel_rfl) (by exact fun _ _ _ h=>h) (Or.inl ⟨by rfl,?_⟩) HS3.out ?_
   ·intro W hW;obtain⟨y0,y1,y2,y3⟩:=hW;go_simp
   simp only[Act.put,List.setIfInBounds_toArray,List.set_cons_zero,List.set_cons_succ];refine zA9 (i:=1) (v:=.pointer (some ⟨wb,0,none⟩)) (by rfl) (by kernel_rfl) (by kernel_rfl) (by kernel_rfl) (by kernel_rfl) (by exact fun _ _ _ h=>h) (Or.inl ⟨by rfl,?_⟩) HS3.out ?_
   ·intro W _;go_simp
   simp only[Act.put,List.setIfInBounds_toArray,List.set_cons_zero,List.set_cons_succ];refine zA9 (i:=2) (v:=.pointer (some ⟨wb,0,none⟩)) (by rfl) (by kernel_rfl) (by kernel_rfl) (by kernel_rfl) (by kernel_rfl) (by exact fun _ _ _ h=>h) (Or.inl ⟨by rfl,?_⟩) HS3.out ?_
   ·intro W _;go_simp
   simp only[Act.put,List.setIfInBounds_toArray,List.set_cons_zero,List.set_cons_succ];refine zA9 (i:=3) (v:=.pointer (some ⟨wb,3,none⟩)) (by rfl) (by kernel_rfl) (by kernel_rfl) (by kernel_rfl) (by kernel_rfl) (by exact fun _ _ _ h=>h) (Or.inl ⟨by rfl,?_⟩) HS3.out ?_
   ·intro W _;go_simp
   simp only[Act.put,List.setIfInBounds_toArray,List.set_cons_zero,List.set_cons_succ];refine zA9 (i:=4) (v:=dv) (by rfl) (by kernel_rfl) (by kernel_rfl) (by kernel_rfl) (by kernel_rfl) (by exact fun _ _ _ h=>h) (Or.inl ⟨by rfl,?_⟩) HS3.out ?_
   ·intro W hW;obtain⟨y0,y1,y2,y3⟩:=hW;go_simp
   simp only[Act.put,List.setIfInBounds_toArray,List.set_cons_zero,List.set_cons_succ];refine zBe (i:=5) (by kernel_rfl) (by rfl) (fun K hK=>?_);go_simp;refine HNW.out.mono ?_;rintro en W4 ⟨nb,rfl,HND⟩;have hgr:Below W3.drew.heap.size W3.drew W4:=by obtain⟨_,_,_,_,_,_,_,hG⟩:=HND.out;exact hG
   have hz3:W3.drew.heap.size=W3.heap.size:=rfl;have hcl:cb<W3.drew.heap.size:=(Array.getElem?_eq_some_iff.1 (show W3.drew.heap[cb]? =_ from HC3.out)).1;have hwl4:wb<W3.drew.heap.size:=(Array.getElem?_eq_some_iff.1 (show W3.drew.heap[wb]? =_ from HX3.out)).1;have HS4:Hid ((fun X=>X.cell? ⟨cb,0,none⟩=some (.int .i64 (1+pickI c0 64))∧X.cell? ⟨cb,1,none⟩=some (.int .i64 (1+pickI c1 1000000))∧X.cell? ⟨cb,2,none⟩=some (.int .i64 (1+pickI c2 1000))∧X.cell? ⟨wb,3,none⟩=some dv) W4):=⟨zA6 hgr hcl HS3.out.1,zA6 hgr hcl HS3.out.2.1,zA6 hgr hcl HS3.out.2.2.1,zA6 hgr hwl4 HS3.out.2.2.2⟩;have HX4:Hid (W4.heap[wb]? =W3.heap[wb]?):=hgr.block wb hwl4;have HFIN:Hid (KW w0 (W4.setCell ⟨wb,4,none⟩ (.pointer (some ⟨nb,0,none⟩))) wb (startE c0 c1 c2 ds) n):=KN.made (W:=W3.drew) HKN.out (fun k hk hn=>by
    show W3.heap[k]? =_;rw[HO3.out k hn,HO2.out k (by have:=HS1.out.1;omega),HO1.out k hn]) ⟨HZ3.out.2.1.trans (HZ2.out.2.1.trans HS1.out.2.2.1),HZ3.out.2.2.2.trans (HT2.out.trans HS1.out.2.2.2.1),HZ3.out.2.2.1.trans (HZ2.out.2.2.trans HS1.out.2.2.2.2)⟩ (by show w.heap.size≤W3.heap.size;have:=HZ3.out.1;have:=HZ2.out.1;have:=HS1.out.1;omega) HX3.out HND.out
   have HFRM:Hid (∀k,k<w.heap.size→k≠wb→(W4.setCell ⟨wb,4,none⟩ (.pointer (some ⟨nb,0,none⟩))).heap[k]? =w.heap[k]?):=fun k hk hn=>by
    rw[Below.heap_setCell _ _ _ _ hn,hgr.block k (by rw[hz3];have:=HZ3.out.1;have:=HZ2.out.1;have:=HS1.out.1;omega)];show W3.heap[k]? =_;rw[HO3.out k hn,HO2.out k (by have:=HS1.out.1;omega),HO1.out k hn]
   clear hgr hz3 hcl hwl4 HND HNW;try simp only[]
   refine hK.out _ _ (.inr HS4.out) ?_;clear hK K;try simp only[Act.put,List.setIfInBounds_toArray,List.set_cons_zero,List.set_cons_succ]
   refine zA9 (i:=6) (v:=.tuple #[.pointer (some ⟨nb,0,none⟩),.int .i64 0]) (by rfl) (by kernel_rfl) (by kernel_rfl) (by kernel_rfl) (by kernel_rfl) (by exact fun _ _ _ h=>h) (Or.inl ⟨by rfl,?_⟩) HS4.out ?_
   ·intro W _;go_simp
   simp only[Act.put,List.setIfInBounds_toArray,List.set_cons_zero,List.set_cons_succ];refine zA9 (i:=7) (v:=.pointer (some ⟨nb,0,none⟩)) (by rfl) (by kernel_rfl) (by kernel_rfl) (by kernel_rfl) (by kernel_rfl) (by exact fun _ _ _ h=>h) (Or.inl ⟨by rfl,?_⟩) HS4.out ?_
   ·intro W _;go_simp
   simp only[Act.put,List.setIfInBounds_toArray,List.set_cons_zero,List.set_cons_succ];refine zA9 (i:=8) (v:=.int .i64 0) (by rfl) (by kernel_rfl) (by kernel_rfl) (by kernel_rfl) (by kernel_rfl) (by exact fun _ _ _ h=>h) (Or.inl ⟨by rfl,?_⟩) HS4.out ?_
   ·intro W _;go_simp
   simp only[Act.put,List.setIfInBounds_toArray,List.set_cons_zero,List.set_cons_succ];refine zA9 (i:=9) (v:=.pointer (some ⟨nb,0,none⟩)) (by rfl) (by kernel_rfl) (by kernel_rfl) (by kernel_rfl) (by kernel_rfl) (by exact fun _ _ _ h=>h) (Or.inl ⟨by rfl,?_⟩) HS4.out ?_
   ·intro W _;go_simp
   simp only[Act.put,List.setIfInBounds_toArray,List.set_cons_zero,List.set_cons_succ];refine zBe (i:=10) (by kernel_rfl) (by rfl) (fun K hK=>?_);go_simp;refine hK.out _ _ (.inl rfl) ?_;clear hK K;refine zF1 (by kernel_rfl) ?_ _;try simp only[Act.put,List.setIfInBounds_toArray,List.set_cons_zero,List.set_cons_succ]
   have q4:W4.cell? ⟨wb,4,none⟩=some (.pointer none):=by unfold World.cell?;rw[HX4.out,HX3.out];rfl
   have g4:W4.frozen? ⟨wb,4,none⟩=false:=by have:=HX4.out.trans HX3.out;simp[World.frozen?,this]
   clear p0 p1 p2 p3 HS3 HS4;go_wp2;go_ret;exact⟨rfl,hid ⟨HFIN.out,HFRM.out⟩⟩))
end Go.Proofs.YtanfmhonjpjpoaaGreatDoor
