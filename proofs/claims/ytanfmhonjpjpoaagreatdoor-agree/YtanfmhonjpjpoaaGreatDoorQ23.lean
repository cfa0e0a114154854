import Derived.Test.YtanfmhonjpjpoaaGreatDoorQ00
import Derived.Test.YtanfmhonjpjpoaaGreatDoorQ10
import Derived.Test.YtanfmhonjpjpoaaGreatDoorQ18
set_option linter.all false
set_option maxRecDepth 100000
set_option maxHeartbeats 8000000
namespace Go.Proofs.YtanfmhonjpjpoaaGreatDoor
variable{e e0 E:Eng}{i n:Nat}{o:Ord}{v:Nat→Int}
section
open Go.Extern Go.RowKit
structure Taking(e0:Eng)(E:Eng):Prop where
 inv:Eng.EInv E
 room:Room (2200*E.rest.length+10) E
 sums:Sums (1000*E.rest.length) E
 dr:Dr E
 len:E.all.length+E.rest.length<1000000000
 sz:E.rest.length≤1000000000
 fuel: ∃f:Nat,E.rest.length≤f∧Eng.steps f E=Eng.steps e0.rest.length e0
theorem Taking.step(h:Taking e0 E)(hn:nextE (ba E.rest)≠4):Taking e0 E.frame.follow∧E.frame.follow.rest.length<E.rest.length:=by
 obtain⟨h1,h2,h3⟩:=Eng.step_more h.inv;have hl:=Eng.cut_len E hn;have hrl:E.frame.follow.rest.length=E.cut.rest.length:=by rw[h2.rest]
 have a1:=h2.len1;have a2:E.cut.all.length=E.all.length:=rfl;obtain⟨f,f1,f2⟩:=h.fuel;obtain⟨f',rfl⟩: ∃f',f=f' +1:=⟨f - 1,by omega⟩;have r:=h.room;have su:=h.sums;have g:=h3;refine⟨⟨h1,⟨?_,?_,?_,?_,?_⟩,⟨?_,?_,?_,?_⟩,⟨by rw[h2.draws];exact h.dr.len,by rw[h2.draws];exact h.dr.bd⟩,by have:=h.len;omega,by have:=h.sz;omega,⟨f',by omega,?_⟩⟩,by omega⟩
 ·have:=r.seq;have:=g.seq1;omega
 ·have:=r.stm;have:=g.stm1;omega
 ·have:=r.out;have:=g.out;have:=g.seq1;omega
 ·have:=r.len;have:=h.len;omega
 ·have:=r.drw;have:=g.drw1;omega
 ·have:=su.v0;have:=g.vol0;omega
 ·have:=su.v1;have:=g.vol1;omega
 ·have:=su.w0;have:=su.v0;have:=g.wor0;have:=g.vol0;omega
 ·have:=su.w1;have:=g.wor1;omega
 ·rw[←f2,Eng.steps,if_neg hn]
theorem Taking.done(h:Taking e0 E)(hn:nextE (ba E.rest)=4):Eng.steps e0.rest.length e0=E:=by
 obtain⟨f,f1,f2⟩:=h.fuel;rw[←f2];cases f with
 |zero=>rfl
 |succ f=>rw[Eng.steps,if_pos hn]
theorem Taking.mid(h:Taking e0 E)(hn:nextE (ba E.rest)≠4):Room 2200 E.cut∧Sums 1000 E.cut∧Dr E.cut∧E.cut.all.length<1000000000∧Eng.EInv E.cut∧Eng.EInv E.frame∧Room 100 E.frame:=by
 have hl:=Eng.cut_len E hn;obtain⟨h1,h2,g⟩:=Eng.frame_more h.inv;have r:=h.room;have su:=h.sums;have hle:=h.len;have a1:=h2.len1;have a2:E.cut.all.length=E.all.length:=rfl;refine⟨⟨?_,?_,?_,?_,?_⟩,⟨su.v0,?_,su.w0,?_⟩,⟨h.dr.len,h.dr.bd⟩,by omega,Eng.cut_inv h.inv,h1,⟨?_,?_,?_,?_,?_⟩⟩
 ·have:=r.seq;show E.seq+_≤_;omega
 ·have:=r.stm;show E.stamp+_≤_;omega
 ·have:=r.out;show E.out.length+_≤_;omega
 ·omega
 ·have:=r.drw;show E.drawn+_≤_;omega
 ·have:=su.v1;show E.volume+_≤_;omega
 ·have:=su.w1;show E.worth+_≤_;omega
 ·have:=r.seq;have:=g.seq1;omega
 ·have:=r.stm;have:=g.stm1;omega
 ·have:=r.out;have:=g.out;have:=g.seq1;omega
 ·omega
 ·have:=r.drw;have:=g.drw1;omega
end
section
namespace Eng
structure Tie(e e':Eng):Prop where
 seq:e.seq≤e'.seq
 stm:e'.stamp+e.seq≤e.stamp+e'.seq
 drw:e'.drawn+e.seq≤e.drawn+e'.seq
 vol:e'.volume+1000*(e.seq:Int)≤e.volume+1000*(e'.seq:Int)
 wor:e'.worth+1000000000*(e.seq:Int)≤e.worth+1000000000*(e'.seq:Int)
 len:e'.all.length+e.seq≤e.all.length+e'.seq
theorem Tie.of{e':Eng}(h1:e'.stamp=e.stamp)(h2:e'.drawn=e.drawn)(h3:e'.volume=e.volume)(h4:e'.worth=e.worth)(h5:e'.all.length=e.all.length)(h6:e.seq≤e'.seq):Tie e e':=
 ⟨h6,by omega,by omega,by omega,by omega,by omega⟩
theorem Tie.refl(e:Eng):Tie e e:=Tie.of rfl rfl rfl rfl rfl (Nat.le_refl _)
theorem Tie.trans{a b c:Eng}(h:Tie a b)(k:Tie b c):Tie a c:=by
 obtain⟨a0,a1,a2,a3,a4,a5⟩:=h;obtain⟨b0,b1,b2,b3,b4,b5⟩:=k;exact⟨by omega,by omega,by omega,by omega,by omega,by omega⟩
theorem Tie.upd(e:Eng)(i:Nat)(f:Ord→Ord):Tie e (e.upd i f):=Tie.of rfl rfl rfl rfl (upd_len _ _ _) (Nat.le_refl _)
theorem Tie.tell(e:Eng)(a b c d f g:Int):Tie e (e.tell a b c d f g):=Tie.of rfl rfl rfl rfl rfl (Nat.le_succ _)
theorem Tie.lay(ho:e.all[i]? =some o)(n:Int):Tie e (e.lay i n):=by
 have hl:=lay_len e i n;have hd:=lay_drawn e i n;have h1:(e.lay i n).stamp=e.stamp+1:=by unfold Eng.lay;rw[ho];rfl
 have h2:(e.lay i n).seq=e.seq+1:=by unfold Eng.lay;rw[ho];rfl
 have h3:(e.lay i n).volume=e.volume:=by unfold Eng.lay;rw[ho];rfl
 have h4:(e.lay i n).worth=e.worth:=by unfold Eng.lay;rw[ho];rfl
 exact⟨by omega,by omega,by omega,by omega,by omega,by omega⟩
theorem Tie.trade1(i k:Nat)(o r:Ord)(h1:1≤qtyOf o r)(hq:qtyOf o r≤1000)(h2:1≤r.price)(h3:r.price≤1000000):Tie e (e.trade1 i k o r):=by
 have hl:=trade1_len e i k o r;have hs:(e.trade1 i k o r).seq=e.seq+1:=rfl;have hm:(e.trade1 i k o r).stamp=e.stamp:=rfl;have hd:(e.trade1 i k o r).drawn=e.drawn:=rfl;have hv:(e.trade1 i k o r).volume=e.volume+qtyOf o r:=rfl;have hw:(e.trade1 i k o r).worth=e.worth+qtyOf o r*r.price:=rfl;have m2:qtyOf o r*r.price≤qtyOf o r*1000000:=Int.mul_le_mul_of_nonneg_left h3 (by omega);exact⟨by omega,by omega,by omega,by omega,by omega,by omega⟩
theorem Tie.trade2{k:Nat}{x:Ord}(hx:e.all[k]? =some x)(r:Ord):Tie e (e.trade2 k r):=by
 unfold Eng.trade2;split
 ·exact Tie.upd e k _
 ·split
  ·have h:=Tie.lay (e:=e.draw.2) hx (if r.opn<1+e.draw.1 % r.peak then r.opn else 1+e.draw.1 % r.peak);have hs:(e.draw.2.lay k (if r.opn<1+e.draw.1 % r.peak then r.opn else 1+e.draw.1 % r.peak)).seq=e.seq+1:=by
    have hx':e.draw.2.all[k]? =some x:=hx;unfold Eng.lay;rw[hx'];rfl
   have hd:=lay_drawn e.draw.2 k (if r.opn<1+e.draw.1 % r.peak then r.opn else 1+e.draw.1 % r.peak);obtain⟨b0,b1,b2,b3,b4,b5⟩:=h;have hd2:e.draw.2.drawn=e.drawn+1:=rfl;exact⟨b0,b1,by show(e.draw.2.lay k _).drawn+e.seq≤e.drawn+(e.draw.2.lay k _).seq;omega,b3,b4,b5⟩
  ·exact Tie.refl e
theorem trade_tie(h:EInv e){k:Nat}{r:Ord}(ho:e.all[i]? =some o)(hr:e.all[k]? =some r)(hne:i≠k)(hop:0<o.opn)(hrs:r.shown≠0):Tie e (e.trade i k):=by
 have kr:=h.ok k r hr;have ko:=h.ok i o ho;obtain⟨q1,q2,q3⟩:=qty_bd kr hop hrs;rw[trade_eq e i k o r ho hr hne];have hk1:(e.trade1 i k o r).all[k]? =some (tradeR o r):=by rw[trade1_at,if_pos rfl,hr];rfl
 exact(Tie.trade1 (e:=e) i k o r q1 (by have:=ko.sum;have:=ko.fil0;have:=ko.can0;have:=ko.qty1;omega) (kr.shp (by omega)) (by have:=kr.prc1;have:=h.mp1;omega)).trans (Tie.trade2 hk1 (tradeR o r))
theorem trades_tie: ∀(f:Nat) {e:Eng} {i:Nat} {o:Ord},EInv e→e.all[i]? =some o→o.status=1→o.shown=0→Tie e (trades f e i)
 |0,e,i,o,h,ho,hs,hsh=>Tie.refl e
 |f+1,e,i,o,h,ho,hs,hsh=>by
  unfold trades;split
  ·rename_i k hm;obtain⟨r,hr,hne,hop,hr1,hst,hr2,hmt,i1,et,i2,hi,hlt,h0⟩:=trade_step h ho hs hsh hm;exact(trade_tie h ho hr hne hop hr1).trans (trades_tie f i2 hi hs hsh)
  ·exact Tie.refl e
theorem swept_tie(e:Eng)(i:Nat):Tie e (swept e i):=by
 rcases ho:e.all[i]? with _|o
 ·unfold swept;rw[ho];exact Tie.refl e
 ·unfold swept;rw[ho];simp only;split
  ·exact Tie.upd e i _
  ·exact Tie.lay ho _
theorem sweep_tie(h:EInv e)(ho:e.all[i]? =some o)(hs:o.status=1)(hsh:o.shown=0):Tie e (e.sweep i):=by
 rw[sweep_eq];exact(trades_tie _ h ho hs hsh).trans (swept_tie _ i)
theorem gone_tie(e:Eng)(i:Nat)(reason:Int):Tie e (e.gone i reason):=by
 unfold gone;split
 ·exact(Tie.upd e i _).trans (Tie.tell _ _ _ _ _ _ _)
 ·exact Tie.refl e
theorem fold_tie(f:Eng→Nat→Eng)(h1: ∀e i,Tie e (f e i)): ∀(l:List Nat) (e:Eng),Tie e (l.foldl f e)
 | [],e=>Tie.refl e
 |i::r,e=>by rw[List.foldl_cons];exact(h1 e i).trans (fold_tie f h1 r _)
theorem due_tie(e:Eng)(p:Ord→Bool)(reason:Int):Tie e (e.due p reason):=fold_tie _ (fun e i=>by
 rcases dueOne_at p reason e i with h1|⟨_,h2⟩
 ·rw[h1];exact Tie.refl e
 ·rw[h2];exact gone_tie _ _ _) _ e
theorem move_tie(e:Eng)(i:Nat)(o:Ord)(p:Int):Tie e (e.move i o p):=by
 have hl:(e.move i o p).all.length=e.all.length:=upd_len _ _ _;have h1:(e.move i o p).stamp=e.stamp+1:=rfl;have h2:(e.move i o p).seq=e.seq+1:=rfl;have h3:(e.move i o p).volume=e.volume:=rfl;have h4:(e.move i o p).worth=e.worth:=rfl;have h5:(e.move i o p).drawn=e.drawn:=rfl;exact⟨by omega,by omega,by omega,by omega,by omega,by omega⟩
theorem follow_tie(e:Eng):Tie e e.follow:=fold_tie _ (fun e i=>by
 rcases followOne_at e i with h1|⟨o,_,_,_,_,⟨_,h2⟩|⟨_,h2⟩⟩
 ·rw[h1];exact Tie.refl e
 ·rw[h2];exact(Tie.upd e i _).trans (Tie.tell _ _ _ _ _ _ _)
 ·rw[h2];exact move_tie _ _ _ _) _ e
theorem enter_tie(e:Eng)(v:Nat→Int):Tie e (e.enter v):=by
 have hl:(e.enter v).all.length=e.all.length+1:=by show(e.all++ [newOrd v]).length=_;simp
 have h1:(e.enter v).stamp=e.stamp:=rfl;have h2:(e.enter v).seq=e.seq+1:=rfl;have h3:(e.enter v).volume=e.volume:=rfl;have h4:(e.enter v).worth=e.worth:=rfl;have h5:(e.enter v).drawn=e.drawn:=rfl;exact⟨by omega,by omega,by omega,by omega,by omega,by omega⟩
theorem fresh_tie(h:EInv e)(hv:VOk v):Tie e (e.fresh v):=by
 rw[fresh_eq];split
 ·exact Tie.tell _ _ _ _ _ _ _
 ·rename_i hw;have hw:e.why v=0:=by simpa using hw
  obtain⟨h1,h2⟩:=enter_inv h hv hw;split
  ·exact enter_tie _ _
  ·exact(enter_tie _ _).trans (sweep_tie h1 h2 rfl rfl)
theorem cancel_tie(e:Eng)(id:Int):Tie e (e.cancel id):=by
 unfold cancel;split
 ·exact gone_tie _ _ _
 ·exact Tie.tell _ _ _ _ _ _ _
theorem replace_tie(h:EInv e)(v:Nat→Int):Tie e (e.replace v):=by
 rw[replace_eq];split
 ·exact Tie.tell _ _ _ _ _ _ _
 ·rename_i i hi;obtain⟨o,ho,_,hs⟩:=liveAt_some hi;rw[ho];simp only;by_cases h5:(if o.typ=3 then v 3 == 0 else inn (v 3) 1 e.mp)=false
  ·rw[if_pos h5];exact Tie.tell _ _ _ _ _ _ _
  ·rw[if_neg h5];by_cases h6:inn (v 4) (o.filled+1) e.mq=false
   ·rw[if_pos h6];exact Tie.tell _ _ _ _ _ _ _
   ·rw[if_neg h6];have h5':(if o.typ=3 then v 3 == 0 else inn (v 3) 1 e.mp)=true:=Bool.not_eq_false _▸h5;have h6':inn (v 4) (o.filled+1) e.mq=true:=Bool.not_eq_false _▸h6;have h1:Tie e (e.repTell i o v):=(Tie.upd e i _).trans (Tie.tell _ _ _ _ _ _ _);have hi1:(e.repTell i o v).all[i]? =some (repO o (v 4)):=by show(e.upd i fun _=>repO o (v 4)).all[i]? =_;exact upd_same _ _ _ _ ho
    unfold repEnd;split
    ·exact h1.trans (Tie.upd _ _ _)
    ·split
     ·rename_i ht;have hi2:((e.repTell i o v).upd i fun o=>{ o with price:=v 3,shown:=0 }).all[i]? =some { repO o (v 4) with price:=v 3,shown:=0 }:=upd_same _ _ _ (repO o (v 4)) hi1;exact(h1.trans (Tie.upd _ _ _)).trans (sweep_tie (rep_sw_inv h ho hs v ht h5' h6') hi2 hs rfl)
     ·split
      ·exact h1.trans (Tie.lay hi1 _)
      ·exact h1
theorem run_tie(h:EInv e)(kind:Int)(hv:VOk v):Tie e (e.run kind v):=by
 unfold run;split
 ·exact fresh_tie h hv
 ·split
  ·exact cancel_tie _ _
  ·split
   ·exact replace_tie h v
   ·split
    ·unfold tick;split
     ·exact Tie.tell _ _ _ _ _ _ _
     ·obtain⟨b0,b1,b2,b3,b4,b5⟩:=due_tie { e with now:=v 8 } (fun o=>o.life == 3 && decide (o.time≤v 8)) 2;exact⟨b0,b1,b2,b3,b4,b5⟩
    ·split
     ·exact due_tie _ _ _
     ·exact Tie.refl e
theorem step_tie(h:EInv e):Tie e e.frame.follow:=by
 have h1:Tie e e.cut:=Tie.of rfl rfl rfl rfl rfl (Nat.le_refl _);refine Tie.trans ?_ (follow_tie _);unfold frame;split
 ·exact h1.trans (Tie.tell _ _ _ _ _ _ _)
 ·exact h1.trans (run_tie (cut_inv h) _ (zAn _))
theorem step_pegs(h:EInv e)(hp:Pegs e):Pegs e.frame.follow:=by
 refine Pegs.follow ?_;unfold frame;split
 ·exact Pegs.cong (e:=e) hp rfl
 ·exact Pegs.run (e:=e.cut) (hp.cong rfl) (cut_inv h) _ (zAn _)
structure Went(e e':Eng):Prop where
 inv:EInv e'
 pegs:Pegs e'
 tie:Tie e e'
 out:e'.out.length+22*e.seq=e.out.length+22*e'.seq
 vol:e.volume≤e'.volume
 wor:e.worth+e'.volume≤e'.worth+e.volume
 draws:e'.draws=e.draws
theorem steps_went: ∀(f:Nat) {e:Eng},EInv e→Pegs e→Went e (steps f e)∧(e.rest.length≤f→(steps f e).rest.length≤255)
 |0,e,h,hp=>⟨⟨h,hp,Tie.refl e,rfl,Int.le_refl _,Int.le_refl _,rfl⟩,fun hf=>by show e.rest.length≤255;omega⟩
 |f+1,e,h,hp=>by
  unfold steps;split
  ·rename_i h4;refine⟨⟨h,hp,Tie.refl e,rfl,Int.le_refl _,Int.le_refl _,rfl⟩,fun _=>?_⟩;unfold nextE at h4;rw[zA3]at h4;have hb:=zAs (ba e.rest) 0;by_cases h0:e.rest.length=0
   ·omega
   ·rw[if_neg h0]at h4;by_cases h1:bAt (ba e.rest) 0=0
    ·rw[if_pos h1]at h4;cases h4
    ·rw[if_neg h1]at h4;by_cases h2:e.rest.length<bAt (ba e.rest) 0+1
     ·omega
     ·rw[if_neg h2]at h4;split at h4<;>cases h4
  ·rename_i h4;obtain⟨s1,s2,s3⟩:=step_more h;have s4:=step_tie h;have s5:=step_pegs h hp;obtain⟨⟨i1,i2,i3,i4,i5,i6,i7⟩,i8⟩:=steps_went f s1 s5;refine⟨⟨i1,i2,s4.trans i3,?_,?_,?_,i7.trans s2.draws⟩,fun hf=>i8 ?_⟩
   ·have:=s3.out;have:=s3.seq0;omega
   ·have:=s3.vol0;omega
   ·have:=s3.wor0;omega
   ·have h1:=cut_len e h4;have h2:e.frame.follow.rest.length=e.cut.rest.length:=by rw[s2.rest]
    omega
end Eng
structure Good(e:Eng)(n:Nat):Prop where
 inv:Eng.EInv e
 pegs:Eng.Pegs e
 dr:Dr e
 rest:e.rest.length≤255
 stm:e.stamp≤e.seq
 drw:e.drawn≤e.seq
 len:e.all.length≤e.seq
 v0:0≤e.volume
 v1:e.volume≤1000*(e.seq:Int)
 w0:e.volume≤e.worth
 w1:e.worth≤1000000000*(e.seq:Int)
 told:n=22*e.seq
theorem Good.taking(h:Good e n)(hn:n≤1048576)(t:List UInt8)(ht:t.length≤1048576):Taking (e.begin_ t) (e.begin_ t):=by
 obtain⟨h1,h2,h3,h4,h5,h6,h7,h8,h9,h10,h11,h12⟩:=h;have hr:(e.begin_ t).rest.length=e.rest.length+t.length:=by show(e.rest++t).length=_;rw[List.length_append]
 have ho:(e.begin_ t).out.length=0:=rfl;have hs:(e.begin_ t).seq=e.seq:=rfl;have hm:(e.begin_ t).stamp=e.stamp:=rfl;have hd:(e.begin_ t).drawn=e.drawn:=rfl;have ha:(e.begin_ t).all.length=e.all.length:=rfl;have hv:(e.begin_ t).volume=e.volume:=rfl;have hw:(e.begin_ t).worth=e.worth:=rfl;refine⟨h1.cong rfl rfl rfl rfl rfl rfl,⟨?_,?_,?_,?_,?_⟩,⟨?_,?_,?_,?_⟩,⟨h3.len,h3.bd⟩,?_,?_,⟨_,Nat.le_refl _,rfl⟩⟩<;>omega
theorem Good.apply(h:Good e n)(t:List UInt8):Good (e.apply t) (n+(e.apply t).out.length)∧(e.apply t).draws=e.draws:=by
 obtain⟨h1,h2,h3,h4,h5,h6,h7,h8,h9,h10,h11,h12⟩:=h;obtain⟨⟨i1,i2,i3,i4,i5,i6,i7⟩,i8⟩:=Eng.steps_went (e.rest.length+t.length) (e:=e.begin_ t) (h1.cong rfl rfl rfl rfl rfl rfl) (Eng.Pegs.cong (e:=e) h2 rfl);obtain⟨j0,j1,j2,j3,j4,j5⟩:=i3;have ea:Eng.steps (e.rest.length+t.length) (e.begin_ t)=e.apply t:=rfl;rw[ea]at i1 i2 i4 i5 i6 i7 i8 j0 j1 j2 j3 j4 j5;have hr:(e.begin_ t).rest.length=e.rest.length+t.length:=by show(e.rest++t).length=_;rw[List.length_append]
 have ho:(e.begin_ t).out.length=0:=rfl;have hs:(e.begin_ t).seq=e.seq:=rfl;have hm:(e.begin_ t).stamp=e.stamp:=rfl;have hd:(e.begin_ t).drawn=e.drawn:=rfl;have ha:(e.begin_ t).all.length=e.all.length:=rfl;have hv:(e.begin_ t).volume=e.volume:=rfl;have hw:(e.begin_ t).worth=e.worth:=rfl;rw[ho,hs]at i4;rw[hv,hw]at i6;rw[hv]at i5;rw[hs]at j0;rw[hs,hm]at j1;rw[hs,hd]at j2;rw[hs,hv]at j3;rw[hs,hw]at j4;rw[hs,ha]at j5;refine⟨⟨i1,i2,⟨by rw[i7];exact h3.len,by rw[i7];exact h3.bd⟩,i8 (by omega),by omega,by omega,by omega,by omega,by omega,by omega,by omega,by omega⟩,i7⟩
theorem Good.out(h:Good e n)(hn:n≤1048576)(t:List UInt8)(ht:t.length≤1048576):(e.apply t).out.length≤100000000000:=by
 have key: ∀(f:Nat) {E:Eng},Eng.EInv E→(Eng.steps f E).seq≤E.seq+2100*f:=by
  intro f
  induction f with
  |zero=>intro E _;exact Nat.le_refl _
  |succ f ih=>
   intro E hE;unfold Eng.steps;split
   ·omega
   ·obtain⟨s1,s2,s3⟩:=Eng.step_more hE;have:=ih s1;have:=s3.seq1;omega
 have h1:=key (e.rest.length+t.length) (E:=e.begin_ t) (h.inv.cong rfl rfl rfl rfl rfl rfl);have h2:=(Good.apply h t).1.told;have h3:=h.told;have h4:=h.rest;have hs:(e.begin_ t).seq=e.seq:=rfl;have ea:Eng.steps (e.rest.length+t.length) (e.begin_ t)=e.apply t:=rfl;rw[ea,hs]at h1;omega
theorem zNb{a b c:Int}{ds:List Int}(h:okCfg a b c=true)(hl:ds.length≤1000000000)(hd: ∀x∈ds,-9223372036854775808≤x∧x≤9223372036854775807):Good (newEng a b c ds) 0:=
 ⟨zGv h,fun i o ho=>by simp[newEng]at ho,⟨hl,hd⟩,Nat.zero_le _,Nat.le_refl _,Nat.le_refl _,Nat.le_refl _,Int.le_refl _,Int.le_refl _,Int.le_refl _,Int.le_refl _,rfl⟩
end
end Go.Proofs.YtanfmhonjpjpoaaGreatDoor
