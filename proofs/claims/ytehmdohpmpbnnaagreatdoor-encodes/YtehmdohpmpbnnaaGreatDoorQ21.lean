import Derived.Test.YtehmdohpmpbnnaaGreatDoorQ00
import Derived.Test.YtehmdohpmpbnnaaGreatDoorQ04
import Derived.Test.YtehmdohpmpbnnaaGreatDoorQ09
import Derived.Test.YtehmdohpmpbnnaaGreatDoorQ16
import Derived.Test.YtehmdohpmpbnnaaGreatDoorQ18
import Derived.Test.YtehmdohpmpbnnaaGreatDoorQ19
import Derived.BigQuiet
import Derived.Deep.QuietTactic
import Derived.Deep.AppendLies
import Derived.Deep.RegionHeld3
set_option linter.all false
set_option maxRecDepth 100000
set_option maxHeartbeats 8000000
namespace Go.Proofs.YtehmdohpmpbnnaaGreatDoor
variable{e e' e0 E:bf}{w' w2:World}{i k n:Nat}{o:Ord}{S':jk}{F1:Nat→Prop}{v:Nat→Int}{L:List Nat}
open Go.Proofs.Tryz
section
open Go.Extern Go.RowKit
structure eF(e0:bf)(E:bf):Prop where
 inv:bf.fe E
 room:Room (2200*E.rest.length+10) E
 sums:jR (1000*E.rest.length) E
 dr:Dr E
 len:E.all.length+E.rest.length<1000000000
 sz:E.rest.length≤1000000000
 fuel:∃f:Nat,E.rest.length≤f∧bf.steps f E=bf.steps e0.rest.length e0
theorem eF.step(h:eF e0 E)(hn:jy (ba E.rest)≠4):eF e0 E.frame.follow∧E.frame.follow.rest.length<E.rest.length:=by
 obtain⟨F,B,G⟩:=bf.kE h.inv;have L:=bf.cut_len E hn;have H:E.frame.follow.rest.length=E.cut.rest.length:=by rw[B.rest]
 have I:=B.len1;have J:E.cut.all.length=E.all.length:=rfl;obtain⟨f,K,D⟩:=h.fuel;obtain⟨C,rfl⟩:∃C,f=C +1:=⟨f - 1,by omega⟩;have r:=h.room;have A:=h.sums;have g:=G;refine⟨⟨F,⟨?_,?_,?_,?_,?_⟩,⟨?_,?_,?_,?_⟩,⟨by rw[B.gz];exact h.dr.len,by rw[B.gz];exact h.dr.bd⟩,by have:=h.len;omega,by have:=h.sz;omega,⟨C,by omega,?_⟩⟩,by omega⟩
 ·have:=r.seq;have:=g.seq1;omega
 ·have:=r.qC;have:=g.tL;omega
 ·have:=r.out;have:=g.out;have:=g.seq1;omega
 ·have:=r.len;have:=h.len;omega
 ·have:=r.fD;have:=g.drw1;omega
 ·have:=A.v0;have:=g.vol0;omega
 ·have:=A.v1;have:=g.vol1;omega
 ·have:=A.w0;have:=A.v0;have:=g.wor0;have:=g.vol0;omega
 ·have:=A.w1;have:=g.wor1;omega
 rw[←D,bf.steps,if_neg hn]
theorem eF.done(h:eF e0 E)(hn:jy (ba E.rest)=4):bf.steps e0.rest.length e0=E:=by
 obtain⟨f,B,A⟩:=h.fuel;rw[←A];cases f with
 |zero=>rfl
 |succ f=>rw[bf.steps,if_pos hn]
theorem eF.mid(h:eF e0 E)(hn:jy (ba E.rest)≠4):Room 2200 E.cut∧jR 1000 E.cut∧Dr E.cut∧E.cut.all.length<1000000000∧bf.fe E.cut∧bf.fe E.frame∧Room 100 E.frame:=by
 have H:=bf.cut_len E hn;obtain⟨B,C,g⟩:=bf.vT h.inv;have r:=h.room;have A:=h.sums;have D:=h.len;have F:=C.len1;have G:E.cut.all.length=E.all.length:=rfl;refine⟨⟨?_,?_,?_,?_,?_⟩,⟨A.v0,?_,A.w0,?_⟩,⟨h.dr.len,h.dr.bd⟩,by omega,bf.cut_inv h.inv,B,⟨?_,?_,?_,?_,?_⟩⟩
 ·have:=r.seq;show E.seq+_≤_;omega
 ·have:=r.qC;show E.dh+_≤_;omega
 ·have:=r.out;show E.out.length+_≤_;omega
 ·omega
 ·have:=r.fD;show E.drawn+_≤_;omega
 ·have:=A.v1;show E.gq+_≤_;omega
 ·have:=A.w1;show E.worth+_≤_;omega
 ·have:=r.seq;have:=g.seq1;omega
 ·have:=r.qC;have:=g.tL;omega
 ·have:=r.out;have:=g.out;have:=g.seq1;omega
 ·omega
 have:=r.fD;have:=g.drw1;omega
end
section
namespace bf
structure Tie(e e':bf):Prop where
 seq:e.seq≤e'.seq
 qC:e'.dh+e.seq≤e.dh+e'.seq
 fD:e'.drawn+e.seq≤e.drawn+e'.seq
 vol:e'.gq+1000*(e.seq:Int)≤e.gq+1000*(e'.seq:Int)
 wor:e'.worth+1000000000*(e.seq:Int)≤e.worth+1000000000*(e'.seq:Int)
 len:e'.all.length+e.seq≤e.all.length+e'.seq
theorem Tie.of(h1:e'.dh=e.dh)(h2:e'.drawn=e.drawn)(h3:e'.gq=e.gq)(h4:e'.worth=e.worth)(h5:e'.all.length=e.all.length)(h6:e.seq≤e'.seq):Tie e e':=
 ⟨h6,by omega,by omega,by omega,by omega,by omega⟩
theorem Tie.refl(e:bf):Tie e e:=Tie.of rfl rfl rfl rfl rfl (Nat.le_refl _)
theorem Tie.trans{a b c:bf}(h:Tie a b)(k:Tie b c):Tie a c:=by
 obtain⟨A,B,C,D,E,F⟩:=h;obtain⟨G,H,I,J,K,L⟩:=k;exact⟨by omega,by omega,by omega,by omega,by omega,by omega⟩
theorem Tie.upd(e:bf)(i:Nat)(f:Ord→Ord):Tie e (e.upd i f):=Tie.of rfl rfl rfl rfl (kz _ _ _) (Nat.le_refl _)
theorem Tie.tell(e:bf)(a b c d f g:Int):Tie e (e.tell a b c d f g):=Tie.of rfl rfl rfl rfl rfl (Nat.le_succ _)
theorem Tie.lay(ho:e.all[i]? =some o)(n:Int):Tie e (e.lay i n):=by
 have F:=lay_len e i n;have E:=lay_drawn e i n;have A:(e.lay i n).dh=e.dh+1:=by unfold bf.lay;rw[ho];rfl
 have B:(e.lay i n).seq=e.seq+1:=by unfold bf.lay;rw[ho];rfl
 have C:(e.lay i n).gq=e.gq:=by unfold bf.lay;rw[ho];rfl
 have D:(e.lay i n).worth=e.worth:=by unfold bf.lay;rw[ho];rfl
 exact⟨by omega,by omega,by omega,by omega,by omega,by omega⟩
theorem Tie.dx(i k:Nat)(o r:Ord)(h1:1≤gy o r)(hq:gy o r≤1000)(h2:1≤r.bn)(h3:r.bn≤1000000):Tie e (e.dx i k o r):=by
 have B:=gD e i k o r;have D:(e.dx i k o r).seq=e.seq+1:=rfl;have C:(e.dx i k o r).dh=e.dh:=rfl;have A:(e.dx i k o r).drawn=e.drawn:=rfl;have E:(e.dx i k o r).gq=e.gq+gy o r:=rfl;have F:(e.dx i k o r).worth=e.worth+gy o r*r.bn:=rfl;have G:gy o r*r.bn≤gy o r*1000000:=Int.mul_le_mul_of_nonneg_left h3 (by omega);exact⟨by omega,by omega,by omega,by omega,by omega,by omega⟩
theorem Tie.rq{x:Ord}(hx:e.all[k]? =some x)(r:Ord):Tie e (e.rq k r):=by
 unfold bf.rq;split
 ·exact Tie.upd e k _
 split
 ·have h:=Tie.lay (e:=e.draw.2) hx (if r.opn<1+e.draw.1 % r.jw then r.opn else 1+e.draw.1 % r.jw);have J:(e.draw.2.lay k (if r.opn<1+e.draw.1 % r.jw then r.opn else 1+e.draw.1 % r.jw)).seq=e.seq+1:=by
   have A:e.draw.2.all[k]? =some x:=hx;unfold bf.lay;rw[A];rfl
  have I:=lay_drawn e.draw.2 k (if r.opn<1+e.draw.1 % r.jw then r.opn else 1+e.draw.1 % r.jw);obtain⟨B,C,H,D,E,F⟩:=h;have G:e.draw.2.drawn=e.drawn+1:=rfl;exact⟨B,C,by show(e.draw.2.lay k _).drawn+e.seq≤e.drawn+(e.draw.2.lay k _).seq;omega,D,E,F⟩
 exact Tie.refl e
theorem trade_tie(h:fe e){r:Ord}(ho:e.all[i]? =some o)(hr:e.all[k]? =some r)(hne:i≠k)(hop:0<o.opn)(hrs:r.bg≠0):Tie e (e.sw i k):=by
 have C:=h.ok k r hr;have A:=h.ok i o ho;obtain⟨D,E,F⟩:=vM C hop hrs;rw[gZ e i k o r ho hr hne];have B:(e.dx i k o r).all[k]? =some (jb o r):=by rw[cK,if_pos rfl,hr];rfl
 exact(Tie.dx (e:=e) i k o r D (by have:=A.sum;have:=A.fJ;have:=A.jN;have:=A.fH;omega) (C.shp (by omega)) (by have:=C.gY;have:=h.oN;omega)).trans (Tie.rq B (jb o r))
theorem trades_tie:∀(f:Nat) {e:bf} {i:Nat} {o:Ord},fe e→e.all[i]? =some o→o.dm=1→o.bg=0→Tie e (qg f e i)
 |0,e,i,o,h,ho,hs,hsh=>Tie.refl e
 |f+1,e,i,o,h,ho,hs,hsh=>by
  unfold qg;split
  ·rename_i k hm;obtain⟨r,hr,hne,hop,hr1,hst,hr2,hmt,i1,et,i2,hi,hlt,h0⟩:=bJ h ho hs hsh hm;exact(trade_tie h ho hr hne hop hr1).trans (trades_tie f i2 hi hs hsh)
  exact Tie.refl e
theorem swept_tie(e:bf)(i:Nat):Tie e (dP e i):=by
 rcases ho:e.all[i]? with _|o
 ·unfold dP;rw[ho];exact Tie.refl e
 unfold dP;rw[ho];simp only;split
 ·exact Tie.upd e i _
 exact Tie.lay ho _
theorem sweep_tie(h:fe e)(ho:e.all[i]? =some o)(hs:o.dm=1)(hsh:o.bg=0):Tie e (e.zy i):=by
 rw[kK];exact(trades_tie _ h ho hs hsh).trans (swept_tie _ i)
theorem gone_tie(e:bf)(i:Nat)(reason:Int):Tie e (e.gone i reason):=by
 unfold gone;split
 ·exact(Tie.upd e i _).trans (Tie.tell _ _ _ _ _ _ _)
 exact Tie.refl e
theorem fold_tie(f:bf→Nat→bf)(h1:∀e i,Tie e (f e i)):∀(l:List Nat) (e:bf),Tie e (l.foldl f e)
 | [],e=>Tie.refl e
 |i::r,e=>by rw[List.foldl_cons];exact(h1 e i).trans (fold_tie f h1 r _)
theorem due_tie(e:bf)(p:Ord→Bool)(reason:Int):Tie e (e.due p reason):=fold_tie _ (fun e i=>by
 rcases gF p reason e i with h1|⟨_,h2⟩
 ·rw[h1];exact Tie.refl e
 rw[h2];exact gone_tie _ _ _) _ e
theorem move_tie(e:bf)(i:Nat)(o:Ord)(p:Int):Tie e (e.move i o p):=by
 have F:(e.move i o p).all.length=e.all.length:=kz _ _ _;have A:(e.move i o p).dh=e.dh+1:=rfl;have B:(e.move i o p).seq=e.seq+1:=rfl;have C:(e.move i o p).gq=e.gq:=rfl;have D:(e.move i o p).worth=e.worth:=rfl;have E:(e.move i o p).drawn=e.drawn:=rfl;exact⟨by omega,by omega,by omega,by omega,by omega,by omega⟩
theorem follow_tie(e:bf):Tie e e.follow:=fold_tie _ (fun e i=>by
 rcases zq e i with h1|⟨o,_,_,_,_,⟨_,h2⟩|⟨_,h2⟩⟩
 ·rw[h1];exact Tie.refl e
 ·rw[h2];exact(Tie.upd e i _).trans (Tie.tell _ _ _ _ _ _ _)
 rw[h2];exact move_tie _ _ _ _) _ e
theorem enter_tie(e:bf)(v:Nat→Int):Tie e (e.enter v):=by
 have F:(e.enter v).all.length=e.all.length+1:=by show(e.all++ [vg v]).length=_;simp
 have A:(e.enter v).dh=e.dh:=rfl;have B:(e.enter v).seq=e.seq+1:=rfl;have C:(e.enter v).gq=e.gq:=rfl;have D:(e.enter v).worth=e.worth:=rfl;have E:(e.enter v).drawn=e.drawn:=rfl;exact⟨by omega,by omega,by omega,by omega,by omega,by omega⟩
theorem fresh_tie(h:fe e)(hv:VOk v):Tie e (e.fresh v):=by
 rw[bV];split
 ·exact Tie.tell _ _ _ _ _ _ _
 rename_i A;have A:e.why v=0:=by simpa using A
 obtain⟨B,C⟩:=jY h hv A;split
 ·exact enter_tie _ _
 exact(enter_tie _ _).trans (sweep_tie B C rfl rfl)
theorem cancel_tie(e:bf)(id:Int):Tie e (e.cancel id):=by
 unfold cancel;split
 ·exact gone_tie _ _ _
 exact Tie.tell _ _ _ _ _ _ _
theorem replace_tie(h:fe e)(v:Nat→Int):Tie e (e.replace v):=by
 rw[aX];split
 ·exact Tie.tell _ _ _ _ _ _ _
 rename_i i J;obtain⟨o,H,_,I⟩:=bE J;rw[H];simp only;by_cases C:(if o.typ=3 then v 3 == 0 else rf (v 3) 1 e.mp)=false
 ·rw[if_pos C];exact Tie.tell _ _ _ _ _ _ _
 rw[if_neg C];by_cases E:rf (v 4) (o.bu+1) e.mq=false
 ·rw[if_pos E];exact Tie.tell _ _ _ _ _ _ _
 rw[if_neg E];have D:(if o.typ=3 then v 3 == 0 else rf (v 3) 1 e.mp)=true:=Bool.not_eq_false _▸C;have F:rf (v 4) (o.bu+1) e.mq=true:=Bool.not_eq_false _▸E;have B:Tie e (e.jh i o v):=(Tie.upd e i _).trans (Tie.tell _ _ _ _ _ _ _);have A:(e.jh i o v).all[i]? =some (jd o (v 4)):=by show(e.upd i fun _=>jd o (v 4)).all[i]? =_;exact upd_same _ _ _ _ H
 unfold aR;split
 ·exact B.trans (Tie.upd _ _ _)
 split
 ·rename_i K;have G:((e.jh i o v).upd i fun o=>{ o with bn:=v 3,bg:=0 }).all[i]? =some { jd o (v 4) with bn:=v 3,bg:=0 }:=upd_same _ _ _ (jd o (v 4)) A;exact(B.trans (Tie.upd _ _ _)).trans (sweep_tie (kL h H I v K D F) G I rfl)
 split
 ·exact B.trans (Tie.lay A _)
 exact B
theorem run_tie(h:fe e)(kind:Int)(hv:VOk v):Tie e (e.run kind v):=by
 unfold run;split
 ·exact fresh_tie h hv
 split
 ·exact cancel_tie _ _
 split
 ·exact replace_tie h v
 split
 ·unfold tick;split
  ·exact Tie.tell _ _ _ _ _ _ _
  obtain⟨A,B,C,D,E,F⟩:=due_tie { e with now:=v 8 } (fun o=>o.jr == 3 && decide (o.time≤v 8)) 2;exact⟨A,B,C,D,E,F⟩
 split
 ·exact due_tie _ _ _
 exact Tie.refl e
theorem step_tie(h:fe e):Tie e e.frame.follow:=by
 have A:Tie e e.cut:=Tie.of rfl rfl rfl rfl rfl (Nat.le_refl _);refine Tie.trans ?_ (follow_tie _);unfold frame;split
 ·exact A.trans (Tie.tell _ _ _ _ _ _ _)
 exact A.trans (run_tie (cut_inv h) _ (kV _))
theorem step_pegs(h:fe e)(hp:qd e):qd e.frame.follow:=by
 refine qd.follow ?_;unfold frame;split
 ·exact qd.vz (e:=e) hp rfl
 exact qd.run (e:=e.cut) (hp.vz rfl) (cut_inv h) _ (kV _)
structure Went(e e':bf):Prop where
 inv:fe e'
 pegs:qd e'
 tie:Tie e e'
 out:e'.out.length+22*e.seq=e.out.length+22*e'.seq
 vol:e.gq≤e'.gq
 wor:e.worth+e'.gq≤e'.worth+e.gq
 gz:e'.gz=e.gz
theorem steps_went:∀(f:Nat) {e:bf},fe e→qd e→Went e (steps f e)∧(e.rest.length≤f→(steps f e).rest.length≤255)
 |0,e,h,hp=>⟨⟨h,hp,Tie.refl e,rfl,Int.le_refl _,Int.le_refl _,rfl⟩,fun hf=>by show e.rest.length≤255;omega⟩
 |f+1,e,h,hp=>by
  unfold steps;split
  ·rename_i h4;refine⟨⟨h,hp,Tie.refl e,rfl,Int.le_refl _,Int.le_refl _,rfl⟩,fun _=>?_⟩;unfold jy at h4;rw[zx]at h4;have hb:=mP (ba e.rest) 0;by_cases h0:e.rest.length=0
   ·omega
   rw[if_neg h0]at h4;by_cases h1:zw (ba e.rest) 0=0
   ·rw[if_pos h1]at h4;cases h4
   rw[if_neg h1]at h4;by_cases h2:e.rest.length<zw (ba e.rest) 0+1
   ·omega
   rw[if_neg h2]at h4;split at h4<;>cases h4
  rename_i h4;obtain⟨s1,s2,s3⟩:=kE h;have s4:=step_tie h;have s5:=step_pegs h hp;obtain⟨⟨i1,i2,i3,i4,i5,i6,i7⟩,i8⟩:=steps_went f s1 s5;refine⟨⟨i1,i2,s4.trans i3,?_,?_,?_,i7.trans s2.gz⟩,fun hf=>i8 ?_⟩
  ·have:=s3.out;have:=s3.seq0;omega
  ·have:=s3.vol0;omega
  ·have:=s3.wor0;omega
  have h1:=cut_len e h4;have h2:e.frame.follow.rest.length=e.cut.rest.length:=by rw[s2.rest]
  omega
end bf
structure Good(e:bf)(n:Nat):Prop where
 inv:bf.fe e
 pegs:bf.qd e
 dr:Dr e
 rest:e.rest.length≤255
 qC:e.dh≤e.seq
 fD:e.drawn≤e.seq
 len:e.all.length≤e.seq
 v0:0≤e.gq
 v1:e.gq≤1000*(e.seq:Int)
 w0:e.gq≤e.worth
 w1:e.worth≤1000000000*(e.seq:Int)
 told:n=22*e.seq
theorem Good.taking(h:Good e n)(hn:n≤1048576)(t:List UInt8)(ht:t.length≤1048576):eF (e.qc t) (e.qc t):=by
 obtain⟨B,F,A,G,H,I,J,K,L,C,D,E⟩:=h;have S:(e.qc t).rest.length=e.rest.length+t.length:=by show(e.rest++t).length=_;rw[List.length_append]
 have R:(e.qc t).out.length=0:=rfl;have T:(e.qc t).seq=e.seq:=rfl;have O:(e.qc t).dh=e.dh:=rfl;have N:(e.qc t).drawn=e.drawn:=rfl;have M:(e.qc t).all.length=e.all.length:=rfl;have U:(e.qc t).gq=e.gq:=rfl;have V:(e.qc t).worth=e.worth:=rfl;refine⟨B.vz rfl rfl rfl rfl rfl rfl,⟨?_,?_,?_,?_,?_⟩,⟨?_,?_,?_,?_⟩,⟨A.len,A.bd⟩,?_,?_,⟨_,Nat.le_refl _,rfl⟩⟩<;>omega
theorem Good.apply(h:Good e n)(t:List UInt8):Good (e.apply t) (n+(e.apply t).out.length)∧(e.apply t).gz=e.gz:=by
 obtain⟨U,Z,D,i,j,k,l,m,p,V,X,Y⟩:=h;obtain⟨⟨F,G,g,H,I,J,B⟩,K⟩:=bf.steps_went (e.rest.length+t.length) (e:=e.qc t) (U.vz rfl rfl rfl rfl rfl rfl) (bf.qd.vz (e:=e) Z rfl);obtain⟨L,M,N,O,R,S⟩:=g;have T:bf.steps (e.rest.length+t.length) (e.qc t)=e.apply t:=rfl;rw[T]at F G H I J B K L M N O R S;have q:(e.qc t).rest.length=e.rest.length+t.length:=by show(e.rest++t).length=_;rw[List.length_append]
 have f:(e.qc t).out.length=0:=rfl;have A:(e.qc t).seq=e.seq:=rfl;have d:(e.qc t).dh=e.dh:=rfl;have c:(e.qc t).drawn=e.drawn:=rfl;have b:(e.qc t).all.length=e.all.length:=rfl;have C:(e.qc t).gq=e.gq:=rfl;have E:(e.qc t).worth=e.worth:=rfl;rw[f,A]at H;rw[C,E]at J;rw[C]at I;rw[A]at L;rw[A,d]at M;rw[A,c]at N;rw[A,C]at O;rw[A,E]at R;rw[A,b]at S;refine⟨⟨F,G,⟨by rw[B];exact D.len,by rw[B];exact D.bd⟩,K (by omega),by omega,by omega,by omega,by omega,by omega,by omega,by omega,by omega⟩,B⟩
theorem Good.out(h:Good e n)(hn:n≤1048576)(t:List UInt8)(ht:t.length≤1048576):(e.apply t).out.length≤100000000000:=by
 have A:∀(f:Nat) {E:bf},bf.fe E→(bf.steps f E).seq≤E.seq+2100*f:=by
  intro f
  induction f with
  |zero=>intro E _;exact Nat.le_refl _
  |succ f ih=>
   intro E D;unfold bf.steps;split
   ·omega
   obtain⟨G,L,H⟩:=bf.kE D;have:=ih G;have:=H.seq1;omega
 have C:=A (e.rest.length+t.length) (E:=e.qc t) (h.inv.vz rfl rfl rfl rfl rfl rfl);have I:=(Good.apply h t).1.told;have J:=h.told;have K:=h.rest;have F:(e.qc t).seq=e.seq:=rfl;have B:bf.steps (e.rest.length+t.length) (e.qc t)=e.apply t:=rfl;rw[B,F]at C;omega
theorem zCi{a b c:Int}{ds:List Int}(h:dV a b c=true)(hl:ds.length≤1000000000)(hd:∀x∈ds,-9223372036854775808≤x∧x≤9223372036854775807):Good (dG a b c ds) 0:=
 ⟨zFb h,fun i o ho=>by simp[dG]at ho,⟨hl,hd⟩,Nat.zero_le _,Nat.le_refl _,Nat.le_refl _,Nat.le_refl _,Int.le_refl _,Int.le_refl _,Int.le_refl _,Int.le_refl _,rfl⟩
end
section
open Go.Extern Go.RowKit
section
theorem zGg(x:Int)(w:World):Cl 156 #[iV x] w fun en w'=>en=rB false∧w'=w:=by
 go_enter func156,ntmps156;go_wp2;go_ret;exact⟨rfl,rfl⟩
def oC(x y:Int):Int:=if x<y then -1 else if y<x then 1 else 0
theorem zCj(x y:Int)(w:World):Cl 115 #[iV x,iV y] w fun en w'=>en=.returned (iV (oC x y))∧w'=w:=by
 have B:Hd (∀(x:Int) (W:World),Cl 156 #[iV x] W fun en w'=>en=rB false∧w'=W):=fun x W=>zGg x W
 by_cases C:x<y
 ·have A:Hd (oC x y= -1):=if_pos C;go_enter func115,ntmps115;go_wp2_with(go_at_call 156;refine(B _ _).mono ?_;rintro en w' ⟨rfl,rfl⟩);go_ret;exact⟨by rw[A.o];rfl,rfl⟩
 by_cases D:y<x
 ·have A:Hd (oC x y=1):=(if_neg C).trans (if_pos D);go_enter func115,ntmps115;go_wp2_with(go_at_call 156;refine(B _ _).mono ?_;rintro en w' ⟨rfl,rfl⟩);go_ret;exact⟨by rw[A.o];rfl,rfl⟩
 have A:Hd (oC x y=0):=(if_neg C).trans (if_neg D);go_enter func115,ntmps115;go_wp2_with(go_at_call 156;refine(B _ _).mono ?_;rintro en w' ⟨rfl,rfl⟩);go_ret;exact⟨by rw[A.o];rfl,rfl⟩
theorem zGh(p q:Nat)(x y:Int)(w:World)(h1:w.cell? (iA p 9)=sI x)(h2:w.cell? (iA q 9)=sI y):Cl 158 #[iP p,iP q] w fun en w'=>en=.returned (iV (oC x y))∧∃n,w'=w.drewN n:=by
 have A:Hd (∀W:World,Cl 115 #[iV x,iV y] W fun en w'=>en=.returned (iV (oC x y))∧w'=W):=fun W=>zCj x y W
 generalize oC x y=r at *;go_enter func158,ntmps158;go_wp2_with fail;go_quiet (exact Calls.quiet_of_same (A _));go_wp2_with fail;go_ret;exact⟨rfl,_,rfl⟩
end
theorem xN(x y:Int):oC x y<0↔x<y:=by
 unfold oC;by_cases A:x<y
 ·simp[A]
 by_cases B:y<x<;>simp[A,B]
section
variable {α:Type} [Inhabited α] (enc:α→Value) (w:World) (blk:Nat)
theorem rE(n:Nat)(d:Array α)(os:Array Obj)(hk:k≠blk)(hl:k<w.heap.size):(Go.Proofs.sortWorld enc w blk 0 n d os).heap[k]? =w.heap[k]? :=by
 have A:k<(Go.Sort.putRow enc (Go.Sort.ahead w n) blk 0 d).heap.size:=by simpa [Go.Sort.putRow,Go.Sort.mapBlock,Go.Sort.ahead] using hl
 unfold Go.Proofs.sortWorld;rw[Go.Sort.heap_grow_old _ _ A];simp[Go.Sort.putRow,Go.Sort.mapBlock,Go.Sort.ahead,Array.getElem?_modify,Ne.symm hk]
theorem zCk(n:Nat)(d:Array α)(os:Array Obj){cur:Array Value}{t:TypeId}{f:Nat×Nat}(hb:w.heap[blk]? =some (.cells cur t f)):(Go.Proofs.sortWorld enc w blk 0 n d os).heap[blk]? =some (.cells (Go.Sort.putCells enc 0 d cur) t f):=by
 have B:blk<w.heap.size:=(Array.getElem?_eq_some_iff.1 hb).1;have A:blk<(Go.Sort.putRow enc (Go.Sort.ahead w n) blk 0 d).heap.size:=by simpa [Go.Sort.putRow,Go.Sort.mapBlock,Go.Sort.ahead] using B
 unfold Go.Proofs.sortWorld;rw[Go.Sort.heap_grow_old _ _ A];simp[Go.Sort.putRow,Go.Sort.mapBlock,Go.Sort.ahead,Array.getElem?_modify,hb,Go.Sort.onCells]
theorem zCl(n:Nat)(d:Array α)(os:Array Obj):w.heap.size≤(Go.Proofs.sortWorld enc w blk 0 n d os).heap.size:=by
 unfold Go.Proofs.sortWorld;rw[Go.Sort.size_grow];simp[Go.Sort.putRow,Go.Sort.mapBlock,Go.Sort.ahead]
end
def lU(b:Nat):Value:=iP b
theorem zGi{w:World}{B:Nat}(g:Gh)(L:List Nat)(v:Value)(hv:w.ownsRow B 200 1 v L.length (L.map fun j=>lU (g.blk j)))(hc:∀j∈L,w.cell? (iA (g.blk j) 9)=sI (j:Int)∧g.blk j<B)(hB:B≤w.heap.size)(hl:L.length≤1000000000):
 Cl 157 #[v,.func (.func 158) #[] #[]] w fun en w'=>en=rV #[]∧∃L':List Nat,L'.Perm L∧L'.Pairwise (· ≤·)∧w'.ownsRow B 200 1 v L.length (L'.map fun j=>lU (g.blk j))∧Below B w w':=by
 by_cases X:L= []
 ·subst X;have:∃p cap,v=.slice p 0 cap:=by
   rcases hv.2 with⟨D,_⟩|⟨d,cap,E,D,_⟩
   ·exact⟨_,_,D⟩
   exact⟨_,_,D⟩
  obtain⟨p,cap,rfl⟩:=this;have h:=AnyF.slices_SortFunc_none (P:=prog) (ρ:=Tryz.sortOrd_ren) { Tryz.sortOrd with } p cap (.func (.func 158) #[] #[]) w;refine Calls.mono h ?_;rintro en w' ⟨rfl,rfl⟩;exact⟨rfl,[],List.Perm.refl _,List.Pairwise.nil,hv,Below.refl B w'⟩
 obtain⟨j0,b⟩:∃j,j∈L:=by
  cases L with
  |nil=>exact absurd rfl X
  |cons a r=>exact⟨a,List.mem_cons_self ..⟩
 rcases hv.2 with⟨_,D⟩|⟨blk,cap,E,rfl,N,A,O,U,q,K⟩
 ·cases L with
  |nil=>exact absurd rfl X
  |cons a r=>cases D
 have f:blk<w.heap.size:=(Array.getElem?_eq_some_iff.1 A).1;have A1:Inhabited { j:Nat // j∈L }:=⟨⟨j0,b⟩⟩
 let enc:{ j:Nat // j∈L }→Value:=fun x=>lU (g.blk x.1)
 let d:Array { j:Nat // j∈L }:=L.attach.toArray
 have I:d.size=L.length:=by simp[d]
 have H:∀j,j<d.size→E[j]? =some (enc d[j]!):=by
  intro j T;have J:j<L.length:=by omega
  have D:(E.toList.take (L.length*1))[j]? =(L.map fun j=>lU (g.blk j))[j]? :=by rw[K]
  rw[List.getElem?_take_of_lt (by omega),List.getElem?_map,List.getElem?_eq_getElem J,Array.getElem?_toList]at D;rw[D,getElem!_pos d j T];simp[enc,d]
 have hH:Go.Sort.Holds enc w blk 0 d:=fun j T=>⟨by simp[World.cell?,A,H j T],by simp[World.frozen?,A]⟩
 have F:∀x y:{ j:Nat // j∈L },ltOf (fun x y:{ j:Nat // j∈L }=>oC (x.1:Int) (y.1:Int)) x y=decide (x.1<y.1):=fun x y=>by
  unfold ltOf;by_cases h:x.1<y.1
  ·simp[h,xN]
  simp[h,xN]
 have hO:Go.Sort.SWO (ltOf fun x y:{ j:Nat // j∈L }=>oC (x.1:Int) (y.1:Int)):=⟨fun x=>by rw[F];simp,fun x y z D h2=>by rw[F]at *;simp at *;omega,fun x y z D h2=>by rw[F]at *;simp at *;omega⟩;have eg:=enters_of func158 (by kernel_rfl) rfl;have V:∀x:{ j:Nat // j∈L },g.blk x.1≠blk∧g.blk x.1<w.heap.size:=fun x=>by have:=(hc x.1 x.2).2;omega
 have R:CmpLays1 prog 158 #[] enc (fun x y=>oC (x.1:Int) (y.1:Int)) blk 0 d.size w:=by
  intro m M s A0 x y;have S:∀x:{ j:Nat // j∈L },(Go.Proofs.sortWorld enc w blk 0 m s M).cell? (iA (g.blk x.1) 9)=sI (x.1:Int):=fun x=>by
   have:=(hc x.1 x.2).1;unfold World.cell? at this⊢;rw[rE enc w blk m s M (V x).1 (V x).2];exact this
  refine(zGh (g.blk x.1) (g.blk y.1) x.1 y.1 _ (S x) (S y)).mono ?_;rintro en w' ⟨rfl,n,rfl⟩;exact⟨rfl,n,#[],by rw[Go.Sort.grow_empty]⟩
 have h:=Any.slices_SortFunc (P:=prog) (ρ:=Tryz.sortOrd_ren) Tryz.sortOrd enc (fun _=>rfl) (fun x y=>oC (x.1:Int) (y.1:Int)) hO 158 #[] blk 0 cap d w eg R hH f (by omega);rw[I]at h;refine Calls.mono h ?_;rintro en w' ⟨rfl,C,n,M,u,hs,rfl⟩;have G:=u.1.trans I;have l:C.toList.Perm d.toList:=by
  have:=u.2.2;rw[Array.toList_extract,Array.toList_extract]at this;simpa [List.extract,List.take_of_length_le,G,I] using this
 refine⟨rfl,C.toList.map (·.1),?_,?_,⟨by simp[G],.inr ⟨blk,cap,_,rfl,N,zCk enc w blk n C M A,O,U,by simp[Go.Sort.putCells,q],?_⟩⟩,rfl,rfl,rfl,zCl enc w blk n C M,fun k t=>rE enc w blk n C M (by omega) (by omega)⟩
 ·have:=l.map (·.1);simpa [d] using this
 ·rw[List.pairwise_map,List.pairwise_iff_getElem];intro i j hi T Z;have Y:i<C.size:=by simpa using hi
  have J:j<C.size:=by simpa using T
  have:=hs i j (Nat.zero_le _) Z (by omega);rw[F,getElem!_pos C i Y,getElem!_pos C j J]at this;simp at this;simpa using this
 apply List.ext_getElem?;intro k;by_cases t:k<L.length
 ·rw[List.getElem?_take_of_lt (by omega),Array.getElem?_toList];simp only[Go.Sort.putCells,Array.getElem?_mapIdx,List.getElem?_map,Array.getElem?_toList];have c:k<E.size:=by omega
  rw[Array.getElem?_eq_getElem c,Array.getElem?_eq_getElem (by omega:k<C.size)];simp[G,t,enc]
 rw[List.getElem?_eq_none (by simp;omega),List.getElem?_eq_none (by simp[G];omega)]
end
section
open Go.Extern Go.Maps Go.RowKit
theorem Tryz.infoPO:(prog.info? 200).map (fun i=>(i.size,i.bytes))=some (1,8):=by kernel_rfl
theorem Tryz.zeroPO:(prog.info? 200).map (fun i=>i.zero)=some (some (.pointer none)):=by kernel_rfl
section
variable {F:Nat→Prop} {base:Nat} {w:World} {b:Nat} {e:bf} {g:Gh} {S:jk}
structure Parts(w:World)(e:bf)(g:Gh)(pb:Nat)(M:List (Nat×List Nat)):Prop where
 lt:pb<w.heap.size
 cell:∀(n:Nat) (p:Nat×List Nat),M[n]? =some p→w.cell? (iA pb n)=some (.map (some p.1))
 map:∀p∈M,PM jf prog 3 w p.1 (p.2.map fun i=>(ru e.all i,some (g.blk i)))
 at9:∀p∈M,∀j∈p.2,w.cell? (iA (g.blk j) 9)=sI (j:Int)∧g.blk j<w.heap.size
 inj:∀p∈M,∀i∈p.2,∀j∈p.2,g.blk i=g.blk j→i=j
 len:(M.flatMap (·.2)).length≤1000000000
 few:M.length≤10
theorem Parts.below{pb:Nat}{M:List (Nat×List Nat)}(h:Parts w e g pb M)(hb:Below w.heap.size w w'):Parts w' e g pb M:=by
 have A:∀(q n:Nat),q<w.heap.size→w'.cell? (iA q n)=w.cell? (iA q n):=fun q n hq=>by unfold World.cell?;rw[hb.block q hq]
 exact⟨Nat.lt_of_lt_of_le h.lt hb.size,fun n p hp=>by rw[A _ _ h.lt];exact h.cell n p hp,fun p hp=>(h.map p hp).of_block (hb.block _ (h.map p hp).lt),fun p hp j hj=>⟨by rw[A _ _ (h.at9 p hp j hj).2];exact(h.at9 p hp j hj).1,Nat.lt_of_lt_of_le (h.at9 p hp j hj).2 hb.size⟩,h.inj,h.len,h.few⟩
def entG(e:bf)(g:Gh)(j:Nat):Int×Option Nat:=(ru e.all j,some (g.blk j))
theorem zGj{l js:List Nat}(hnd:l.Nodup)(hinj:∀i∈l,∀j∈l,g.blk i=g.blk j→i=j)(hsub:∀j∈js,j∈l)(hp:(js.map (entG e g)).Perm (l.map (entG e g)))(hn2:(l.map (entG e g)).Nodup):js.Perm l:=by
 have B:js.Nodup:=List.Pairwise.of_map _ (fun a c hac e1=>hac (e1▸rfl)) (hp.symm.nodup hn2);refine(List.perm_ext_iff_of_nodup B hnd).2 fun j=>⟨hsub j,fun hj=>?_⟩
 obtain⟨k,C,A⟩:=List.mem_map.1 (hp.mem_iff.2 (List.mem_map_of_mem (f:=entG e g) hj));have:g.blk k=g.blk j:=by
  unfold entG at A;injection A with _ A;injection A
 rw[←hinj k (hsub k C) j hj this];exact C
theorem oD:∀{a b:List Nat},a.Nodup→(∀x∈a,x∈b)→a.length≤b.length
 | [],b,_,_=>Nat.zero_le _
 |x::r,b,hn,hs=>by
  obtain⟨h1,h2⟩:=List.nodup_cons.1 hn;have hx:x∈b:=hs x (List.mem_cons_self ..);have:=oD (a:=r) (b:=b.erase x) h2 (fun y hy=>(List.mem_erase_of_ne (show y≠x from fun e=>h1 (e▸hy))).2 (hs y (List.mem_cons_of_mem _ hy)));have hl:=List.length_erase_of_mem hx;have hp:=List.length_pos_of_mem hx;show r.length+1≤_;omega
theorem zAt(pb cap:Nat)(M:List (Nat×List Nat))(h:Parts w e g pb M):
 Cl 116 #[sL pb M.length cap] w fun en w'=> ∃(v:Value) (L:List Nat),en=.returned v∧L.Perm (M.flatMap (·.2))∧L.Pairwise (· ≤·)∧w'.ownsRow w.heap.size 200 1 v L.length (L.map fun j=>lU (g.blk j))∧Below w.heap.size w w':=by
 obtain⟨i0,hi,Aw,Ax,Ay⟩:=bF Tryz.infoPO Tryz.zeroPO;have H:Hd (prog.info? 200=some i0∧i0.zero=some (.pointer none)∧i0.size=1∧i0.bytes=8):=⟨hi,Aw,Ax,Ay⟩;have Y:=hid h;have Bg:=h.few;clear h hi Aw Ax Ay;go_enter func116,ntmps116;go_wp2_with fail;go_loopw [3,10] (fun lv iv wr=> ∃(k:Nat) (L:List Nat),iv=iV k∧k≤M.length∧L.Perm ((M.take k).flatMap (·.2))∧wr.ownsRow w.heap.size 200 1 lv L.length (L.map fun j=>lU (g.blk j))∧Bw w wr) (fun _ iv _=>M.length - (intOf iv).toNat)
 case atStart=>exact⟨0,[],rfl,Nat.zero_le _,List.Perm.refl _,World.ownsRow_nil _ _ _ _,Below.refl _ _⟩
 case round=>
  obtain⟨k,L,rfl,hk,Af,E,O⟩:=hrel;have A:=hid O;have D:=hid E;have A6:=hid Af;have B3:Hd (L.length≤1000000000):=by
   show _≤_;rw[Af.length_eq];refine Nat.le_trans ?_ Y.len;rw[←List.take_append_drop k M,List.flatMap_append,List.length_append,List.take_append_drop];exact Nat.le_add_right _ _
  clear E O Af;by_cases Ae:k<M.length
  ·have Bf:(k:Int)<(M.length:Int):=by omega
   have Bi:wrap64 ((k:Int)+1)=(k:Int)+1:=by unfold wrap64;omega
   have A9:M[k]? =some M[k]:=List.getElem?_eq_getElem Ae;have Z:M[k]∈M:=List.getElem_mem Ae;have Ar:=hid Z;have An:=hid A9;have ck:wr.cell? (iA pb k)=some (.map (some M[k].1)):=(Y.below A.o).cell k _ A9;have t:PM jf prog 3 wr M[k].1 (M[k].2.map fun i=>(ru e.all i,some (g.blk i))):=(Y.below A.o).map _ Z;have x:M[k].1<w.heap.size:=(Y.map _ Z).lt;have Am:=hid x;clear A9 Z x;generalize M[k]=p at *;go_wp2_with(first
    |(at_range;refine aU _ rfl _ _ rfl je underlying89 rfl t ?_;intro w0 Av Ac Bh)
    |go_in)
   go_frame;have Az:Hd (Bw w w0):=A.grown Ac A.size (by simp);have B5:=hid (D.kept Ac (by rcases X:u3.ownBlock with _|q;exact .inl rfl;exact .inr (by simp)));have B8:Hd (w.heap.size≤wr.heap.size):=A.size;have B4:Hd (u3.ownBlock≠some wr.heap.size):=fun hc=>by have:=(D.lt _ hc).2;omega
   clear ck t Ac D A;generalize hrb:wr.heap.size=rb at *;go_loopw [3] (fun lv wr2=> ∃(Ah:List (Int×Option Nat)) (B:List Nat),PR jf prog 3 wr2 p.1 rb (p.2.map fun i=>(ru e.all i,some (g.blk i))) (B.map (entG e g)) Ah∧(∀j∈B,j∈p.2)∧wr2.ownsRow w.heap.size 200 1 lv (L++B).length ((L++B).map fun j=>lU (g.blk j))∧lv.ownBlock≠some rb∧Bw w wr2) (fun _ wr2=>wr2.rangeLeft p.1 rb)
   case atStart=>exact⟨_,[],Av,(fun j V=>by cases V),(by simpa using B5.o),B4.o,Az.o⟩
   case round=>
    obtain⟨Ah,B,T,A0,E,d,O⟩:=hrel;have A8:=hid A0;have D:=hid E;have A5:=hid d;have A:=hid O;have A4:Hd ((p.2.map (entG e g)).Nodup):=List.Pairwise.of_map Prod.fst (fun a c hac I=>hac (I▸rfl)) ((Y.map p Ar.o).nodup je);have B7:Hd p.2.Nodup:=List.Pairwise.of_map (entG e g) (fun a c hac I=>hac (I▸rfl)) A4.o;have B1:Hd (B.length≤p.2.length):=oD (List.Pairwise.of_map (entG e g) (fun a c hac I=>hac (I▸rfl)) (((T.1.symm.nodup A4.o).sublist (List.sublist_append_left _ _)))) A8.o;have Aj:Hd ((L++B).length≤1000000000):=by
     show _≤_;rw[List.length_append,A6.o.length_eq];have N:((M.take (k+1)).flatMap (·.2)).length≤(M.flatMap (·.2)).length:=by
      conv=>rhs;rw[←List.take_append_drop (k+1) M,List.flatMap_append,List.length_append]
      exact Nat.le_add_right _ _
     rw[List.take_add_one,An.o,List.flatMap_append,List.length_append]at N;simp only[Option.toList_some,List.flatMap_cons,List.flatMap_nil,List.append_nil]at N;have h2:=Y.len;have n:=B1.o;omega
    clear A0 E d O;go_wp2_with(first
     |(at_next;refine bA _ rfl _ rfl je underlying3 p.1 rb (B.map (entG e g)) Ah rfl T ?_ ?_)
     |go_in)
    ·intro h0;have Ai:Hd (B.Perm p.2):=zGj B7.o (Y.inj p Ar.o) A8.o (by have:=T.1;rw[h0,List.append_nil]at this;exact this) A4.o;clear T;go_wp2;go_roundw
     case rel=>
      refine⟨k+1,L++B,by go_num,Ae,?_,D.o,A.o⟩;rw[List.take_add_one,An.o,List.flatMap_append];exact A6.append (by simpa using Ai.o)
     case measure=>simp[intOf];omega
    intro kk v A2 U J At Bd hv y Ad Be s Ba;subst Bd hv;have A1:jf.val (some (g.blk J))=iP (g.blk J):=rfl;rw[A1]at Ba⊢;have A7:=hid y;have Ak:=hid s;have HJ:=hid At;have A3:Hd (Bw w U):=A.grown Ad A.size (by intro q X;injection X with X;have:=B8.o;omega);have K:=hid (D.kept Ad (.inr A5.o));have C:Hd (w.heap.size≤U.heap.size∧rb<U.heap.size):=⟨A3.size,A7.lt⟩;clear y Ad Be s At A1 T D A;go_wp2_with(first
     |(at_builtin;refine wpList_append_lies _ rfl _ _ 152 rfl w.heap.size 200 i0 (.pointer none) 1 8 underlying152 H.1 H.2.1 H.2.2.1 H.2.2.2 rfl (by decide) _ _ _ rfl (K.alloc _) (iA U.heap.size 0) 1 1 [iP (g.blk J)] rfl rfl ?c1 ?c2 (by decide) ?c3 ?c4 ?c5 (U.heap.size+1) ?c6 ?_)
     |go_in)
    case c1=>
     intro j u V
     match j,V with
     |0,V=>simp at V;subst V;simp[Addr.add]
    case c2=>intro u hu;simp at hu;subst hu;rfl
    case c3=>have:=Aj.o;unfold maxLen;omega
    case c4=>have:=Aj.o;omega
    case c5=>have:=C.o;simp;omega
    case c6=>simp
    intro g' m f R G As Bb;have z:w.heap.size≤g'∧g'≠rb:=by
     rcases As with n|n
     ·exact⟨(K.lt g' n).1,fun I=>A5.o (I▸n)⟩
     have:=C.o;omega
    have Ag:∀q,q<U.heap.size→u3.ownBlock≠some q→f.heap[q]? =U.heap[q]? :=fun q X d=>by
     rw[G.block q (by simp;omega) (fun I=>d I.symm)];exact Below.heap_alloc U _ q X
    have Aa:f.heap[p.1]? =U.heap[p.1]? :=Ag p.1 (Nat.lt_of_lt_of_le Am.o C.1) (fun hc=>by have:=(K.lt _ hc).1;have:=Am.o;omega);have Ab:f.heap[rb]? =U.heap[rb]? :=Ag rb C.2 A5.o;have l:=hid (A7.zm Aa Ab);have Al:Hd (f.rangeLeft p.1 rb<wr.rangeLeft p.1 rb):=by
     show _<_;have:f.rangeLeft p.1 rb=U.rangeLeft p.1 rb:=by unfold World.rangeLeft;rw[Aa,Ab]
     rw[this];exact Ak.o
    have B0:Hd (Bw w f):=(A3.alloc C.1 _).grown G (by have:=C.1;simp;omega) (fun q X=>by have:=(K.lt q X).1;omega);have B6:Hd (f.ownsRow w.heap.size 200 1 (sL g' (L.length+B.length+1) m) (L++(B++ [J])).length ((L++(B++ [J])).map fun j=>lU (g.blk j))):=by
     have I:L++(B++ [J])=(L++B)++ [J]:=(List.append_assoc ..).symm;have e2:(L++(B++ [J])).length=(L++B).length+1:=by rw[I,List.length_append];rfl
     show World.ownsRow _ _ _ _ _ _ _;rw[e2,I,List.map_append,List.map_append,List.append_assoc,List.length_append];exact R
    have Ao:Hd ((Value.slice (some (iA g' 0)) (L.length+B.length+1) m).ownBlock≠some rb):=fun hc=>z.2 (by simpa [Value.ownBlock] using hc)
    have B2:Hd (∀j∈B++ [J],j∈p.2):=fun j V=>by
     rcases List.mem_append.1 V with N|N
     ·exact A8.o j N
     obtain rfl:j=J:=by simpa using N
     exact HJ.o
    have Aq:Hd (PR jf prog 3 f p.1 rb (p.2.map fun i=>(ru e.all i,some (g.blk i))) ((B++ [J]).map (entG e g)) A2):=by
     show PR _ _ _ _ _ _ _ _ _;rw[List.map_append];exact l.o
    clear R G As Bb z Ag Aa Ab l K A3 A7 Ak;go_wp2;go_roundw
    case rel=>exact⟨A2,B++ [J],Aq.o,B2.o,B6.o,Ao.o,B0.o⟩
    case measure=>exact Al.o
  have Bc:k=M.length:=by omega
  subst Bc;have Ap:Hd (L.Perm (M.flatMap (·.2))):=by
   have:=A6.o;rw[List.take_length]at this;exact this
  have B9:Hd (Cl 157 #[u3,.func (.func 158) #[] #[]] wr fun en w'=>en=rV #[]∧Hd (∃L':List Nat,L'.Perm L∧L'.Pairwise (· ≤·)∧w'.ownsRow w.heap.size 200 1 u3 L.length (L'.map fun j=>lU (g.blk j))∧Below w.heap.size wr w')):=by
   have hP:=Y.below A.o;refine(zGi g L u3 D.o (fun j V=>?_) A.size B3.o).mono ?_
   ·obtain⟨p,hp,Au⟩:=List.mem_flatMap.1 (Ap.o.mem_iff.1 V);exact⟨(hP.at9 p hp j Au).1,(Y.at9 p hp j Au).2⟩
   rintro en w' ⟨rfl,L',N,h2,n,h4⟩;exact⟨rfl,L',N,h2,n,h4⟩
  go_wp2_with fail;refine B9.mono ?_;rintro en f ⟨rfl,HZ⟩;go_wp2;go_ret;obtain⟨L',N,h2,n,h4⟩:=HZ.o;refine⟨u3,L',rfl,N.trans Ap.o,h2,by rw[N.length_eq];exact n,?_⟩;exact⟨h4.os.trans A.os,h4.tape.trans A.tape,h4.output.trans A.output,Nat.le_trans A.size h4.size,fun q X=>(h4.block q X).trans (A.block q X)⟩
end
section
variable {F:Nat→Prop} {base:Nat} {w:World} {b:Nat} {e:bf} {g:Gh} {S:jk} {out odd:List Nat}
theorem dw.parts(h:dw F base w b e g S)(hH:Holds e S out odd)(hl:e.all.length≤100000000)(ty:TypeId)(M:List (Nat×List Nat))(hM:∀p∈M,p=(g.aA,S.day)∨p=(g.aT,S.qf))(hlen:M.length≤2):Parts (w.alloc (.cells (M.map fun p=>Value.map (some p.1)).toArray ty)) e g w.heap.size M:=by
 have I:=h.alloc (.cells (M.map fun p=>Value.map (some p.1)).toArray ty);have H:=h.small hH;have A:∀p∈M,∀j∈p.2,∃o,e.all[j]? =some o∧o.dm=1:=by
  intro p B j G;rcases hM p B with rfl|rfl
  ·obtain⟨o,C,D,_⟩:=(hH.day j).1 G;exact⟨o,C,D⟩
  obtain⟨o,C,D,_⟩:=(hH.qf j).1 G;exact⟨o,C,D⟩
 refine⟨by simp,fun n p B=>?_,fun p B=>?_,fun p B j G=>?_,fun p B i hi j G hij=>?_,?_,by omega⟩
 ·rw[World.cell?_alloc_at _ _ _ _ rfl];show(M.map fun p=>Value.map (some p.1)).toArray[n]? =_;simp[B]
 ·rcases hM p B with rfl|rfl
  ·exact I.body.day
  exact I.body.qf
 ·obtain⟨o,C,D⟩:=A p B j G;exact⟨(I.oa C D).cell 9,(I.oa C D).lt⟩
 ·obtain⟨o,C,D⟩:=A p B i hi;obtain⟨L,J,K⟩:=A p B j G;exact h.body.inj i j (List.getElem?_eq_some_iff.1 C).1 (List.getElem?_eq_some_iff.1 J).1 hij
 have E:∀p∈M,p.2.length≤100000000:=fun p B=>by
  rcases hM p B with rfl|rfl
  ·exact Nat.le_trans H.day hl
  exact Nat.le_trans H.qf hl
 match M,hlen,E with
 | [],_,_=>simp
 | [p],_,E=>have:=E p (by simp);simp;omega
 | [p,q],_,E=>have:=E p (by simp);have:=E q (by simp);simp;omega
theorem rF(h:L.Pairwise (· ≤·))(hn:L.Nodup):L.Pairwise (· < ·):=by
 refine(h.and hn).imp (fun hab=>?_);have:=hab.1;have:=hab.2;omega
structure jU(B:Nat)(w:World)(g:Gh)(v:Value)(L:List Nat):Prop where
 row:w.ownsRow B 200 1 v L.length (L.map fun j=>lU (g.blk j))
 up:L.Pairwise (· < ·)
theorem zCm(h:dw F base w b e g S)(hH:Holds e S [] [])(hl:e.all.length≤100000000):
 Cl 74 #[.pointer (some (iA b 8))] w fun en w'=> ∃(v:Value) (L:List Nat),en=.returned v∧jU w.heap.size w' g v L∧(∀j,j∈L↔∃o,e.all[j]? =some o∧o.dm=1)∧Below w.heap.size w w':=by
 have G:w.cell? (iA b 8)=some (.map (some g.aA)):=h.cell 8;have H:w.cell? (iA b 9)=some (.map (some g.aT)):=h.cell 9;have B:=h.lt;have m:Hd (∀X,(w.alloc X).cell? (iA b 8)=some (.map (some g.aA))∧(w.alloc X).cell? (iA b 9)=some (.map (some g.aT))):=fun X=>⟨(World.cell?_alloc_lt _ _ (iA b 8) B).trans G,(World.cell?_alloc_lt _ _ (iA b 9) B).trans H⟩
 obtain⟨Y,Z,_⟩:=h.pN;have K:Hd (∀W,Same (w.alloc (.cells #[.map (some g.aA),.map (some g.aT)] 89)) W→Cl 116 #[sL w.heap.size 2 2] W fun en w'=> ∃(v:Value),en=.returned v∧w'.cell? (iA b 8)=some (.map (some g.aA))∧w'.cell? (iA b 9)=some (.map (some g.aT))∧Hd (∃L:List Nat,jU w.heap.size w' g v L∧(∀j,j∈L↔∃o,e.all[j]? =some o∧o.dm=1)∧Bw w w')):=by
  intro W A;have q:=h.parts hH hl 89 [(g.aA,S.day),(g.aT,S.qf)] (by simp) (by simp);have V:=q.below ((Below.refl _ _).grown (w':=W) (row:=none) ⟨A.os,A.tape,A.output,by rw[A.heap];exact Nat.le_refl _,fun k _ _=>by rw[A.heap];rfl⟩ (Nat.le_refl _) (by simp));refine(zAt w.heap.size 2 [(g.aA,S.day),(g.aT,S.qf)] V).mono ?_;rintro en w' ⟨v,L,rfl,I,T,J,E⟩;have s:W.heap.size=w.heap.size+1:=by rw[A.heap];simp
  have U:Bw w w':=⟨E.os.trans A.os,E.tape.trans A.tape,E.output.trans A.output,by have:=E.size;omega,fun k hk=>by rw[E.block k (by omega),A.heap];exact Below.heap_alloc _ _ k hk⟩;have f:L.Nodup:=by
   refine I.symm.nodup ?_;simp only[List.flatMap_cons,List.flatMap_nil,List.append_nil];refine List.nodup_append.2 ⟨Y,Z,fun a ha c hc e1=>?_⟩;subst e1;obtain⟨x,C,_,D,_⟩:=(hH.day a).1 ha;obtain⟨y,i,_,t,_⟩:=(hH.qf a).1 hc;obtain rfl:x=y:=Option.some.inj (C.symm.trans i);exact t D
  refine⟨v,rfl,?_,?_,L,⟨⟨J.1,?_⟩,rF T f⟩,fun j=>?_,U⟩
  ·unfold World.cell? at G⊢;rw[U.block b B];exact G
  ·unfold World.cell? at H⊢;rw[U.block b B];exact H
  ·rcases J.2 with p|⟨d,O,R,C,D,i⟩
   ·exact .inl p
   exact .inr ⟨d,O,R,C,by omega,i⟩
  rw[I.mem_iff];simp only[List.flatMap_cons,List.flatMap_nil,List.append_nil,List.mem_append];rw[hH.day,hH.qf];constructor
  ·rintro(⟨o,C,D,_⟩|⟨o,C,D,_⟩)<;>exact⟨o,C,D⟩
  rintro⟨o,C,D⟩;by_cases l:o.jr=1
  ·exact .inl ⟨o,C,D,l,by simp⟩
  exact .inr ⟨o,C,D,l,by simp⟩
 go_enter func74,ntmps74;go_wp2_with fail;go_region_held3(fun X=>X.cell? (iA b 8)=some (.map (some g.aA))∧X.cell? (iA b 9)=some (.map (some g.aT))) (first|exact⟨G,H⟩|exact m _|exact⟨M,N⟩) ((go_at_call 116;refine(K _ (Same.refl _).drew).mono ?_;rintro en u ⟨v,rfl,M,N,n⟩));go_wp2;go_ret;obtain⟨L,I,T,J⟩:=n;exact⟨_,L,rfl,I,T,J⟩
end
def Apart(F:Nat→Prop)(w:World)(g:Gh)(v:Value)(L:List Nat):Prop:= ∃p cap,v=.slice p L.length cap∧(L= []∨∃vb,p=some (iA vb 0)∧¬F vb∧vb<w.heap.size∧∀(n j:Nat),L[n]? =some j→w.cell? (iA vb n)=some (iP (g.blk j)))
section
variable {F:Nat→Prop} {base:Nat} {w:World} {b:Nat} {e0:bf} {g:Gh} {L:List Nat} {v:Value}
theorem zGk(reason:Int)(hr0:0≤reason∧reason≤255)(h:Coff F base w b g e0 reason L w)(hv:Apart F w g v L)(hl:L.length≤1000000000):
 Cl 131 #[iP b,iV reason,v] w fun en w'=>en=rV #[]∧Hd (Coff F base w b g e0 reason [] w'):=by
 obtain⟨p,l,rfl,u⟩:=hv;have d:=hid u;have G:=hid h;have f:=hid hr0;go_enter func131,ntmps131;go_wp2_with fail;go_loopw [10] (fun iv wr=> ∃k:Nat,iv=iV k∧k≤L.length∧Coff F base w b g e0 reason (L.drop k) wr) (fun iv _=>L.length - (intOf iv).toNat)
 case atStart=>exact⟨0,rfl,Nat.zero_le _,G⟩
 case round=>
  obtain⟨k,rfl,hk,U⟩:=hrel;have G:=hid U;by_cases A:k<L.length
  ·have s:(k:Int)<(L.length:Int):=by omega
   have x:wrap64 ((k:Int)+1)=(k:Int)+1:=by unfold wrap64;omega
   obtain⟨c,rfl,Y,Z,C⟩:=d.o.resolve_left (fun U=>by rw[U]at A;simp at A);have q:L[k]? =some L[k]:=List.getElem?_eq_getElem A;have n:=List.drop_eq_getElem_cons A;have S:Touch F w wr:=by obtain⟨t,S',E,_,_,m,_⟩:=G;exact m
   have ck:wr.cell? (iA c k)=some (iP (g.blk L[k])):=by
    have:=C k _ q;unfold World.cell? at this⊢;rw[S.block c Z Y];exact this
   have B:=G;rw[n]at B;obtain⟨o,R,H,D⟩:=Coff.one f B;have i:=hid D;have y:cI wr (g.blk L[k]) 0 o.id:=R.cell 0;have M:Hd (∀W,Same wr W→Cl 153 #[iP (g.blk L[k])] W fun en J=>en=.returned (iV (o.mg - o.bu))∧cI J (g.blk L[k]) 0 o.id∧Hd (Same wr J)):=by
    intro W T;refine(gL (R.same T) H).mono ?_;rintro en J ⟨rfl,I⟩;exact⟨rfl,(R.same (T.trans I)).cell 0,T.trans I⟩
   generalize L[k]=j at *;go_wp2_with fail;go_region_held3(fun X=>X.cell? (iA (g.blk j) 0)=sI o.id) (first|exact y|exact z|exact o2) (first|(go_at_call 153;refine(M _ (Same.refl _).drew).mono ?_;rintro en J ⟨rfl,z,N⟩)|(go_at_call 94;refine(i _ N).mono ?_;rintro en w2 ⟨rfl,o2,K⟩));go_wp2_with fail;refine K.mono ?_;rintro en w3 ⟨rfl,O⟩;go_wp2;go_roundw
   case rel=>exact⟨k+1,by go_num,A,O⟩
   case measure=>simp[intOf];omega
  have V:k=L.length:=by omega
  subst V;have O:Hd (Coff F base w b g e0 reason [] wr):=by have:=G;rw[List.drop_length]at this;exact this
  go_wp2;go_end0;exact⟨rfl,O⟩
end
section
variable {F:Nat→Prop} {base:Nat} {w:World} {b:Nat} {e:bf} {g:Gh} {S:jk} {out odd:List Nat}
theorem dw.refoot{G:Nat→Prop}(h:dw F base w b e g S)(h':dw F1 base w' b e' g S')(hlen:e'.all.length=e.all.length)(h1:∀k,k<w.heap.size→F k→G k)(h2:∀k,w'.heap.size≤k→G k):dw G base w' b e' g S':=by
 have B:=h'.body;have C:=h.body;have lt:∀{k:Nat} {c:Array Value} {t:TypeId} {f:Nat×Nat},w.heap[k]? =some (.cells c t f)→F k→G k:=fun hq hF=>h1 _ (Array.getElem?_eq_some_iff.1 hq).1 hF
 obtain⟨H,I,J,K,L,M⟩:=C.fd;refine⟨h'.blk,lt h.blk h.own,h2,h'.low,⟨h'.txt.row,fun q hq=>h1 q (h.txt.lt q hq) (h.txt.own q hq)⟩,⟨B.day,B.qf,B.ended,B.wz,B.xg,B.aP,B.sel,B.maps,B.ord,B.inj,B.fD,B.jL,⟨h1 _ C.day.lt H,h1 _ C.qf.lt I,h1 _ C.ended.lt J,h1 _ C.aP.lt K,h1 _ C.sel.lt L,lt C.fD M⟩,fun i hi=>h1 _ (h.old i (hlen▸hi)) (C.fo i (hlen▸hi))⟩,h'.old,lt C.wz h.fb.1,lt C.xg h.fb.2.1,fun q hq=>?_⟩;rcases C.jL.2 with⟨N,_⟩|⟨d,D,E,R,T,O,_⟩
 ·rw[N]at hq;exact absurd hq (by simp[Value.ownBlock])
 have A:=hq;rw[R]at A;have:d=q:=by simpa [Value.ownBlock] using A
 subst this;exact lt O (h.fb.2.2 d hq)
def xP(F:Nat→Prop)(w w':World)(k:Nat):Prop:=(F k∧k<w.heap.size)∨w'.heap.size≤k
theorem dw.foot(h:dw F base w b e g S)(h':dw F1 base w' b e' g S')(hlen:e'.all.length=e.all.length):dw (xP F w w') base w' b e' g S':=h.refoot h' hlen (fun k h1 h2=>.inl ⟨h2,h1⟩) (fun k hk=>.inr hk)
theorem dw.foots{g':Gh}(hup:∀k,w.heap.size≤k→F k)(hs:w.heap.size≤w'.heap.size)(h:dw (xP F w w') base w2 b e' g' S'):dw F base w2 b e' g' S':=by
 have A:∀k,xP F w w' k→F k:=fun k hk=>hk.elim (fun h=>h.1) (fun h=>hup k (Nat.le_trans hs h))
 have B:=h.body;obtain⟨C,D,E,G,H,I⟩:=B.fd;exact⟨h.blk,A _ h.own,fun k hk=>A _ (h.up k hk),h.low,⟨h.txt.row,fun q hq=>A _ (h.txt.own q hq)⟩,⟨B.day,B.qf,B.ended,B.wz,B.xg,B.aP,B.sel,B.maps,B.ord,B.inj,B.fD,B.jL,⟨A _ C,A _ D,A _ E,A _ G,A _ H,A _ I⟩,fun i hi=>A _ (B.fo i hi)⟩,h.old,A _ h.fb.1,A _ h.fb.2.1,fun q hq=>A _ (h.fb.2.2 q hq)⟩
theorem Touch.foots(hup:∀k,w.heap.size≤k→F k)(hs:w.heap.size≤w'.heap.size)(h:Touch (xP F w w') w' w2):Touch F w' w2:=⟨h.os,h.tape,h.output,h.size,fun k hk hf=>h.block k hk (fun hc=>hf (hc.elim (fun h=>h.1) (fun h=>hup k (Nat.le_trans hs h))))⟩
theorem qj.foots(hup:∀k,w.heap.size≤k→F k)(hT:Touch F w w')(h:qj (xP F w w') base w' b g e' w2):qj F base w b g e' w2:=by
 obtain⟨t,A,B,C,D⟩:=h;exact⟨t,A,dw.foots hup hT.size B,C,hT.trans (Touch.foots hup hT.size D)⟩
theorem dw.qY{w3:World}(h:dw F base w b e g S)(h':dw F1 base w2 b e' g S')(hlen:e'.all.length=e.all.length)(hB:Below w.heap.size w2 w3):dw F1 base w3 b e' g S':=by
 have B:=h'.body;have C:=h.body;have lt:∀{k:Nat} {c:Array Value} {t:TypeId} {f:Nat×Nat},w.heap[k]? =some (.cells c t f)→w3.heap[k]? =w2.heap[k]? :=fun hq=>hB.block _ (Array.getElem?_eq_some_iff.1 hq).1
 refine⟨(lt h.blk).trans h'.blk,h'.own,fun k hk=>h'.up k (Nat.le_trans hB.size hk),Nat.le_trans h'.low hB.size,⟨⟨h'.txt.row.1,?_⟩,h'.txt.own⟩,⟨B.day.of_block (hB.block _ C.day.lt),B.qf.of_block (hB.block _ C.qf.lt),B.ended.of_block (hB.block _ C.ended.lt),(lt C.wz).trans B.wz,(lt C.xg).trans B.xg,B.aP.of_block (hB.block _ C.aP.lt),B.sel.of_block (hB.block _ C.sel.lt),B.maps,fun i o ho hs=>?_,B.inj,(lt C.fD).trans B.fD,⟨B.jL.1,?_⟩,B.fd,B.fo⟩,fun i hi=>Nat.lt_of_lt_of_le (h'.old i hi) hB.size,h'.fb⟩
 ·rcases h'.txt.row.2 with H|⟨d,A,D,E,J,K,r⟩
  ·exact .inl H
  refine .inr ⟨d,A,D,E,J,?_,r⟩;rw[hB.block d (h.txt.lt d (by rw[E];rfl))];exact K
 ·rw[hB.block _ (h.old i (hlen▸(List.getElem?_eq_some_iff.1 ho).1))];exact B.ord i o ho hs
 rcases B.jL.2 with H|⟨d,A,D,E,J,K,r⟩
 ·exact .inl H
 refine .inr ⟨d,A,D,E,J,?_,r⟩;have:d<w.heap.size:=by
  rcases C.jL.2 with⟨H,_⟩|⟨R,M,N,I,O,L,_⟩
  ·rw[H]at E;cases E
  rw[E]at I;injection I with G _ _;injection G with G;injection G with G;subst G;exact(Array.getElem?_eq_some_iff.1 L).1
 rw[hB.block d this];exact K
theorem zGl{D:List Nat}(h:D.Sublist L)(hp:L.Pairwise (· < ·))(hm:∀x∈D,x∈L.take k):D.Sublist (L.take k):=by
 rw[←List.take_append_drop k L]at h;obtain⟨a,c,rfl,C,E⟩:=List.sublist_append_iff.1 h;have G:c= []:=by
  cases c with
  |nil=>rfl
  |cons x r=>
   have A:=hm x (by simp);have B:=E.subset (List.mem_cons_self ..);rw[←List.take_append_drop k L,List.pairwise_append]at hp;have:=hp.2.2 x A x B;omega
 subst G;rw[List.append_nil];exact C
theorem Coff.done{reason:Int}(h:Coff F base w b g e0 reason [] w'):qj F base w b g e0 w':=by
 obtain⟨t,A,E,B,C,D,_,_,_,_,G⟩:=h;have:E=e0:=G;subst this;exact⟨t,A,B,C,D⟩
theorem Holds.outs{out':List Nat}(h:Holds e S out odd)(ho:∀j,j∈out↔j∈out'):Holds e S out' odd:=⟨fun j=>by rw[h.day,ho],fun j=>by rw[h.qf,ho],h.ended,h.lS,h.vZ,h.lT,h.wB⟩
theorem zCn{id:Int}(inv:bf.fe e)(ho:e.all[i]? =some o)(hs:o.dm=1)(hid:o.id=id):e.tu id=some i:=by
 have A:e.find id=some i:=by
  rcases A:e.find id with _|k
  ·exact absurd hid (bf.rX A i o ho)
  obtain⟨x,C,B⟩:=bf.nL A;rw[inv.ids k i x o C ho (B.trans hid.symm)]
 unfold bf.tu;rw[A];simp only[ho];rw[if_pos hs]
theorem zGm{id:Int}(inv:bf.fe e)(h:e.tu id=none)(j:Nat)(o:Ord)(ho:e.all[j]? =some o)(hs:o.dm=1):o.id≠id:=fun hc=>by rw[zCn inv ho hs hc]at h;cases h
theorem zA4(id:Int)(h63:aD id)(h:dw F base w b e g S)(inv:bf.fe e)(hH:Holds e S [] []):
 Cl 129 #[.pointer (some (iA b 8)),iV id] w fun en w'=>en=rV #[aG g (e.tu id),.bool (e.tu id).isSome]∧Same w w':=by
 rcases hL:e.tu id with _|i
 ·have D:=zGm inv hL;refine zFl id h63 h (fun j hj=>?_) (fun j hj=>?_)
  ·obtain⟨o,B,E,_⟩:=(hH.day j).1 hj;rw[zn B];exact D j o B E
  obtain⟨o,B,E,_⟩:=(hH.qf j).1 hj;rw[zn B];exact D j o B E
 obtain⟨o,C,A,H⟩:=bf.bE hL;by_cases G:o.jr=1
 ·exact zFj id h63 h i ((hH.day i).2 ⟨o,C,H,G,by simp⟩) (by rw[zn C];exact A)
 refine zFk id h63 h i ((hH.qf i).2 ⟨o,C,H,G,by simp⟩) (by rw[zn C];exact A) (fun j hj=>?_);obtain⟨x,B,E,I,_⟩:=(hH.day j).1 hj;rw[zn B];intro J;have:=inv.ids j i x o B C (J.trans A.symm);subst this;obtain rfl:x=o:=Option.some.inj (B.symm.trans C);exact G I
theorem zGn(h:dw F base w b e g S)(hH:Holds e S [] [])(hl:e.all.length≤100000000):
 Cl 138 #[.pointer (some (iA b 8))] w fun en w'=> ∃(v:Value) (L:List Nat),en=.returned v∧jU w.heap.size w' g v L∧(∀j,j∈L↔∃o,e.all[j]? =some o∧o.dm=1∧o.jr=1)∧dw F base w' b e g { S with day:=[] }∧Touch F w w':=by
 have u:w.cell? (iA b 8)=some (.map (some g.aA)):=h.cell 8;have k:=h.lt;obtain⟨T,m,_⟩:=h.pN;have H:Hd (Cl 116 #[sL w.heap.size 1 1] (w.alloc (.cells #[.map (some g.aA)] 89)) fun en w'=> ∃(v:Value),en=.returned v∧w'.cell? (iA b 8)=some (.map (some g.aA))∧∃A,(∀Y,(Builtin.clear_ #[89] Y #[.map (some g.aA)]).run prog w'=.ok (.tuple #[]) A)∧Hd (∃L:List Nat,jU w.heap.size A g v L∧(∀j,j∈L↔∃o,e.all[j]? =some o∧o.dm=1∧o.jr=1)∧dw F base A b e g { S with day:=[] }∧Touch F w A)):=by
  have i:=h.parts hH hl 89 [(g.aA,S.day)] (by simp) (by simp);refine(zAt w.heap.size 1 [(g.aA,S.day)] i).mono ?_;rintro en w' ⟨v,L,rfl,E,K,G,N⟩;have O:Below (w.alloc (.cells #[.map (some g.aA)] 89)).heap.size (w.alloc (.cells #[.map (some g.aA)] 89)) w':=N;have V:Bw w w':=zz ((Below.refl w.heap.size w).alloc (Nat.le_refl _) _) O;have U:L.Nodup:=E.symm.nodup (by simpa using T);have R:=h.below V;obtain⟨A,C,D,B⟩:=R.body.day.clear underlying89 0;obtain⟨s,t⟩:=R.turn_day (qb.of B) [] D;have n:(w.alloc (.cells #[.map (some g.aA)] 89)).heap.size=w.heap.size+1:=by simp
  have M:w'.ownsRow w.heap.size 200 1 v L.length (L.map fun j=>lU (g.blk j)):=by
   refine⟨G.1,?_⟩;rcases G.2 with f|⟨d,I,J,p,X,q⟩
   ·exact .inl f
   refine .inr ⟨d,I,J,p,?_,q⟩;have X:(w.alloc (.cells #[.map (some g.aA)] 89)).heap.size≤d:=X;omega
  refine⟨v,rfl,R.cell 8,A,?_,L,⟨(qb.of B).row M,rF K U⟩,fun j=>?_,s,(zk h.up V).trans t⟩
  ·intro Y;exact C
  rw[E.mem_iff];simp only[List.flatMap_cons,List.flatMap_nil,List.append_nil];rw[hH.day];constructor
  ·rintro⟨o,C,D,B,_⟩;exact⟨o,C,D,B⟩
  rintro⟨o,C,D,B⟩;exact⟨o,C,D,B,by simp⟩
 go_enter func138,ntmps138;go_wp2_with fail;refine H.mono ?_;rintro en x ⟨v,rfl,c,A,l,Z⟩;go_wp2;go_ret;obtain⟨L,E,K,G,N⟩:=Z;exact⟨_,L,rfl,E,K,G,N⟩
end
def dueP(time:Int)(o:Ord):Bool:=o.jr == 3 && decide (o.time≤time)
section
variable {F:Nat→Prop} {base:Nat} {w:World} {b:Nat} {e:bf} {g:Gh} {S:jk} {out odd:List Nat}
structure Due(F:Nat→Prop)(base:Nat)(w:World)(b:Nat)(e:bf)(g:Gh)(time:Int)(L:List Nat)(v:Value)(k:Nat)(dv:Value)(D:List Nat)(wr:World):Prop where
 sub:D.Sublist L
 is:∀j,j∈D↔j∈L.take k∧bf.atQ (dueP time) e j=true
 rep:∃S',dw F base wr b e g S'∧Holds e S' D []
 row:wr.ownsRow w.heap.size 200 1 dv D.length (D.map fun j=>lU (g.blk j))
 all:wr.ownsRow w.heap.size 200 1 v L.length (L.map fun j=>lU (g.blk j))
 ne:∀q,dv.ownBlock=some q→v.ownBlock≠some q
 touch:Touch F w wr
theorem zGo(time:Int)(h:dw F base w b e g S)(inv:bf.fe e)(hH:Holds e S [] [])(hl:e.all.length≤100000000):
 Cl 137 #[.pointer (some (iA b 8)),iV time] w fun en w'=> ∃(v:Value) (L:List Nat),en=.returned v∧jU w.heap.size w' g v L∧(∀j,j∈L↔∃o,e.all[j]? =some o∧o.dm=1∧dueP time o=true)∧(∃S',dw F base w' b e g S'∧Holds e S' L [])∧Touch F w w':=by
 obtain⟨i0,hi,Ay,Az,B0⟩:=bF Tryz.infoPO Tryz.zeroPO;have K:Hd (prog.info? 200=some i0∧i0.zero=some (.pointer none)∧i0.size=1∧i0.bytes=8):=⟨hi,Ay,Az,B0⟩;have c9:w.cell? (iA b 9)=some (.map (some g.aT)):=h.cell 9;obtain⟨B6,At,_⟩:=h.pN;have Av:=h.small hH;have Ad:Hd (Cl 116 #[sL w.heap.size 1 1] (w.alloc (.cells #[.map (some g.aT)] 89)) fun en w'=> ∃(p:Option Addr) (cap:Nat) (L:List Nat),en=.returned (.slice p L.length cap)∧Hd (L.length≤100000000∧L.Pairwise (· < ·)∧(∀j,j∈L↔∃o,e.all[j]? =some o∧o.dm=1∧¬o.jr=1)∧Due F base w b e g time L (.slice p L.length cap) 0 (.slice none 0 0) [] w')):=by
  have hP:=h.parts hH hl 89 [(g.aT,S.qf)] (by simp) (by simp);refine(zAt w.heap.size 1 [(g.aT,S.qf)] hP).mono ?_;rintro en w' ⟨v,L,rfl,A,B,H,h4⟩;have Ai:Below (w.alloc (.cells #[.map (some g.aT)] 89)).heap.size (w.alloc (.cells #[.map (some g.aT)] 89)) w':=h4;have hB:Bw w w':=zz ((Below.refl w.heap.size w).alloc (Nat.le_refl _) _) Ai;have y:L.Nodup:=A.symm.nodup (by simpa using At);have A5:L.Perm S.qf:=by simpa using A
  obtain⟨p,cap,rfl⟩:∃p cap,v=.slice p L.length cap:=by
   rcases H.2 with⟨N,h6⟩|⟨d,cap,R,N,_⟩
   ·exact⟨none,0,by rw[N,h6]⟩
   exact⟨_,_,N⟩
  have Ah:w'.ownsRow w.heap.size 200 1 (.slice p L.length cap) L.length (L.map fun j=>lU (g.blk j)):=by
   refine⟨H.1,?_⟩;rcases H.2 with N|⟨d,cap,R,q4,q5,q6⟩
   ·exact .inl N
   refine .inr ⟨d,cap,R,q4,?_,q6⟩;have q5:(w.alloc (.cells #[.map (some g.aT)] 89)).heap.size≤d:=q5;have A0:(w.alloc (.cells #[.map (some g.aT)] 89)).heap.size=w.heap.size+1:=by simp
   omega
  refine⟨p,cap,L,rfl,?_,rF B y,fun j=>?_,⟨List.nil_sublist _,fun j=>by simp,⟨S,h.below hB,hH⟩,World.ownsRow_nil _ _ _ _,Ah,fun q hq=>by simp[Value.ownBlock]at hq,zk h.up hB⟩⟩
  ·rw[A5.length_eq];exact Nat.le_trans Av.qf hl
  rw[A5.mem_iff,hH.qf];constructor
  ·rintro⟨o,Z,V,q3,_⟩;exact⟨o,Z,V,q3⟩
  rintro⟨o,Z,V,q3⟩;exact⟨o,Z,V,q3,by simp⟩
 have O:=hid h;have HI:=hid inv;go_enter func137,ntmps137;go_wp2_with fail;refine Ad.mono ?_;rintro en w1 ⟨p,cap,L,rfl,HZ⟩;have hL:=HZ.1;have A2:Hd (∀j,j∈L↔∃o,e.all[j]? =some o∧o.dm=1∧¬o.jr=1):=HZ.2.2.1;have c:=hid HZ.2.1;go_wp2_with fail;go_loopw [5,15] (fun dv iv wr=> ∃(k:Nat) (D:List Nat),iv=iV k∧k≤L.length∧Due F base w b e g time L (.slice p L.length cap) k dv D wr) (fun _ iv _=>L.length - (intOf iv).toNat)
 case atStart=>exact⟨0,[],rfl,Nat.zero_le _,HZ.2.2.2⟩
 case round=>
  obtain⟨k,D,rfl,hk,l⟩:=hrel;have E:=hid l;by_cases G:k<L.length
  ·have B5:(k:Int)<(L.length:Int):=by omega
   have B9:wrap64 ((k:Int)+1)=(k:Int)+1:=by unfold wrap64;omega
   have X:L[k]? =some L[k]:=List.getElem?_eq_getElem G;have Ap:L[k]∈L:=List.getElem_mem G;obtain⟨U,rfl⟩:∃U,p=some (iA U 0):=by
    rcases E.o.all.2 with⟨N,h6⟩|⟨d,M,R,N,_⟩
    ·omega
    injection N with N _ _;exact⟨d,N⟩
   have ck:wr.cell? (iA U k)=some (iP (g.blk L[k])):=by
    rw[E.o.all.cellAt k (by omega),List.getElem?_map,X];rfl
   obtain⟨o,ho,hs,As⟩:=(A2.o L[k]).1 Ap;obtain⟨S',hC,A7⟩:=E.o.rep;have hO:=hC.oa ho hs;have o7:cI wr (g.blk L[k]) 7 o.jr:=hO.cell 7;have o8:cI wr (g.blk L[k]) 8 o.time:=hO.cell 8;have HO:=hid ho;have HS:=hid hs;have HJ:=hid X;have Aw:L.take (k+1)=L.take k++ [L[k]]:=by rw[List.take_add_one,X];rfl
   have f:=hid Aw;have Aa:bf.atQ (dueP time) e L[k]=dueP time o:=by unfold bf.atQ;rw[ho]
   have HQ:=hid Aa;have Aq:L[k]∉D:=fun T=>by
    have A:=((E.is _).1 T).1;have B:=c.o;rw[←List.take_append_drop k L,List.pairwise_append]at B;have H:L[k]∈L.drop k:=by rw[List.drop_eq_getElem_cons G];exact List.mem_cons_self ..
    have:=B.2.2 _ A _ H;omega
   have B3:=hid Aq;have A3:Hd (dueP time o=false→Due F base w b e g time L (sL U L.length cap) (k+1) u5 D wr):=fun T=>by
    refine{ E.o with is:=fun j=>?_ };rw[E.o.is,f.o];constructor
    ·rintro⟨A,B⟩;exact⟨List.mem_append_left _ A,B⟩
    rintro⟨A,B⟩;rcases List.mem_append.1 A with A|A
    ·exact⟨A,B⟩
    obtain rfl:j=L[k]:=by simpa using A
    rw[HQ.o,T]at B;cases B
   by_cases Z:o.jr=3
   ·by_cases V:o.time≤time
    ·have A4:Hd (dueP time o=true):=by show _=_;simp[dueP,Z,V]
     have Ag:Hd (∀W,Same wr W→Cl 130 #[.pointer (some (iA b 8)),iP (g.blk L[k])] W fun en C=>en=rV #[]∧Hd ((∃S',dw F base C b e g S'∧Holds e S' (L[k]::D) [])∧C.ownsRow w.heap.size 200 1 u5 D.length (D.map fun j=>lU (g.blk j))∧C.ownsRow w.heap.size 200 1 (sL U L.length cap) L.length (L.map fun j=>lU (g.blk j))∧Touch F w C)):=by
      intro W hW;obtain⟨S',hC,A7⟩:=E.o.rep;have Al:=hC.same hW;have Ab:=HI.ok _ _ HO.o;have s:=O.foot Al rfl;have t:aD o.id:=rz (by have:=Ab.nC;omega) (by have:=Ab.nD;omega);refine(lF s (s.oa HO.o HS.o) t).mono ?_;rintro en C ⟨rfl,Z,V,q3⟩;have A0:w.heap.size≤W.heap.size:=by rw[hW.heap];exact E.touch.size
      have keep:∀{v:Value} {n:Nat} {xs:List Value},wr.ownsRow w.heap.size 200 1 v n xs→C.ownsRow w.heap.size 200 1 v n xs:=by
       intro v n xs hr;refine⟨hr.1,?_⟩;rcases hr.2 with N|⟨d,M,R,N,h6,h7,h8⟩
       ·exact .inl N
       refine .inr ⟨d,M,R,N,h6,?_,h8⟩;have Ao:d<W.heap.size:=by rw[hW.heap];exact(Array.getElem?_eq_some_iff.1 h7).1
       rw[V.block d Ao (fun T=>T.elim (fun h=>by omega) (fun h=>by omega)),hW.heap];exact h7
      exact⟨rfl,⟨_,dw.foots O.up A0 Z,A7.leave HI.o HO.o⟩,keep E.row,keep E.all,(E.touch.trans hW.touch).trans (Touch.foots O.up A0 V)⟩
     generalize hjj:L[k]=j0 at *;go_wp2_with fail;refine(Ag.o _ (Same.refl _)).mono ?_;rintro en C ⟨rfl,i⟩;have A1:Hd (D.length≤100000000):=Nat.le_trans E.sub.length_le hL;have Aj:w.heap.size≤C.heap.size:=i.2.2.2.size;have Af:=hid i.2.1;go_wp2_with(first
      |(at_builtin;refine wpList_append_lies _ rfl _ _ 152 rfl w.heap.size 200 i0 (.pointer none) 1 8 underlying152 K.1 K.2.1 K.2.2.1 K.2.2.2 rfl (by decide) _ _ _ rfl (Af.alloc _) (iA C.heap.size 0) 1 1 [iP (g.blk j0)] rfl rfl ?c1 ?c2 (by decide) ?c3 ?c4 ?c5 (C.heap.size+1) ?c6 ?_)
      |go_in)
     case c1=>
      intro j u X
      match j,X with
      |0,X=>simp at X;subst X;simp[Addr.add]
     case c2=>intro u hu;simp at hu;subst hu;rfl
     case c3=>have:=A1.o;unfold maxLen;omega
     case c4=>have:=A1.o;omega
     case c5=>simp;omega
     case c6=>simp
     intro g' M w3 z J A9 B4;have Ae:Hd (Due F base w b e g time L (sL U L.length cap) (k+1) (sL g' (D.length+1) M) (D++ [j0]) w3):=by
      obtain⟨⟨S2,A6,Am⟩,Ac,A8,An⟩:=i.o;have B2:w.heap.size≤g':=by
       rcases A9 with H|H
       ·exact(Ac.lt g' H).1
       omega
      have Y:∀q,u5.ownBlock=some q→U≠q:=fun q hq e1=>E.ne q hq (by rw[←e1];rfl)
      have B7:∀q,q<C.heap.size→u5.ownBlock≠some q→w3.heap[q]? =C.heap[q]? :=fun q hq hne=>by
       rw[J.block q (by simp;omega) (fun e1=>hne e1.symm)];exact Below.heap_alloc C _ q hq
      have m:w3.ownsRow w.heap.size 200 1 (sL U L.length cap) L.length (L.map fun j=>lU (g.blk j)):=(A8.alloc _).kept J (by
       rcases hq:u5.ownBlock with _|q
       ·exact .inr (by simp[Value.ownBlock])
       exact .inr (fun T=>Y q hq (by simpa [Value.ownBlock] using T)))
      have B8:U<C.heap.size:=(A8.lt U rfl).2;have I:Below w.heap.size C w3:=((Below.refl w.heap.size C).alloc Aj _).grown J (by simp;omega) (fun q hq=>by have:=(Ac.lt q hq).1;omega);have B1:∀q,q<C.heap.size→F q→q<w.heap.size→w3.heap[q]? =C.heap[q]? :=fun q hq _ G=>I.block q G
      have s:=O.foot A6 rfl;have Ak:dw F base w3 b e g S2:=dw.qY O.o A6 rfl I;refine⟨?_,fun j=>?_,⟨S2,Ak,Am.outs (fun j=>by simp[or_comm])⟩,?_,m,fun q hq=>?_,An.trans ⟨I.os,I.tape,I.output,I.size,fun q hq hf=>?_⟩⟩
      ·have A:(L.take (k+1)).Sublist L:=List.take_sublist _ _;refine List.Sublist.trans ?_ A;have B:D.Sublist (L.take k):=by
        have y:∀x∈D,x∈L.take k:=fun x hx=>((E.is x).1 hx).1
        exact zGl E.sub c.o y
       rw[f.o];exact B.append (List.Sublist.refl _)
      ·rw[f.o,List.mem_append,List.mem_append,E.o.is];constructor
       ·rintro(⟨A,B⟩|A)
        ·exact⟨.inl A,B⟩
        obtain rfl:j=j0:=by simpa using A
        exact⟨.inr (by simp),HQ.trans A4.o⟩
       rintro⟨A|A,B⟩
       ·exact .inl ⟨A,B⟩
       exact .inr A
      ·rw[List.length_append,List.map_append];exact z
      ·have:g'=q:=by simpa [Value.ownBlock] using hq
       subst this;intro T;have Ax:U=g':=by simpa [Value.ownBlock] using T
       rcases A9 with H|H
       ·exact Y g' H Ax
       omega
      by_cases Au:q<w.heap.size
      ·exact I.block q Au
      exact absurd (O.up q (by omega)) hf
     go_wp2;go_roundw
     case rel=>exact⟨k+1,D++ [j0],by go_num,G,Ae.o⟩
     case measure=>simp[intOf];omega
    have i:=hid (A3.o (by simp[dueP,V]));go_wp2;go_roundw
    case rel=>exact⟨k+1,D,by go_num,G,i.o⟩
    case measure=>simp[intOf];omega
   have i:=hid (A3.o (by simp[dueP,Z]));go_wp2;go_roundw
   case rel=>exact⟨k+1,D,by go_num,G,i.o⟩
   case measure=>simp[intOf];omega
  have Ar:k=L.length:=by omega
  subst Ar;go_wp2;go_ret;have l:=E.o;refine⟨_,D,rfl,⟨l.row,c.sublist l.sub⟩,fun j=>?_,l.rep,l.touch⟩;rw[l.is,List.take_length,A2.o];unfold bf.atQ;constructor
  ·rintro⟨⟨o,A,B,H⟩,h4⟩;rw[A]at h4;exact⟨o,A,B,h4⟩
  rintro⟨o,A,B,H⟩;refine⟨⟨o,A,B,fun T=>?_⟩,by rw[A];exact H⟩;simp[dueP,T]at H
end
end
end Go.Proofs.YtehmdohpmpbnnaaGreatDoor
