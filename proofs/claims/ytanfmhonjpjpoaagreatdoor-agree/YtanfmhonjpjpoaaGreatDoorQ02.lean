import Derived.Test.YtanfmhonjpjpoaaGreatDoorQ00
import Derived.Test.YtanfmhonjpjpoaaGreatDoorQ01
set_option linter.all false
set_option maxRecDepth 100000
set_option maxHeartbeats 8000000
namespace Go.Proofs.YtanfmhonjpjpoaaGreatDoor
variable{e a b:Eng}{o x r:Ord}{i st k:Nat}{side mp id:Int}{l:List Ord}{v:Nat→Int}
namespace Eng
theorem upd_len(e:Eng)(i:Nat)(f:Ord→Ord):(e.upd i f).all.length=e.all.length:=by simp[upd]
theorem upd_at(e:Eng)(i j:Nat)(f:Ord→Ord):(e.upd i f).all[j]? =if i=j then e.all[j]?.map f else e.all[j]? :=by
 simp only[upd,List.getElem?_modify];by_cases h:i=j
 ·simp[h]
 ·simp[h]
theorem upd_same(e:Eng)(i:Nat)(f:Ord→Ord)(o:Ord)(h:e.all[i]? =some o):(e.upd i f).all[i]? =some (f o):=by rw[upd_at,if_pos rfl,h];rfl
theorem upd_ne(e:Eng)(i j:Nat)(f:Ord→Ord)(h:i≠j):(e.upd i f).all[j]? =e.all[j]? :=by rw[upd_at,if_neg h]
theorem ahead_irrefl(side:Int)(x:Ord):ahead side x x=false:=by simp[ahead]
theorem ahead_trans(side:Int)(x y z:Ord)(h:ahead side x y=true)(k:ahead side y z=true):ahead side x z=true:=by
 unfold ahead at *;by_cases hs:side=2
 ·simp[hs]at *;omega
 ·simp[hs]at *;omega
theorem ahead_total(side:Int)(x y:Ord)(h:x.stamp≠y.stamp)(k:ahead side x y=false):ahead side y x=true:=by
 unfold ahead at *;by_cases hs:side=2
 ·simp[hs]at *;omega
 ·simp[hs]at *;omega
def Apart(l:List Ord):Prop:= ∀(i j:Nat) (x y:Ord),l[i]? =some x→l[j]? =some y→i≠j→x.shown≠0→y.shown≠0→x.stamp≠y.stamp
theorem rests_shown(h:rests side x=true):x.shown≠0∧x.side=side:=by
 simp[rests]at h;exact⟨h.2,h.1⟩
theorem firstTo_some: ∀{n b:Nat},firstTo l side n=some b→b<n∧∃x,l[b]? =some x∧rests side x=true
 |0,b,h=>by cases h
 |n+1,b,h=>by
  unfold firstTo at h;split at h
  ·obtain⟨h1,h2⟩:=firstTo_some h;exact⟨by omega,h2⟩
  ·rename_i x hx;split at h
   ·rename_i hr;split at h
    ·cases h;exact⟨by omega,x,hx,hr⟩
    ·rename_i b' hb;have hh: ∀c:Bool,(if c=true then some n else some b')=some b→b<n+1∧∃x,l[b]? =some x∧rests side x=true:=by
      intro c hc;cases c
      ·simp at hc;subst hc;obtain⟨h1,h2⟩:=firstTo_some hb;exact⟨by omega,h2⟩
      ·simp at hc;subst hc;exact⟨by omega,x,hx,hr⟩
     exact hh _ h
   ·obtain⟨h1,h2⟩:=firstTo_some h;exact⟨by omega,h2⟩
theorem firstTo_none: ∀{n:Nat},firstTo l side n=none→∀(j:Nat) (y:Ord),j<n→l[j]? =some y→rests side y=false
 |0,h,j,y,hj,_=>absurd hj (Nat.not_lt_zero j)
 |n+1,h,j,y,hj,hy=>by
  unfold firstTo at h;split at h
  ·rename_i hx;rcases Nat.lt_succ_iff_lt_or_eq.1 hj with hj|rfl
   ·exact firstTo_none h j y hj hy
   ·rw[hx]at hy;cases hy
  ·rename_i x hx;split at h
   ·split at h
    ·cases h
    ·rename_i b' hb;have hh: ∀c:Bool,(if c=true then some n else some b')=none→False:=by intro c hc;cases c<;>cases hc
     exact(hh _ h).elim
   ·rename_i hr;rcases Nat.lt_succ_iff_lt_or_eq.1 hj with hj|rfl
    ·exact firstTo_none h j y hj hy
    ·rw[hx]at hy;cases hy;simpa using hr
theorem firstTo_best(ha:Apart l): ∀{n b:Nat},firstTo l side n=some b→∀x,l[b]? =some x→∀(j:Nat) (y:Ord),j<n→j≠b→l[j]? =some y→rests side y=true→ahead side x y=true
 |0,b,h,_,_,_,_,_,_,_,_=>by cases h
 |n+1,b,h,x,hx,j,y,hj,hne,hy,hr=>by
  unfold firstTo at h;split at h
  ·rename_i hn;rcases Nat.lt_succ_iff_lt_or_eq.1 hj with hj|rfl
   ·exact firstTo_best ha h x hx j y hj hne hy hr
   ·rw[hn]at hy;cases hy
  ·rename_i z hz;split at h
   ·rename_i hrz;split at h
    ·rename_i hnone;cases h;exact absurd hr (by rw[firstTo_none hnone j y (by omega) hy];simp)
    ·rename_i b' hb;obtain⟨hb1,x',hx',hrx'⟩:=firstTo_some hb;rw[hx']at h;simp only at h;have hzs:=rests_shown hrz;have hxs:=rests_shown hrx';cases hc:ahead side z x'
     ·simp only[hc,Bool.false_eq_true,if_false,Option.some.injEq]at h;subst h;obtain rfl:x'=x:=Option.some.inj (hx'.symm.trans hx);rcases Nat.lt_succ_iff_lt_or_eq.1 hj with hj|rfl
      ·exact firstTo_best ha hb x' hx' j y hj hne hy hr
      ·obtain rfl:z=y:=Option.some.inj (hz.symm.trans hy);exact ahead_total side z x' (ha j b' z x' hz hx' hne hzs.1 hxs.1) hc
     ·simp only[hc,if_true,Option.some.injEq]at h;subst h;obtain rfl:z=x:=Option.some.inj (hz.symm.trans hx);have hjn:j<n:=by omega
      by_cases e:j=b'
      ·subst e;obtain rfl:x'=y:=Option.some.inj (hx'.symm.trans hy);exact hc
      ·exact ahead_trans side z x' y hc (firstTo_best ha hb x' hx' j y hjn e hy hr)
   ·rename_i hrz;rcases Nat.lt_succ_iff_lt_or_eq.1 hj with hj|rfl
    ·exact firstTo_best ha h x hx j y hj hne hy hr
    ·rw[hz]at hy;cases hy;exact absurd hr hrz
theorem first_is(ha:Apart e.all){b:Nat}(hx:e.all[b]? =some x)(hr:rests side x=true)(hb: ∀(j:Nat) (y:Ord),j≠b→e.all[j]? =some y→rests side y=true→ahead side x y=true):e.first side=some b:=by
 have hlt:b<e.all.length:=(List.getElem?_eq_some_iff.1 hx).1;rcases h:e.first side with _|c
 ·have:=firstTo_none h b x hlt hx;rw[hr]at this;cases this
 ·obtain⟨hc,z,hz,hrz⟩:=firstTo_some h;by_cases he:c=b
  ·rw[he]
  ·have h1:=firstTo_best ha h z hz b x hlt (fun e=>he e.symm) hx hr;have h2:=hb c z he hz hrz;have:=ahead_trans side x z x h2 h1;rw[ahead_irrefl]at this;cases this
theorem first_none(h: ∀(j:Nat) (y:Ord),e.all[j]? =some y→rests side y=false):e.first side=none:=by
 rcases hf:e.first side with _|c
 ·rfl
 ·obtain⟨hc,z,hz,hrz⟩:=firstTo_some hf;rw[h c z hz]at hrz;cases hrz
end Eng
namespace Eng
structure Ok(mp:Int)(st:Nat)(o:Ord):Prop where
 id0:0<o.id
 id1:o.id<4294967296
 side:o.side=1∨o.side=2
 typ:o.typ=1∨o.typ=2∨o.typ=3
 life:o.life=1∨o.life=2∨o.life=3
 status:o.status=1∨o.status=2∨o.status=3
 qty1:o.qty≤1000
 fil0:0≤o.filled
 opn0:0≤o.opn
 can0:0≤o.cancelled
 sum:o.opn+o.filled+o.cancelled=o.qty
 live:o.status=1→o.cancelled=0
 shn0:0≤o.shown
 shn1:o.shown≤o.opn
 whole:o.typ≠2→o.shown=0∨o.shown=o.opn
 dead:o.status≠1→o.shown=0
 peak:o.typ=2→1≤o.peak∧o.peak≤1000
 peak0:o.typ≠2→o.peak=0
 prc0:0≤o.price
 prc1:o.price≤mp
 shp:0<o.shown→1≤o.price
 own:o.typ≠3→1≤o.price
 off0: -mp≤o.off
 off1:o.off≤mp
 time0:0≤o.time
 time1:o.time<4294967296
 stm0:0≤o.stamp
 stm1:o.stamp≤(st:Int)
theorem Ok.mono{st':Nat}(h:Ok mp st o)(hs:st≤st'):Ok mp st' o:={ h with stm1:=by have:=h.stm1;omega }
structure EInv(e:Eng):Prop where
 mo0:1≤e.mo
 mo1:e.mo≤64
 mp0:1≤e.mp
 mp1:e.mp≤1000000
 mq0:1≤e.mq
 mq1:e.mq≤1000
 ok: ∀(i:Nat) (o:Ord),e.all[i]? =some o→Ok e.mp e.stamp o
 ids: ∀(i j:Nat) (x y:Ord),e.all[i]? =some x→e.all[j]? =some y→x.id=y.id→i=j
 apart:Apart e.all
 now0:0≤e.now
 now1:e.now<4294967296
 live:(e.alive:Int)≤e.mo
theorem countP_modify_le(p:Ord→Bool)(f:Ord→Ord)(hf: ∀o,p (f o)=true→p o=true): ∀(l:List Ord) (i:Nat),(l.modify i f).countP p≤l.countP p
 | [],i=>by cases i<;>simp[List.modify]
 |x::r,0=>by
  simp only[List.modify_zero_cons,List.countP_cons];by_cases h:p (f x)=true
  ·simp[h,hf x h]
  ·simp[h]
 |x::r,i+1=>by
  simp only[List.modify_succ_cons,List.countP_cons];have:=countP_modify_le p f hf r i;omega
theorem EInv.tell(h:EInv e)(a b c d f g:Int):EInv (e.tell a b c d f g):=⟨h.mo0,h.mo1,h.mp0,h.mp1,h.mq0,h.mq1,h.ok,h.ids,h.apart,h.now0,h.now1,h.live⟩
theorem EInv.upd(h:EInv e)(i:Nat)(f:Ord→Ord)(hok: ∀o,e.all[i]? =some o→Ok e.mp e.stamp (f o))(hid: ∀o,(f o).id=o.id)(hst: ∀o,e.all[i]? =some o→(f o).shown≠0→(f o).stamp=o.stamp∧o.shown≠0)(hl: ∀o,(f o).status=1→o.status=1):EInv (e.upd i f):=by
 refine⟨h.mo0,h.mo1,h.mp0,h.mp1,h.mq0,h.mq1,fun j o ho=>?_,fun j k x y hx hy he=>?_,fun j k x y hx hy hne hsx hsy=>?_,h.now0,h.now1,?_⟩
 ·rw[upd_at]at ho;by_cases e1:i=j
  ·subst e1;rw[if_pos rfl]at ho;obtain⟨o',ho',rfl⟩:=Option.map_eq_some_iff.1 ho;exact hok o' ho'
  ·rw[if_neg e1]at ho;exact h.ok j o ho
 ·have key: ∀(j:Nat) (x:Ord),(e.upd i f).all[j]? =some x→∃x',e.all[j]? =some x'∧x'.id=x.id:=by
   intro j x hx;rw[upd_at]at hx;by_cases e1:i=j
   ·rw[if_pos e1]at hx;obtain⟨o',ho',rfl⟩:=Option.map_eq_some_iff.1 hx;exact⟨o',ho',(hid o').symm⟩
   ·rw[if_neg e1]at hx;exact⟨x,hx,rfl⟩
  obtain⟨x',hx',ex⟩:=key j x hx;obtain⟨y',hy',ey⟩:=key k y hy;exact h.ids j k x' y' hx' hy' (by rw[ex,ey,he])
 ·have key: ∀(j:Nat) (x:Ord),(e.upd i f).all[j]? =some x→x.shown≠0→∃x',e.all[j]? =some x'∧x'.stamp=x.stamp∧x'.shown≠0:=by
   intro j x hx hs;rw[upd_at]at hx;by_cases e1:i=j
   ·subst e1;rw[if_pos rfl]at hx;obtain⟨o',ho',rfl⟩:=Option.map_eq_some_iff.1 hx;obtain⟨h1,h2⟩:=hst o' ho' hs;exact⟨o',ho',h1.symm,h2⟩
   ·rw[if_neg e1]at hx;exact⟨x,hx,rfl,hs⟩
  obtain⟨x',hx',ex,sx⟩:=key j x hx hsx;obtain⟨y',hy',ey,sy⟩:=key k y hy hsy;rw[←ex,←ey];exact h.apart j k x' y' hx' hy' hne sx sy
 ·have h1:(e.upd i f).alive≤e.alive:=countP_modify_le _ f (fun o ho=>by simp only[beq_iff_eq]at ho⊢;exact hl o ho) e.all i;have h2:=h.live;show((e.upd i f).alive:Int)≤e.mo;omega
theorem EInv.stamped(h:EInv e):EInv { e with stamp:=e.stamp+1 }:=
 ⟨h.mo0,h.mo1,h.mp0,h.mp1,h.mq0,h.mq1,fun i o ho=>(h.ok i o ho).mono (Nat.le_succ _),h.ids,h.apart,h.now0,h.now1,h.live⟩
theorem EInv.place(h:EInv e)(i:Nat)(f:Ord→Ord)(hok: ∀o,e.all[i]? =some o→Ok e.mp (e.stamp+1) (f o))(hid: ∀o,(f o).id=o.id)(hst: ∀o,(f o).stamp=(e.stamp+1:Nat))(hl: ∀o,(f o).status=1→o.status=1):EInv ({ e with stamp:=e.stamp+1 }.upd i f):=by
 refine⟨h.mo0,h.mo1,h.mp0,h.mp1,h.mq0,h.mq1,fun j o ho=>?_,fun j k x y hx hy he=>?_,fun j k x y hx hy hne hsx hsy=>?_,h.now0,h.now1,?_⟩
 ·rw[upd_at]at ho;by_cases e1:i=j
  ·subst e1;rw[if_pos rfl]at ho;obtain⟨o',ho',rfl⟩:=Option.map_eq_some_iff.1 ho;exact hok o' ho'
  ·rw[if_neg e1]at ho;exact(h.ok j o ho).mono (Nat.le_succ _)
 ·have key: ∀(j:Nat) (x:Ord),({ e with stamp:=e.stamp+1 }.upd i f).all[j]? =some x→∃x',e.all[j]? =some x'∧x'.id=x.id:=by
   intro j x hx;rw[upd_at]at hx;by_cases e1:i=j
   ·rw[if_pos e1]at hx;obtain⟨o',ho',rfl⟩:=Option.map_eq_some_iff.1 hx;exact⟨o',ho',(hid o').symm⟩
   ·rw[if_neg e1]at hx;exact⟨x,hx,rfl⟩
  obtain⟨x',hx',ex⟩:=key j x hx;obtain⟨y',hy',ey⟩:=key k y hy;exact h.ids j k x' y' hx' hy' (by rw[ex,ey,he])
 ·have key: ∀(j:Nat) (x:Ord),({ e with stamp:=e.stamp+1 }.upd i f).all[j]? =some x→(j=i∧x.stamp=(e.stamp+1:Nat))∨(j≠i∧e.all[j]? =some x∧x.stamp≤e.stamp):=by
   intro j x hx;rw[upd_at]at hx;by_cases e1:i=j
   ·subst e1;rw[if_pos rfl]at hx;obtain⟨o',ho',rfl⟩:=Option.map_eq_some_iff.1 hx;exact .inl ⟨rfl,hst o'⟩
   ·rw[if_neg e1]at hx;exact .inr ⟨fun e2=>e1 e2.symm,hx,(h.ok j x hx).stm1⟩
  rcases key j x hx with⟨e1,h1⟩|⟨e1,h1,h1'⟩<;>rcases key k y hy with⟨e2,h2⟩|⟨e2,h2,h2'⟩
  ·omega
  ·omega
  ·omega
  ·exact h.apart j k x y h1 h2 hne hsx hsy
 ·have h1:({ e with stamp:=e.stamp+1 }.upd i f).alive≤e.alive:=countP_modify_le _ f (fun o ho=>by simp only[beq_iff_eq]at ho⊢;exact hl o ho) e.all i;have h2:=h.live;show(({ e with stamp:=e.stamp+1 }.upd i f).alive:Int)≤e.mo;omega
theorem EInv.lay(h:EInv e)(i:Nat)(n:Int)(o:Ord)(ho:e.all[i]? =some o)(hs:o.status=1)(h1:1≤n)(h2:n≤o.opn)(h3:o.typ≠2→n=o.opn)(h4:1≤o.price):EInv (e.lay i n):=by
 unfold Eng.lay;rw[ho];refine EInv.tell (EInv.place h i (fun o=>{ o with stamp:=(e.stamp+1:Nat),shown:=n }) (fun o' ho'=>?_) (fun _=>rfl) (fun _=>rfl) (fun _ hl=>hl)) _ _ _ _ _ _;obtain rfl:o=o':=Option.some.inj (ho.symm.trans ho');have k:=h.ok i o ho;exact{ k with shn0:=by show 0≤n;omega,shn1:=h2,whole:=fun ht=>.inr (h3 ht),dead:=fun hd=>absurd hs hd,shp:=fun _=>h4,stm0:=by show(0:Int)≤((e.stamp+1:Nat):Int);omega,stm1:=by show((e.stamp+1:Nat):Int)≤((e.stamp+1:Nat):Int);omega }
end Eng
namespace Eng
def qtyOf(o r:Ord):Int:=if r.shown<o.opn then r.shown else o.opn
def tradeO(o r:Ord):Ord:={ o with opn:=o.opn - qtyOf o r,filled:=o.filled+qtyOf o r }
def tradeR(o r:Ord):Ord:={ r with opn:=r.opn - qtyOf o r,filled:=r.filled+qtyOf o r,shown:=r.shown - qtyOf o r }
def trade1(e:Eng)(i k:Nat)(o r:Ord):Eng:=
 let e1:=(e.upd i fun _=>tradeO o r).upd k fun _=>tradeR o r
 { e1 with worth:=e1.worth+qtyOf o r*r.price,volume:=e1.volume+qtyOf o r }.tell 3 o.id r.id r.price (qtyOf o r) 0
def trade2(e:Eng)(k:Nat)(r:Ord):Eng:=
 if r.opn=0 then e.upd k fun r=>{ r with status:=2 }
 else if r.shown=0 then
  let d:=e.draw
  let m:=1+d.1 % r.peak
  d.2.lay k (if r.opn<m then r.opn else m)
 else e
theorem modify_congr{α:Type}(f g:α→α): ∀(l:List α) (i:Nat),(∀x,l[i]? =some x→f x=g x)→l.modify i f=l.modify i g
 | [],i,_=>by cases i<;>rfl
 |x::r,0,h=>by simp[List.modify_zero_cons,h x rfl]
 |x::r,i+1,h=>by
  simp only[List.modify_succ_cons];rw[modify_congr f g r i (fun y hy=>h y hy)]
theorem upd_congr(e:Eng)(i:Nat)(f g:Ord→Ord)(h: ∀x,e.all[i]? =some x→f x=g x):e.upd i f=e.upd i g:=by
 unfold upd;rw[modify_congr f g e.all i h]
theorem trade_eq(e:Eng)(i k:Nat)(o r:Ord)(ho:e.all[i]? =some o)(hr:e.all[k]? =some r)(hne:i≠k):e.trade i k=(e.trade1 i k o r).trade2 k (tradeR o r):=by
 unfold Eng.trade;rw[ho,hr];have h1:(e.upd i fun o=>{ o with opn:=o.opn - qtyOf o r,filled:=o.filled+qtyOf o r })=e.upd i fun _=>tradeO o r:=
  upd_congr e i _ _ (fun x hx=>by obtain rfl:o=x:=Option.some.inj (ho.symm.trans hx);rfl)
 have h0:(e.upd i fun x=>{ x with opn:=x.opn - qtyOf o r,filled:=x.filled+qtyOf o r })=e.upd i fun _=>tradeO o r:=
  upd_congr e i _ _ (fun x hx=>by obtain rfl:o=x:=Option.some.inj (ho.symm.trans hx);rfl)
 have h2:((e.upd i fun _=>tradeO o r).upd k fun x=>{ x with opn:=x.opn - qtyOf o r,filled:=x.filled+qtyOf o r,shown:=x.shown - qtyOf o r })=(e.upd i fun _=>tradeO o r).upd k fun _=>tradeR o r:=
  upd_congr _ k _ _ (fun x hx=>by
   rw[upd_ne _ _ _ _ hne]at hx;obtain rfl:r=x:=Option.some.inj (hr.symm.trans hx);rfl)
 show(let n:=qtyOf o r
  let e1:=(e.upd i fun o=>{ o with opn:=o.opn - n,filled:=o.filled+n }).upd k fun r=>{ r with opn:=r.opn - n,filled:=r.filled+n,shown:=r.shown - n }
  let e2:={ e1 with worth:=e1.worth+n*r.price,volume:=e1.volume+n }.tell 3 o.id r.id r.price n 0
  if r.opn - n=0 then e2.upd k fun r=>{ r with status:=2 }
  else if r.shown - n=0 then
   let d:=e2.draw
   let m:=1+d.1 % r.peak
   d.2.lay k (if r.opn - n<m then r.opn - n else m)
  else e2)=_
 simp only;rw[h0,h2];rfl
theorem qty_bd(hr:Ok mp st r)(hop:0<o.opn)(hrs:r.shown≠0):1≤qtyOf o r∧qtyOf o r≤o.opn∧qtyOf o r≤r.shown:=by
 have h0:=hr.shn0;unfold qtyOf;split<;>omega
theorem trade1_at(e:Eng)(i k:Nat)(o r:Ord)(j:Nat):(e.trade1 i k o r).all[j]? =if k=j then e.all[j]?.map (fun _=>tradeR o r) else if i=j then e.all[j]?.map (fun _=>tradeO o r) else e.all[j]? :=by
 show((e.upd i fun _=>tradeO o r).upd k fun _=>tradeR o r).all[j]? =_;rw[upd_at,upd_at];by_cases h:k=j
 ·by_cases h2:i=j
  ·simp[h,h2];cases e.all[j]?<;>rfl
  ·simp[h,h2]
 ·simp[h]
theorem EInv.trade1(h:EInv e)(i k:Nat)(o r:Ord)(ho:e.all[i]? =some o)(hr:e.all[k]? =some r)(hne:i≠k)(hs:o.status=1)(hsh:o.shown=0)(hop:0<o.opn)(hrs:r.shown≠0):EInv (e.trade1 i k o r):=by
 have ko:=h.ok i o ho;have kr:=h.ok k r hr;obtain⟨q1,q2,q3⟩:=qty_bd kr hop hrs;have e1:EInv (e.upd i fun _=>tradeO o r):=by
  rw[upd_congr e i (fun _=>tradeO o r) (fun x=>{ x with opn:=x.opn - qtyOf o r,filled:=x.filled+qtyOf o r }) (fun x hx=>by obtain rfl:o=x:=Option.some.inj (ho.symm.trans hx);rfl)];refine h.upd i _ (fun x hx=>?_) (fun _=>rfl) (fun x hx hx2=>⟨rfl,hx2⟩) (fun _ hl=>hl);obtain rfl:o=x:=Option.some.inj (ho.symm.trans hx);exact{ ko with fil0:=by have:=ko.fil0;show 0≤o.filled+qtyOf o r;omega,opn0:=by show 0≤o.opn - qtyOf o r;omega,sum:=by have:=ko.sum;show o.opn - qtyOf o r+(o.filled+qtyOf o r)+o.cancelled=o.qty;omega,shn1:=by show o.shown≤o.opn - qtyOf o r;omega,whole:=fun _=>.inl hsh }
 have hr1:(e.upd i fun _=>tradeO o r).all[k]? =some r:=by rw[upd_ne _ _ _ _ hne];exact hr
 have e2:EInv ((e.upd i fun _=>tradeO o r).upd k fun _=>tradeR o r):=by
  rw[upd_congr _ k (fun _=>tradeR o r) (fun x=>{ x with opn:=x.opn - qtyOf o r,filled:=x.filled+qtyOf o r,shown:=x.shown - qtyOf o r }) (fun x hx=>by obtain rfl:r=x:=Option.some.inj (hr1.symm.trans hx);rfl)];refine e1.upd k _ (fun x hx=>?_) (fun _=>rfl) (fun x hx hx2=>⟨rfl,?_⟩) (fun _ hl=>hl)
  ·obtain rfl:r=x:=Option.some.inj (hr1.symm.trans hx);have w:=kr.whole;exact{ kr with fil0:=by have:=kr.fil0;show 0≤r.filled+qtyOf o r;omega,opn0:=by have:=kr.shn1;show 0≤r.opn - qtyOf o r;omega,sum:=by have:=kr.sum;show r.opn - qtyOf o r+(r.filled+qtyOf o r)+r.cancelled=r.qty;omega,shn0:=by show 0≤r.shown - qtyOf o r;omega,shn1:=by have:=kr.shn1;show r.shown - qtyOf o r≤r.opn - qtyOf o r;omega,whole:=fun ht=>by(have:=w ht);(show r.shown - qtyOf o r=0∨r.shown - qtyOf o r=r.opn - qtyOf o r);omega,dead:=fun hd=>absurd (kr.dead hd) hrs,shp:=fun _=>kr.shp (by have:=kr.shn0;omega) }
  ·obtain rfl:r=x:=Option.some.inj (hr1.symm.trans hx);exact hrs
 have e3:EInv { ((e.upd i fun _=>tradeO o r).upd k fun _=>tradeR o r) with worth:=((e.upd i fun _=>tradeO o r).upd k fun _=>tradeR o r).worth+qtyOf o r*r.price,volume:=((e.upd i fun _=>tradeO o r).upd k fun _=>tradeR o r).volume+qtyOf o r }:=
  ⟨e2.mo0,e2.mo1,e2.mp0,e2.mp1,e2.mq0,e2.mq1,e2.ok,e2.ids,e2.apart,e2.now0,e2.now1,e2.live⟩
 exact e3.tell _ _ _ _ _ _
theorem EInv.drew(h:EInv e):EInv e.draw.2:=⟨h.mo0,h.mo1,h.mp0,h.mp1,h.mq0,h.mq1,h.ok,h.ids,h.apart,h.now0,h.now1,h.live⟩
theorem next_bd(k:Ok mp st r)(hs:r.status=1)(h0:r.opn≠0)(hw:r.typ=2)(d:Int)(hd:0≤d):1≤(if r.opn<1+d % r.peak then r.opn else 1+d % r.peak)∧(if r.opn<1+d % r.peak then r.opn else 1+d % r.peak)≤r.opn:=by
 have h1:=k.opn0;have h2:=Int.emod_nonneg d (b:=r.peak) (by have:=k.peak hw;omega);split<;>omega
theorem EInv.trade2(h:EInv e)(k:Nat)(r:Ord)(hr:e.all[k]? =some r)(hs:r.status=1)(hw:r.typ≠2→r.shown=r.opn):EInv (e.trade2 k r):=by
 have kr:=h.ok k r hr;unfold Eng.trade2;split
 ·rename_i h0;refine h.upd k _ (fun x hx=>?_) (fun _=>rfl) (fun x hx hx2=>⟨rfl,hx2⟩) (fun _ hl=>absurd hl (show¬(2:Int)=1 by decide));obtain rfl:r=x:=Option.some.inj (hr.symm.trans hx);exact{ kr with status:=.inr (.inl rfl),live:=fun hl=>absurd hl (show¬(2:Int)=1 by decide),dead:=fun _=>by have h1:=kr.shn0;have h2:=kr.shn1;show r.shown=0;omega }
 ·rename_i h0;split
  ·rename_i h1;have ht:=Classical.byContradiction fun hc=>h0 (by rw[←hw hc];exact h1)
   have hd:0≤e.draw.1:=by
    show 0≤(if e.draws.length=0 then 0 else(e.draws.getD (e.drawn % e.draws.length) 0) % 4294967296);split<;>omega
   obtain⟨n1,n2⟩:=next_bd kr hs h0 ht e.draw.1 hd;exact h.drew.lay k _ r hr hs n1 n2 (fun hc=>absurd ht hc) (kr.own (by rw[ht];decide))
  ·exact h
end Eng
namespace Eng
theorem tell_all(e:Eng)(a b c d f g:Int):(e.tell a b c d f g).all=e.all:=rfl
theorem lay_at(e:Eng)(i j:Nat)(n:Int):(e.lay i n).all[j]? =if i=j then e.all[j]?.map (fun o=>{ o with stamp:=(e.stamp+1:Nat),shown:=n }) else e.all[j]? :=by
 unfold Eng.lay;split
 ·rw[tell_all,upd_at]
 ·rw[upd_at]
theorem lay_len(e:Eng)(i:Nat)(n:Int):(e.lay i n).all.length=e.all.length:=by
 unfold Eng.lay;split
 ·rw[tell_all,upd_len]
 ·rw[upd_len]
theorem trade1_len(e:Eng)(i k:Nat)(o r:Ord):(e.trade1 i k o r).all.length=e.all.length:=by
 show((e.upd i fun _=>tradeO o r).upd k fun _=>tradeR o r).all.length=_;rw[upd_len,upd_len]
theorem trade2_len(e:Eng)(k:Nat)(r:Ord):(e.trade2 k r).all.length=e.all.length:=by
 unfold Eng.trade2;split
 ·rw[upd_len]
 ·split
  ·exact lay_len _ _ _
  ·rfl
theorem trade2_ne(e:Eng)(k j:Nat)(r:Ord)(h:k≠j):(e.trade2 k r).all[j]? =e.all[j]? :=by
 unfold Eng.trade2;split
 ·rw[upd_ne _ _ _ _ h]
 ·split
  ·exact(lay_at _ _ _ _).trans (by rw[if_neg h];rfl)
  ·rfl
structure Kin(x y:Ord):Prop where
 id:y.id=x.id
 side:y.side=x.side
 typ:y.typ=x.typ
 qty:y.qty=x.qty
 peak:y.peak=x.peak
 off:y.off=x.off
 life:y.life=x.life
 time:y.time=x.time
 price:y.price=x.price
theorem Kin.refl(x:Ord):Kin x x:=⟨rfl,rfl,rfl,rfl,rfl,rfl,rfl,rfl,rfl⟩
theorem Kin.trans{y z:Ord}(h:Kin x y)(k:Kin y z):Kin x z:=⟨k.id.trans h.id,k.side.trans h.side,k.typ.trans h.typ,k.qty.trans h.qty,k.peak.trans h.peak,k.off.trans h.off,k.life.trans h.life,k.time.trans h.time,k.price.trans h.price⟩
structure Stays(e e':Eng):Prop where
 mo:e'.mo=e.mo
 mp:e'.mp=e.mp
 mq:e'.mq=e.mq
 draws:e'.draws=e.draws
 rest:e'.rest=e.rest
 now:e'.now=e.now
 len:e'.all.length=e.all.length
theorem Stays.refl(e:Eng):Stays e e:=⟨rfl,rfl,rfl,rfl,rfl,rfl,rfl⟩
theorem Stays.trans{c:Eng}(h:Stays a b)(k:Stays b c):Stays a c:=⟨k.mo.trans h.mo,k.mp.trans h.mp,k.mq.trans h.mq,k.draws.trans h.draws,k.rest.trans h.rest,k.now.trans h.now,k.len.trans h.len⟩
theorem Stays.upd(e:Eng)(i:Nat)(f:Ord→Ord):Stays e (e.upd i f):=⟨rfl,rfl,rfl,rfl,rfl,rfl,upd_len _ _ _⟩
theorem Stays.tell(e:Eng)(a b c d f g:Int):Stays e (e.tell a b c d f g):=⟨rfl,rfl,rfl,rfl,rfl,rfl,rfl⟩
theorem Stays.lay(e:Eng)(i:Nat)(n:Int):Stays e (e.lay i n):=by
 refine⟨?_,?_,?_,?_,?_,?_,lay_len _ _ _⟩<;>(unfold Eng.lay;split<;>rfl)
theorem Stays.trade1(e:Eng)(i k:Nat)(o r:Ord):Stays e (e.trade1 i k o r):=⟨rfl,rfl,rfl,rfl,rfl,rfl,trade1_len _ _ _ _ _⟩
theorem Stays.trade2(e:Eng)(k:Nat)(r:Ord):Stays e (e.trade2 k r):=by
 unfold Eng.trade2;split
 ·exact Stays.upd _ _ _
 ·split
  ·exact(Stays.lay e.draw.2 k _).trans (⟨rfl,rfl,rfl,rfl,rfl,rfl,rfl⟩:Stays _ _) |> fun h=>⟨h.mo,h.mp,h.mq,h.draws,h.rest,h.now,h.len⟩
  ·exact Stays.refl _
theorem mate_some(h:e.mate i=some k): ∃o r,e.all[i]? =some o∧e.all[k]? =some r∧0<o.opn∧rests (3 - o.side) r=true∧meets o r.price=true∧e.first (3 - o.side)=some k:=by
 unfold mate at h;split at h
 ·rename_i o ho;split at h
  ·rename_i hop;split at h
   ·rename_i k' hk;split at h
    ·rename_i r hr;split at h
     ·rename_i hm;injection h with h;subst h;obtain⟨_,x,hx,hx2⟩:=firstTo_some hk;obtain rfl:r=x:=Option.some.inj (hr.symm.trans hx);exact⟨o,r,ho,hr,hop,hx2,hm,hk⟩
     ·cases h
    ·cases h
   ·cases h
  ·cases h
 ·cases h
theorem trade_step(h:EInv e)(ho:e.all[i]? =some o)(hs:o.status=1)(hsh:o.shown=0)(hm:e.mate i=some k):
 ∃r,e.all[k]? =some r∧i≠k∧0<o.opn∧r.shown≠0∧r.status=1∧r.side=3 - o.side∧meets o r.price=true∧EInv (e.trade1 i k o r)∧e.trade i k=(e.trade1 i k o r).trade2 k (tradeR o r)∧EInv (e.trade i k)∧(e.trade i k).all[i]? =some (tradeO o r)∧(tradeO o r).opn<o.opn∧0≤(tradeO o r).opn:=by
 obtain⟨o',r,ho',hr,hop,hrs,hmt,_⟩:=mate_some hm;obtain rfl:o=o':=Option.some.inj (ho.symm.trans ho');have kr:=h.ok k r hr;have ko:=h.ok i o ho;obtain⟨hr1,hr2⟩:=rests_shown hrs;have hne:i≠k:=by
  rintro rfl;obtain rfl:o=r:=Option.some.inj (ho.symm.trans hr);exact hr1 hsh
 have hst:=Classical.byContradiction fun hc=>hr1 (kr.dead hc)
 obtain⟨q1,q2,q3⟩:=qty_bd kr hop hr1;have i1:=h.trade1 i k o r ho hr hne hs hsh hop hr1;have et:=trade_eq e i k o r ho hr hne;have hk1:(e.trade1 i k o r).all[k]? =some (tradeR o r):=by rw[trade1_at,if_pos rfl,hr];rfl
 have i2:EInv (e.trade i k):=by
  rw[et];exact i1.trade2 k _ hk1 hst (fun ht=>by rcases kr.whole ht with hw|hw;exact absurd hw hr1;show r.shown - qtyOf o r=r.opn - qtyOf o r;rw[hw])
 refine⟨r,hr,hne,hop,hr1,hst,hr2,hmt,i1,et,i2,?_,?_,?_⟩
 ·rw[et,trade2_ne _ _ _ _ (fun h=>hne h.symm),trade1_at,if_neg (fun h=>hne h.symm),if_pos rfl,ho];rfl
 ·show o.opn - qtyOf o r<o.opn;omega
 ·show 0≤o.opn - qtyOf o r;omega
theorem tradeO_kin(o r:Ord):Kin o (tradeO o r):=⟨rfl,rfl,rfl,rfl,rfl,rfl,rfl,rfl,rfl⟩
theorem trades_inv: ∀(f:Nat) {e:Eng} {i:Nat} {o:Ord},EInv e→e.all[i]? =some o→o.status=1→o.shown=0→∃o',(trades f e i).all[i]? =some o'∧EInv (trades f e i)∧o'.status=1∧o'.shown=0∧Kin o o'∧Stays e (trades f e i)
 |0,e,i,o,h,ho,hs,hsh=>⟨o,ho,h,hs,hsh,Kin.refl o,Stays.refl e⟩
 |f+1,e,i,o,h,ho,hs,hsh=>by
  unfold trades;split
  ·rename_i k hm;obtain⟨r,hr,hne,hop,hr1,hst,hr2,hmt,i1,et,i2,hi,_,_⟩:=trade_step h ho hs hsh hm;obtain⟨o',h1,h2,h3,h4,h5,h6⟩:=trades_inv f i2 hi hs hsh;exact⟨o',h1,h2,h3,h4,(tradeO_kin o r).trans h5,(et▸(Stays.trade1 e i k o r).trans (Stays.trade2 _ k _)).trans h6⟩
  ·exact⟨o,ho,h,hs,hsh,Kin.refl o,Stays.refl e⟩
theorem trades_enough: ∀(f:Nat) {e:Eng} {i:Nat} {o:Ord},EInv e→e.all[i]? =some o→o.status=1→o.shown=0→o.opn.toNat≤f→trades f e i=trades o.opn.toNat e i
 |0,e,i,o,h,ho,hs,hsh,hf=>by rw[Nat.le_zero.1 hf]
 |f+1,e,i,o,h,ho,hs,hsh,hf=>by
  rcases hm:e.mate i with _|k
  ·have h1:trades (f+1) e i=e:=by rw[trades];rw[hm]
   have h2:trades o.opn.toNat e i=e:=by
    rcases o.opn.toNat with _|n
    ·rfl
    ·rw[trades];rw[hm]
   rw[h1,h2]
  ·obtain⟨r,hr,hne,hop,hr1,hst,hr2,hmt,i1,et,i2,hi,hlt,h0⟩:=trade_step h ho hs hsh hm;have h1:trades (f+1) e i=trades f (e.trade i k) i:=by rw[trades];rw[hm]
   obtain⟨n,hn⟩: ∃n,o.opn.toNat=n+1:=⟨o.opn.toNat - 1,by omega⟩;have h2:trades (n+1) e i=trades n (e.trade i k) i:=by rw[trades];rw[hm]
   rw[h1,hn,h2,trades_enough f i2 hi hs hsh (by omega),trades_enough n i2 hi hs hsh (by omega)]
end Eng
namespace Eng
theorem atRest_bd(k:Ok mp st o)(h:o.opn≠0):1≤atRest o∧atRest o≤o.opn∧(o.typ≠2→atRest o=o.opn):=by
 have h0:=k.opn0;unfold atRest;split
 ·rename_i hc;have:=k.peak hc.1;exact⟨by omega,by omega,fun ht=>absurd hc.1 ht⟩
 ·exact⟨by omega,by omega,fun _=>rfl⟩
def swept(e:Eng)(i:Nat):Eng:=match e.all[i]? with
 |some o=>if o.opn=0 then e.upd i fun o=>{ o with status:=2 } else e.lay i (atRest o)
 |none=>e
theorem sweep_eq(e:Eng)(i:Nat):e.sweep i=swept (trades (e.opnOf i).toNat e i) i:=rfl
theorem swept_inv(h:EInv e)(ho:e.all[i]? =some o)(hs:o.status=1)(hsh:o.shown=0)(ht:o.typ≠3):EInv (swept e i):=by
 have k:=h.ok i o ho;unfold swept;rw[ho];simp only;split
 ·rename_i h0;refine h.upd i _ (fun x hx=>?_) (fun _=>rfl) (fun x hx hx2=>⟨rfl,hx2⟩) (fun _ hl=>absurd hl (show¬(2:Int)=1 by decide));obtain rfl:o=x:=Option.some.inj (ho.symm.trans hx);exact{ k with status:=.inr (.inl rfl),live:=fun hl=>absurd hl (show¬(2:Int)=1 by decide),dead:=fun _=>hsh }
 ·rename_i h0;obtain⟨a1,a2,a3⟩:=atRest_bd k h0;exact h.lay i _ o ho hs a1 a2 a3 (k.own ht)
theorem swept_stays(e:Eng)(i:Nat):Stays e (swept e i):=by
 unfold swept;split
 ·split
  ·exact Stays.upd _ _ _
  ·exact Stays.lay _ _ _
 ·exact Stays.refl _
theorem sweep_inv(h:EInv e)(ho:e.all[i]? =some o)(hs:o.status=1)(hsh:o.shown=0)(ht:o.typ≠3):EInv (e.sweep i)∧Stays e (e.sweep i):=by
 rw[sweep_eq];obtain⟨o',h1,h2,h3,h4,h5,h6⟩:=trades_inv (e.opnOf i).toNat h ho hs hsh;exact⟨swept_inv h2 h1 h3 h4 (by rw[h5.typ];exact ht),h6.trans (swept_stays _ _)⟩
theorem gone_inv(h:EInv e)(ho:e.all[i]? =some o)(hs:o.status=1)(reason:Int):EInv (e.gone i reason):=by
 have k:=h.ok i o ho;unfold gone;rw[ho];refine EInv.tell (h.upd i (fun o=>{ o with cancelled:=o.opn,opn:=0,shown:=0,status:=3 }) (fun x hx=>?_) (fun _=>rfl) (fun x hx hx2=>absurd rfl hx2) (fun _ hl=>absurd hl (show¬(3:Int)=1 by decide))) _ _ _ _ _ _;obtain rfl:o=x:=Option.some.inj (ho.symm.trans hx);have:=k.live hs;have:=k.sum;have:=k.opn0;exact{ k with status:=.inr (.inr rfl),live:=fun hl=>absurd hl (show¬(3:Int)=1 by decide),dead:=fun _=>rfl,opn0:=by show(0:Int)≤0;omega,can0:=by show 0≤o.opn;omega,sum:=by show 0+o.filled+o.opn=o.qty;omega,shn0:=by show(0:Int)≤0;omega,shn1:=by show(0:Int)≤0;omega,whole:=fun _=>.inl rfl,shp:=fun hl=>absurd hl (by show¬(0:Int)<0;omega) }
theorem gone_stays(e:Eng)(i:Nat)(reason:Int):Stays e (e.gone i reason):=by
 unfold gone;split
 ·exact⟨rfl,rfl,rfl,rfl,rfl,rfl,by rw[tell_all,upd_len]⟩
 ·exact Stays.refl _
theorem dueOne_inv(h:EInv e)(p:Ord→Bool)(reason:Int)(i:Nat):EInv (dueOne p reason e i):=by
 unfold dueOne;split
 ·rename_i o ho;split
  ·rename_i hc;exact gone_inv h ho hc.1 reason
  ·exact h
 ·exact h
theorem dueOne_stays(p:Ord→Bool)(reason:Int)(e:Eng)(i:Nat):Stays e (dueOne p reason e i):=by
 unfold dueOne;split
 ·split
  ·exact gone_stays _ _ _
  ·exact Stays.refl _
 ·exact Stays.refl _
theorem fold_inv(f:Eng→Nat→Eng)(h1: ∀e i,EInv e→EInv (f e i))(h2: ∀e i,Stays e (f e i)): ∀(l:List Nat) (e:Eng),EInv e→EInv (l.foldl f e)∧Stays e (l.foldl f e)
 | [],e,h=>⟨h,Stays.refl e⟩
 |i::r,e,h=>by
  obtain⟨a,b⟩:=fold_inv f h1 h2 r (f e i) (h1 e i h);exact⟨a,(h2 e i).trans b⟩
theorem due_inv(h:EInv e)(p:Ord→Bool)(reason:Int):EInv (e.due p reason)∧Stays e (e.due p reason):=fold_inv _ (fun e i h=>dueOne_inv h p reason i) (dueOne_stays p reason) _ e h
theorem clamp_bd(p hi:Int)(h:1≤hi):1≤clamp p 1 hi∧clamp p 1 hi≤hi:=by
 unfold clamp;simp only;split<;>split<;>omega
theorem bestOf_bd(side:Int): ∀(l:List Ord),(∀o∈l,Ok mp st o)→0≤bestOf side l∧bestOf side l≤mp∨0=bestOf side l:=by
 intro l h;unfold bestOf;have key: ∀(l:List Ord) (p:Int),(∀o∈l,Ok mp st o)→(0≤p∧p≤mp∨0=p)→(0≤l.foldl (fun p x=>if x.side=side∧x.typ≠3∧0<x.shown∧(p=0∨(side=1∧p<x.price)∨(side=2∧x.price<p)) then x.price else p) p∧l.foldl (fun p x=>if x.side=side∧x.typ≠3∧0<x.shown∧(p=0∨(side=1∧p<x.price)∨(side=2∧x.price<p)) then x.price else p) p≤mp)∨0=l.foldl (fun p x=>if x.side=side∧x.typ≠3∧0<x.shown∧(p=0∨(side=1∧p<x.price)∨(side=2∧x.price<p)) then x.price else p) p:=by
  intro l
  induction l with
  |nil=>intro p _ hp;exact hp
  |cons x r ih=>
   intro p hl hp;simp only[List.foldl_cons];refine ih _ (fun o ho=>hl o (List.mem_cons_of_mem _ ho)) ?_;have k:=hl x (List.mem_cons_self ..);split
   ·exact .inl ⟨k.prc0,k.prc1⟩
   ·exact hp
 exact key l 0 h (.inr rfl)
theorem target_bd(h:EInv e)(o:Ord):0≤e.target o∧e.target o≤e.mp:=by
 have hb:=bestOf_bd (mp:=e.mp) (st:=e.stamp) o.side e.all (fun x hx=>by obtain⟨i,hi⟩:=List.getElem?_of_mem hx;exact h.ok i x hi);unfold target;simp only;split
 ·have:=clamp_bd (bestOf o.side e.all+o.off) e.mp h.mp0;omega
 ·have:=h.mp0;omega
theorem followOne_inv(h:EInv e)(i:Nat):EInv (followOne e i):=by
 unfold followOne;split
 ·rename_i o ho;have k:=h.ok i o ho;split
  ·rename_i hc;obtain⟨t0,t1⟩:=target_bd h o;simp only;split
   ·exact h
   ·split
    ·refine EInv.tell (h.upd i (fun o=>{ o with price:=0,shown:=0 }) (fun x hx=>?_) (fun _=>rfl) (fun x hx hx2=>absurd rfl hx2) (fun _ hl=>hl)) _ _ _ _ _ _;obtain rfl:o=x:=Option.some.inj (ho.symm.trans hx);have:=h.mp0;have:=k.opn0;exact{ k with prc0:=by show(0:Int)≤0;omega,prc1:=by show(0:Int)≤e.mp;omega,shn0:=by show(0:Int)≤0;omega,shn1:=by show(0:Int)≤o.opn;omega,whole:=fun _=>.inl rfl,dead:=fun _=>rfl,shp:=fun hl=>absurd hl (by show¬(0:Int)<0;omega),own:=fun ht=>absurd hc.2 ht }
    ·rename_i hne hz;refine EInv.tell (h.place i (fun x=>{ x with price:=e.target o,stamp:=(e.stamp+1:Nat),shown:=x.opn }) (fun x hx=>?_) (fun _=>rfl) (fun _=>rfl) (fun _ hl=>hl)) _ _ _ _ _ _;obtain rfl:o=x:=Option.some.inj (ho.symm.trans hx);exact{ k with prc0:=by show 0≤e.target o;omega,prc1:=t1,shn0:=k.opn0,shn1:=Int.le_refl _,whole:=fun _=>.inr rfl,dead:=fun hd=>absurd hc.1 hd,shp:=fun _=>by(show 1≤e.target o);omega,own:=fun ht=>absurd hc.2 ht,stm0:=by show(0:Int)≤((e.stamp+1:Nat):Int);omega,stm1:=by show((e.stamp+1:Nat):Int)≤((e.stamp+1:Nat):Int);omega }
  ·exact h
 ·exact h
theorem followOne_stays(e:Eng)(i:Nat):Stays e (followOne e i):=by
 unfold followOne;split
 ·split
  ·simp only;split
   ·exact Stays.refl _
   ·split
    ·exact⟨rfl,rfl,rfl,rfl,rfl,rfl,by rw[tell_all,upd_len]⟩
    ·exact⟨rfl,rfl,rfl,rfl,rfl,rfl,by rw[tell_all,upd_len]⟩
  ·exact Stays.refl _
 ·exact Stays.refl _
theorem follow_inv(h:EInv e):EInv e.follow∧Stays e e.follow:=fold_inv _ (fun e i h=>followOne_inv h i) followOne_stays _ e h
end Eng
namespace Eng
theorem upd_upd(e:Eng)(i:Nat)(f g:Ord→Ord):(e.upd i f).upd i g=e.upd i fun o=>g (f o):=by
 unfold upd;have: ∀(l:List Ord) (i:Nat),(l.modify i f).modify i g=l.modify i fun o=>g (f o):=by
  intro l
  induction l with
  |nil=>intro i;cases i<;>rfl
  |cons x r ih=>
   intro i;cases i with
   |zero=>rfl
   |succ i=>simp only[List.modify_succ_cons,ih]
 simp only[this]
structure VOk(v:Nat→Int):Prop where
 id0:0≤v 0
 id1:v 0<4294967296
 t0:0≤v 8
 t1:v 8<4294967296
theorem inn_iff(n a b:Int):inn n a b=true↔a≤n∧n≤b:=by simp[inn]
theorem inn_iff'(n a b:Int): ¬inn n a b=false↔a≤n∧n≤b:=by rw[Bool.not_eq_false,inn_iff]
theorem find_none(h:e.find id=none): ∀(i:Nat) (o:Ord),e.all[i]? =some o→o.id≠id:=by
 intro i o ho;unfold find at h;rw[List.findIdx?_eq_none_iff]at h;have:=h o (List.mem_of_getElem? ho);simpa using this
theorem find_some(h:e.find id=some i): ∃o,e.all[i]? =some o∧o.id=id:=by
 unfold find at h;rw[List.findIdx?_eq_some_iff_getElem]at h;obtain⟨hlt,hp,_⟩:=h;exact⟨e.all[i],List.getElem?_eq_getElem hlt,by simpa using hp⟩
theorem liveAt_some(h:e.liveAt id=some i): ∃o,e.all[i]? =some o∧o.id=id∧o.status=1:=by
 unfold liveAt at h;split at h
 ·rename_i j hj;split at h
  ·rename_i o ho;split at h
   ·rename_i hs;injection h with h;subst h;obtain⟨o',ho',hi⟩:=find_some hj;obtain rfl:o=o':=Option.some.inj (ho.symm.trans ho');exact⟨o,ho,hi,hs⟩
   ·cases h
  ·cases h
 ·cases h
def newOrd(v:Nat→Int):Ord:={ id:=v 0,side:=v 1,typ:=v 2,qty:=v 4,peak:=v 5,off:=v 6,life:=v 7,time:=v 8,status:=1,price:=v 3,opn:=v 4,filled:=0,cancelled:=0,shown:=0,stamp:=0 }
def enter(e:Eng)(v:Nat→Int):Eng:=({ e with all:=e.all++ [newOrd v] }:Eng).tell 1 (v 0) (v 1) (v 3) (v 4) (v 2)
theorem fresh_eq(e:Eng)(v:Nat→Int):e.fresh v=if e.why v≠0 then e.reject (v 0) (e.why v) else if v 2=3 then e.enter v else(e.enter v).sweep e.all.length:=rfl
theorem enter_at(e:Eng)(v:Nat→Int)(i:Nat)(o:Ord)(h:(e.enter v).all[i]? =some o):(i<e.all.length∧e.all[i]? =some o)∨(i=e.all.length∧o=newOrd v):=by
 have h:(e.all++ [newOrd v])[i]? =some o:=h;by_cases hi:i<e.all.length
 ·rw[List.getElem?_append_left hi]at h;exact .inl ⟨hi,h⟩
 ·rw[List.getElem?_append_right (by omega)]at h;have:i - e.all.length=0:=by
   have:=(List.getElem?_eq_some_iff.1 h).1;simp at this;omega
  rw[this]at h;simp at h;exact .inr ⟨by omega,h.symm⟩
theorem enter_inv(h:EInv e)(hv:VOk v)(hw:e.why v=0):EInv (e.enter v)∧(e.enter v).all[e.all.length]? =some (newOrd v):=by
 have h7: ∀{c:Prop} [Decidable c] {a b:Int},(if c then a else b)=0→a≠0→¬c∧b=0:=fun{c} _ a b hh ha=>by
  by_cases hc:c
  ·rw[if_pos hc]at hh;exact absurd hh ha
  ·rw[if_neg hc]at hh;exact⟨hc,hh⟩
 unfold why at hw;obtain⟨c4,hw⟩:=h7 hw (by decide);obtain⟨c2,hw⟩:=h7 hw (by decide);obtain⟨c5,hw⟩:=h7 hw (by decide);obtain⟨c6,hw⟩:=h7 hw (by decide);obtain⟨cv,hw⟩:=h7 hw (by decide);obtain⟨c8,hw⟩:=h7 hw (by decide);obtain⟨c9,_⟩:=h7 hw (by decide);simp only[not_or]at c4 c6;obtain⟨d0,d1,d2,d7⟩:=c4;rw[inn_iff']at d1 d2 d7;obtain⟨d4,d5⟩:=c6;rw[inn_iff']at d4;have hnf:e.find (v 0)=none:=by simpa using c2
 have hmp:=h.mp0;have hok:Ok e.mp e.stamp (newOrd v):=by
  have hid:=hv.id0;have hpr:0≤v 3∧v 3≤e.mp∧(v 2≠3→1≤v 3):=by
   by_cases ht:v 2=3
   ·rw[if_pos ht]at c5;have:v 3=0:=by simpa using c5
    exact⟨by omega,by omega,fun hc=>absurd ht hc⟩
   ·rw[if_neg ht,inn_iff']at c5;exact⟨by omega,by omega,fun _=>c5.1⟩
  have hoff: -e.mp≤v 6∧v 6≤e.mp:=by
   by_cases ht:v 2=3
   ·rw[if_pos ht]at cv;by_cases hs:v 1=1
    ·rw[if_pos hs,inn_iff']at cv;omega
    ·rw[if_neg hs,inn_iff']at cv;omega
   ·rw[if_neg ht]at cv;have:v 6=0:=by simpa using cv
    omega
  have hq:=h.mq1;have hpk:(v 2=2→1≤v 5∧v 5≤1000)∧(v 2≠2→v 5=0):=by
   by_cases ht:v 2=2
   ·rw[if_pos ht,inn_iff']at d5;exact⟨fun _=>by omega,fun hc=>absurd ht hc⟩
   ·rw[if_neg ht]at d5;exact⟨fun hc=>absurd hc ht,fun _=>by simpa using d5⟩
  exact{ id0:=by show 0<v 0;omega,id1:=hv.id1,side:=by show v 1=1∨v 1=2;omega,typ:=by show v 2=1∨v 2=2∨v 2=3;omega,life:=by show v 7=1∨v 7=2∨v 7=3;omega,status:=.inl rfl,qty1:=by show v 4≤1000;omega,fil0:=by show(0:Int)≤0;omega,opn0:=by show 0≤v 4;omega,can0:=by show(0:Int)≤0;omega,sum:=by show v 4+0+0=v 4;omega,live:=fun _=>rfl,shn0:=by show(0:Int)≤0;omega,shn1:=by show 0≤v 4;omega,whole:=fun _=>.inl rfl,dead:=fun hd=>rfl,peak:=hpk.1,peak0:=hpk.2,prc0:=hpr.1,prc1:=hpr.2.1,shp:=fun hl=>absurd hl (by show¬(0:Int)<0;omega),own:=hpr.2.2,off0:=hoff.1,off1:=hoff.2,time0:=hv.t0,time1:=hv.t1,stm0:=by show(0:Int)≤0;omega,stm1:=by show(0:Int)≤(e.stamp:Int);omega }
 refine⟨⟨h.mo0,h.mo1,h.mp0,h.mp1,h.mq0,h.mq1,fun i o ho=>?_,fun i j x y hx hy he=>?_,fun i j x y hx hy hne hsx hsy=>?_,h.now0,h.now1,?_⟩,?_⟩
 ·rcases enter_at e v i o ho with⟨_,h1⟩|⟨_,rfl⟩
  ·exact h.ok i o h1
  ·exact hok
 ·rcases enter_at e v i x hx with⟨a1,h1⟩|⟨a1,rfl⟩<;>rcases enter_at e v j y hy with⟨b1,h2⟩|⟨b1,rfl⟩
  ·exact h.ids i j x y h1 h2 he
  ·exact absurd he (find_none hnf i x h1)
  ·exact absurd he.symm (find_none hnf j y h2)
  ·omega
 ·rcases enter_at e v i x hx with⟨a1,h1⟩|⟨a1,rfl⟩
  ·rcases enter_at e v j y hy with⟨b1,h2⟩|⟨b1,rfl⟩
   ·exact h.apart i j x y h1 h2 hne hsx hsy
   ·exact absurd rfl hsy
  ·exact absurd rfl hsx
 ·show(((e.all++ [newOrd v]).countP (fun o=>o.status == 1):Nat):Int)≤e.mo;rw[List.countP_append];have:[newOrd v].countP (fun o=>o.status == 1)=1:=rfl;rw[this];have: ¬e.mo≤(e.all.countP (fun o=>o.status == 1):Nat):=c9;omega
 ·show(e.all++ [newOrd v])[e.all.length]? =_;rw[List.getElem?_append_right (Nat.le_refl _)];simp
theorem fresh_inv(h:EInv e)(hv:VOk v):EInv (e.fresh v):=by
 rw[fresh_eq];split
 ·exact h.tell _ _ _ _ _ _
 ·rename_i hw;have hw:e.why v=0:=by simpa using hw
  obtain⟨h1,h2⟩:=enter_inv h hv hw;split
  ·exact h1
  ·rename_i ht;exact(sweep_inv h1 h2 rfl rfl ht).1
theorem cancel_inv(h:EInv e)(id:Int):EInv (e.cancel id):=by
 unfold cancel;split
 ·rename_i i hi;obtain⟨o,ho,_,hs⟩:=liveAt_some hi;exact gone_inv h ho hs 1
 ·exact h.tell _ _ _ _ _ _
end Eng
namespace Eng
theorem EInv.cong{e':Eng}(h:EInv e)(a:e'.mo=e.mo)(b:e'.mp=e.mp)(c:e'.mq=e.mq)(d:e'.all=e.all)(f:e'.stamp=e.stamp)(g:e'.now=e.now):EInv e':=
 ⟨a▸h.mo0,a▸h.mo1,b▸h.mp0,b▸h.mp1,c▸h.mq0,c▸h.mq1,by rw[b,d,f];exact h.ok,by rw[d];exact h.ids,by rw[d];exact h.apart,g▸h.now0,g▸h.now1,by unfold alive;rw[d,a];exact h.live⟩
theorem tell_upd(e:Eng)(i:Nat)(f:Ord→Ord)(a b c d g h:Int):(e.tell a b c d g h).upd i f=(e.upd i f).tell a b c d g h:=rfl
def repO(o:Ord)(q:Int):Ord:={ o with qty:=q,opn:=q - o.filled }
def keepsPl(o:Ord)(v:Nat→Int):Bool:=decide (v 4≤o.qty) && (o.typ == 3 || v 3 == o.price)
def repTell(e:Eng)(i:Nat)(o:Ord)(v:Nat→Int):Eng:=(e.upd i fun _=>repO o (v 4)).tell 5 (v 0) 0 (v 3) (v 4) (if keepsPl o v then 1 else 0)
def repEnd(e:Eng)(i:Nat)(o:Ord)(v:Nat→Int):Eng:=
 if keepsPl o v then(e.repTell i o v).upd i fun o=>{ o with shown:=if o.opn<o.shown then o.opn else o.shown }
 else if o.typ≠3 then((e.repTell i o v).upd i fun o=>{ o with price:=v 3,shown:=0 }).sweep i
 else if 0<o.shown then(e.repTell i o v).lay i (v 4 - o.filled)
 else e.repTell i o v
theorem replace_eq(e:Eng)(v:Nat→Int):e.replace v=match e.liveAt (v 0) with
 |none=>e.reject (v 0) 3
 |some i=>match e.all[i]? with
  |none=>e
  |some o=>if(if o.typ=3 then v 3 == 0 else inn (v 3) 1 e.mp)=false then e.reject (v 0) 5
   else if inn (v 4) (o.filled+1) e.mq=false then e.reject (v 0) 6
   else e.repEnd i o v:=by
 unfold Eng.replace;split
 ·rename_i h;rw[h]
 ·rename_i i h;rw[h];simp only;split
  ·rename_i h2;rw[h2]
  ·rename_i o ho;rw[ho];have hc:(e.upd i fun o=>{ o with qty:=v 4,opn:=v 4 - o.filled })=e.upd i fun _=>repO o (v 4):=
    upd_congr e i _ _ (fun x hx=>by obtain rfl:o=x:=Option.some.inj (ho.symm.trans hx);rfl)
   simp only[hc];rfl
theorem repEnd_inv(h:EInv e)(ho:e.all[i]? =some o)(hs:o.status=1)(v:Nat→Int)(h5:(if o.typ=3 then v 3 == 0 else inn (v 3) 1 e.mp)=true)(h6:inn (v 4) (o.filled+1) e.mq=true):EInv (e.repEnd i o v):=by
 have k:=h.ok i o ho;rw[inn_iff]at h6;have hq:=h.mq1;have hl:=k.live hs;have hf:=k.fil0;have hsm:=k.sum;have hs0:=k.shn0;unfold repEnd;split
 ·rename_i hk;show EInv (((e.upd i fun _=>repO o (v 4)).upd i fun o=>{ o with shown:=if o.opn<o.shown then o.opn else o.shown }).tell _ _ _ _ _ _);rw[upd_upd];have hq2:v 4≤o.qty:=by
   unfold keepsPl at hk;simp at hk;exact hk.1
  have hw:=k.whole;refine EInv.tell (?_:EInv (e.upd i fun _=>{ repO o (v 4) with shown:=if v 4 - o.filled<o.shown then v 4 - o.filled else o.shown })) _ _ _ _ _ _;rw[upd_congr e i _ (fun x=>{ x with qty:=v 4,opn:=v 4 - x.filled,shown:=if v 4 - x.filled<x.shown then v 4 - x.filled else x.shown }) (fun x hx=>by obtain rfl:o=x:=Option.some.inj (ho.symm.trans hx);rfl)];refine h.upd i _ (fun x hx=>?_) (fun _=>rfl) (fun x hx hx2=>⟨rfl,?_⟩) (fun _ hl=>hl)
  ·obtain rfl:o=x:=Option.some.inj (ho.symm.trans hx);exact{ k with qty1:=by show v 4≤1000;omega,opn0:=by show 0≤v 4 - o.filled;omega,sum:=by show v 4 - o.filled+o.filled+o.cancelled=v 4;omega,shn0:=by show 0≤(if v 4 - o.filled<o.shown then v 4 - o.filled else o.shown);split<;>omega,shn1:=by show(if v 4 - o.filled<o.shown then v 4 - o.filled else o.shown)≤v 4 - o.filled;split<;>omega,whole:=fun ht=>by(have:=hw ht);(show(if v 4 - o.filled<o.shown then v 4 - o.filled else o.shown)=0∨(if v 4 - o.filled<o.shown then v 4 - o.filled else o.shown)=v 4 - o.filled);split<;>omega,dead:=fun hd=>absurd hs hd,shp:=fun hl=>k.shp (by revert hl;show 0<(if v 4 - o.filled<o.shown then v 4 - o.filled else o.shown)→0<o.shown;split<;>omega) }
  ·obtain rfl:o=x:=Option.some.inj (ho.symm.trans hx);intro e0;apply hx2;show(if v 4 - o.filled<o.shown then v 4 - o.filled else o.shown)=0;split<;>omega
 ·split
  ·rename_i hk ht;rw[if_neg ht,inn_iff]at h5;have hu:EInv ((e.repTell i o v).upd i fun o=>{ o with price:=v 3,shown:=0 }):=by
    show EInv (((e.upd i fun _=>repO o (v 4)).upd i fun o=>{ o with price:=v 3,shown:=0 }).tell _ _ _ _ _ _);rw[upd_upd];refine EInv.tell (?_:EInv (e.upd i fun _=>{ repO o (v 4) with price:=v 3,shown:=0 })) _ _ _ _ _ _;rw[upd_congr e i _ (fun x=>{ x with qty:=v 4,opn:=v 4 - x.filled,price:=v 3,shown:=0 }) (fun x hx=>by obtain rfl:o=x:=Option.some.inj (ho.symm.trans hx);rfl)];refine h.upd i _ (fun x hx=>?_) (fun _=>rfl) (fun x hx hx2=>absurd rfl hx2) (fun _ hl=>hl);obtain rfl:o=x:=Option.some.inj (ho.symm.trans hx);exact{ k with qty1:=by show v 4≤1000;omega,opn0:=by show 0≤v 4 - o.filled;omega,sum:=by show v 4 - o.filled+o.filled+o.cancelled=v 4;omega,shn0:=by show(0:Int)≤0;omega,shn1:=by show 0≤v 4 - o.filled;omega,whole:=fun _=>.inl rfl,dead:=fun _=>rfl,prc0:=by show 0≤v 3;omega,prc1:=h5.2,shp:=fun hl=>absurd hl (by show¬(0:Int)<0;omega),own:=fun _=>h5.1 }
   have hi:((e.repTell i o v).upd i fun o=>{ o with price:=v 3,shown:=0 }).all[i]? =some { repO o (v 4) with price:=v 3,shown:=0 }:=
    upd_same _ _ _ (repO o (v 4)) (by show(e.upd i fun _=>repO o (v 4)).all[i]? =_;exact upd_same _ _ _ _ ho)
   exact(sweep_inv hu hi hs rfl ht).1
  ·rename_i hk ht;have ht:o.typ=3:=by simpa using ht
   split
   ·rename_i hsh;have hi:(e.repTell i o v).all[i]? =some (repO o (v 4)):=by show(e.upd i fun _=>repO o (v 4)).all[i]? =_;exact upd_same _ _ _ _ ho
    have hp:EInv ({ e with stamp:=e.stamp+1 }.upd i fun _=>{ repO o (v 4) with stamp:=(e.stamp+1:Nat),shown:=v 4 - o.filled }):=by
     rw[upd_congr { e with stamp:=e.stamp+1 } i _ (fun x=>{ x with qty:=v 4,opn:=v 4 - x.filled,stamp:=(e.stamp+1:Nat),shown:=v 4 - x.filled }) (fun x hx=>by obtain rfl:o=x:=Option.some.inj (ho.symm.trans hx);rfl)];refine h.place i _ (fun x hx=>?_) (fun _=>rfl) (fun _=>rfl) (fun _ hl=>hl);obtain rfl:o=x:=Option.some.inj (ho.symm.trans hx);exact{ k with qty1:=by show v 4≤1000;omega,opn0:=by show 0≤v 4 - o.filled;omega,sum:=by show v 4 - o.filled+o.filled+o.cancelled=v 4;omega,shn0:=by show 0≤v 4 - o.filled;omega,shn1:=Int.le_refl _,whole:=fun _=>.inr rfl,dead:=fun hd=>absurd hs hd,shp:=fun _=>k.shp hsh,stm0:=by show(0:Int)≤((e.stamp+1:Nat):Int);omega,stm1:=by show((e.stamp+1:Nat):Int)≤((e.stamp+1:Nat):Int);omega }
    have hu:=upd_upd { e with stamp:=e.stamp+1 } i (fun _=>repO o (v 4)) (fun o'=>{ o' with stamp:=(e.stamp+1:Nat),shown:=v 4 - o.filled });rw[←hu]at hp;unfold Eng.lay;rw[hi];exact hp.cong rfl rfl rfl rfl rfl rfl
   ·rename_i hsh;refine EInv.tell (?_:EInv (e.upd i fun _=>repO o (v 4))) _ _ _ _ _ _;rw[upd_congr e i _ (fun x=>{ x with qty:=v 4,opn:=v 4 - x.filled }) (fun x hx=>by obtain rfl:o=x:=Option.some.inj (ho.symm.trans hx);rfl)];refine h.upd i _ (fun x hx=>?_) (fun _=>rfl) (fun x hx hx2=>⟨rfl,hx2⟩) (fun _ hl=>hl);obtain rfl:o=x:=Option.some.inj (ho.symm.trans hx);have h0:o.shown=0:=by omega
    exact{ k with qty1:=by show v 4≤1000;omega,opn0:=by show 0≤v 4 - o.filled;omega,sum:=by show v 4 - o.filled+o.filled+o.cancelled=v 4;omega,shn1:=by show o.shown≤v 4 - o.filled;omega,whole:=fun _=>.inl h0 }
theorem replace_inv(h:EInv e)(v:Nat→Int):EInv (e.replace v):=by
 rw[replace_eq];split
 ·exact h.tell _ _ _ _ _ _
 ·rename_i i hi;obtain⟨o,ho,_,hs⟩:=liveAt_some hi;rw[ho];simp only;by_cases h5:(if o.typ=3 then v 3 == 0 else inn (v 3) 1 e.mp)=false
  ·rw[if_pos h5];exact h.tell _ _ _ _ _ _
  ·rw[if_neg h5];by_cases h6:inn (v 4) (o.filled+1) e.mq=false
   ·rw[if_pos h6];exact h.tell _ _ _ _ _ _
   ·rw[if_neg h6];exact repEnd_inv h ho hs v (Bool.not_eq_false _▸h5) (Bool.not_eq_false _▸h6)
theorem tick_inv(h:EInv e)(t:Int)(h0:0≤t)(h1:t<4294967296):EInv (e.tick t):=by
 unfold tick;split
 ·exact h.tell _ _ _ _ _ _
 ·exact(due_inv (⟨h.mo0,h.mo1,h.mp0,h.mp1,h.mq0,h.mq1,h.ok,h.ids,h.apart,h0,h1,h.live⟩:EInv { e with now:=t }) _ _).1
theorem run_inv(h:EInv e)(kind:Int)(hv:VOk v):EInv (e.run kind v):=by
 unfold run;split
 ·exact fresh_inv h hv
 ·split
  ·exact cancel_inv h _
  ·split
   ·exact replace_inv h v
   ·split
    ·exact tick_inv h _ hv.t0 hv.t1
    ·split
     ·exact(due_inv h _ _).1
     ·exact h
end Eng
namespace Eng
structure Grew(n:Nat)(m:Int)(e e':Eng):Prop where
 seq0:e.seq≤e'.seq
 seq1:e'.seq≤e.seq+n
 out:e'.out.length+22*e.seq=e.out.length+22*e'.seq
 stm0:e.stamp≤e'.stamp
 stm1:e'.stamp≤e.stamp+n
 drw1:e'.drawn≤e.drawn+n
 vol0:e.volume≤e'.volume
 vol1:e'.volume≤e.volume+m
 wor0:e.worth+e'.volume≤e'.worth+e.volume
 wor1:e'.worth≤e.worth+1000000*m
theorem Grew.refl(e:Eng):Grew 0 0 e e:=⟨by omega,by omega,rfl,by omega,by omega,by omega,by omega,by omega,by omega,by omega⟩
theorem Grew.trans{n n':Nat}{m m':Int}{c:Eng}(h:Grew n m a b)(k:Grew n' m' b c):Grew (n+n') (m+m') a c:=by
 obtain⟨a1,a2,a3,a4,a5,a6,a7,a8,a9,a10⟩:=h;obtain⟨b1,b2,b3,b4,b5,b6,b7,b8,b9,b10⟩:=k;exact⟨by omega,by omega,by omega,by omega,by omega,by omega,by omega,by omega,by omega,by omega⟩
theorem Grew.mono{n n':Nat}{m m':Int}(h:Grew n m a b)(hn:n≤n')(hm:m≤m'):Grew n' m' a b:=by
 obtain⟨a1,a2,a3,a4,a5,a6,a7,a8,a9,a10⟩:=h;exact⟨by omega,by omega,by omega,by omega,by omega,by omega,by omega,by omega,by omega,by omega⟩
theorem Grew.upd(e:Eng)(i:Nat)(f:Ord→Ord):Grew 0 0 e (e.upd i f):=Grew.refl e |> fun h=>⟨h.seq0,h.seq1,h.out,h.stm0,h.stm1,h.drw1,h.vol0,h.vol1,h.wor0,h.wor1⟩
theorem Grew.tell(e:Eng)(a b c d f g:Int):Grew 1 0 e (e.tell a b c d f g):=by
 have hl:(e.tell a b c d f g).out.length=e.out.length+22:=by
  show(e.out++recB a _ b c d f g).length=_;rw[List.length_append,recB_length]
 have hs:(e.tell a b c d f g).seq=e.seq+1:=rfl;exact⟨by omega,by omega,by omega,Nat.le_refl _,Nat.le_succ _,Nat.le_succ _,Int.le_refl _,by show e.volume≤e.volume+0;omega,Int.le_refl _,by show e.worth≤e.worth+1000000*0;omega⟩
theorem Grew.lay(e:Eng)(i:Nat)(n:Int):Grew 1 0 e (e.lay i n):=by
 unfold Eng.lay;split
 ·rename_i o ho;have h1:=Grew.tell ({ e with stamp:=e.stamp+1 }.upd i fun o=>{ o with stamp:=(e.stamp+1:Nat),shown:=n }) 6 o.id 0 o.price n 0;obtain⟨b1,b2,b3,b4,b5,b6,b7,b8,b9,b10⟩:=h1;exact⟨b1,b2,b3,Nat.le_succ _,Nat.le_refl _,b6,b7,b8,b9,b10⟩
 ·exact⟨Nat.le_refl _,Nat.le_succ _,rfl,Nat.le_succ _,Nat.le_refl _,Nat.le_succ _,Int.le_refl _,by show e.volume≤e.volume+0;omega,Int.le_refl _,by show e.worth≤e.worth+1000000*0;omega⟩
theorem Grew.trade1(i k:Nat)(o r:Ord)(h1:1≤qtyOf o r)(h2:1≤r.price)(h3:r.price≤1000000):Grew 1 (qtyOf o r) e (e.trade1 i k o r):=by
 have hl:(e.trade1 i k o r).out.length=e.out.length+22:=by
  show(e.out++recB 3 _ o.id r.id r.price (qtyOf o r) 0).length=_;rw[List.length_append,recB_length]
 have hs:(e.trade1 i k o r).seq=e.seq+1:=rfl;have hv:(e.trade1 i k o r).volume=e.volume+qtyOf o r:=rfl;have hw:(e.trade1 i k o r).worth=e.worth+qtyOf o r*r.price:=rfl;have m1:qtyOf o r*1≤qtyOf o r*r.price:=Int.mul_le_mul_of_nonneg_left h2 (by omega);have m2:qtyOf o r*r.price≤qtyOf o r*1000000:=Int.mul_le_mul_of_nonneg_left h3 (by omega);exact⟨by omega,by omega,by omega,Nat.le_refl _,Nat.le_succ _,Nat.le_succ _,by omega,by omega,by omega,by omega⟩
theorem lay_drawn(e:Eng)(i:Nat)(n:Int):(e.lay i n).drawn=e.drawn:=by unfold Eng.lay;split<;>rfl
theorem Grew.trade2(e:Eng)(k:Nat)(r:Ord):Grew 1 0 e (e.trade2 k r):=by
 unfold Eng.trade2;split
 ·exact(Grew.upd e k _).mono (by omega) (by omega)
 ·split
  ·have h:=Grew.lay e.draw.2 k (if r.opn<1+e.draw.1 % r.peak then r.opn else 1+e.draw.1 % r.peak);obtain⟨b1,b2,b3,b4,b5,b6,b7,b8,b9,b10⟩:=h;refine⟨b1,b2,b3,b4,b5,?_,b7,b8,b9,b10⟩;have hd:=lay_drawn e.draw.2 k (if r.opn<1+e.draw.1 % r.peak then r.opn else 1+e.draw.1 % r.peak);have hd2:e.draw.2.drawn=e.drawn+1:=rfl;rw[hd2]at hd;exact Nat.le_of_eq hd
  ·exact(Grew.refl e).mono (by omega) (by omega)
theorem trade_grew(h:EInv e)(ho:e.all[i]? =some o)(hr:e.all[k]? =some r)(hne:i≠k)(hop:0<o.opn)(hrs:r.shown≠0):Grew 2 (qtyOf o r) e (e.trade i k):=by
 have kr:=h.ok k r hr;obtain⟨q1,q2,q3⟩:=qty_bd kr hop hrs;rw[trade_eq e i k o r ho hr hne];have:=(Grew.trade1 (e:=e) i k o r q1 (kr.shp (by omega)) (by have:=kr.prc1;have:=h.mp1;omega)).trans (Grew.trade2 (e.trade1 i k o r) k (tradeR o r));exact this.mono (by omega) (by omega)
theorem trades_grew: ∀(f:Nat) {e:Eng} {i:Nat} {o:Ord},EInv e→e.all[i]? =some o→o.status=1→o.shown=0→∃o',(trades f e i).all[i]? =some o'∧Grew (2*(o.opn - o'.opn).toNat) (o.opn - o'.opn) e (trades f e i)∧o'.opn≤o.opn
 |0,e,i,o,h,ho,hs,hsh=>⟨o,ho,by have:=Grew.refl e;exact this.mono (by omega) (by omega),Int.le_refl _⟩
 |f+1,e,i,o,h,ho,hs,hsh=>by
  unfold trades;split
  ·rename_i k hm;obtain⟨r,hr,hne,hop,hr1,hst,hr2,hmt,i1,et,i2,hi,hlt,h0⟩:=trade_step h ho hs hsh hm;obtain⟨o',h1,h2,h3⟩:=trades_grew f i2 hi hs hsh;have hg:=trade_grew h ho hr hne hop hr1;have e1:(tradeO o r).opn=o.opn - qtyOf o r:=rfl;refine⟨o',h1,(hg.trans h2).mono ?_ ?_,by omega⟩<;>omega
  ·exact⟨o,ho,by have:=Grew.refl e;exact this.mono (by omega) (by omega),Int.le_refl _⟩
theorem swept_grew(e:Eng)(i:Nat):Grew 1 0 e (swept e i):=by
 unfold swept;split
 ·split
  ·exact(Grew.upd e i _).mono (by omega) (by omega)
  ·exact Grew.lay _ _ _
 ·exact(Grew.refl e).mono (by omega) (by omega)
theorem sweep_grew(h:EInv e)(ho:e.all[i]? =some o)(hs:o.status=1)(hsh:o.shown=0):Grew 2001 1000 e (e.sweep i):=by
 rw[sweep_eq];obtain⟨o',h1,h2,h3⟩:=trades_grew (e.opnOf i).toNat h ho hs hsh;obtain⟨o'',g1,g2,_⟩:=trades_inv (e.opnOf i).toNat h ho hs hsh;obtain rfl:o'=o'':=Option.some.inj (h1.symm.trans g1);have k:=h.ok i o ho;have k':=g2.ok i o' h1;have:=k.sum;have:=k.fil0;have:=k.can0;have:=k.qty1;have:=k'.opn0;exact(h2.trans (swept_grew _ i)).mono (by omega) (by omega)
theorem gone_grew(e:Eng)(i:Nat)(reason:Int):Grew 1 0 e (e.gone i reason):=by
 unfold gone;split
 ·exact((Grew.upd e i _).trans (Grew.tell _ _ _ _ _ _ _)).mono (by omega) (by omega)
 ·exact(Grew.refl e).mono (by omega) (by omega)
def lives(e:Eng)(i:Nat):Bool:=match e.all[i]? with|some o=>o.status == 1|none=>false
theorem fold_grew(f:Eng→Nat→Eng)(h1: ∀e i,Grew (if lives e i then 1 else 0) 0 e (f e i))(h2: ∀e i j,i≠j→lives (f e i) j=lives e j): ∀(l:List Nat),l.Nodup→∀e,Grew (l.countP (lives e)) 0 e (l.foldl f e)
 | [],_,e=>Grew.refl e
 |i::r,hn,e=>by
  rw[List.nodup_cons]at hn;have ih:=fold_grew f h1 h2 r hn.2 (f e i);have hc:r.countP (lives (f e i))=r.countP (lives e):=List.countP_congr (fun j hj=>by rw[h2 e i j (fun hh=>hn.1 (hh▸hj))]);rw[hc]at ih;rw[List.foldl_cons,List.countP_cons];refine((h1 e i).trans ih).mono ?_ (by omega);omega
theorem count_range(e:Eng):(List.range e.all.length).countP (lives e)=e.alive:=by
 have key: ∀(l:List Ord) (n:Nat),n≤l.length→(List.range n).countP (fun i=>match l[i]? with|some o=>o.status == 1|none=>false)=(l.take n).countP (fun o=>o.status == 1):=by
  intro l n
  induction n with
  |zero=>intro _;rfl
  |succ n ih=>
   intro hn;have hx:l[n]? =some l[n]:=List.getElem?_eq_getElem (by omega);rw[List.range_succ,List.countP_append,ih (by omega),List.take_add_one,List.countP_append,hx];simp[List.countP_cons,hx]
 have:=key e.all e.all.length (Nat.le_refl _);rw[List.take_length]at this;exact this
theorem lives_at{e':Eng}{j:Nat}(h:e'.all[j]? =e.all[j]?):lives e' j=lives e j:=by unfold lives;rw[h]
theorem gone_ne(e:Eng)(i j:Nat)(reason:Int)(h:i≠j):(e.gone i reason).all[j]? =e.all[j]? :=by
 unfold gone;split
 ·rw[tell_all,upd_ne _ _ _ _ h]
 ·rfl
theorem dueOne_at(p:Ord→Bool)(reason:Int)(e:Eng)(i:Nat):(dueOne p reason e i=e∨(lives e i=true∧dueOne p reason e i=e.gone i reason)):=by
 rcases ho:e.all[i]? with _|o
 ·left;unfold dueOne;rw[ho]
 ·by_cases hc:o.status=1∧p o=true
  ·right;refine⟨by unfold lives;rw[ho];simp[hc.1],?_⟩;unfold dueOne;rw[ho];simp only;rw[if_pos hc]
  ·left;unfold dueOne;rw[ho];simp only;rw[if_neg hc]
theorem due_grew(h:EInv e)(p:Ord→Bool)(reason:Int):Grew 64 0 e (e.due p reason):=by
 have:=fold_grew (dueOne p reason) (fun e i=>by
  rcases dueOne_at p reason e i with h1|⟨h1,h2⟩
  ·rw[h1];exact(Grew.refl e).mono (Nat.zero_le _) (Int.le_refl _)
  ·rw[h1,h2];exact gone_grew _ _ _) (fun e i j hne=>by
  rcases dueOne_at p reason e i with h1|⟨h1,h2⟩
  ·rw[h1]
  ·rw[h2];exact lives_at (gone_ne _ _ _ _ hne)) (List.range e.all.length) List.nodup_range e
 rw[count_range]at this;exact this.mono (by have:=h.live;have:=h.mo1;omega) (by omega)
def park(e:Eng)(i:Nat)(o:Ord):Eng:=(e.upd i fun o=>{ o with price:=0,shown:=0 }).tell 8 o.id 0 0 0 0
def move(e:Eng)(i:Nat)(o:Ord)(p:Int):Eng:=({ e with stamp:=e.stamp+1 }.upd i fun o=>{ o with price:=p,stamp:=(e.stamp+1:Nat),shown:=o.opn }).tell 7 o.id 0 p o.opn 0
theorem followOne_at(e:Eng)(i:Nat):followOne e i=e∨∃o,e.all[i]? =some o∧o.status=1∧o.typ=3∧e.target o≠o.price∧((e.target o=0∧followOne e i=e.park i o)∨(e.target o≠0∧followOne e i=e.move i o (e.target o))):=by
 rcases ho:e.all[i]? with _|o
 ·left;unfold followOne;rw[ho]
 ·by_cases hc:o.status=1∧o.typ=3
  ·by_cases h1:e.target o=o.price
   ·left;unfold followOne;rw[ho];simp only;rw[if_pos hc,if_pos h1]
   ·right;refine⟨o,rfl,hc.1,hc.2,h1,?_⟩;by_cases h2:e.target o=0
    ·left;refine⟨h2,?_⟩;unfold followOne;rw[ho];simp only;rw[if_pos hc,if_neg h1,if_pos h2];rfl
    ·right;refine⟨h2,?_⟩;unfold followOne;rw[ho];simp only;rw[if_pos hc,if_neg h1,if_neg h2];rfl
  ·left;unfold followOne;rw[ho];simp only;rw[if_neg hc]
theorem Grew.park(e:Eng)(i:Nat)(o:Ord):Grew 1 0 e (e.park i o):=((Grew.upd e i _).trans (Grew.tell _ _ _ _ _ _ _)).mono (by omega) (by omega)
theorem Grew.move(e:Eng)(i:Nat)(o:Ord)(p:Int):Grew 1 0 e (e.move i o p):=by
 obtain⟨b1,b2,b3,b4,b5,b6,b7,b8,b9,b10⟩:=Grew.tell ({ e with stamp:=e.stamp+1 }.upd i fun x=>{ x with price:=p,stamp:=(e.stamp+1:Nat),shown:=x.opn }) 7 o.id 0 p o.opn 0;exact⟨b1,b2,b3,Nat.le_succ _,Nat.le_refl _,b6,b7,b8,b9,b10⟩
theorem follow_grew(h:EInv e):Grew 64 0 e e.follow:=by
 have:=fold_grew followOne (fun e i=>by
  rcases followOne_at e i with h1|⟨o,ho,hs,ht,hp,⟨h1,h2⟩|⟨h1,h2⟩⟩
  ·rw[h1];exact(Grew.refl e).mono (Nat.zero_le _) (Int.le_refl _)
  ·have hl:lives e i=true:=by unfold lives;rw[ho];simp[hs]
   rw[hl,h2];exact Grew.park _ _ _
  ·have hl:lives e i=true:=by unfold lives;rw[ho];simp[hs]
   rw[hl,h2];exact Grew.move _ _ _ _) (fun e i j hne=>by
  rcases followOne_at e i with h1|⟨o,ho,hs,ht,hp,⟨h1,h2⟩|⟨h1,h2⟩⟩
  ·rw[h1]
  ·rw[h2];exact lives_at (upd_ne _ _ _ _ hne)
  ·rw[h2];exact lives_at (upd_ne _ _ _ _ hne)) (List.range e.all.length) List.nodup_range e
 rw[count_range]at this;exact this.mono (by have:=h.live;have:=h.mo1;omega) (by omega)
theorem enter_grew(e:Eng)(v:Nat→Int):Grew 1 0 e (e.enter v):=by
 obtain⟨b1,b2,b3,b4,b5,b6,b7,b8,b9,b10⟩:=Grew.tell ({ e with all:=e.all++ [newOrd v] }:Eng) 1 (v 0) (v 1) (v 3) (v 4) (v 2);exact⟨b1,b2,b3,b4,b5,b6,b7,b8,b9,b10⟩
theorem repEnd_grew(h:EInv e)(ho:e.all[i]? =some o)(hs:o.status=1)(v:Nat→Int)(h5:(if o.typ=3 then v 3 == 0 else inn (v 3) 1 e.mp)=true)(h6:inn (v 4) (o.filled+1) e.mq=true)(hu:o.typ≠3→EInv ((e.repTell i o v).upd i fun o=>{ o with price:=v 3,shown:=0 })):Grew 2002 1000 e (e.repEnd i o v):=by
 have h1:Grew 1 0 e (e.repTell i o v):=((Grew.upd e i _).trans (Grew.tell _ _ _ _ _ _ _)).mono (by omega) (by omega);unfold repEnd;split
 ·exact(h1.trans (Grew.upd _ _ _)).mono (by omega) (by omega)
 ·split
  ·rename_i ht;have hi:((e.repTell i o v).upd i fun o=>{ o with price:=v 3,shown:=0 }).all[i]? =some { repO o (v 4) with price:=v 3,shown:=0 }:=
    upd_same _ _ _ (repO o (v 4)) (by show(e.upd i fun _=>repO o (v 4)).all[i]? =_;exact upd_same _ _ _ _ ho)
   exact((h1.trans (Grew.upd _ _ _)).trans (sweep_grew (hu ht) hi hs rfl)).mono (by omega) (by omega)
  ·split
   ·exact(h1.trans (Grew.lay _ _ _)).mono (by omega) (by omega)
   ·exact h1.mono (by omega) (by omega)
end Eng
end Go.Proofs.YtanfmhonjpjpoaaGreatDoor
