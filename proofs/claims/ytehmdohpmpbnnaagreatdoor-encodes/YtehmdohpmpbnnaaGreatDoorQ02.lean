import Derived.Test.YtehmdohpmpbnnaaGreatDoorQ00
import Derived.Test.YtehmdohpmpbnnaaGreatDoorQ01
set_option linter.all false
set_option maxRecDepth 100000
set_option maxHeartbeats 8000000
namespace Go.Proofs.YtehmdohpmpbnnaaGreatDoor
variable{e a b c e':bf}{o x r:Ord}{i st k:Nat}{side mp id:Int}{v:Nat→Int}{l:List Ord}
open Go.Proofs.Tryz
namespace bf
theorem kz(e:bf)(i:Nat)(f:Ord→Ord):(e.upd i f).all.length=e.all.length:=by simp[upd]
theorem dL(e:bf)(i j:Nat)(f:Ord→Ord):(e.upd i f).all[j]? =if i=j then e.all[j]?.map f else e.all[j]? :=by
 simp only[upd,List.getElem?_modify];by_cases h:i=j
 ·simp[h]
 simp[h]
theorem upd_same(e:bf)(i:Nat)(f:Ord→Ord)(o:Ord)(h:e.all[i]? =some o):(e.upd i f).all[i]? =some (f o):=by rw[dL,if_pos rfl,h];rfl
theorem upd_ne(e:bf)(i j:Nat)(f:Ord→Ord)(h:i≠j):(e.upd i f).all[j]? =e.all[j]? :=by rw[dL,if_neg h]
theorem ahead_irrefl(side:Int)(x:Ord):ahead side x x=false:=by simp[ahead]
theorem qL(side:Int)(x y z:Ord)(h:ahead side x y=true)(k:ahead side y z=true):ahead side x z=true:=by
 unfold ahead at *;by_cases A:side=2
 ·simp[A]at *;omega
 simp[A]at *;omega
theorem ahead_total(side:Int)(x y:Ord)(h:x.dh≠y.dh)(k:ahead side x y=false):ahead side y x=true:=by
 unfold ahead at *;by_cases A:side=2
 ·simp[A]at *;omega
 simp[A]at *;omega
def Apart(l:List Ord):Prop:= ∀(i j:Nat) (x y:Ord),l[i]? =some x→l[j]? =some y→i≠j→x.bg≠0→y.bg≠0→x.dh≠y.dh
theorem dM(h:bU side x=true):x.bg≠0∧x.side=side:=by
 simp[bU]at h;exact⟨h.2,h.1⟩
theorem ze:∀{n b:Nat},pz l side n=some b→b<n∧∃x,l[b]? =some x∧bU side x=true
 |0,b,h=>by cases h
 |n+1,b,h=>by
  unfold pz at h;split at h
  ·obtain⟨h1,h2⟩:=ze h;exact⟨by omega,h2⟩
  rename_i x hx;split at h
  ·rename_i hr;split at h
   ·cases h;exact⟨by omega,x,hx,hr⟩
   rename_i b' hb;have hh:∀c:Bool,(if c=true then some n else some b')=some b→b<n+1∧∃x,l[b]? =some x∧bU side x=true:=by
    intro c A;cases c
    ·simp at A;subst A;obtain⟨h1,h2⟩:=ze hb;exact⟨by omega,h2⟩
    simp at A;subst A;exact⟨by omega,x,hx,hr⟩
   exact hh _ h
  obtain⟨h1,h2⟩:=ze h;exact⟨by omega,h2⟩
theorem jM:∀{n:Nat},pz l side n=none→∀(j:Nat) (y:Ord),j<n→l[j]? =some y→bU side y=false
 |0,h,j,y,hj,_=>absurd hj (Nat.not_lt_zero j)
 |n+1,h,j,y,hj,hy=>by
  unfold pz at h;split at h
  ·rename_i hx;rcases Nat.lt_succ_iff_lt_or_eq.1 hj with hj|rfl
   ·exact jM h j y hj hy
   rw[hx]at hy;cases hy
  rename_i x hx;split at h
  ·split at h
   ·cases h
   rename_i b' hb;have hh:∀c:Bool,(if c=true then some n else some b')=none→False:=by intro c A;cases c<;>cases A
   exact(hh _ h).elim
  rename_i B;rcases Nat.lt_succ_iff_lt_or_eq.1 hj with hj|rfl
  ·exact jM h j y hj hy
  rw[hx]at hy;cases hy;simpa using B
theorem fM(ha:Apart l):∀{n b:Nat},pz l side n=some b→∀x,l[b]? =some x→∀(j:Nat) (y:Ord),j<n→j≠b→l[j]? =some y→bU side y=true→ahead side x y=true
 |0,b,h,_,_,_,_,_,_,_,_=>by cases h
 |n+1,b,h,x,hx,j,y,hj,hne,hy,hr=>by
  unfold pz at h;split at h
  ·rename_i hn;rcases Nat.lt_succ_iff_lt_or_eq.1 hj with hj|rfl
   ·exact fM ha h x hx j y hj hne hy hr
   rw[hn]at hy;cases hy
  rename_i z hz;split at h
  ·rename_i hrz;split at h
   ·rename_i hnone;cases h;exact absurd hr (by rw[jM hnone j y (by omega) hy];simp)
   rename_i b' hb;obtain⟨hb1,x',hx',hrx'⟩:=ze hb;rw[hx']at h;simp only at h;have hzs:=dM hrz;have hxs:=dM hrx';cases hc:ahead side z x'
   ·simp only[hc,Bool.false_eq_true,if_false,Option.some.injEq]at h;subst h;obtain rfl:x'=x:=Option.some.inj (hx'.symm.trans hx);rcases Nat.lt_succ_iff_lt_or_eq.1 hj with hj|rfl
    ·exact fM ha hb x' hx' j y hj hne hy hr
    obtain rfl:z=y:=Option.some.inj (hz.symm.trans hy);exact ahead_total side z x' (ha j b' z x' hz hx' hne hzs.1 hxs.1) hc
   simp only[hc,if_true,Option.some.injEq]at h;subst h;obtain rfl:z=x:=Option.some.inj (hz.symm.trans hx);have hjn:j<n:=by omega
   by_cases e:j=b'
   ·subst e;obtain rfl:x'=y:=Option.some.inj (hx'.symm.trans hy);exact hc
   exact qL side z x' y hc (fM ha hb x' hx' j y hjn e hy hr)
  rename_i hrz;rcases Nat.lt_succ_iff_lt_or_eq.1 hj with hj|rfl
  ·exact fM ha h x hx j y hj hne hy hr
  rw[hz]at hy;cases hy;exact absurd hr hrz
theorem first_is(ha:Apart e.all){b:Nat}(hx:e.all[b]? =some x)(hr:bU side x=true)(hb:∀(j:Nat) (y:Ord),j≠b→e.all[j]? =some y→bU side y=true→ahead side x y=true):e.first side=some b:=by
 have A:b<e.all.length:=(List.getElem?_eq_some_iff.1 hx).1;rcases h:e.first side with _|c
 ·have:=jM h b x A hx;rw[hr]at this;cases this
 obtain⟨G,z,D,C⟩:=ze h;by_cases B:c=b
 ·rw[B]
 have E:=fM ha h z D b x A (fun e=>B e.symm) hx hr;have F:=hb c z B D C;have:=qL side x z x F E;rw[ahead_irrefl]at this;cases this
theorem first_none(h:∀(j:Nat) (y:Ord),e.all[j]? =some y→bU side y=false):e.first side=none:=by
 rcases hf:e.first side with _|c
 ·rfl
 obtain⟨C,z,B,A⟩:=ze hf;rw[h c z B]at A;cases A
end bf
namespace bf
structure Ok(mp:Int)(st:Nat)(o:Ord):Prop where
 nC:0<o.id
 nD:o.id<4294967296
 side:o.side=1∨o.side=2
 typ:o.typ=1∨o.typ=2∨o.typ=3
 jr:o.jr=1∨o.jr=2∨o.jr=3
 dm:o.dm=1∨o.dm=2∨o.dm=3
 fH:o.mg≤1000
 fJ:0≤o.bu
 dN:0≤o.opn
 jN:0≤o.cancelled
 sum:o.opn+o.bu+o.cancelled=o.mg
 live:o.dm=1→o.cancelled=0
 kH:0≤o.bg
 kJ:o.bg≤o.opn
 whole:o.typ≠2→o.bg=0∨o.bg=o.opn
 dead:o.dm≠1→o.bg=0
 jw:o.typ=2→1≤o.jw∧o.jw≤1000
 peak0:o.typ≠2→o.jw=0
 lM:0≤o.bn
 gY:o.bn≤mp
 shp:0<o.bg→1≤o.bn
 own:o.typ≠3→1≤o.bn
 off0: -mp≤o.off
 off1:o.off≤mp
 time0:0≤o.time
 time1:o.time<4294967296
 stm0:0≤o.dh
 tL:o.dh≤(st:Int)
theorem Ok.mono{st':Nat}(h:Ok mp st o)(hs:st≤st'):Ok mp st' o:={ h with tL:=by have:=h.tL;omega }
structure fe(e:bf):Prop where
 mo0:1≤e.mo
 mo1:e.mo≤64
 mp0:1≤e.mp
 oN:e.mp≤1000000
 mq0:1≤e.mq
 mq1:e.mq≤1000
 ok:∀(i:Nat) (o:Ord),e.all[i]? =some o→Ok e.mp e.dh o
 ids:∀(i j:Nat) (x y:Ord),e.all[i]? =some x→e.all[j]? =some y→x.id=y.id→i=j
 apart:Apart e.all
 now0:0≤e.now
 now1:e.now<4294967296
 live:(e.alive:Int)≤e.mo
theorem gB(p:Ord→Bool)(f:Ord→Ord)(hf:∀o,p (f o)=true→p o=true):∀(l:List Ord) (i:Nat),(l.modify i f).countP p≤l.countP p
 | [],i=>by cases i<;>simp[List.modify]
 |x::r,0=>by
  simp only[List.modify_zero_cons,List.countP_cons];by_cases h:p (f x)=true
  ·simp[h,hf x h]
  simp[h]
 |x::r,i+1=>by
  simp only[List.modify_succ_cons,List.countP_cons];have:=gB p f hf r i;omega
theorem fe.tell(h:fe e)(a b c d f g:Int):fe (e.tell a b c d f g):=⟨h.mo0,h.mo1,h.mp0,h.oN,h.mq0,h.mq1,h.ok,h.ids,h.apart,h.now0,h.now1,h.live⟩
theorem fe.upd(h:fe e)(i:Nat)(f:Ord→Ord)(hok:∀o,e.all[i]? =some o→Ok e.mp e.dh (f o))(hid:∀o,(f o).id=o.id)(hst:∀o,e.all[i]? =some o→(f o).bg≠0→(f o).dh=o.dh∧o.bg≠0)(hl:∀o,(f o).dm=1→o.dm=1):fe (e.upd i f):=by
 refine⟨h.mo0,h.mo1,h.mp0,h.oN,h.mq0,h.mq1,fun j o ho=>?_,fun j k x y A hy he=>?_,fun j k x y A hy hne hsx hsy=>?_,h.now0,h.now1,?_⟩
 ·rw[dL]at ho;by_cases E:i=j
  ·subst E;rw[if_pos rfl]at ho;obtain⟨H,B,rfl⟩:=Option.map_eq_some_iff.1 ho;exact hok H B
  rw[if_neg E]at ho;exact h.ok j o ho
 ·have C:∀(j:Nat) (x:Ord),(e.upd i f).all[j]? =some x→∃D,e.all[j]? =some D∧D.id=x.id:=by
   intro j x A;rw[dL]at A;by_cases E:i=j
   ·rw[if_pos E]at A;obtain⟨H,B,rfl⟩:=Option.map_eq_some_iff.1 A;exact⟨H,B,(hid H).symm⟩
   rw[if_neg E]at A;exact⟨x,A,rfl⟩
  obtain⟨D,F,I⟩:=C j x A;obtain⟨K,G,J⟩:=C k y hy;exact h.ids j k D K F G (by rw[I,J,he])
 ·have C:∀(j:Nat) (x:Ord),(e.upd i f).all[j]? =some x→x.bg≠0→∃D,e.all[j]? =some D∧D.dh=x.dh∧D.bg≠0:=by
   intro j x A N;rw[dL]at A;by_cases E:i=j
   ·subst E;rw[if_pos rfl]at A;obtain⟨H,B,rfl⟩:=Option.map_eq_some_iff.1 A;obtain⟨L,M⟩:=hst H B N;exact⟨H,B,L.symm,M⟩
   rw[if_neg E]at A;exact⟨x,A,rfl,N⟩
  obtain⟨D,F,I,O⟩:=C j x A hsx;obtain⟨K,G,J,R⟩:=C k y hy hsy;rw[←I,←J];exact h.apart j k D K F G hne O R
 have L:(e.upd i f).alive≤e.alive:=gB _ f (fun o ho=>by simp only[beq_iff_eq]at ho⊢;exact hl o ho) e.all i;have M:=h.live;show((e.upd i f).alive:Int)≤e.mo;omega
theorem fe.stamped(h:fe e):fe { e with dh:=e.dh+1 }:=
 ⟨h.mo0,h.mo1,h.mp0,h.oN,h.mq0,h.mq1,fun i o ho=>(h.ok i o ho).mono (Nat.le_succ _),h.ids,h.apart,h.now0,h.now1,h.live⟩
theorem fe.place(h:fe e)(i:Nat)(f:Ord→Ord)(hok:∀o,e.all[i]? =some o→Ok e.mp (e.dh+1) (f o))(hid:∀o,(f o).id=o.id)(hst:∀o,(f o).dh=(e.dh+1:Nat))(hl:∀o,(f o).dm=1→o.dm=1):fe ({ e with dh:=e.dh+1 }.upd i f):=by
 refine⟨h.mo0,h.mo1,h.mp0,h.oN,h.mq0,h.mq1,fun j o ho=>?_,fun j k x y A hy he=>?_,fun j k x y A hy hne hsx hsy=>?_,h.now0,h.now1,?_⟩
 ·rw[dL]at ho;by_cases B:i=j
  ·subst B;rw[if_pos rfl]at ho;obtain⟨E,D,rfl⟩:=Option.map_eq_some_iff.1 ho;exact hok E D
  rw[if_neg B]at ho;exact(h.ok j o ho).mono (Nat.le_succ _)
 ·have C:∀(j:Nat) (x:Ord),({ e with dh:=e.dh+1 }.upd i f).all[j]? =some x→∃F,e.all[j]? =some F∧F.id=x.id:=by
   intro j x A;rw[dL]at A;by_cases B:i=j
   ·rw[if_pos B]at A;obtain⟨E,D,rfl⟩:=Option.map_eq_some_iff.1 A;exact⟨E,D,(hid E).symm⟩
   rw[if_neg B]at A;exact⟨x,A,rfl⟩
  obtain⟨F,J,L⟩:=C j x A;obtain⟨R,K,M⟩:=C k y hy;exact h.ids j k F R J K (by rw[L,M,he])
 ·have C:∀(j:Nat) (x:Ord),({ e with dh:=e.dh+1 }.upd i f).all[j]? =some x→(j=i∧x.dh=(e.dh+1:Nat))∨(j≠i∧e.all[j]? =some x∧x.dh≤e.dh):=by
   intro j x A;rw[dL]at A;by_cases B:i=j
   ·subst B;rw[if_pos rfl]at A;obtain⟨E,D,rfl⟩:=Option.map_eq_some_iff.1 A;exact .inl ⟨rfl,hst E⟩
   rw[if_neg B]at A;exact .inr ⟨fun G=>B G.symm,A,(h.ok j x A).tL⟩
  rcases C j x A with⟨B,H⟩|⟨B,H,N⟩<;>rcases C k y hy with⟨G,I⟩|⟨G,I,O⟩
  ·omega
  ·omega
  ·omega
  exact h.apart j k x y H I hne hsx hsy
 have H:({ e with dh:=e.dh+1 }.upd i f).alive≤e.alive:=gB _ f (fun o ho=>by simp only[beq_iff_eq]at ho⊢;exact hl o ho) e.all i;have I:=h.live;show(({ e with dh:=e.dh+1 }.upd i f).alive:Int)≤e.mo;omega
theorem fe.lay(h:fe e)(i:Nat)(n:Int)(o:Ord)(ho:e.all[i]? =some o)(hs:o.dm=1)(h1:1≤n)(h2:n≤o.opn)(h3:o.typ≠2→n=o.opn)(h4:1≤o.bn):fe (e.lay i n):=by
 unfold bf.lay;rw[ho];refine fe.tell (fe.place h i (fun o=>{ o with dh:=(e.dh+1:Nat),bg:=n }) (fun o' ho'=>?_) (fun _=>rfl) (fun _=>rfl) (fun _ hl=>hl)) _ _ _ _ _ _;obtain rfl:o=o':=Option.some.inj (ho.symm.trans ho');have k:=h.ok i o ho;exact{ k with kH:=by show 0≤n;omega,kJ:=h2,whole:=fun ht=>.inr (h3 ht),dead:=fun hd=>absurd hs hd,shp:=fun _=>h4,stm0:=by show(0:Int)≤((e.dh+1:Nat):Int);omega,tL:=by show((e.dh+1:Nat):Int)≤((e.dh+1:Nat):Int);omega }
end bf
namespace bf
def gy(o r:Ord):Int:=if r.bg<o.opn then r.bg else o.opn
def kg(o r:Ord):Ord:={ o with opn:=o.opn - gy o r,bu:=o.bu+gy o r }
def jb(o r:Ord):Ord:={ r with opn:=r.opn - gy o r,bu:=r.bu+gy o r,bg:=r.bg - gy o r }
def dx(e:bf)(i k:Nat)(o r:Ord):bf:=
 let e1:=(e.upd i fun _=>kg o r).upd k fun _=>jb o r
 { e1 with worth:=e1.worth+gy o r*r.bn,gq:=e1.gq+gy o r }.tell 3 o.id r.id r.bn (gy o r) 0
def rq(e:bf)(k:Nat)(r:Ord):bf:=
 if r.opn=0 then e.upd k fun r=>{ r with dm:=2 }
 else if r.bg=0 then
  let d:=e.draw
  let m:=1+d.1 % r.jw
  d.2.lay k (if r.opn<m then r.opn else m)
 else e
theorem oU{α:Type}(f g:α→α):∀(l:List α) (i:Nat),(∀x,l[i]? =some x→f x=g x)→l.modify i f=l.modify i g
 | [],i,_=>by cases i<;>rfl
 |x::r,0,h=>by simp[List.modify_zero_cons,h x rfl]
 |x::r,i+1,h=>by
  simp only[List.modify_succ_cons];rw[oU f g r i (fun y hy=>h y hy)]
theorem nk(e:bf)(i:Nat)(f g:Ord→Ord)(h:∀x,e.all[i]? =some x→f x=g x):e.upd i f=e.upd i g:=by
 unfold upd;rw[oU f g e.all i h]
theorem gZ(e:bf)(i k:Nat)(o r:Ord)(ho:e.all[i]? =some o)(hr:e.all[k]? =some r)(hne:i≠k):e.sw i k=(e.dx i k o r).rq k (jb o r):=by
 unfold bf.sw;rw[ho,hr];have C:(e.upd i fun o=>{ o with opn:=o.opn - gy o r,bu:=o.bu+gy o r })=e.upd i fun _=>kg o r:=
  nk e i _ _ (fun x hx=>by obtain rfl:o=x:=Option.some.inj (ho.symm.trans hx);rfl)
 have A:(e.upd i fun x=>{ x with opn:=x.opn - gy o r,bu:=x.bu+gy o r })=e.upd i fun _=>kg o r:=
  nk e i _ _ (fun x hx=>by obtain rfl:o=x:=Option.some.inj (ho.symm.trans hx);rfl)
 have B:((e.upd i fun _=>kg o r).upd k fun x=>{ x with opn:=x.opn - gy o r,bu:=x.bu+gy o r,bg:=x.bg - gy o r })=(e.upd i fun _=>kg o r).upd k fun _=>jb o r:=
  nk _ k _ _ (fun x hx=>by
   rw[upd_ne _ _ _ _ hne]at hx;obtain rfl:r=x:=Option.some.inj (hr.symm.trans hx);rfl)
 show(let n:=gy o r
  let e1:=(e.upd i fun o=>{ o with opn:=o.opn - n,bu:=o.bu+n }).upd k fun r=>{ r with opn:=r.opn - n,bu:=r.bu+n,bg:=r.bg - n }
  let e2:={ e1 with worth:=e1.worth+n*r.bn,gq:=e1.gq+n }.tell 3 o.id r.id r.bn n 0
  if r.opn - n=0 then e2.upd k fun r=>{ r with dm:=2 }
  else if r.bg - n=0 then
   let d:=e2.draw
   let m:=1+d.1 % r.jw
   d.2.lay k (if r.opn - n<m then r.opn - n else m)
  else e2)=_
 simp only;rw[A,B];rfl
theorem vM(hr:Ok mp st r)(hop:0<o.opn)(hrs:r.bg≠0):1≤gy o r∧gy o r≤o.opn∧gy o r≤r.bg:=by
 have A:=hr.kH;unfold gy;split<;>omega
theorem cK(e:bf)(i k:Nat)(o r:Ord)(j:Nat):(e.dx i k o r).all[j]? =if k=j then e.all[j]?.map (fun _=>jb o r) else if i=j then e.all[j]?.map (fun _=>kg o r) else e.all[j]? :=by
 show((e.upd i fun _=>kg o r).upd k fun _=>jb o r).all[j]? =_;rw[dL,dL];by_cases h:k=j
 ·by_cases A:i=j
  ·simp[h,A];cases e.all[j]?<;>rfl
  simp[h,A]
 simp[h]
theorem fe.dx(h:fe e)(i k:Nat)(o r:Ord)(ho:e.all[i]? =some o)(hr:e.all[k]? =some r)(hne:i≠k)(hs:o.dm=1)(hsh:o.bg=0)(hop:0<o.opn)(hrs:r.bg≠0):fe (e.dx i k o r):=by
 have D:=h.ok i o ho;have B:=h.ok k r hr;obtain⟨G,H,I⟩:=vM B hop hrs;have E:fe (e.upd i fun _=>kg o r):=by
  rw[nk e i (fun _=>kg o r) (fun x=>{ x with opn:=x.opn - gy o r,bu:=x.bu+gy o r }) (fun x hx=>by obtain rfl:o=x:=Option.some.inj (ho.symm.trans hx);rfl)];refine h.upd i _ (fun x hx=>?_) (fun _=>rfl) (fun x hx hx2=>⟨rfl,hx2⟩) (fun _ hl=>hl);obtain rfl:o=x:=Option.some.inj (ho.symm.trans hx);exact{ D with fJ:=by have:=D.fJ;show 0≤o.bu+gy o r;omega,dN:=by show 0≤o.opn - gy o r;omega,sum:=by have:=D.sum;show o.opn - gy o r+(o.bu+gy o r)+o.cancelled=o.mg;omega,kJ:=by show o.bg≤o.opn - gy o r;omega,whole:=fun _=>.inl hsh }
 have C:(e.upd i fun _=>kg o r).all[k]? =some r:=by rw[upd_ne _ _ _ _ hne];exact hr
 have A:fe ((e.upd i fun _=>kg o r).upd k fun _=>jb o r):=by
  rw[nk _ k (fun _=>jb o r) (fun x=>{ x with opn:=x.opn - gy o r,bu:=x.bu+gy o r,bg:=x.bg - gy o r }) (fun x hx=>by obtain rfl:r=x:=Option.some.inj (C.symm.trans hx);rfl)];refine E.upd k _ (fun x hx=>?_) (fun _=>rfl) (fun x hx hx2=>⟨rfl,?_⟩) (fun _ hl=>hl)
  ·obtain rfl:r=x:=Option.some.inj (C.symm.trans hx);have w:=B.whole;exact{ B with fJ:=by have:=B.fJ;show 0≤r.bu+gy o r;omega,dN:=by have:=B.kJ;show 0≤r.opn - gy o r;omega,sum:=by have:=B.sum;show r.opn - gy o r+(r.bu+gy o r)+r.cancelled=r.mg;omega,kH:=by show 0≤r.bg - gy o r;omega,kJ:=by have:=B.kJ;show r.bg - gy o r≤r.opn - gy o r;omega,whole:=fun ht=>by(have:=w ht);(show r.bg - gy o r=0∨r.bg - gy o r=r.opn - gy o r);omega,dead:=fun hd=>absurd (B.dead hd) hrs,shp:=fun _=>B.shp (by have:=B.kH;omega) }
  obtain rfl:r=x:=Option.some.inj (C.symm.trans hx);exact hrs
 have F:fe { ((e.upd i fun _=>kg o r).upd k fun _=>jb o r) with worth:=((e.upd i fun _=>kg o r).upd k fun _=>jb o r).worth+gy o r*r.bn,gq:=((e.upd i fun _=>kg o r).upd k fun _=>jb o r).gq+gy o r }:=
  ⟨A.mo0,A.mo1,A.mp0,A.oN,A.mq0,A.mq1,A.ok,A.ids,A.apart,A.now0,A.now1,A.live⟩
 exact F.tell _ _ _ _ _ _
theorem fe.drew(h:fe e):fe e.draw.2:=⟨h.mo0,h.mo1,h.mp0,h.oN,h.mq0,h.mq1,h.ok,h.ids,h.apart,h.now0,h.now1,h.live⟩
theorem next_bd(k:Ok mp st r)(hs:r.dm=1)(h0:r.opn≠0)(hw:r.typ=2)(d:Int)(hd:0≤d):1≤(if r.opn<1+d % r.jw then r.opn else 1+d % r.jw)∧(if r.opn<1+d % r.jw then r.opn else 1+d % r.jw)≤r.opn:=by
 have A:=k.dN;have B:=Int.emod_nonneg d (b:=r.jw) (by have:=k.jw hw;omega);split<;>omega
theorem fe.rq(h:fe e)(k:Nat)(r:Ord)(hr:e.all[k]? =some r)(hs:r.dm=1)(hw:r.typ≠2→r.bg=r.opn):fe (e.rq k r):=by
 have A:=h.ok k r hr;unfold bf.rq;split
 ·rename_i B;refine h.upd k _ (fun x hx=>?_) (fun _=>rfl) (fun x hx hx2=>⟨rfl,hx2⟩) (fun _ hl=>absurd hl (show¬(2:Int)=1 by decide));obtain rfl:r=x:=Option.some.inj (hr.symm.trans hx);exact{ A with dm:=.inr (.inl rfl),live:=fun hl=>absurd hl (show¬(2:Int)=1 by decide),dead:=fun _=>by have D:=A.kH;have H:=A.kJ;show r.bg=0;omega }
 rename_i B;split
 ·rename_i D;have C:=Classical.byContradiction fun hc=>B (by rw[←hw hc];exact D)
  have E:0≤e.draw.1:=by
   show 0≤(if e.gz.length=0 then 0 else(e.gz.getD (e.drawn % e.gz.length) 0) % 4294967296);split<;>omega
  obtain⟨F,G⟩:=next_bd A hs B C e.draw.1 E;exact h.drew.lay k _ r hr hs F G (fun hc=>absurd C hc) (A.own (by rw[C];decide))
 exact h
end bf
namespace bf
theorem nK(e:bf)(a b c d f g:Int):(e.tell a b c d f g).all=e.all:=rfl
theorem lay_at(e:bf)(i j:Nat)(n:Int):(e.lay i n).all[j]? =if i=j then e.all[j]?.map (fun o=>{ o with dh:=(e.dh+1:Nat),bg:=n }) else e.all[j]? :=by
 unfold bf.lay;split
 ·rw[nK,dL]
 rw[dL]
theorem lay_len(e:bf)(i:Nat)(n:Int):(e.lay i n).all.length=e.all.length:=by
 unfold bf.lay;split
 ·rw[nK,kz]
 rw[kz]
theorem gD(e:bf)(i k:Nat)(o r:Ord):(e.dx i k o r).all.length=e.all.length:=by
 show((e.upd i fun _=>kg o r).upd k fun _=>jb o r).all.length=_;rw[kz,kz]
theorem trade2_len(e:bf)(k:Nat)(r:Ord):(e.rq k r).all.length=e.all.length:=by
 unfold bf.rq;split
 ·rw[kz]
 split
 ·exact lay_len _ _ _
 rfl
theorem trade2_ne(e:bf)(k j:Nat)(r:Ord)(h:k≠j):(e.rq k r).all[j]? =e.all[j]? :=by
 unfold bf.rq;split
 ·rw[upd_ne _ _ _ _ h]
 split
 ·exact(lay_at _ _ _ _).trans (by rw[if_neg h];rfl)
 rfl
structure Kin(x y:Ord):Prop where
 id:y.id=x.id
 side:y.side=x.side
 typ:y.typ=x.typ
 mg:y.mg=x.mg
 jw:y.jw=x.jw
 off:y.off=x.off
 jr:y.jr=x.jr
 time:y.time=x.time
 bn:y.bn=x.bn
theorem Kin.refl(x:Ord):Kin x x:=⟨rfl,rfl,rfl,rfl,rfl,rfl,rfl,rfl,rfl⟩
theorem Kin.trans{y z:Ord}(h:Kin x y)(k:Kin y z):Kin x z:=⟨k.id.trans h.id,k.side.trans h.side,k.typ.trans h.typ,k.mg.trans h.mg,k.jw.trans h.jw,k.off.trans h.off,k.jr.trans h.jr,k.time.trans h.time,k.bn.trans h.bn⟩
structure ng(e e':bf):Prop where
 mo:e'.mo=e.mo
 mp:e'.mp=e.mp
 mq:e'.mq=e.mq
 gz:e'.gz=e.gz
 rest:e'.rest=e.rest
 now:e'.now=e.now
 len:e'.all.length=e.all.length
theorem ng.refl(e:bf):ng e e:=⟨rfl,rfl,rfl,rfl,rfl,rfl,rfl⟩
theorem ng.trans(h:ng a b)(k:ng b c):ng a c:=⟨k.mo.trans h.mo,k.mp.trans h.mp,k.mq.trans h.mq,k.gz.trans h.gz,k.rest.trans h.rest,k.now.trans h.now,k.len.trans h.len⟩
theorem ng.upd(e:bf)(i:Nat)(f:Ord→Ord):ng e (e.upd i f):=⟨rfl,rfl,rfl,rfl,rfl,rfl,kz _ _ _⟩
theorem ng.tell(e:bf)(a b c d f g:Int):ng e (e.tell a b c d f g):=⟨rfl,rfl,rfl,rfl,rfl,rfl,rfl⟩
theorem ng.lay(e:bf)(i:Nat)(n:Int):ng e (e.lay i n):=by
 refine⟨?_,?_,?_,?_,?_,?_,lay_len _ _ _⟩<;>(unfold bf.lay;split<;>rfl)
theorem ng.dx(e:bf)(i k:Nat)(o r:Ord):ng e (e.dx i k o r):=⟨rfl,rfl,rfl,rfl,rfl,rfl,gD _ _ _ _ _⟩
theorem ng.rq(e:bf)(k:Nat)(r:Ord):ng e (e.rq k r):=by
 unfold bf.rq;split
 ·exact ng.upd _ _ _
 split
 ·exact(ng.lay e.draw.2 k _).trans (⟨rfl,rfl,rfl,rfl,rfl,rfl,rfl⟩:ng _ _) |> fun h=>⟨h.mo,h.mp,h.mq,h.gz,h.rest,h.now,h.len⟩
 exact ng.refl _
theorem mate_some(h:e.bH i=some k):∃o r,e.all[i]? =some o∧e.all[k]? =some r∧0<o.opn∧bU (3 - o.side) r=true∧meets o r.bn=true∧e.first (3 - o.side)=some k:=by
 unfold bH at h;split at h
 ·rename_i o F;split at h
  ·rename_i A;split at h
   ·rename_i H C;split at h
    ·rename_i r D;split at h
     ·rename_i E;injection h with h;subst h;obtain⟨_,x,G,B⟩:=ze C;obtain rfl:r=x:=Option.some.inj (D.symm.trans G);exact⟨o,r,F,D,A,B,E,C⟩
     cases h
    cases h
   cases h
  cases h
 cases h
theorem bJ(h:fe e)(ho:e.all[i]? =some o)(hs:o.dm=1)(hsh:o.bg=0)(hm:e.bH i=some k):
 ∃r,e.all[k]? =some r∧i≠k∧0<o.opn∧r.bg≠0∧r.dm=1∧r.side=3 - o.side∧meets o r.bn=true∧fe (e.dx i k o r)∧e.sw i k=(e.dx i k o r).rq k (jb o r)∧fe (e.sw i k)∧(e.sw i k).all[i]? =some (kg o r)∧(kg o r).opn<o.opn∧0≤(kg o r).opn:=by
 obtain⟨O,r,H,D,C,J,G,_⟩:=mate_some hm;obtain rfl:o=O:=Option.some.inj (ho.symm.trans H);have L:=h.ok k r D;have R:=h.ok i o ho;obtain⟨A,I⟩:=dM J;have B:i≠k:=by
  rintro rfl;obtain rfl:o=r:=Option.some.inj (ho.symm.trans D);exact A hsh
 have E:=Classical.byContradiction fun hc=>A (L.dead hc)
 obtain⟨S,T,U⟩:=vM L C A;have M:=h.dx i k o r ho D B hs hsh C A;have et:=gZ e i k o r ho D B;have F:(e.dx i k o r).all[k]? =some (jb o r):=by rw[cK,if_pos rfl,D];rfl
 have N:fe (e.sw i k):=by
  rw[et];exact M.rq k _ F E (fun ht=>by rcases L.whole ht with K|K;exact absurd K A;show r.bg - gy o r=r.opn - gy o r;rw[K])
 refine⟨r,D,B,C,A,E,I,G,M,et,N,?_,?_,?_⟩
 ·rw[et,trade2_ne _ _ _ _ (fun h=>B h.symm),cK,if_neg (fun h=>B h.symm),if_pos rfl,ho];rfl
 ·show o.opn - gy o r<o.opn;omega
 show 0≤o.opn - gy o r;omega
theorem vN(o r:Ord):Kin o (kg o r):=⟨rfl,rfl,rfl,rfl,rfl,rfl,rfl,rfl,rfl⟩
theorem oV:∀(f:Nat) {e:bf} {i:Nat} {o:Ord},fe e→e.all[i]? =some o→o.dm=1→o.bg=0→∃o',(qg f e i).all[i]? =some o'∧fe (qg f e i)∧o'.dm=1∧o'.bg=0∧Kin o o'∧ng e (qg f e i)
 |0,e,i,o,h,ho,hs,hsh=>⟨o,ho,h,hs,hsh,Kin.refl o,ng.refl e⟩
 |f+1,e,i,o,h,ho,hs,hsh=>by
  unfold qg;split
  ·rename_i k hm;obtain⟨r,hr,hne,hop,hr1,hst,hr2,hmt,i1,et,i2,hi,_,_⟩:=bJ h ho hs hsh hm;obtain⟨o',h1,h2,h3,h4,h5,h6⟩:=oV f i2 hi hs hsh;exact⟨o',h1,h2,h3,h4,(vN o r).trans h5,(et▸(ng.dx e i k o r).trans (ng.rq _ k _)).trans h6⟩
  exact⟨o,ho,h,hs,hsh,Kin.refl o,ng.refl e⟩
theorem tX:∀(f:Nat) {e:bf} {i:Nat} {o:Ord},fe e→e.all[i]? =some o→o.dm=1→o.bg=0→o.opn.toNat≤f→qg f e i=qg o.opn.toNat e i
 |0,e,i,o,h,ho,hs,hsh,hf=>by rw[Nat.le_zero.1 hf]
 |f+1,e,i,o,h,ho,hs,hsh,hf=>by
  rcases hm:e.bH i with _|k
  ·have h1:qg (f+1) e i=e:=by rw[qg];rw[hm]
   have A:qg o.opn.toNat e i=e:=by
    rcases o.opn.toNat with _|n
    ·rfl
    rw[qg];rw[hm]
   rw[h1,A]
  obtain⟨r,M,G,H,I,K,J,E,N,et,C,B,D,L⟩:=bJ h ho hs hsh hm;have h1:qg (f+1) e i=qg f (e.sw i k) i:=by rw[qg];rw[hm]
  obtain⟨n,F⟩:∃n,o.opn.toNat=n+1:=⟨o.opn.toNat - 1,by omega⟩;have A:qg (n+1) e i=qg n (e.sw i k) i:=by rw[qg];rw[hm]
  rw[h1,F,A,tX f C B hs hsh (by omega),tX n C B hs hsh (by omega)]
end bf
namespace bf
theorem atRest_bd(k:Ok mp st o)(h:o.opn≠0):1≤pq o∧pq o≤o.opn∧(o.typ≠2→pq o=o.opn):=by
 have B:=k.dN;unfold pq;split
 ·rename_i A;have:=k.jw A.1;exact⟨by omega,by omega,fun ht=>absurd A.1 ht⟩
 exact⟨by omega,by omega,fun _=>rfl⟩
def dP(e:bf)(i:Nat):bf:=match e.all[i]? with
 |some o=>if o.opn=0 then e.upd i fun o=>{ o with dm:=2 } else e.lay i (pq o)
 |none=>e
theorem kK(e:bf)(i:Nat):e.zy i=dP (qg (e.nH i).toNat e i) i:=rfl
theorem swept_inv(h:fe e)(ho:e.all[i]? =some o)(hs:o.dm=1)(hsh:o.bg=0)(ht:o.typ≠3):fe (dP e i):=by
 have k:=h.ok i o ho;unfold dP;rw[ho];simp only;split
 ·rename_i A;refine h.upd i _ (fun x hx=>?_) (fun _=>rfl) (fun x hx hx2=>⟨rfl,hx2⟩) (fun _ hl=>absurd hl (show¬(2:Int)=1 by decide));obtain rfl:o=x:=Option.some.inj (ho.symm.trans hx);exact{ k with dm:=.inr (.inl rfl),live:=fun hl=>absurd hl (show¬(2:Int)=1 by decide),dead:=fun _=>hsh }
 rename_i A;obtain⟨B,C,D⟩:=atRest_bd k A;exact h.lay i _ o ho hs B C D (k.own ht)
theorem swept_stays(e:bf)(i:Nat):ng e (dP e i):=by
 unfold dP;split
 ·split
  ·exact ng.upd _ _ _
  exact ng.lay _ _ _
 exact ng.refl _
theorem rT(h:fe e)(ho:e.all[i]? =some o)(hs:o.dm=1)(hsh:o.bg=0)(ht:o.typ≠3):fe (e.zy i)∧ng e (e.zy i):=by
 rw[kK];obtain⟨G,A,B,C,D,E,F⟩:=oV (e.nH i).toNat h ho hs hsh;exact⟨swept_inv B A C D (by rw[E.typ];exact ht),F.trans (swept_stays _ _)⟩
theorem gone_inv(h:fe e)(ho:e.all[i]? =some o)(hs:o.dm=1)(reason:Int):fe (e.gone i reason):=by
 have k:=h.ok i o ho;unfold gone;rw[ho];refine fe.tell (h.upd i (fun o=>{ o with cancelled:=o.opn,opn:=0,bg:=0,dm:=3 }) (fun x hx=>?_) (fun _=>rfl) (fun x hx hx2=>absurd rfl hx2) (fun _ hl=>absurd hl (show¬(3:Int)=1 by decide))) _ _ _ _ _ _;obtain rfl:o=x:=Option.some.inj (ho.symm.trans hx);have:=k.live hs;have:=k.sum;have:=k.dN;exact{ k with dm:=.inr (.inr rfl),live:=fun hl=>absurd hl (show¬(3:Int)=1 by decide),dead:=fun _=>rfl,dN:=by show(0:Int)≤0;omega,jN:=by show 0≤o.opn;omega,sum:=by show 0+o.bu+o.opn=o.mg;omega,kH:=by show(0:Int)≤0;omega,kJ:=by show(0:Int)≤0;omega,whole:=fun _=>.inl rfl,shp:=fun hl=>absurd hl (by show¬(0:Int)<0;omega) }
theorem vP(e:bf)(i:Nat)(reason:Int):ng e (e.gone i reason):=by
 unfold gone;split
 ·exact⟨rfl,rfl,rfl,rfl,rfl,rfl,by rw[nK,kz]⟩
 exact ng.refl _
theorem dueOne_inv(h:fe e)(p:Ord→Bool)(reason:Int)(i:Nat):fe (xk p reason e i):=by
 unfold xk;split
 ·rename_i o B;split
  ·rename_i A;exact gone_inv h B A.1 reason
  exact h
 exact h
theorem wP(p:Ord→Bool)(reason:Int)(e:bf)(i:Nat):ng e (xk p reason e i):=by
 unfold xk;split
 ·split
  ·exact vP _ _ _
  exact ng.refl _
 exact ng.refl _
theorem qM(f:bf→Nat→bf)(h1:∀e i,fe e→fe (f e i))(h2:∀e i,ng e (f e i)):∀(l:List Nat) (e:bf),fe e→fe (l.foldl f e)∧ng e (l.foldl f e)
 | [],e,h=>⟨h,ng.refl e⟩
 |i::r,e,h=>by
  obtain⟨a,b⟩:=qM f h1 h2 r (f e i) (h1 e i h);exact⟨a,(h2 e i).trans b⟩
theorem wR(h:fe e)(p:Ord→Bool)(reason:Int):fe (e.due p reason)∧ng e (e.due p reason):=qM _ (fun e i h=>dueOne_inv h p reason i) (wP p reason) _ e h
theorem clamp_bd(p hi:Int)(h:1≤hi):1≤nJ p 1 hi∧nJ p 1 hi≤hi:=by
 unfold nJ;simp only;split<;>split<;>omega
theorem rU(side:Int):∀(l:List Ord),(∀o∈l,Ok mp st o)→0≤qw side l∧qw side l≤mp∨0=qw side l:=by
 intro l h;unfold qw;have B:∀(l:List Ord) (p:Int),(∀o∈l,Ok mp st o)→(0≤p∧p≤mp∨0=p)→(0≤l.foldl (fun p x=>if x.side=side∧x.typ≠3∧0<x.bg∧(p=0∨(side=1∧p<x.bn)∨(side=2∧x.bn<p)) then x.bn else p) p∧l.foldl (fun p x=>if x.side=side∧x.typ≠3∧0<x.bg∧(p=0∨(side=1∧p<x.bn)∨(side=2∧x.bn<p)) then x.bn else p) p≤mp)∨0=l.foldl (fun p x=>if x.side=side∧x.typ≠3∧0<x.bg∧(p=0∨(side=1∧p<x.bn)∨(side=2∧x.bn<p)) then x.bn else p) p:=by
  intro l
  induction l with
  |nil=>intro p _ A;exact A
  |cons x r ih=>
   intro p C A;simp only[List.foldl_cons];refine ih _ (fun o ho=>C o (List.mem_cons_of_mem _ ho)) ?_;have k:=C x (List.mem_cons_self ..);split
   ·exact .inl ⟨k.lM,k.gY⟩
   exact A
 exact B l 0 h (.inr rfl)
theorem target_bd(h:fe e)(o:Ord):0≤e.target o∧e.target o≤e.mp:=by
 have B:=rU (mp:=e.mp) (st:=e.dh) o.side e.all (fun x hx=>by obtain⟨i,A⟩:=List.getElem?_of_mem hx;exact h.ok i x A);unfold target;simp only;split
 ·have:=clamp_bd (qw o.side e.all+o.off) e.mp h.mp0;omega
 have:=h.mp0;omega
theorem mH(h:fe e)(i:Nat):fe (gm e i):=by
 unfold gm;split
 ·rename_i o B;have k:=h.ok i o B;split
  ·rename_i A;obtain⟨F,D⟩:=target_bd h o;simp only;split
   ·exact h
   split
   ·refine fe.tell (h.upd i (fun o=>{ o with bn:=0,bg:=0 }) (fun x hx=>?_) (fun _=>rfl) (fun x hx hx2=>absurd rfl hx2) (fun _ hl=>hl)) _ _ _ _ _ _;obtain rfl:o=x:=Option.some.inj (B.symm.trans hx);have:=h.mp0;have:=k.dN;exact{ k with lM:=by show(0:Int)≤0;omega,gY:=by show(0:Int)≤e.mp;omega,kH:=by show(0:Int)≤0;omega,kJ:=by show(0:Int)≤o.opn;omega,whole:=fun _=>.inl rfl,dead:=fun _=>rfl,shp:=fun hl=>absurd hl (by show¬(0:Int)<0;omega),own:=fun ht=>absurd A.2 ht }
   rename_i C E;refine fe.tell (h.place i (fun x=>{ x with bn:=e.target o,dh:=(e.dh+1:Nat),bg:=x.opn }) (fun x hx=>?_) (fun _=>rfl) (fun _=>rfl) (fun _ hl=>hl)) _ _ _ _ _ _;obtain rfl:o=x:=Option.some.inj (B.symm.trans hx);exact{ k with lM:=by show 0≤e.target o;omega,gY:=D,kH:=k.dN,kJ:=Int.le_refl _,whole:=fun _=>.inr rfl,dead:=fun hd=>absurd A.1 hd,shp:=fun _=>by(show 1≤e.target o);omega,own:=fun ht=>absurd A.2 ht,stm0:=by show(0:Int)≤((e.dh+1:Nat):Int);omega,tL:=by show((e.dh+1:Nat):Int)≤((e.dh+1:Nat):Int);omega }
  exact h
 exact h
theorem jJ(e:bf)(i:Nat):ng e (gm e i):=by
 unfold gm;split
 ·split
  ·simp only;split
   ·exact ng.refl _
   split
   ·exact⟨rfl,rfl,rfl,rfl,rfl,rfl,by rw[nK,kz]⟩
   exact⟨rfl,rfl,rfl,rfl,rfl,rfl,by rw[nK,kz]⟩
  exact ng.refl _
 exact ng.refl _
theorem follow_inv(h:fe e):fe e.follow∧ng e e.follow:=qM _ (fun e i h=>mH h i) jJ _ e h
end bf
namespace bf
theorem aV(e:bf)(i:Nat)(f g:Ord→Ord):(e.upd i f).upd i g=e.upd i fun o=>g (f o):=by
 unfold upd;have:∀(l:List Ord) (i:Nat),(l.modify i f).modify i g=l.modify i fun o=>g (f o):=by
  intro l
  induction l with
  |nil=>intro i;cases i<;>rfl
  |cons x r ih=>
   intro i;cases i with
   |zero=>rfl
   |succ i=>simp only[List.modify_succ_cons,ih]
 simp only[this]
structure VOk(v:Nat→Int):Prop where
 nC:0≤v 0
 nD:v 0<4294967296
 t0:0≤v 8
 t1:v 8<4294967296
theorem dH(n a b:Int):rf n a b=true↔a≤n∧n≤b:=by simp[rf]
theorem fP(n a b:Int):¬rf n a b=false↔a≤n∧n≤b:=by rw[Bool.not_eq_false,dH]
theorem rX(h:e.find id=none):∀(i:Nat) (o:Ord),e.all[i]? =some o→o.id≠id:=by
 intro i o A;unfold find at h;rw[List.findIdx?_eq_none_iff]at h;have:=h o (List.mem_of_getElem? A);simpa using this
theorem nL(h:e.find id=some i):∃o,e.all[i]? =some o∧o.id=id:=by
 unfold find at h;rw[List.findIdx?_eq_some_iff_getElem]at h;obtain⟨A,B,_⟩:=h;exact⟨e.all[i],List.getElem?_eq_getElem A,by simpa using B⟩
theorem bE(h:e.tu id=some i):∃o,e.all[i]? =some o∧o.id=id∧o.dm=1:=by
 unfold tu at h;split at h
 ·rename_i j D;split at h
  ·rename_i o B;split at h
   ·rename_i E;injection h with h;subst h;obtain⟨F,A,C⟩:=nL D;obtain rfl:o=F:=Option.some.inj (B.symm.trans A);exact⟨o,B,C,E⟩
   cases h
  cases h
 cases h
def vg(v:Nat→Int):Ord:={ id:=v 0,side:=v 1,typ:=v 2,mg:=v 4,jw:=v 5,off:=v 6,jr:=v 7,time:=v 8,dm:=1,bn:=v 3,opn:=v 4,bu:=0,cancelled:=0,bg:=0,dh:=0 }
def enter(e:bf)(v:Nat→Int):bf:=({ e with all:=e.all++ [vg v] }:bf).tell 1 (v 0) (v 1) (v 3) (v 4) (v 2)
theorem bV(e:bf)(v:Nat→Int):e.fresh v=if e.why v≠0 then e.ny (v 0) (e.why v) else if v 2=3 then e.enter v else(e.enter v).zy e.all.length:=rfl
theorem enter_at(e:bf)(v:Nat→Int)(i:Nat)(o:Ord)(h:(e.enter v).all[i]? =some o):(i<e.all.length∧e.all[i]? =some o)∨(i=e.all.length∧o=vg v):=by
 have h:(e.all++ [vg v])[i]? =some o:=h;by_cases A:i<e.all.length
 ·rw[List.getElem?_append_left A]at h;exact .inl ⟨A,h⟩
 rw[List.getElem?_append_right (by omega)]at h;have:i - e.all.length=0:=by
  have:=(List.getElem?_eq_some_iff.1 h).1;simp at this;omega
 rw[this]at h;simp at h;exact .inr ⟨by omega,h.symm⟩
theorem jY(h:fe e)(hv:VOk v)(hw:e.why v=0):fe (e.enter v)∧(e.enter v).all[e.all.length]? =some (vg v):=by
 have D:∀{c:Prop} [Decidable c] {a b:Int},(if c then a else b)=0→a≠0→¬c∧b=0:=fun{c} _ a b hh ha=>by
  by_cases B:c
  ·rw[if_pos B]at hh;exact absurd hh ha
  rw[if_neg B]at hh;exact⟨B,hh⟩
 unfold why at hw;obtain⟨R,hw⟩:=D hw (by decide);obtain⟨c2,hw⟩:=D hw (by decide);obtain⟨J,hw⟩:=D hw (by decide);obtain⟨S,hw⟩:=D hw (by decide);obtain⟨G,hw⟩:=D hw (by decide);obtain⟨g,hw⟩:=D hw (by decide);obtain⟨U,_⟩:=D hw (by decide);simp only[not_or]at R S;obtain⟨k,V,X,Z⟩:=R;rw[fP]at V X Z;obtain⟨Y,N⟩:=S;rw[fP]at Y;have H:e.find (v 0)=none:=by simpa using c2
 have f:=h.mp0;have O:Ok e.mp e.dh (vg v):=by
  have d:=hv.nC;have E:0≤v 3∧v 3≤e.mp∧(v 2≠3→1≤v 3):=by
   by_cases A:v 2=3
   ·rw[if_pos A]at J;have:v 3=0:=by simpa using J
    exact⟨by omega,by omega,fun B=>absurd A B⟩
   rw[if_neg A,fP]at J;exact⟨by omega,by omega,fun _=>J.1⟩
  have C: -e.mp≤v 6∧v 6≤e.mp:=by
   by_cases A:v 2=3
   ·rw[if_pos A]at G;by_cases T:v 1=1
    ·rw[if_pos T,fP]at G;omega
    rw[if_neg T,fP]at G;omega
   rw[if_neg A]at G;have:v 6=0:=by simpa using G
   omega
  have l:=h.mq1;have I:(v 2=2→1≤v 5∧v 5≤1000)∧(v 2≠2→v 5=0):=by
   by_cases A:v 2=2
   ·rw[if_pos A,fP]at N;exact⟨fun _=>by omega,fun B=>absurd A B⟩
   rw[if_neg A]at N;exact⟨fun B=>absurd B A,fun _=>by simpa using N⟩
  exact{ nC:=by show 0<v 0;omega,nD:=hv.nD,side:=by show v 1=1∨v 1=2;omega,typ:=by show v 2=1∨v 2=2∨v 2=3;omega,jr:=by show v 7=1∨v 7=2∨v 7=3;omega,dm:=.inl rfl,fH:=by show v 4≤1000;omega,fJ:=by show(0:Int)≤0;omega,dN:=by show 0≤v 4;omega,jN:=by show(0:Int)≤0;omega,sum:=by show v 4+0+0=v 4;omega,live:=fun _=>rfl,kH:=by show(0:Int)≤0;omega,kJ:=by show 0≤v 4;omega,whole:=fun _=>.inl rfl,dead:=fun hd=>rfl,jw:=I.1,peak0:=I.2,lM:=E.1,gY:=E.2.1,shp:=fun hl=>absurd hl (by show¬(0:Int)<0;omega),own:=E.2.2,off0:=C.1,off1:=C.2,time0:=hv.t0,time1:=hv.t1,stm0:=by show(0:Int)≤0;omega,tL:=by show(0:Int)≤(e.dh:Int);omega }
 refine⟨⟨h.mo0,h.mo1,h.mp0,h.oN,h.mq0,h.mq1,fun i o ho=>?_,fun i j x y hx hy he=>?_,fun i j x y hx hy hne hsx hsy=>?_,h.now0,h.now1,?_⟩,?_⟩
 ·rcases enter_at e v i o ho with⟨_,F⟩|⟨_,rfl⟩
  ·exact h.ok i o F
  exact O
 ·rcases enter_at e v i x hx with⟨L,F⟩|⟨L,rfl⟩<;>rcases enter_at e v j y hy with⟨M,K⟩|⟨M,rfl⟩
  ·exact h.ids i j x y F K he
  ·exact absurd he (rX H i x F)
  ·exact absurd he.symm (rX H j y K)
  omega
 ·rcases enter_at e v i x hx with⟨L,F⟩|⟨L,rfl⟩
  ·rcases enter_at e v j y hy with⟨M,K⟩|⟨M,rfl⟩
   ·exact h.apart i j x y F K hne hsx hsy
   exact absurd rfl hsy
  exact absurd rfl hsx
 ·show(((e.all++ [vg v]).countP (fun o=>o.dm == 1):Nat):Int)≤e.mo;rw[List.countP_append];have:[vg v].countP (fun o=>o.dm == 1)=1:=rfl;rw[this];have:¬e.mo≤(e.all.countP (fun o=>o.dm == 1):Nat):=U;omega
 show(e.all++ [vg v])[e.all.length]? =_;rw[List.getElem?_append_right (Nat.le_refl _)];simp
theorem fresh_inv(h:fe e)(hv:VOk v):fe (e.fresh v):=by
 rw[bV];split
 ·exact h.tell _ _ _ _ _ _
 rename_i A;have A:e.why v=0:=by simpa using A
 obtain⟨B,C⟩:=jY h hv A;split
 ·exact B
 rename_i D;exact(rT B C rfl rfl D).1
theorem cancel_inv(h:fe e)(id:Int):fe (e.cancel id):=by
 unfold cancel;split
 ·rename_i i A;obtain⟨o,B,_,C⟩:=bE A;exact gone_inv h B C 1
 exact h.tell _ _ _ _ _ _
end bf
namespace bf
theorem fe.vz(h:fe e)(a:e'.mo=e.mo)(b:e'.mp=e.mp)(c:e'.mq=e.mq)(d:e'.all=e.all)(f:e'.dh=e.dh)(g:e'.now=e.now):fe e':=
 ⟨a▸h.mo0,a▸h.mo1,b▸h.mp0,b▸h.oN,c▸h.mq0,c▸h.mq1,by rw[b,d,f];exact h.ok,by rw[d];exact h.ids,by rw[d];exact h.apart,g▸h.now0,g▸h.now1,by unfold alive;rw[d,a];exact h.live⟩
theorem tell_upd(e:bf)(i:Nat)(f:Ord→Ord)(a b c d g h:Int):(e.tell a b c d g h).upd i f=(e.upd i f).tell a b c d g h:=rfl
def jd(o:Ord)(q:Int):Ord:={ o with mg:=q,opn:=q - o.bu }
def zf(o:Ord)(v:Nat→Int):Bool:=decide (v 4≤o.mg) && (o.typ == 3 || v 3 == o.bn)
def jh(e:bf)(i:Nat)(o:Ord)(v:Nat→Int):bf:=(e.upd i fun _=>jd o (v 4)).tell 5 (v 0) 0 (v 3) (v 4) (if zf o v then 1 else 0)
def aR(e:bf)(i:Nat)(o:Ord)(v:Nat→Int):bf:=
 if zf o v then(e.jh i o v).upd i fun o=>{ o with bg:=if o.opn<o.bg then o.opn else o.bg }
 else if o.typ≠3 then((e.jh i o v).upd i fun o=>{ o with bn:=v 3,bg:=0 }).zy i
 else if 0<o.bg then(e.jh i o v).lay i (v 4 - o.bu)
 else e.jh i o v
theorem aX(e:bf)(v:Nat→Int):e.replace v=match e.tu (v 0) with
 |none=>e.ny (v 0) 3
 |some i=>match e.all[i]? with
  |none=>e
  |some o=>if(if o.typ=3 then v 3 == 0 else rf (v 3) 1 e.mp)=false then e.ny (v 0) 5
   else if rf (v 4) (o.bu+1) e.mq=false then e.ny (v 0) 6
   else e.aR i o v:=by
 unfold bf.replace;split
 ·rename_i h;rw[h]
 rename_i i h;rw[h];simp only;split
 ·rename_i B;rw[B]
 rename_i o A;rw[A];have C:(e.upd i fun o=>{ o with mg:=v 4,opn:=v 4 - o.bu })=e.upd i fun _=>jd o (v 4):=
  nk e i _ _ (fun x hx=>by obtain rfl:o=x:=Option.some.inj (A.symm.trans hx);rfl)
 simp only[C];rfl
theorem repEnd_inv(h:fe e)(ho:e.all[i]? =some o)(hs:o.dm=1)(v:Nat→Int)(h5:(if o.typ=3 then v 3 == 0 else rf (v 3) 1 e.mp)=true)(h6:rf (v 4) (o.bu+1) e.mq=true):fe (e.aR i o v):=by
 have k:=h.ok i o ho;rw[dH]at h6;have O:=h.mq1;have A:=k.live hs;have N:=k.fJ;have K:=k.sum;have J:=k.kH;unfold aR;split
 ·rename_i C;show fe (((e.upd i fun _=>jd o (v 4)).upd i fun o=>{ o with bg:=if o.opn<o.bg then o.opn else o.bg }).tell _ _ _ _ _ _);rw[aV];have I:v 4≤o.mg:=by
   unfold zf at C;simp at C;exact C.1
  have L:=k.whole;refine fe.tell (?_:fe (e.upd i fun _=>{ jd o (v 4) with bg:=if v 4 - o.bu<o.bg then v 4 - o.bu else o.bg })) _ _ _ _ _ _;rw[nk e i _ (fun x=>{ x with mg:=v 4,opn:=v 4 - x.bu,bg:=if v 4 - x.bu<x.bg then v 4 - x.bu else x.bg }) (fun x hx=>by obtain rfl:o=x:=Option.some.inj (ho.symm.trans hx);rfl)];refine h.upd i _ (fun x hx=>?_) (fun _=>rfl) (fun x hx hx2=>⟨rfl,?_⟩) (fun _ A=>A)
  ·obtain rfl:o=x:=Option.some.inj (ho.symm.trans hx);exact{ k with fH:=by show v 4≤1000;omega,dN:=by show 0≤v 4 - o.bu;omega,sum:=by show v 4 - o.bu+o.bu+o.cancelled=v 4;omega,kH:=by show 0≤(if v 4 - o.bu<o.bg then v 4 - o.bu else o.bg);split<;>omega,kJ:=by show(if v 4 - o.bu<o.bg then v 4 - o.bu else o.bg)≤v 4 - o.bu;split<;>omega,whole:=fun B=>by(have:=L B);(show(if v 4 - o.bu<o.bg then v 4 - o.bu else o.bg)=0∨(if v 4 - o.bu<o.bg then v 4 - o.bu else o.bg)=v 4 - o.bu);split<;>omega,dead:=fun hd=>absurd hs hd,shp:=fun A=>k.shp (by revert A;show 0<(if v 4 - o.bu<o.bg then v 4 - o.bu else o.bg)→0<o.bg;split<;>omega) }
  obtain rfl:o=x:=Option.some.inj (ho.symm.trans hx);intro M;apply hx2;show(if v 4 - o.bu<o.bg then v 4 - o.bu else o.bg)=0;split<;>omega
 split
 ·rename_i C B;rw[if_neg B,dH]at h5;have F:fe ((e.jh i o v).upd i fun o=>{ o with bn:=v 3,bg:=0 }):=by
   show fe (((e.upd i fun _=>jd o (v 4)).upd i fun o=>{ o with bn:=v 3,bg:=0 }).tell _ _ _ _ _ _);rw[aV];refine fe.tell (?_:fe (e.upd i fun _=>{ jd o (v 4) with bn:=v 3,bg:=0 })) _ _ _ _ _ _;rw[nk e i _ (fun x=>{ x with mg:=v 4,opn:=v 4 - x.bu,bn:=v 3,bg:=0 }) (fun x hx=>by obtain rfl:o=x:=Option.some.inj (ho.symm.trans hx);rfl)];refine h.upd i _ (fun x hx=>?_) (fun _=>rfl) (fun x hx hx2=>absurd rfl hx2) (fun _ A=>A);obtain rfl:o=x:=Option.some.inj (ho.symm.trans hx);exact{ k with fH:=by show v 4≤1000;omega,dN:=by show 0≤v 4 - o.bu;omega,sum:=by show v 4 - o.bu+o.bu+o.cancelled=v 4;omega,kH:=by show(0:Int)≤0;omega,kJ:=by show 0≤v 4 - o.bu;omega,whole:=fun _=>.inl rfl,dead:=fun _=>rfl,lM:=by show 0≤v 3;omega,gY:=h5.2,shp:=fun A=>absurd A (by show¬(0:Int)<0;omega),own:=fun _=>h5.1 }
  have E:((e.jh i o v).upd i fun o=>{ o with bn:=v 3,bg:=0 }).all[i]? =some { jd o (v 4) with bn:=v 3,bg:=0 }:=
   upd_same _ _ _ (jd o (v 4)) (by show(e.upd i fun _=>jd o (v 4)).all[i]? =_;exact upd_same _ _ _ _ ho)
  exact(rT F E hs rfl B).1
 rename_i C B;have B:o.typ=3:=by simpa using B
 split
 ·rename_i D;have E:(e.jh i o v).all[i]? =some (jd o (v 4)):=by show(e.upd i fun _=>jd o (v 4)).all[i]? =_;exact upd_same _ _ _ _ ho
  have G:fe ({ e with dh:=e.dh+1 }.upd i fun _=>{ jd o (v 4) with dh:=(e.dh+1:Nat),bg:=v 4 - o.bu }):=by
   rw[nk { e with dh:=e.dh+1 } i _ (fun x=>{ x with mg:=v 4,opn:=v 4 - x.bu,dh:=(e.dh+1:Nat),bg:=v 4 - x.bu }) (fun x hx=>by obtain rfl:o=x:=Option.some.inj (ho.symm.trans hx);rfl)];refine h.place i _ (fun x hx=>?_) (fun _=>rfl) (fun _=>rfl) (fun _ A=>A);obtain rfl:o=x:=Option.some.inj (ho.symm.trans hx);exact{ k with fH:=by show v 4≤1000;omega,dN:=by show 0≤v 4 - o.bu;omega,sum:=by show v 4 - o.bu+o.bu+o.cancelled=v 4;omega,kH:=by show 0≤v 4 - o.bu;omega,kJ:=Int.le_refl _,whole:=fun _=>.inr rfl,dead:=fun hd=>absurd hs hd,shp:=fun _=>k.shp D,stm0:=by show(0:Int)≤((e.dh+1:Nat):Int);omega,tL:=by show((e.dh+1:Nat):Int)≤((e.dh+1:Nat):Int);omega }
  have F:=aV { e with dh:=e.dh+1 } i (fun _=>jd o (v 4)) (fun o'=>{ o' with dh:=(e.dh+1:Nat),bg:=v 4 - o.bu });rw[←F]at G;unfold bf.lay;rw[E];exact G.vz rfl rfl rfl rfl rfl rfl
 rename_i D;refine fe.tell (?_:fe (e.upd i fun _=>jd o (v 4))) _ _ _ _ _ _;rw[nk e i _ (fun x=>{ x with mg:=v 4,opn:=v 4 - x.bu }) (fun x hx=>by obtain rfl:o=x:=Option.some.inj (ho.symm.trans hx);rfl)];refine h.upd i _ (fun x hx=>?_) (fun _=>rfl) (fun x hx hx2=>⟨rfl,hx2⟩) (fun _ A=>A);obtain rfl:o=x:=Option.some.inj (ho.symm.trans hx);have H:o.bg=0:=by omega
 exact{ k with fH:=by show v 4≤1000;omega,dN:=by show 0≤v 4 - o.bu;omega,sum:=by show v 4 - o.bu+o.bu+o.cancelled=v 4;omega,kJ:=by show o.bg≤v 4 - o.bu;omega,whole:=fun _=>.inl H }
theorem replace_inv(h:fe e)(v:Nat→Int):fe (e.replace v):=by
 rw[aX];split
 ·exact h.tell _ _ _ _ _ _
 rename_i i D;obtain⟨o,C,_,E⟩:=bE D;rw[C];simp only;by_cases A:(if o.typ=3 then v 3 == 0 else rf (v 3) 1 e.mp)=false
 ·rw[if_pos A];exact h.tell _ _ _ _ _ _
 rw[if_neg A];by_cases B:rf (v 4) (o.bu+1) e.mq=false
 ·rw[if_pos B];exact h.tell _ _ _ _ _ _
 rw[if_neg B];exact repEnd_inv h C E v (Bool.not_eq_false _▸A) (Bool.not_eq_false _▸B)
theorem tick_inv(h:fe e)(t:Int)(h0:0≤t)(h1:t<4294967296):fe (e.tick t):=by
 unfold tick;split
 ·exact h.tell _ _ _ _ _ _
 exact(wR (⟨h.mo0,h.mo1,h.mp0,h.oN,h.mq0,h.mq1,h.ok,h.ids,h.apart,h0,h1,h.live⟩:fe { e with now:=t }) _ _).1
theorem run_inv(h:fe e)(kind:Int)(hv:VOk v):fe (e.run kind v):=by
 unfold run;split
 ·exact fresh_inv h hv
 split
 ·exact cancel_inv h _
 split
 ·exact replace_inv h v
 split
 ·exact tick_inv h _ hv.t0 hv.t1
 split
 ·exact(wR h _ _).1
 exact h
end bf
namespace bf
structure jv(n:Nat)(m:Int)(e e':bf):Prop where
 seq0:e.seq≤e'.seq
 seq1:e'.seq≤e.seq+n
 out:e'.out.length+22*e.seq=e.out.length+22*e'.seq
 stm0:e.dh≤e'.dh
 tL:e'.dh≤e.dh+n
 drw1:e'.drawn≤e.drawn+n
 vol0:e.gq≤e'.gq
 vol1:e'.gq≤e.gq+m
 wor0:e.worth+e'.gq≤e'.worth+e.gq
 wor1:e'.worth≤e.worth+1000000*m
theorem jv.refl(e:bf):jv 0 0 e e:=⟨by omega,by omega,rfl,by omega,by omega,by omega,by omega,by omega,by omega,by omega⟩
theorem jv.trans{n n':Nat}{m m':Int}(h:jv n m a b)(k:jv n' m' b c):jv (n+n') (m+m') a c:=by
 obtain⟨C,D,E,F,G,H,I,J,K,A⟩:=h;obtain⟨L,M,N,O,R,S,T,U,V,B⟩:=k;exact⟨by omega,by omega,by omega,by omega,by omega,by omega,by omega,by omega,by omega,by omega⟩
theorem jv.mono{n n':Nat}{m m':Int}(h:jv n m a b)(hn:n≤n')(hm:m≤m'):jv n' m' a b:=by
 obtain⟨B,C,D,E,F,G,H,I,J,A⟩:=h;exact⟨by omega,by omega,by omega,by omega,by omega,by omega,by omega,by omega,by omega,by omega⟩
theorem jv.upd(e:bf)(i:Nat)(f:Ord→Ord):jv 0 0 e (e.upd i f):=jv.refl e |> fun h=>⟨h.seq0,h.seq1,h.out,h.stm0,h.tL,h.drw1,h.vol0,h.vol1,h.wor0,h.wor1⟩
theorem jv.tell(e:bf)(a b c d f g:Int):jv 1 0 e (e.tell a b c d f g):=by
 have A:(e.tell a b c d f g).out.length=e.out.length+22:=by
  show(e.out++wN a _ b c d f g).length=_;rw[List.length_append,gX]
 have B:(e.tell a b c d f g).seq=e.seq+1:=rfl;exact⟨by omega,by omega,by omega,Nat.le_refl _,Nat.le_succ _,Nat.le_succ _,Int.le_refl _,by show e.gq≤e.gq+0;omega,Int.le_refl _,by show e.worth≤e.worth+1000000*0;omega⟩
theorem jv.lay(e:bf)(i:Nat)(n:Int):jv 1 0 e (e.lay i n):=by
 unfold bf.lay;split
 ·rename_i o L;have I:=jv.tell ({ e with dh:=e.dh+1 }.upd i fun o=>{ o with dh:=(e.dh+1:Nat),bg:=n }) 6 o.id 0 o.bn n 0;obtain⟨B,C,D,J,K,E,F,G,H,A⟩:=I;exact⟨B,C,D,Nat.le_succ _,Nat.le_refl _,E,F,G,H,A⟩
 exact⟨Nat.le_refl _,Nat.le_succ _,rfl,Nat.le_succ _,Nat.le_refl _,Nat.le_succ _,Int.le_refl _,by show e.gq≤e.gq+0;omega,Int.le_refl _,by show e.worth≤e.worth+1000000*0;omega⟩
theorem jv.dx(i k:Nat)(o r:Ord)(h1:1≤gy o r)(h2:1≤r.bn)(h3:r.bn≤1000000):jv 1 (gy o r) e (e.dx i k o r):=by
 have A:(e.dx i k o r).out.length=e.out.length+22:=by
  show(e.out++wN 3 _ o.id r.id r.bn (gy o r) 0).length=_;rw[List.length_append,gX]
 have B:(e.dx i k o r).seq=e.seq+1:=rfl;have C:(e.dx i k o r).gq=e.gq+gy o r:=rfl;have D:(e.dx i k o r).worth=e.worth+gy o r*r.bn:=rfl;have E:gy o r*1≤gy o r*r.bn:=Int.mul_le_mul_of_nonneg_left h2 (by omega);have F:gy o r*r.bn≤gy o r*1000000:=Int.mul_le_mul_of_nonneg_left h3 (by omega);exact⟨by omega,by omega,by omega,Nat.le_refl _,Nat.le_succ _,Nat.le_succ _,by omega,by omega,by omega,by omega⟩
theorem lay_drawn(e:bf)(i:Nat)(n:Int):(e.lay i n).drawn=e.drawn:=by unfold bf.lay;split<;>rfl
theorem jv.rq(e:bf)(k:Nat)(r:Ord):jv 1 0 e (e.rq k r):=by
 unfold bf.rq;split
 ·exact(jv.upd e k _).mono (by omega) (by omega)
 split
 ·have h:=jv.lay e.draw.2 k (if r.opn<1+e.draw.1 % r.jw then r.opn else 1+e.draw.1 % r.jw);obtain⟨D,E,F,G,H,L,I,J,K,A⟩:=h;refine⟨D,E,F,G,H,?_,I,J,K,A⟩;have C:=lay_drawn e.draw.2 k (if r.opn<1+e.draw.1 % r.jw then r.opn else 1+e.draw.1 % r.jw);have B:e.draw.2.drawn=e.drawn+1:=rfl;rw[B]at C;exact Nat.le_of_eq C
 exact(jv.refl e).mono (by omega) (by omega)
theorem trade_grew(h:fe e)(ho:e.all[i]? =some o)(hr:e.all[k]? =some r)(hne:i≠k)(hop:0<o.opn)(hrs:r.bg≠0):jv 2 (gy o r) e (e.sw i k):=by
 have A:=h.ok k r hr;obtain⟨B,C,D⟩:=vM A hop hrs;rw[gZ e i k o r ho hr hne];have:=(jv.dx (e:=e) i k o r B (A.shp (by omega)) (by have:=A.gY;have:=h.oN;omega)).trans (jv.rq (e.dx i k o r) k (jb o r));exact this.mono (by omega) (by omega)
theorem trades_grew:∀(f:Nat) {e:bf} {i:Nat} {o:Ord},fe e→e.all[i]? =some o→o.dm=1→o.bg=0→∃o',(qg f e i).all[i]? =some o'∧jv (2*(o.opn - o'.opn).toNat) (o.opn - o'.opn) e (qg f e i)∧o'.opn≤o.opn
 |0,e,i,o,h,ho,hs,hsh=>⟨o,ho,by have:=jv.refl e;exact this.mono (by omega) (by omega),Int.le_refl _⟩
 |f+1,e,i,o,h,ho,hs,hsh=>by
  unfold qg;split
  ·rename_i k hm;obtain⟨r,hr,hne,hop,hr1,hst,hr2,hmt,i1,et,i2,hi,hlt,h0⟩:=bJ h ho hs hsh hm;obtain⟨o',h1,h2,h3⟩:=trades_grew f i2 hi hs hsh;have hg:=trade_grew h ho hr hne hop hr1;have e1:(kg o r).opn=o.opn - gy o r:=rfl;refine⟨o',h1,(hg.trans h2).mono ?_ ?_,by omega⟩<;>omega
  exact⟨o,ho,by have:=jv.refl e;exact this.mono (by omega) (by omega),Int.le_refl _⟩
theorem swept_grew(e:bf)(i:Nat):jv 1 0 e (dP e i):=by
 unfold dP;split
 ·split
  ·exact(jv.upd e i _).mono (by omega) (by omega)
  exact jv.lay _ _ _
 exact(jv.refl e).mono (by omega) (by omega)
theorem sweep_grew(h:fe e)(ho:e.all[i]? =some o)(hs:o.dm=1)(hsh:o.bg=0):jv 2001 1000 e (e.zy i):=by
 rw[kK];obtain⟨C,B,F,H⟩:=trades_grew (e.nH i).toNat h ho hs hsh;obtain⟨A,D,E,_⟩:=oV (e.nH i).toNat h ho hs hsh;obtain rfl:C=A:=Option.some.inj (B.symm.trans D);have k:=h.ok i o ho;have G:=E.ok i C B;have:=k.sum;have:=k.fJ;have:=k.jN;have:=k.fH;have:=G.dN;exact(F.trans (swept_grew _ i)).mono (by omega) (by omega)
theorem rY(e:bf)(i:Nat)(reason:Int):jv 1 0 e (e.gone i reason):=by
 unfold gone;split
 ·exact((jv.upd e i _).trans (jv.tell _ _ _ _ _ _ _)).mono (by omega) (by omega)
 exact(jv.refl e).mono (by omega) (by omega)
def aN(e:bf)(i:Nat):Bool:=match e.all[i]? with|some o=>o.dm == 1|none=>false
theorem nM(f:bf→Nat→bf)(h1:∀e i,jv (if aN e i then 1 else 0) 0 e (f e i))(h2:∀e i j,i≠j→aN (f e i) j=aN e j):∀(l:List Nat),l.Nodup→∀e,jv (l.countP (aN e)) 0 e (l.foldl f e)
 | [],_,e=>jv.refl e
 |i::r,hn,e=>by
  rw[List.nodup_cons]at hn;have ih:=nM f h1 h2 r hn.2 (f e i);have hc:r.countP (aN (f e i))=r.countP (aN e):=List.countP_congr (fun j hj=>by rw[h2 e i j (fun hh=>hn.1 (hh▸hj))]);rw[hc]at ih;rw[List.foldl_cons,List.countP_cons];refine((h1 e i).trans ih).mono ?_ (by omega);omega
theorem count_range(e:bf):(List.range e.all.length).countP (aN e)=e.alive:=by
 have A:∀(l:List Ord) (n:Nat),n≤l.length→(List.range n).countP (fun i=>match l[i]? with|some o=>o.dm == 1|none=>false)=(l.take n).countP (fun o=>o.dm == 1):=by
  intro l n
  induction n with
  |zero=>intro _;rfl
  |succ n ih=>
   intro C;have B:l[n]? =some l[n]:=List.getElem?_eq_getElem (by omega);rw[List.range_succ,List.countP_append,ih (by omega),List.take_add_one,List.countP_append,B];simp[List.countP_cons,B]
 have:=A e.all e.all.length (Nat.le_refl _);rw[List.take_length]at this;exact this
theorem nN{j:Nat}(h:e'.all[j]? =e.all[j]?):aN e' j=aN e j:=by unfold aN;rw[h]
theorem wS(e:bf)(i j:Nat)(reason:Int)(h:i≠j):(e.gone i reason).all[j]? =e.all[j]? :=by
 unfold gone;split
 ·rw[nK,upd_ne _ _ _ _ h]
 rfl
theorem gF(p:Ord→Bool)(reason:Int)(e:bf)(i:Nat):(xk p reason e i=e∨(aN e i=true∧xk p reason e i=e.gone i reason)):=by
 rcases ho:e.all[i]? with _|o
 ·left;unfold xk;rw[ho]
 by_cases A:o.dm=1∧p o=true
 ·right;refine⟨by unfold aN;rw[ho];simp[A.1],?_⟩;unfold xk;rw[ho];simp only;rw[if_pos A]
 left;unfold xk;rw[ho];simp only;rw[if_neg A]
theorem due_grew(h:fe e)(p:Ord→Bool)(reason:Int):jv 64 0 e (e.due p reason):=by
 have:=nM (xk p reason) (fun e i=>by
  rcases gF p reason e i with A|⟨A,B⟩
  ·rw[A];exact(jv.refl e).mono (Nat.zero_le _) (Int.le_refl _)
  ·rw[A,B];exact rY _ _ _) (fun e i j hne=>by
  rcases gF p reason e i with A|⟨A,B⟩
  ·rw[A]
  rw[B];exact nN (wS _ _ _ _ hne)) (List.range e.all.length) List.nodup_range e
 rw[count_range]at this;exact this.mono (by have:=h.live;have:=h.mo1;omega) (by omega)
def park(e:bf)(i:Nat)(o:Ord):bf:=(e.upd i fun o=>{ o with bn:=0,bg:=0 }).tell 8 o.id 0 0 0 0
def move(e:bf)(i:Nat)(o:Ord)(p:Int):bf:=({ e with dh:=e.dh+1 }.upd i fun o=>{ o with bn:=p,dh:=(e.dh+1:Nat),bg:=o.opn }).tell 7 o.id 0 p o.opn 0
theorem zq(e:bf)(i:Nat):gm e i=e∨∃o,e.all[i]? =some o∧o.dm=1∧o.typ=3∧e.target o≠o.bn∧((e.target o=0∧gm e i=e.park i o)∨(e.target o≠0∧gm e i=e.move i o (e.target o))):=by
 rcases ho:e.all[i]? with _|o
 ·left;unfold gm;rw[ho]
 by_cases A:o.dm=1∧o.typ=3
 ·by_cases B:e.target o=o.bn
  ·left;unfold gm;rw[ho];simp only;rw[if_pos A,if_pos B]
  right;refine⟨o,rfl,A.1,A.2,B,?_⟩;by_cases C:e.target o=0
  ·left;refine⟨C,?_⟩;unfold gm;rw[ho];simp only;rw[if_pos A,if_neg B,if_pos C];rfl
  right;refine⟨C,?_⟩;unfold gm;rw[ho];simp only;rw[if_pos A,if_neg B,if_neg C];rfl
 left;unfold gm;rw[ho];simp only;rw[if_neg A]
theorem jv.park(e:bf)(i:Nat)(o:Ord):jv 1 0 e (e.park i o):=((jv.upd e i _).trans (jv.tell _ _ _ _ _ _ _)).mono (by omega) (by omega)
theorem jv.move(e:bf)(i:Nat)(o:Ord)(p:Int):jv 1 0 e (e.move i o p):=by
 obtain⟨B,C,D,I,J,E,F,G,H,A⟩:=jv.tell ({ e with dh:=e.dh+1 }.upd i fun x=>{ x with bn:=p,dh:=(e.dh+1:Nat),bg:=x.opn }) 7 o.id 0 p o.opn 0;exact⟨B,C,D,Nat.le_succ _,Nat.le_refl _,E,F,G,H,A⟩
theorem follow_grew(h:fe e):jv 64 0 e e.follow:=by
 have:=nM gm (fun e i=>by
  rcases zq e i with A|⟨o,D,E,G,F,⟨A,B⟩|⟨A,B⟩⟩
  ·rw[A];exact(jv.refl e).mono (Nat.zero_le _) (Int.le_refl _)
  ·have C:aN e i=true:=by unfold aN;rw[D];simp[E]
   rw[C,B];exact jv.park _ _ _
  ·have C:aN e i=true:=by unfold aN;rw[D];simp[E]
   rw[C,B];exact jv.move _ _ _ _) (fun e i j hne=>by
  rcases zq e i with A|⟨o,D,E,G,F,⟨A,B⟩|⟨A,B⟩⟩
  ·rw[A]
  ·rw[B];exact nN (upd_ne _ _ _ _ hne)
  rw[B];exact nN (upd_ne _ _ _ _ hne)) (List.range e.all.length) List.nodup_range e
 rw[count_range]at this;exact this.mono (by have:=h.live;have:=h.mo1;omega) (by omega)
theorem oZ(e:bf)(v:Nat→Int):jv 1 0 e (e.enter v):=by
 obtain⟨B,C,D,E,F,G,H,I,J,A⟩:=jv.tell ({ e with all:=e.all++ [vg v] }:bf) 1 (v 0) (v 1) (v 3) (v 4) (v 2);exact⟨B,C,D,E,F,G,H,I,J,A⟩
theorem repEnd_grew(h:fe e)(ho:e.all[i]? =some o)(hs:o.dm=1)(v:Nat→Int)(h5:(if o.typ=3 then v 3 == 0 else rf (v 3) 1 e.mp)=true)(h6:rf (v 4) (o.bu+1) e.mq=true)(hu:o.typ≠3→fe ((e.jh i o v).upd i fun o=>{ o with bn:=v 3,bg:=0 })):jv 2002 1000 e (e.aR i o v):=by
 have A:jv 1 0 e (e.jh i o v):=((jv.upd e i _).trans (jv.tell _ _ _ _ _ _ _)).mono (by omega) (by omega);unfold aR;split
 ·exact(A.trans (jv.upd _ _ _)).mono (by omega) (by omega)
 split
 ·rename_i C;have B:((e.jh i o v).upd i fun o=>{ o with bn:=v 3,bg:=0 }).all[i]? =some { jd o (v 4) with bn:=v 3,bg:=0 }:=
   upd_same _ _ _ (jd o (v 4)) (by show(e.upd i fun _=>jd o (v 4)).all[i]? =_;exact upd_same _ _ _ _ ho)
  exact((A.trans (jv.upd _ _ _)).trans (sweep_grew (hu C) B hs rfl)).mono (by omega) (by omega)
 split
 ·exact(A.trans (jv.lay _ _ _)).mono (by omega) (by omega)
 exact A.mono (by omega) (by omega)
end bf
namespace bf
structure pY(e e':bf):Prop where
 mo:e'.mo=e.mo
 mp:e'.mp=e.mp
 mq:e'.mq=e.mq
 gz:e'.gz=e.gz
 rest:e'.rest=e.rest
 len0:e.all.length≤e'.all.length
 len1:e'.all.length≤e.all.length+1
theorem ng.keeps(h:ng e e'):pY e e':=⟨h.mo,h.mp,h.mq,h.gz,h.rest,by rw[h.len];exact Nat.le_refl _,by rw[h.len];exact Nat.le_succ _⟩
theorem pY.stays(h:pY a b)(k:ng b c):pY a c:=⟨k.mo.trans h.mo,k.mp.trans h.mp,k.mq.trans h.mq,k.gz.trans h.gz,k.rest.trans h.rest,by rw[k.len];exact h.len0,by rw[k.len];exact h.len1⟩
theorem enter_keeps(e:bf)(v:Nat→Int):pY e (e.enter v):=⟨rfl,rfl,rfl,rfl,rfl,by show e.all.length≤(e.all++ [vg v]).length;simp,by show(e.all++ [vg v]).length≤_;simp⟩
theorem bK(e:bf)(id reason:Int):pY e (e.ny id reason):=(ng.tell e 2 id 0 0 0 reason).keeps
theorem fresh_more(h:fe e)(hv:VOk v):pY e (e.fresh v)∧jv 2010 1000 e (e.fresh v):=by
 rw[bV];split
 ·exact⟨bK _ _ _,(jv.tell _ _ _ _ _ _ _).mono (by omega) (by omega)⟩
 rename_i A;have A:e.why v=0:=by simpa using A
 obtain⟨B,C⟩:=jY h hv A;split
 ·exact⟨enter_keeps _ _,(oZ _ _).mono (by omega) (by omega)⟩
 rename_i D;exact⟨(enter_keeps _ _).stays (rT B C rfl rfl D).2,((oZ _ _).trans (sweep_grew B C rfl rfl)).mono (by omega) (by omega)⟩
theorem cancel_more(h:fe e)(id:Int):pY e (e.cancel id)∧jv 2010 1000 e (e.cancel id):=by
 unfold cancel;split
 ·exact⟨(vP _ _ _).keeps,(rY _ _ _).mono (by omega) (by omega)⟩
 exact⟨bK _ _ _,(jv.tell _ _ _ _ _ _ _).mono (by omega) (by omega)⟩
theorem kL(h:fe e)(ho:e.all[i]? =some o)(hs:o.dm=1)(v:Nat→Int)(ht:o.typ≠3)(h5:(if o.typ=3 then v 3 == 0 else rf (v 3) 1 e.mp)=true)(h6:rf (v 4) (o.bu+1) e.mq=true):fe ((e.jh i o v).upd i fun o=>{ o with bn:=v 3,bg:=0 }):=by
 have k:=h.ok i o ho;rw[dH]at h6;rw[if_neg ht,dH]at h5;have D:=h.mq1;have A:=k.live hs;have C:=k.fJ;have B:=k.sum;show fe (((e.upd i fun _=>jd o (v 4)).upd i fun o=>{ o with bn:=v 3,bg:=0 }).tell _ _ _ _ _ _);rw[aV];refine fe.tell (?_:fe (e.upd i fun _=>{ jd o (v 4) with bn:=v 3,bg:=0 })) _ _ _ _ _ _;rw[nk e i _ (fun x=>{ x with mg:=v 4,opn:=v 4 - x.bu,bn:=v 3,bg:=0 }) (fun x hx=>by obtain rfl:o=x:=Option.some.inj (ho.symm.trans hx);rfl)];refine h.upd i _ (fun x hx=>?_) (fun _=>rfl) (fun x hx hx2=>absurd rfl hx2) (fun _ A=>A);obtain rfl:o=x:=Option.some.inj (ho.symm.trans hx)
 exact{ k with fH:=by show v 4≤1000;omega,dN:=by show 0≤v 4 - o.bu;omega,sum:=by show v 4 - o.bu+o.bu+o.cancelled=v 4;omega,kH:=by show(0:Int)≤0;omega,kJ:=by show 0≤v 4 - o.bu;omega,whole:=fun _=>.inl rfl,dead:=fun _=>rfl,lM:=by show 0≤v 3;omega,gY:=h5.2,shp:=fun A=>absurd A (by show¬(0:Int)<0;omega),own:=fun _=>h5.1 }
theorem gP(e:bf)(i:Nat)(o:Ord)(v:Nat→Int):ng e (e.jh i o v):=(ng.upd e i _).trans (ng.tell _ _ _ _ _ _ _)
theorem replace_more(h:fe e)(v:Nat→Int):pY e (e.replace v)∧jv 2010 1000 e (e.replace v):=by
 rw[aX];split
 ·exact⟨bK _ _ _,(jv.tell _ _ _ _ _ _ _).mono (by omega) (by omega)⟩
 rename_i i I;obtain⟨o,C,_,D⟩:=bE I;rw[C];simp only;by_cases F:(if o.typ=3 then v 3 == 0 else rf (v 3) 1 e.mp)=false
 ·rw[if_pos F];exact⟨bK _ _ _,(jv.tell _ _ _ _ _ _ _).mono (by omega) (by omega)⟩
 rw[if_neg F];by_cases G:rf (v 4) (o.bu+1) e.mq=false
 ·rw[if_pos G];exact⟨bK _ _ _,(jv.tell _ _ _ _ _ _ _).mono (by omega) (by omega)⟩
 rw[if_neg G];have A:=Bool.not_eq_false _▸F;have B:=Bool.not_eq_false _▸G;refine⟨?_,(repEnd_grew h C D v A B (fun E=>kL h C D v E A B)).mono (by omega) (by omega)⟩;unfold aR;split
 ·exact((gP e i o v).trans (ng.upd _ _ _)).keeps
 split
 ·rename_i E;have H:((e.jh i o v).upd i fun o=>{ o with bn:=v 3,bg:=0 }).all[i]? =some { jd o (v 4) with bn:=v 3,bg:=0 }:=
   upd_same _ _ _ (jd o (v 4)) (by show(e.upd i fun _=>jd o (v 4)).all[i]? =_;exact upd_same _ _ _ _ C)
  exact(((gP e i o v).trans (ng.upd _ _ _)).trans (rT (kL h C D v E A B) H D rfl E).2).keeps
 split
 ·exact((gP e i o v).trans (ng.lay _ _ _)).keeps
 exact(gP e i o v).keeps
theorem run_more(h:fe e)(kind:Int)(hv:VOk v):pY e (e.run kind v)∧jv 2010 1000 e (e.run kind v):=by
 unfold run;split
 ·exact fresh_more h hv
 split
 ·exact cancel_more h _
 split
 ·exact replace_more h v
 split
 ·unfold tick;split
  ·exact⟨bK _ _ _,(jv.tell _ _ _ _ _ _ _).mono (by omega) (by omega)⟩
  have C:fe { e with now:=v 8 }:=⟨h.mo0,h.mo1,h.mp0,h.oN,h.mq0,h.mq1,h.ok,h.ids,h.apart,hv.t0,hv.t1,h.live⟩;obtain⟨D,E,F,G,H,I,J,K,L,B⟩:=due_grew C (fun o=>o.jr == 3 && decide (o.time≤v 8)) 2;have A:=(wR C (fun o=>o.jr == 3 && decide (o.time≤v 8)) 2).2;have M:jv 64 0 e (due (fun o=>o.jr == 3 && decide (o.time≤v 8)) 2 { e with now:=v 8 }):=⟨D,E,F,G,H,I,J,K,L,B⟩;refine⟨⟨A.mo,A.mp,A.mq,A.gz,A.rest,?_,?_⟩,M.mono (by omega) (by omega)⟩
  ·rw[A.len];exact Nat.le_refl _
  rw[A.len];exact Nat.le_succ _
 split
 ·exact⟨(wR h _ _).2.keeps,(due_grew h _ _).mono (by omega) (by omega)⟩
 exact⟨(ng.refl e).keeps,(jv.refl e).mono (by omega) (by omega)⟩
end bf
end Go.Proofs.YtehmdohpmpbnnaaGreatDoor
