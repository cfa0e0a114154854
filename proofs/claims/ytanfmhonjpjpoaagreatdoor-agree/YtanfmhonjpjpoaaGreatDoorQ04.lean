import Derived.Test.YtanfmhonjpjpoaaGreatDoorQ00
import Derived.Test.YtanfmhonjpjpoaaGreatDoorQ03
import Derived.Deep.RegionHeld
set_option linter.all false
set_option maxRecDepth 100000
set_option maxHeartbeats 8000000
namespace Go.Proofs.YtanfmhonjpjpoaaGreatDoor
variable{i fuel:Nat}{a:Act}{w:World}{o:Ent}{listed:Array Bool}{l:List Ent}{f:Ent→Ent}
section
open Eng
structure EB(x:Ent):Prop where
 shn0:0≤x.shown
 shn1:x.shown≤x.opn
 fil:0≤x.filled
 gon:0≤x.gone
 sum:x.filled+x.gone+x.opn=x.qty
 qty:x.qty≤4294967295
 prc:0≤x.price∧x.price≤4294967295
 liv:x.live=true∨0<x.opn→x.gone=0
namespace Book
variable {b b':Book} {r:Rcd} {off:Int}
structure Trades(b:Book)(i k:Nat)(o p:Ent)(r:Rcd):Prop where
 fnd:b.find r.other=some k
 at':b.l[k]? =some p
 fst:b.first (3 - o.side)=some k
 side:p.side≠o.side
 shn:o.shown≤0
 prc:r.price=p.price
 buy:o.side=1→p.price≤o.price
 sel:o.side=2→o.price≤p.price
 qty:r.qty=Book.qty o p
def swap(b:Book)(i k:Nat)(n:Int):Book:=(b.set i fun x=>{ x with opn:=x.opn - n,filled:=x.filled+n,live:=decide (0<x.opn - n) }).set k fun x=>{ x with opn:=x.opn - n,filled:=x.filled+n,shown:=x.shown - n,live:=decide (0<x.opn - n) }
theorem traded_cases(h:b.traded i o r=some b'): ∃k p,Trades b i k o p r∧b'=b.swap i k (Book.qty o p):=by
 unfold Book.traded at h;cases hk:b.find r.other with
 |none=>rw[hk]at h;cases h
 |some k=>
  rw[hk]at h;simp only at h;cases hp:b.l[k]? with
  |none=>rw[hp]at h;cases h
  |some p=>
   rw[hp]at h;simp only at h;split at h
   ·rename_i c;obtain⟨c1,c2,c3,c4,c5,c6,c7⟩:=c;exact⟨k,p,⟨hk,hp,c1,c2,c3,c4,c5,c6,c7⟩,(Option.some.inj h).symm⟩
   ·cases h
def Took(b:Book)(r:Rcd)(off:Int)(b':Book):Prop:=
 (r.kind=2∧b'=b)∨
 (r.kind=1∧b.find r.id=none∧b'={ b with l:=b.l++ [⟨r.id,r.other,r.reason,r.qty,off,r.price,r.qty,0,0,0,0,true⟩] })∨
 (∃i o,b.find r.id=some i∧b.l[i]? =some o∧o.live=true∧
  ((r.kind=3∧∃k p,Trades b i k o p r∧b'=b.swap i k (Book.qty o p))∨
  (r.kind=4∧r.qty=o.opn∧1≤r.qty∧b'=b.set i fun x=>{ x with gone:=r.qty,opn:=0,shown:=0,live:=false })∨
  (r.kind=5∧o.filled<r.qty∧r.reason=(if keeps o r then 1 else 0)∧b'=b.set i (replaced r))∨
  (r.kind=6∧r.price=o.price∧1≤r.qty∧r.qty≤o.opn∧b'=b.lay i r.qty)∨
  (r.kind=7∧r.qty=o.opn∧b'=(b.set i fun x=>{ x with price:=r.price }).lay i r.qty)∨
  (r.kind=8∧b'=b.set i fun x=>{ x with price:=0,shown:=0 })))
theorem take_cases(h:b.take r off=some b')(hf:r.Fits):Took b r off b':=by
 by_cases k2:r.kind=2
 ·unfold Book.take at h;rw[if_pos k2]at h;obtain rfl:=Option.some.inj h;exact .inl ⟨k2,rfl⟩
 ·by_cases k1:r.kind=1
  ·unfold Book.take at h;rw[if_neg k2,if_pos k1]at h;cases q:b.find r.id with
   |some i=>rw[q]at h;simp at h
   |none=>
    rw[q]at h;obtain rfl:=Option.some.inj h;exact .inr (.inl ⟨k1,q,rfl⟩)
  ·cases q:b.find r.id with
   |none=>
    unfold Book.take at h;rw[if_neg k2,if_neg k1,q]at h;cases h
   |some i=>
    cases qo:b.l[i]? with
    |none=>
     unfold Book.take at h;rw[if_neg k2,if_neg k1,q]at h;simp only[qo]at h;cases h
    |some o=>
     cases ql:o.live with
     |false=>
      unfold Book.take at h;rw[if_neg k2,if_neg k1,q]at h;simp only[qo,ql]at h;simp at h
     |true=>
      rw[Book.take_at k1 k2 q qo ql]at h;by_cases k3:r.kind=3
      ·rw[if_pos k3]at h;obtain⟨k,p,ht,rfl⟩:=traded_cases h;exact .inr (.inr ⟨i,o,q,qo,ql,.inl ⟨k3,k,p,ht,rfl⟩⟩)
      ·rw[if_neg k3]at h;by_cases k4:r.kind=4
       ·rw[if_pos k4]at h;split at h
        ·rename_i c;obtain rfl:=Option.some.inj h;exact .inr (.inr ⟨i,o,q,qo,ql,.inr (.inl ⟨k4,c.1,c.2,rfl⟩)⟩)
        ·cases h
       ·rw[if_neg k4]at h;by_cases k5:r.kind=5
        ·rw[if_pos k5]at h;by_cases c:o.filled<r.qty∧r.reason=(if keeps o r then 1 else 0)
         ·rw[if_pos c]at h;obtain rfl:=Option.some.inj h;exact .inr (.inr ⟨i,o,q,qo,ql,.inr (.inr (.inl ⟨k5,c.1,c.2,rfl⟩))⟩)
         ·rw[if_neg c]at h;cases h
        ·rw[if_neg k5]at h;by_cases k6:r.kind=6
         ·rw[if_pos k6]at h;split at h
          ·rename_i c;obtain rfl:=Option.some.inj h;exact .inr (.inr ⟨i,o,q,qo,ql,.inr (.inr (.inr (.inl ⟨k6,c.1,c.2.1,c.2.2,rfl⟩)))⟩)
          ·cases h
         ·rw[if_neg k6]at h;by_cases k7:r.kind=7
          ·rw[if_pos k7]at h;split at h
           ·rename_i c;obtain rfl:=Option.some.inj h;exact .inr (.inr ⟨i,o,q,qo,ql,.inr (.inr (.inr (.inr (.inl ⟨k7,c,rfl⟩))))⟩)
           ·cases h
          ·rw[if_neg k7]at h;by_cases k8:r.kind=8
           ·rw[if_pos k8]at h;obtain rfl:=Option.some.inj h;exact .inr (.inr ⟨i,o,q,qo,ql,.inr (.inr (.inr (.inr (.inr ⟨k8,rfl⟩))))⟩)
           ·have:=hf.k0;have:=hf.k1;omega
theorem modify_at{j:Nat}{y:Ent}(h:(l.modify i f)[j]? =some y): ∃x,l[j]? =some x∧y=if i=j then f x else x:=by
 rw[List.getElem?_modify]at h;obtain⟨x,hx,rfl⟩:=Option.map_eq_some_iff.1 h;exact⟨x,hx,rfl⟩
theorem mod_eb(h: ∀(j:Nat) (x:Ent),l[j]? =some x→EB x)(ho:l[i]? =some o)(hf:EB (f o)): ∀(j:Nat) (x:Ent),(l.modify i f)[j]? =some x→EB x:=by
 intro j y hy;obtain⟨x,hx,rfl⟩:=modify_at hy;by_cases c:i=j
 ·subst c;obtain rfl:=Option.some.inj (ho.symm.trans hx);rw[if_pos rfl];exact hf
 ·rw[if_neg c];exact h j x hx
theorem qty_le{p:Ent}(ho:EB o)(hp:EB p):0≤Book.qty o p∧Book.qty o p≤o.opn∧Book.qty o p≤p.shown:=by
 have:=ho.shn0;have:=ho.shn1;have:=hp.shn0;unfold Book.qty;split<;>omega
theorem took_eb(h:Took b r off b')(hf:r.Fits)(hb: ∀(j:Nat) (x:Ent),b.l[j]? =some x→EB x): ∀(j:Nat) (x:Ent),b'.l[j]? =some x→EB x:=by
 obtain⟨f1,f2,f3,f4,f5,f6,f7,f8,f9,f10,f11,f12⟩:=hf;rcases h with⟨_,rfl⟩|⟨_,_,rfl⟩|⟨i,o,_,ho,hl,⟨_,k,p,ht,rfl⟩|⟨_,hq,h1,rfl⟩|⟨_,hq,hk,rfl⟩|⟨_,hp,h1,h2,rfl⟩|⟨_,hq,rfl⟩|⟨_,rfl⟩⟩
 ·exact hb
 ·skip
  intro j x hx;have hx:(b.l++ [⟨r.id,r.other,r.reason,r.qty,off,r.price,r.qty,0,0,0,0,true⟩])[j]? =some x:=hx;by_cases c:j<b.l.length
  ·rw[List.getElem?_append_left c]at hx;exact hb j x hx
  ·rw[List.getElem?_append_right (by omega)]at hx;have:=List.mem_of_getElem? hx;obtain rfl:=List.mem_singleton.1 this;exact⟨by simp,by show(0:Int)≤r.qty;omega,by simp,by simp,by show(0:Int)+0+r.qty=r.qty;omega,by show r.qty≤_;omega,⟨by show 0≤r.price;omega,by show r.price≤_;omega⟩,fun _=>rfl⟩
 ·skip
  have ko:=hb i o ho;have kp:=hb k p ht.at';obtain⟨n0,n1,n2⟩:=qty_le ko kp;generalize Book.qty o p=n at *;have hne:i≠k:=fun e=>by
   subst e;obtain rfl:=Option.some.inj (ho.symm.trans ht.at');exact ht.side rfl
  have hs:=ht.shn;obtain⟨a1,a2,a3,a4,a5,a6,a7,a8⟩:=ko;obtain⟨b1,b2,b3,b4,b5,b6,b7,b8⟩:=kp;refine mod_eb (o:=p) (mod_eb hb ho ⟨a1,?_,?_,a4,?_,a6,a7,?_⟩) ?_ ⟨?_,?_,?_,b4,?_,b6,b7,?_⟩
  ·show o.shown≤o.opn - n;omega
  ·show 0≤o.filled+n;omega
  ·show o.filled+n+o.gone+(o.opn - n)=o.qty;omega
  ·intro hl;have hl:decide (0<o.opn - n)=true∨0<o.opn - n:=hl;rw[decide_eq_true_eq]at hl;exact a8 (.inr (by omega))
  ·show(b.l.modify i _)[k]? =_;rw[List.getElem?_modify,ht.at'];simp[hne]
  ·show 0≤p.shown - n;omega
  ·show p.shown - n≤p.opn - n;omega
  ·show 0≤p.filled+n;omega
  ·show p.filled+n+p.gone+(p.opn - n)=p.qty;omega
  ·intro hl;have hl:decide (0<p.opn - n)=true∨0<p.opn - n:=hl;rw[decide_eq_true_eq]at hl;exact b8 (.inr (by omega))
 ·skip
  obtain⟨a1,a2,a3,a4,a5,a6,a7,a8⟩:=hb i o ho;have hg:=a8 (.inl hl);refine mod_eb hb ho ⟨by simp,by simp,a3,by show 0≤r.qty;omega,?_,a6,a7,fun hc=>?_⟩
  ·show o.filled+r.qty+0=o.qty;omega
  ·have hc:false=true∨(0:Int)<0:=hc;rcases hc with hc|hc
   ·cases hc
   ·omega
 ·skip
  obtain⟨a1,a2,a3,a4,a5,a6,a7,a8⟩:=hb i o ho;have hg:=a8 (.inl hl);refine mod_eb hb ho ?_;unfold replaced;simp only;split
  ·exact⟨by simp,by show(0:Int)≤r.qty - o.filled;omega,a3,a4,by show o.filled+o.gone+(r.qty - o.filled)=r.qty;omega,by show r.qty≤_;omega,⟨by show 0≤r.price;omega,by show r.price≤_;omega⟩,fun _=>hg⟩
  ·split
   ·exact⟨by show(0:Int)≤r.qty - o.filled;omega,by show r.qty - o.filled≤r.qty - o.filled;omega,a3,a4,by show o.filled+o.gone+(r.qty - o.filled)=r.qty;omega,by show r.qty≤_;omega,a7,fun _=>hg⟩
   ·rename_i c1 c2;refine⟨a1,?_,a3,a4,by show o.filled+o.gone+(r.qty - o.filled)=r.qty;omega,by show r.qty≤_;omega,a7,fun _=>hg⟩;show o.shown≤r.qty - o.filled;by_cases q:keeps o r=true
    ·rw[if_pos q]at hk;have: ¬(r.qty - o.filled<o.shown):=fun c=>c2 ⟨hk,.inl c⟩
     omega
    ·rw[if_neg q]at hk;have h3:o.kind=3:=Classical.byContradiction fun c=>c1 ⟨hk,c⟩
     unfold keeps at q;simp[h3]at q;omega
 ·skip
  obtain⟨a1,a2,a3,a4,a5,a6,a7,a8⟩:=hb i o ho;exact mod_eb hb ho ⟨by show 0≤r.qty;omega,h2,a3,a4,a5,a6,a7,a8⟩
 ·skip
  obtain⟨a1,a2,a3,a4,a5,a6,a7,a8⟩:=hb i o ho;refine mod_eb (o:={ o with price:=r.price }) (mod_eb hb ho ⟨a1,a2,a3,a4,a5,a6,⟨by show 0≤r.price;omega,by show r.price≤_;omega⟩,a8⟩) ?_ ⟨by show 0≤r.qty;omega,by show r.qty≤o.opn;omega,a3,a4,a5,a6,⟨by show 0≤r.price;omega,by show r.price≤_;omega⟩,a8⟩;show(b.l.modify i _)[i]? =_;rw[List.getElem?_modify,ho];simp
 ·skip
  obtain⟨a1,a2,a3,a4,a5,a6,a7,a8⟩:=hb i o ho;exact mod_eb hb ho ⟨by simp,by show(0:Int)≤o.opn;omega,a3,a4,a5,a6,⟨by simp,by show(0:Int)≤_;omega⟩,a8⟩
theorem took_more(h:Took b r off b'):(∀(j:Nat) (x:Ent),b.l[j]? =some x→∃y,b'.l[j]? =some y∧y.side=x.side)∧b.l.length≤b'.l.length∧b'.l.length≤b.l.length+1∧b.place≤b'.place∧b'.place≤b.place+1:=by
 have key: ∀(l:List Ent) (i:Nat) (f:Ent→Ent),(∀x,(f x).side=x.side)→∀(j:Nat) (x:Ent),l[j]? =some x→∃y,(l.modify i f)[j]? =some y∧y.side=x.side:=by
  intro l i f hf j x hx;refine⟨if i=j then f x else x,?_,?_⟩
  ·rw[List.getElem?_modify,hx];rfl
  ·split
   ·exact hf x
   ·rfl
 rcases h with⟨_,rfl⟩|⟨_,_,rfl⟩|⟨i,o,_,ho,hl,⟨_,k,p,ht,rfl⟩|⟨_,hq,h1,rfl⟩|⟨_,hq,hk,rfl⟩|⟨_,hp,h1,h2,rfl⟩|⟨_,hq,rfl⟩|⟨_,rfl⟩⟩
 ·exact⟨fun j x hx=>⟨x,hx,rfl⟩,by omega,by omega,by omega,by omega⟩
 ·exact⟨fun j x hx=>⟨x,by show(b.l++_)[j]? =_;rw[List.getElem?_append_left (List.getElem?_eq_some_iff.1 hx).1];exact hx,rfl⟩,by show _≤(b.l++_).length;simp,by show(b.l++_).length≤_;simp,by show b.place≤b.place;omega,by show b.place≤_;omega⟩
 ·skip
  refine⟨fun j x hx=>?_,?_,?_,?_,?_⟩
  ·obtain⟨y,hy,e1⟩:=key b.l i (fun x=>{ x with opn:=x.opn - qty o p,filled:=x.filled+qty o p,live:=decide (0<x.opn - qty o p) }) (fun _=>rfl) j x hx;obtain⟨z,hz,e2⟩:=key _ k (fun x=>{ x with opn:=x.opn - qty o p,filled:=x.filled+qty o p,shown:=x.shown - qty o p,live:=decide (0<x.opn - qty o p) }) (fun _=>rfl) j y hy;exact⟨z,hz,e2.trans e1⟩
  ·show _≤((b.l.modify i _).modify k _).length;simp
  ·show((b.l.modify i _).modify k _).length≤_;simp
  ·show b.place≤b.place;omega
  ·show b.place≤_;omega
 ·exact⟨key _ _ _ (fun _=>rfl),by show _≤(b.l.modify i _).length;simp,by show(b.l.modify i _).length≤_;simp,by show b.place≤b.place;omega,by show b.place≤_;omega⟩
 ·exact⟨key _ _ _ (fun x=>by unfold replaced;simp only;split<;>(try split)<;>rfl),by show _≤(b.l.modify i _).length;simp,by show(b.l.modify i _).length≤_;simp,by show b.place≤b.place;omega,by show b.place≤_;omega⟩
 ·exact⟨key _ _ _ (fun _=>rfl),by show _≤(b.l.modify i _).length;simp,by show(b.l.modify i _).length≤_;simp,by show b.place≤b.place+1;omega,by show b.place+1≤_;omega⟩
 ·skip
  refine⟨fun j x hx=>?_,by show _≤((b.l.modify i _).modify i _).length;simp,by show((b.l.modify i _).modify i _).length≤_;simp,by show b.place≤b.place+1;omega,by show b.place+1≤_;omega⟩;obtain⟨y,hy,e1⟩:=key b.l i (fun x=>{ x with price:=r.price }) (fun _=>rfl) j x hx;obtain⟨z,hz,e2⟩:=key _ i (fun x=>{ x with place:=b.place+1,shown:=r.qty }) (fun _=>rfl) j y hy;exact⟨z,hz,e2.trans e1⟩
 ·exact⟨key _ _ _ (fun _=>rfl),by show _≤(b.l.modify i _).length;simp,by show(b.l.modify i _).length≤_;simp,by show b.place≤b.place;omega,by show b.place≤_;omega⟩
theorem takes_more(off:Int): ∀(rs:List Rcd) (b b':Book),(∀r∈rs,r.Fits)→takes off b rs=some b'→(∀(j:Nat) (x:Ent),b.l[j]? =some x→∃y,b'.l[j]? =some y∧y.side=x.side)∧b.l.length≤b'.l.length
 | [],b,b',_,h=>by
  obtain rfl:b=b':=Option.some.inj h;exact⟨fun j x hx=>⟨x,hx,rfl⟩,Nat.le_refl _⟩
 |r::rs,b,b',hf,h=>by
  unfold takes at h;cases q:b.take r off with
  |none=>rw[q]at h;cases h
  |some c=>
   rw[q]at h;obtain⟨t1,t2,_⟩:=took_more (take_cases q (hf r (List.mem_cons_self ..)));obtain⟨s1,s2⟩:=takes_more off rs c b' (fun r hr=>hf r (List.mem_cons_of_mem _ hr)) h;exact⟨fun j x hx=>by
    obtain⟨y,hy,e1⟩:=t1 j x hx;obtain⟨z,hz,e2⟩:=s1 j y hy;exact⟨z,hz,e2.trans e1⟩,Nat.le_trans t2 s2⟩
end Book
end
section
section
variable {P:Program} {ops:Array Oper} {Q:Exit→Act→World→Prop} {md:Region.Mode} {S:World→Prop} {late:Nat}
def wpAnyE(P:Program)(md:Region.Mode)(ops:Array Oper)(Q:Exit→Act→World→Prop)(S:World→Prop)(late:Nat):Nat→Array Bool→Act→World→Prop
 |0,listed,a,w=>Region.ready md ops listed= []∧Q .normal a w
 |fuel+1,listed,a,w=>
  (Region.ready md ops listed= []→Q .normal a w)∧
  ∀i∈Region.ready md ops listed,wpOp P ops Q i (fun a' w'=>(i=late∨S w')∧wpAnyE P md ops Q S late fuel (listed.setIfInBounds i true) a' w') a w
theorem zF0: ∀(fuel:Nat) (listed:Array Bool) (a:Act) (w:World),wpAnyE P md ops Q S late fuel listed a w→wpAny P md ops Q fuel listed a w
 |0,_,_,_,h=>h
 |fuel+1,_,_,_,h=>⟨h.1,fun i hi=>wpOp_mono (fun a' w' h'=>zF0 fuel _ a' w' h'.2) (h.2 i hi)⟩
theorem zJu{oi oL:Oper}{v:Value}(hi:ops[i]? =some oi)(hL:ops[late]? =some oL)(hw: ∃e∈oL.after,Region.binds md e=true∧e.on=i)(hsel: ∀(j:Nat) (o:Oper) cs b,ops[j]? =some o→o.op≠.select cs b)
 (hQ: ∀c a w,Q (.panic c) (a.put oi.dst v) w→Q (.panic c) a w):
 ∀(fuel:Nat) (listed:Array Bool) (a:Act) (w:World),
  (∀j oj,ops[j]? =some oj→j≠i→listed.getD j true=false→(∀e∈oj.after,Region.binds md e=true→e.on≠i)→oi.apart ops oj=true)→
  i∈Region.ready md ops listed→YieldsIf P ops S oi v a→S w→
  wpAnyE P md ops Q S late fuel (listed.setIfInBounds i true) (a.put oi.dst v) w→wpAnyE P md ops Q S late (fuel+1) listed a w:=by
 intro fuel
 induction fuel with
 |zero=>
  intro listed a w _ hr hy hS H;refine⟨fun h=>(by rw[h]at hr;cases hr),fun j hj=>?_⟩;by_cases hji:j=i
  ·subst hji;exact hy.wpOp hi hS ⟨.inr hS,H⟩
  ·have:=ready_mono hj hji;rw[H.1]at this;cases this
 |succ fuel ih=>
  intro listed a w hfree hr hy hS H;refine⟨fun h=>(by rw[h]at hr;cases hr),fun j hj=>?_⟩;by_cases hji:j=i
  ·subst hji;exact hy.wpOp hi hS ⟨.inr hS,H⟩
  ·have h1:=H.2 j (ready_mono hj hji);obtain⟨hjun,oj,hoj,hall⟩:=mem_ready.1 hj;have hnot: ∀e∈oj.after,Region.binds md e=true→e.on≠i:=fun e he hb heq=>by
    have h1:=hall e he hb;have h0:=(mem_ready.1 hr).1;rw[heq]at h1;rcases Nat.lt_or_ge i listed.size with h' |h'
    ·simp[h']at h0 h1;rw[h0]at h1;cases h1
    ·simp[Array.getElem?_eq_none h']at h1
   have hjl:j≠late:=by
    rintro rfl;obtain⟨e,he,hb,heq⟩:=hw;obtain rfl:oL=oj:=Option.some.inj (hL.symm.trans hoj);exact hnot e he hb heq
   have h2:=wpOp_putIf hoj (hfree j oj hoj hji hjun hnot) (fun cs b=>hsel i oi cs b hi) (fun cs b=>hsel j oj cs b hoj) hQ hy h1;have hfree': ∀k ok,ops[k]? =some ok→k≠i→(listed.setIfInBounds j true).getD k true=false→
    (∀e∈ok.after,Region.binds md e=true→e.on≠i)→oi.apart ops ok=true:=fun k ok hk hki hun hno=>by
    refine hfree k ok hk hki ?_ hno;by_cases hjk:j=k
    ·subst hjk;exact hjun
    ·rw[getD_set_ne true hjk]at hun;exact hun
   refine wpOp_mono (fun a' w' h3=>?_) h2;have hS':S w':=h3.2.1.resolve_left hjl;refine⟨.inr hS',ih (listed.setIfInBounds j true) a' w' hfree' (ready_mono hr (Ne.symm hji)) h3.1 hS' ?_⟩;rw[Array.setIfInBounds_comm _ _ hji];exact h3.2.2
def waits(md:Region.Mode)(ops:Array Oper)(late i:Nat):Bool:=match ops[late]? with
 |some o=>o.after.any fun e=>Region.binds md e && e.on == i
 |none=>false
theorem zJv(h:waits md ops late i=true): ∃oL,ops[late]? =some oL∧∃e∈oL.after,Region.binds md e=true∧e.on=i:=by
 unfold waits at h;split at h
 ·rename_i o ho;obtain⟨k,hk,he⟩:=Array.any_eq_true.1 h;simp only[Bool.and_eq_true,beq_iff_eq]at he;exact⟨o,ho,o.after[k],Array.getElem_mem hk,he.1,he.2⟩
 ·cases h
theorem zA9{oi:Oper}{v:Value}(hi:ops[i]? =some oi)(hwt:waits md ops late i=true)
 (hs:Region.noSelect ops=true) (hf:Region.free md ops listed i=true) (hr:(Region.ready md ops listed).contains i=true)
 (hQ: ∀c a w,Q (.panic c) (a.put oi.dst v) w→Q (.panic c) a w) (hy:YieldsIf P ops S oi v a) (hS:S w)
 (h:wpAnyE P md ops Q S late fuel (listed.setIfInBounds i true) (a.put oi.dst v) w):wpAnyE P md ops Q S late (fuel+1) listed a w:=by
 obtain⟨oL,hL,hw⟩:=zJv hwt;exact zJu hi hL hw (Region.noSelect_spec hs) hQ fuel listed a w (Region.free_spec hi hf) (by simpa using hr) hy hS h
theorem zBe{o:Oper}(hr:Region.ready md ops listed= [i])(ho:ops[i]? =some o)
 (h: ∀K':Act→World→Prop,Shut (∀a w,(i=late∨S w)→wpAnyE P md ops Q S late fuel (listed.setIfInBounds i true) a w→K' a w)→if Region.wanted o (yielded ops a.tmps)=true then Oper.wp P o a w K' Q else K' (a.put o.dst undef) w):
 wpAnyE P md ops Q S late (fuel+1) listed a w:=by
 refine⟨fun h0=>(by rw[hr]at h0;cases h0),fun j hj=>?_⟩;rw[hr]at hj;obtain rfl:j=i:=by simpa using hj
 exact wpOp_step ho (fun K' hK=>h K' (fun a w hS hW=>hK a w ⟨hS,hW⟩))
theorem zF1(hr:Region.ready md ops listed= [])(h:Q .normal a w):
 ∀fuel,wpAnyE P md ops Q S late fuel listed a w
 |0=>⟨hr,h⟩
 |_+1=>⟨fun _=>h,by rw[hr];simp⟩
theorem zF2(late:Nat)(S:World→Prop){id:Nat}(hm:P.follows .mixedOrders=true)
 (h:wpAnyE P .any ops Q S late ops.size (Array.replicate ops.size false) a w.drew):(Code.region id ops true).wp P Q a w:=
 wp_region_any hm (zF0 _ _ _ _ h)
end
end
end Go.Proofs.YtanfmhonjpjpoaaGreatDoor
