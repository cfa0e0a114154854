import Derived.Test.YtanfmhonjpjpoaaGreatDoorQ00
import Derived.Test.YtanfmhonjpjpoaaGreatDoorQ10
set_option linter.all false
set_option maxRecDepth 100000
set_option maxHeartbeats 8000000
namespace Go.Proofs.YtanfmhonjpjpoaaGreatDoor
variable{side x kind:Int}{i:Nat}{v:Nat→Int}
open Eng
def lead(side:Int)(x:Ord):Prop:=x.side=side∧x.typ≠3∧0<x.shown
def bF(side:Int)(p:Int)(x:Ord):Int:=if x.side=side∧x.typ≠3∧0<x.shown∧(p=0∨(side=1∧p<x.price)∨(side=2∧x.price<p)) then x.price else p
theorem zC7(hs:side=1∨side=2): ∀(l:List Ord) (p:Int),(∀x∈l,lead side x→1≤x.price)→0≤p→
 (l.foldl (bF side) p=p∨∃x∈l,lead side x∧l.foldl (bF side) p=x.price)∧
 (∀x∈l,lead side x→1≤l.foldl (bF side) p∧(side=1→x.price≤l.foldl (bF side) p)∧(side=2→l.foldl (bF side) p≤x.price))∧
 (1≤p→1≤l.foldl (bF side) p∧(side=1→p≤l.foldl (bF side) p)∧(side=2→l.foldl (bF side) p≤p))
 | [],p,_,hp=>⟨.inl rfl,fun x hx=>by simp at hx,fun h=>⟨h,fun _=>Int.le_refl _,fun _=>Int.le_refl _⟩⟩
 |y::l,p,hl,hp=>by
  rw[List.foldl_cons];have hy1:=hl y (List.mem_cons_self ..);have hl': ∀x∈l,lead side x→1≤x.price:=fun x hx=>hl x (List.mem_cons_of_mem _ hx)
  by_cases c:y.side=side∧y.typ≠3∧0<y.shown∧(p=0∨(side=1∧p<y.price)∨(side=2∧y.price<p))
  ·have hF:bF side p y=y.price:=if_pos c;rw[hF];have gy:lead side y:=⟨c.1,c.2.1,c.2.2.1⟩;have p1:=hy1 gy;obtain⟨a,b,d⟩:=zC7 hs l y.price hl' (by omega);obtain⟨d1,d2,d3⟩:=d p1;generalize l.foldl (bF side) y.price=q at *;refine⟨.inr ?_,fun x hx hg=>?_,fun h=>⟨d1,fun s=>?_,fun s=>?_⟩⟩
   ·rcases a with a|⟨x,hx,hg,e1⟩
    ·exact⟨y,List.mem_cons_self ..,gy,a⟩
    ·exact⟨x,List.mem_cons_of_mem _ hx,hg,e1⟩
   ·rcases List.mem_cons.1 hx with rfl|hx
    ·exact⟨d1,d2,d3⟩
    ·exact b x hx hg
   ·have:=d2 s;rcases c.2.2.2 with z|⟨_,z⟩|⟨z,_⟩<;>omega
   ·have:=d3 s;rcases c.2.2.2 with z|⟨z,_⟩|⟨_,z⟩<;>omega
  ·have hF:bF side p y=p:=if_neg c;rw[hF];obtain⟨a,b,d⟩:=zC7 hs l p hl' hp;generalize l.foldl (bF side) p=q at *;refine⟨?_,fun x hx hg=>?_,d⟩
   ·rcases a with a|⟨x,hx,hg,e1⟩
    ·exact .inl a
    ·exact .inr ⟨x,List.mem_cons_of_mem _ hx,hg,e1⟩
   ·rcases List.mem_cons.1 hx with rfl|hx
    ·have hn: ¬(p=0∨(side=1∧p<x.price)∨(side=2∧x.price<p)):=fun z=>c ⟨hg.1,hg.2.1,hg.2.2,z⟩
     obtain⟨d1,d2,d3⟩:=d (by omega);exact⟨d1,fun s=>by have:=d2 s;omega,fun s=>by have:=d3 s;omega⟩
    ·exact b x hx hg
section
variable {e:Eng}
theorem zF2(h:EInv e): ∀x∈e.all,lead side x→1≤x.price:=fun x hx hg=>by
 obtain⟨i,hi⟩:=List.getElem?_of_mem hx;exact(h.ok i x hi).shp hg.2.2
theorem zJu(h:EInv e)(hs:side=1∨side=2):bestOf side e.all=0∨∃(i:Nat) (x:Ord),e.all[i]? =some x∧lead side x∧bestOf side e.all=x.price:=by
 rcases(zC7 hs e.all 0 (zF2 h) (Int.le_refl 0)).1 with q|⟨x,hx,hg,q⟩
 ·exact .inl q
 ·obtain⟨i,hi⟩:=List.getElem?_of_mem hx;exact .inr ⟨i,x,hi,hg,q⟩
theorem zQd(h:EInv e)(hs:side=1∨side=2){x:Ord}(hx:e.all[i]? =some x)(hg:lead side x):1≤bestOf side e.all∧(side=1→x.price≤bestOf side e.all)∧(side=2→bestOf side e.all≤x.price):=
 (zC7 hs e.all 0 (zF2 h) (Int.le_refl 0)).2.1 x (List.mem_of_getElem? hx) hg
theorem zF3(side:Int)(f:Ord→Ord): ∀(l:List Ord) (i:Nat) (p:Int),(∀o,l[i]? =some o→o.typ=3∧(f o).typ=3)→(l.modify i f).foldl (bF side) p=l.foldl (bF side) p
 | [],i,p,_=>by cases i<;>rfl
 |x::l,0,p,h=>by
  obtain⟨h1,h2⟩:=h x rfl;have a1:bF side p (f x)=p:=if_neg (fun c=>c.2.1 h2);have a2:bF side p x=p:=if_neg (fun c=>c.2.1 h1);rw[List.modify_zero_cons,List.foldl_cons,List.foldl_cons,a1,a2]
 |x::l,i+1,p,h=>by
  rw[List.modify_succ_cons,List.foldl_cons,List.foldl_cons];exact zF3 side f l i _ (fun o ho=>h o ho)
theorem zF4{o:Ord}(ho:e.all[i]? =some o)(ht:o.typ=3)(f:Ord→Ord)(hf:(f o).typ=3)(side:Int):bestOf side (e.upd i f).all=bestOf side e.all:=
 zF3 side f e.all i 0 (fun x hx=>by obtain rfl:o=x:=Option.some.inj (ho.symm.trans hx);exact⟨ht,hf⟩)
theorem zD3{e':Eng}{o o':Ord}(hb: ∀side,bestOf side e'.all=bestOf side e.all)(hm:e'.mp=e.mp)(hs:o'.side=o.side)(hf:o'.off=o.off):e'.target o'=e.target o:=by
 unfold Eng.target;simp only[hb,hm,hs,hf]
theorem zJv(i:Nat):(∀side,bestOf side (followOne e i).all=bestOf side e.all)∧(followOne e i).mp=e.mp:=by
 rcases followOne_at e i with q|⟨o,ho,hs,ht,hne,⟨h0,q⟩|⟨h0,q⟩⟩
 ·rw[q];exact⟨fun _=>rfl,rfl⟩
 ·rw[q];exact⟨fun side=>zF4 ho ht (fun o=>{ o with price:=0,shown:=0 }) ht side,rfl⟩
 ·rw[q];exact⟨fun side=>zF4 (e:={ e with stamp:=e.stamp+1 }) ho ht (fun x=>{ x with price:=e.target o,stamp:=(e.stamp+1:Nat),shown:=x.opn }) ht side,rfl⟩
def AtT(n:Nat)(e:Eng):Prop:= ∀(j:Nat) (o:Ord),j<n→e.all[j]? =some o→o.status=1→o.typ=3→o.price=e.target o
theorem zJw(h:AtT i e):AtT (i+1) (followOne e i):=by
 obtain⟨hb,hm⟩:=zJv (e:=e) i;intro j x hj hx hs ht;by_cases q:i=j
 ·subst q;rcases followOne_at e i with q|⟨o,ho,hs2,ht2,hne,⟨h0,q⟩|⟨h0,q⟩⟩
  ·have hx':=hx;rw[q]at hx';have e1:followOne e i=e:=q;unfold followOne at q;rw[hx']at q;simp only at q;rw[if_pos ⟨hs,ht⟩]at q;rw[e1];by_cases c:e.target x=x.price
   ·exact c.symm
   ·rw[if_neg c]at q;by_cases c2:e.target x=0
    ·rw[if_pos c2]at q;have:=congrArg Eng.seq q;exact absurd this (by show¬e.seq+1=e.seq;omega)
    ·rw[if_neg c2]at q;have:=congrArg Eng.seq q;exact absurd this (by show¬e.seq+1=e.seq;omega)
  ·have hy:(followOne e i).all[i]? =some { o with price:=0,shown:=0 }:=by rw[q];exact upd_same e i (fun o=>{ o with price:=0,shown:=0 }) o ho
   obtain rfl:=Option.some.inj (hy.symm.trans hx);exact h0.symm.trans (zD3 (o:=o) hb hm rfl rfl).symm
  ·have hy:(followOne e i).all[i]? =some { o with price:=e.target o,stamp:=(e.stamp+1:Nat),shown:=o.opn }:=by
    rw[q];exact upd_same { e with stamp:=e.stamp+1 } i (fun x=>{ x with price:=e.target o,stamp:=(e.stamp+1:Nat),shown:=x.opn }) o ho
   obtain rfl:=Option.some.inj (hy.symm.trans hx);exact(zD3 (o:=o) hb hm rfl rfl).symm
 ·rw[follow_ne e i j q]at hx;rw[zD3 (o:=x) hb hm rfl rfl];exact h j x (by omega) hx hs ht
theorem zF5: ∀(n:Nat) (e:Eng),AtT n ((List.range n).foldl followOne e)
 |0,e=>fun j o hj=>by omega
 |n+1,e=>by
  rw[List.range_succ,List.foldl_append];exact zJw (zF5 n e)
theorem zJx(h:EInv e): ∀(j:Nat) (o:Ord),e.follow.all[j]? =some o→o.status=1→o.typ=3→o.price=e.follow.target o:=fun j o ho=>by
 have hl:=(follow_inv h).2.len;exact zF5 e.all.length e j o (by have:=(List.getElem?_eq_some_iff.1 ho).1;omega) ho
end
namespace Book
structure Still(b:Book)(mp:Int):Prop where
 cross: ∀(i j:Nat) (x y:Ent),b.first 1=some i→b.first 2=some j→b.l[i]? =some x→b.l[j]? =some y→x.price<y.price
 sum: ∀(i:Nat) (o:Ent),b.l[i]? =some o→o.qty=o.filled+o.gone+o.opn∧0≤o.filled∧0≤o.opn∧o.live=decide (0<o.opn)∧(o.live=false→o.shown≤0)
 peg: ∀(i:Nat) (o:Ent),b.l[i]? =some o→o.live=true→o.kind=3→b.target mp o=o.price∧(0<o.price→o.shown=o.opn)∧(o.price=0→o.shown≤0)
 oth: ∀(i:Nat) (o:Ent),b.l[i]? =some o→o.live=true→o.kind≠3→1≤o.shown∧(o.kind=1→o.shown=o.opn)
end Book
section
variable {e:Eng}
theorem zF6{mp:Int}{st:Nat}(side:Int): ∀(l:List Ord) (p:Int),(∀o∈l,Ok mp st o)→(l.map Ord.ent).foldl (Book.tF side) p=l.foldl (bF side) p
 | [],p,_=>rfl
 |x::l,p,h=>by
  rw[List.map_cons,List.foldl_cons,List.foldl_cons];have k:=h x (List.mem_cons_self ..);have e1:Book.tF side p x.ent=bF side p x:=by
   unfold Book.tF bF;by_cases c:x.side=side∧x.typ≠3∧0<x.shown∧(p=0∨(side=1∧p<x.price)∨(side=2∧x.price<p))
   ·have hp:0<x.opn:=by have:=k.shn1;have:=c.2.2.1;omega
    rw[if_pos c,if_pos ⟨zBa hp,c⟩];rfl
   ·rw[if_neg c,if_neg (fun q=>c q.2)]
  rw[e1];exact zF6 side l _ (fun o ho=>h o (List.mem_cons_of_mem _ ho))
theorem zJy(h:EInv e)(o:Ord):(bk e).target e.mp o.ent=e.target o:=by
 have hk: ∀x∈e.all,Ok e.mp e.stamp x:=fun x hx=>by obtain⟨i,hi⟩:=List.getElem?_of_mem hx;exact h.ok i x hi
 have e1:(bk e).l.foldl (Book.tF o.ent.side) 0=bestOf o.side e.all:=zF6 o.side e.all 0 hk;have hb:=bestOf_bd (mp:=e.mp) (st:=e.stamp) o.side e.all hk;unfold Book.target Eng.target;rw[e1];simp only;by_cases c:bestOf o.side e.all=0
 ·rw[if_pos c,if_neg (by omega),c]
 ·rw[if_neg c,if_pos (by omega)];rfl
theorem zQe(h:EInv e)(side:Int):0≤bestOf side e.all:=by
 have hk: ∀x∈e.all,Ok e.mp e.stamp x:=fun x hx=>by obtain⟨i,hi⟩:=List.getElem?_of_mem hx;exact h.ok i x hi
 have:=bestOf_bd (mp:=e.mp) (st:=e.stamp) side e.all hk;omega
theorem zF7(h:EInv e)(hf:Fr e)(ht: ∀(j:Nat) (o:Ord),e.all[j]? =some o→o.status=1→o.typ=3→o.price=e.target o){x:Ord}(hx:e.all[i]? =some x)(hsh:x.shown≠0): ∃(j:Nat) (z:Ord),e.all[j]? =some z∧restN z∧z.side=x.side∧(x.side=1→x.price≤z.price)∧(x.side=2→z.price≤x.price):=by
 have k:=h.ok i x hx;by_cases t:x.typ=3
 ·have hst:x.status=1:=Classical.byContradiction fun c=>hsh (k.dead c)
  have hp:=ht i x hx hst t;have h1:=k.shp (by have:=k.shn0;omega);have hof:=hf.of i x hx t;rcases zJu h k.side with q|⟨j,z,hz,hg,q⟩
  ·exfalso;unfold Eng.target at hp;simp only at hp;rw[if_neg (by omega)]at hp;omega
  ·refine⟨j,z,hz,⟨hg.2.1,by have:=hg.2.2;omega⟩,hg.1,fun s=>?_,fun s=>?_⟩
   ·have hz1:=(h.ok j z hz).shp hg.2.2;unfold Eng.target at hp;simp only at hp;rw[q,if_pos (by omega)]at hp;have:=hof.1 s;unfold clamp at hp;simp only at hp;split at hp
    ·split at hp<;>omega
    ·split at hp<;>omega
   ·have hz1:=(h.ok j z hz).shp hg.2.2;have hz2:=(h.ok j z hz).prc1;unfold Eng.target at hp;simp only at hp;rw[q,if_pos (by omega)]at hp;have:=hof.2 s;unfold clamp at hp;simp only at hp;split at hp
    ·split at hp<;>omega
    ·split at hp<;>omega
 ·exact⟨i,x,hx,⟨t,hsh⟩,rfl,fun _=>Int.le_refl _,fun _=>Int.le_refl _⟩
theorem zJz(h:EInv e)(hl:Lv e)(hf:Fr e)(hp:Pegs e)(ht: ∀(j:Nat) (o:Ord),e.all[j]? =some o→o.status=1→o.typ=3→o.price=e.target o):(bk e).Still e.mp:=by
 have at': ∀(i:Nat) (x:Ent),(bk e).l[i]? =some x→∃o,e.all[i]? =some o∧x=o.ent:=by
  intro i x hx;have hx':(e.all.map Ord.ent)[i]? =some x:=hx;rw[List.getElem?_map]at hx';obtain⟨o,ho,rfl⟩:=Option.map_eq_some_iff.1 hx';exact⟨o,ho,rfl⟩
 have live: ∀(i:Nat) (o:Ord),e.all[i]? =some o→o.ent.live=true→o.status=1:=by
  intro i o ho hx;have:0<o.opn:=by simpa [Ord.ent] using hx
  exact(hl i o ho).2 this
 refine⟨fun i j x y h1 h2 hx hy=>?_,fun i x hx=>?_,fun i x hx hv hk=>?_,fun i x hx hv hk=>?_⟩
 ·obtain⟨o,ho,rfl⟩:=at' i x hx;obtain⟨r,hr,rfl⟩:=at' j y hy;rw[zCs h (.inl rfl)]at h1;rw[zCs h (.inr rfl)]at h2;obtain⟨_,o',ho',r1⟩:=firstTo_some h1;obtain⟨_,r',hr',r2⟩:=firstTo_some h2;obtain rfl:o=o':=Option.some.inj (ho.symm.trans ho');obtain rfl:r=r':=Option.some.inj (hr.symm.trans hr');obtain⟨a1,a2⟩:=rests_shown r1;obtain⟨b1,b2⟩:=rests_shown r2;obtain⟨j1,z1,c1,c2,c3,c4,_⟩:=zF7 h hf ht ho a1;obtain⟨j2,z2,d1,d2,d3,_,d5⟩:=zF7 h hf ht hr b1;have:=hf.nc j1 j2 z1 z2 c1 d1 c2 d2 (c3.trans a2) (d3.trans b2);have q1:=c4 a2;have q2:=d5 b2;show o.price<r.price;omega
 ·obtain⟨o,ho,rfl⟩:=at' i x hx;have k:=h.ok i o ho;refine⟨?_,k.fil0,k.opn0,rfl,fun c=>?_⟩
  ·show o.qty=o.filled+o.cancelled+o.opn;have:=k.sum;omega
  ·have: ¬0<o.opn:=by simpa [Ord.ent] using c
   show o.shown≤0;have:=k.shn1;omega
 ·obtain⟨o,ho,rfl⟩:=at' i x hx;have k:=h.ok i o ho;have hs:=live i o ho hv;have hk':o.typ=3:=hk;refine⟨?_,fun c=>?_,fun c=>?_⟩
  ·rw[zJy h];exact(ht i o ho hs hk').symm
  ·have c':0<o.price:=c;have:=(hp i o ho hs hk').2 (by omega);rcases k.whole (by omega) with w|w
   ·omega
   ·exact w
  ·have c':o.price=0:=c;show o.shown≤0;by_cases z:0<o.shown
   ·have:=k.shp z;omega
   ·omega
 ·obtain⟨o,ho,rfl⟩:=at' i x hx;have k:=h.ok i o ho;have hs:=live i o ho hv;have hk':o.typ≠3:=hk;have:=hf.sh i o ho hs hk';refine⟨by show 1≤o.shown;omega,fun c=>?_⟩;have c':o.typ=1:=c;rcases k.whole (by omega) with w|w
  ·omega
  ·exact w
theorem zK(off:Int)(kind:Int)(hoff:kind=1→off=v 6)(h:EInv e)(hl:Lv e)(hf:Fr e)(hp:Pegs e)(hv:VOk v): ∃rs,(kind=1∨kind=2∨kind=3→rs≠[])∧Told off e rs (e.run kind v).follow∧(bk (e.run kind v).follow).Still (e.run kind v).follow.mp∧Lv (e.run kind v).follow∧Fr (e.run kind v).follow:=by
 have i1:=run_inv h kind hv;obtain⟨⟨r1,n1,t1⟩,l1⟩:=zHh off kind hoff h hl hv;have f1:=zJt kind h hf hv;have p1:=Pegs.run hp h kind hv;obtain⟨⟨r2,t2⟩,l2⟩:=zH4 (off:=off) i1 l1;have i2:=(follow_inv i1).1;have f2:=zJo f1;have p2:=Pegs.follow p1;refine⟨r1++r2,fun c=>?_,t1.trans t2,zJz i2 l2 f2 p2 (zJx i1),l2,f2⟩;intro z;exact n1 c (List.append_eq_nil_iff.1 z).1
end
theorem zD4(h0:0≤x)(h1:x<256):((byteOf x).toNat:Int)=x:=by
 unfold byteOf;rw[UInt8.toNat_ofNat_of_lt' (by simp[UInt8.size];omega)];omega
theorem zBq: ∀(n:Nat) (x:Int),0≤x→x<256 ^ n→val (be n x)=x
 |0,x,h0,h1=>by
  have:x=0:=by simp at h1;omega
  rw[this];rfl
 |n+1,x,h0,h1=>by
  show val (be n (x / 256)++ [byteOf x])=x;have hp:(256:Int) ^ (n+1)=256 ^ n*256:=Int.pow_succ ..;rw[zCq,zBq n (x / 256) (by omega) (by rw[hp]at h1;omega)];have hb:byteOf x=byteOf (x % 256):=by
   unfold byteOf;rw[Int.emod_emod]
  rw[hb,zD4 (by omega) (by omega)];omega
theorem zK0(h0: -2147483648≤x)(h1:x<0):val (be 4 x)=x+4294967296:=by
 have:=zDu 4 x 1;rw[←this,zBq 4 (x+1*256 ^ 4) (by omega) (by omega)];omega
theorem zF8: ∀(l:List (Nat×Nat)) (v:Nat→Int),bad l v=none→∀p∈l,fit p (v p.1)=true
 | [],v,h,p,hp=>by cases hp
 |q::l,v,h,p,hp=>by
  unfold bad at h;by_cases c:fit q (v q.1)=true
  ·rw[if_pos c]at h;rcases List.mem_cons.1 hp with rfl|hp
   ·exact c
   ·exact zF8 l v (by simpa using h) p hp
  ·rw[if_neg c]at h;cases h
theorem zF9(v:Nat→Int): ∀l:List (Nat×Nat),(body l v).length=wsum l
 | []=>rfl
 |p::l=>by
  show(be p.2 (v p.1)++body l v).length=p.2+wsum l;rw[List.length_append,zA5,zF9 v l]
theorem zK1{t pre post:List UInt8}{p:Nat×Nat}(ht:t=pre++be p.2 x++post)(hf:fit p x=true)(h2:p.1=6→p.2=4):rd t pre.length p=x:=by
 have hd:(t.drop pre.length).take p.2=be p.2 x:=by
  rw[ht,List.append_assoc,List.drop_left];have:=List.take_left (l₁:=be p.2 x) (l₂:=post);rw[zA5]at this;exact this
 unfold rd;rw[hd];unfold fit at hf;by_cases c:p.1=6
 ·rw[if_pos c]at hf;have hf':=of_decide_eq_true hf;rw[h2 c];by_cases n:x<0
  ·rw[zK0 hf'.1 n,if_pos ⟨c,by omega⟩];omega
  ·rw[zBq 4 x (by omega) (by omega),if_neg (fun q=>by have:=q.2;omega)]
 ·rw[if_neg c]at hf;have hf':=of_decide_eq_true hf;rw[zBq _ _ hf'.1 hf'.2,if_neg (fun q=>c q.1)]
theorem zFa(v:Nat→Int)(t:List UInt8): ∀(l:List (Nat×Nat)) (pre:List UInt8) (u:Nat→Int),t=pre++body l v→(∀p∈l,fit p (v p.1)=true∧(p.1=6→p.2=4))→(l.map (·.1)).Nodup→(∀p∈l,reads t pre.length l u p.1=v p.1)∧∀j,j∉l.map (·.1)→reads t pre.length l u j=u j
 | [],pre,u,ht,hf,hn=>⟨fun p hp=>(by cases hp),fun j _=>rfl⟩
 |q::l,pre,u,ht,hf,hn=>by
  have hb:body (q::l) v=be q.2 (v q.1)++body l v:=rfl;have hq:=hf q (List.mem_cons_self ..);have hr:=zK1 (t:=t) (pre:=pre) (post:=body l v) (p:=q) (x:=v q.1) (by rw[ht,hb,List.append_assoc]) hq.1 hq.2;rw[List.map_cons,List.nodup_cons]at hn;have hlen:pre.length+q.2=(pre++be q.2 (v q.1)).length:=by rw[List.length_append,zA5]
  obtain⟨a,b⟩:=zFa v t l (pre++be q.2 (v q.1)) (upd u q.1 (rd t pre.length q)) (by rw[ht,hb,List.append_assoc]) (fun p hp=>hf p (List.mem_cons_of_mem _ hp)) hn.2;rw[←hlen]at a b;refine⟨fun p hp=>?_,fun j hj=>?_⟩
  ·show reads t (pre.length+q.2) l (upd u q.1 (rd t pre.length q)) p.1=v p.1;rcases List.mem_cons.1 hp with rfl|hp
   ·rw[b p.1 hn.1,hr];unfold Go.Proofs.YtanfmhonjpjpoaaGreatDoor.upd;rw[if_pos rfl]
   ·exact a p hp
  ·rw[List.map_cons,List.mem_cons,not_or]at hj;show reads t (pre.length+q.2) l (upd u q.1 (rd t pre.length q)) j=u j;rw[b j hj.2];unfold Go.Proofs.YtanfmhonjpjpoaaGreatDoor.upd;rw[if_neg hj.1]
theorem zK2(kind:Int):((terms kind).map (·.1)).Nodup:=by
 unfold terms;repeat' split
 all_goals decide
theorem zK3(kind:Int):wsum (terms kind)≤27:=by
 unfold terms;repeat' split
 all_goals decide
theorem zK4(h:(encRes kind v).2.1=0):1≤kind∧kind≤5∧nextE (ba (encRes kind v).1)=0∧nextM (ba (encRes kind v).1)=(encRes kind v).1.length∧nextK (ba (encRes kind v).1)=kind∧(kind=1→nextV (ba (encRes kind v).1) 6=v 6):=by
 unfold encRes at h⊢;by_cases c:1≤kind∧kind≤5
 ·rw[if_pos c]at h⊢;cases hb:bad (terms kind) v with
  |some i=>rw[hb]at h;exact absurd (show(3:Int)=0 from h) (by decide)
  |none=>
   simp only;have hw:=zK3 kind;have hlen:=zF9 v (terms kind);have b0:bAt (ba (byteOf (((body (terms kind) v).length:Int)+1)::byteOf kind::body (terms kind) v)) 0=wsum (terms kind)+1:=by
    show(byteOf (((body (terms kind) v).length:Int)+1)).toNat=_;have:=zD4 (x:=((body (terms kind) v).length:Int)+1) (by omega) (by omega);omega
   have b1:((bAt (ba (byteOf (((body (terms kind) v).length:Int)+1)::byteOf kind::body (terms kind) v)) 1:Nat):Int)=kind:=zD4 (by omega) (by omega);have hsz:(ba (byteOf (((body (terms kind) v).length:Int)+1)::byteOf kind::body (terms kind) v)).size=wsum (terms kind)+2:=by rw[zAf,List.length_cons,List.length_cons,hlen]
   have hdl:(ba (byteOf (((body (terms kind) v).length:Int)+1)::byteOf kind::body (terms kind) v)).data.toList= [byteOf (((body (terms kind) v).length:Int)+1),byteOf kind] ++body (terms kind) v:=by simp[ba]
   have hE:nextE (ba (byteOf (((body (terms kind) v).length:Int)+1)::byteOf kind::body (terms kind) v))=0:=by
    unfold nextE;rw[if_neg (by omega),if_neg (by omega),if_neg (by omega),if_pos];rw[zD,b1];refine⟨by omega,by omega,by omega⟩
   refine⟨c.1,c.2,hE,?_,?_,fun k1=>?_⟩
   ·unfold nextM;rw[if_neg (by omega),if_neg (by omega),if_neg (by omega),b0];simp only[List.length_cons,hlen];omega
   ·unfold nextK;rw[if_pos hE];exact b1
   ·unfold nextV;rw[if_pos hE,b1,hdl];have hr:=(zFa v ([byteOf (((body (terms kind) v).length:Int)+1),byteOf kind] ++body (terms kind) v) (terms kind) [byteOf (((body (terms kind) v).length:Int)+1),byteOf kind] (fun _=>0) rfl (fun p hp=>⟨zF8 _ _ hb p hp,(zAe kind p hp).2.2⟩) (zK2 kind)).1 (6,4) (by rw[k1];decide);exact hr
 ·rw[if_neg c]at h;exact absurd h (by decide)
structure Calm(e:Eng):Prop where
 inv:EInv e
 lv:Lv e
 fr:Fr e
 pegs:Pegs e
 rest:e.rest= []
theorem zK5{e:Eng}(h:Calm e)(henc:(encRes kind v).2.1=0): ∃rs,(kind≤3→rs≠[])∧(e.apply (encRes kind v).1).out=encR e.seq rs∧(e.apply (encRes kind v).1).seq=e.seq+rs.length∧Book.takes (v 6) (bk e) rs=some (bk (e.apply (encRes kind v).1))∧(∀r∈rs,r.Fits)∧(bk (e.apply (encRes kind v).1)).Still e.mp∧(e.apply (encRes kind v).1).mp=e.mp∧Calm (e.apply (encRes kind v).1)∧rs.length≤2100:=by
 obtain⟨k1,k5,nE,nM,nK,nV⟩:=zK4 henc;have hne:(encRes kind v).1≠[]:=fun c=>by
  rw[c]at nE;exact absurd nE (by decide +kernel)
 generalize hT:(encRes kind v).1=t at *;obtain⟨f,hf⟩: ∃f,t.length=f+1:=⟨t.length - 1,by have:=List.length_pos_iff.2 hne;omega⟩;have hr0:(e.begin_ t).rest=t:=by show e.rest++t=t;rw[h.rest];rfl
 have hcut:(e.begin_ t).cut={ e with rest:=[],out:=[] }:=by
  unfold Eng.cut;rw[hr0,nM];show({ e with rest:=t.drop ((t.length:Int)).toNat,out:=[] }:Eng)=_;rw[Int.toNat_natCast,List.drop_length]
 have hfr:(e.begin_ t).frame=({ e with rest:=[],out:=[] }:Eng).run kind (nextV (ba t)):=by
  unfold Eng.frame;rw[hr0,if_neg (by rw[nE];decide),hcut,nK]
 have hi:EInv (e.begin_ t):=h.inv.cong rfl rfl rfl rfl rfl rfl;obtain⟨_,hkp,hgw⟩:=step_more hi;rw[hcut]at hkp;have hrest:(e.begin_ t).frame.follow.rest= []:=hkp.rest;have hmp:(e.begin_ t).frame.follow.mp=e.mp:=hkp.mp;have hap:e.apply t=(e.begin_ t).frame.follow:=by
  show steps (e.rest.length+t.length) (e.begin_ t)=_;rw[h.rest,List.length_nil,Nat.zero_add,hf];show(if nextE (ba (e.begin_ t).rest)=4 then e.begin_ t else steps f (e.begin_ t).frame.follow)=_;rw[hr0,if_neg (by rw[nE];decide)];cases f with
  |zero=>rfl
  |succ f=>
   show(if nextE (ba (e.begin_ t).frame.follow.rest)=4 then(e.begin_ t).frame.follow else _)=_;rw[hrest,if_pos (by decide +kernel)]
 have hi0:EInv ({ e with rest:=[],out:=[] }:Eng):=h.inv.cong rfl rfl rfl rfl rfl rfl;have hp0:Pegs ({ e with rest:=[],out:=[] }:Eng):=h.pegs.cong rfl;obtain⟨rs,n1,t1,s1,l1,f1⟩:=zK (e:={ e with rest:=[],out:=[] }) (v 6) kind (v:=nextV (ba t)) (fun c=>(nV c).symm) hi0 (h.lv.cong rfl) (h.fr.cong rfl) hp0 (zB _);rw[←hfr]at t1 s1 l1 f1;have hi2:=(step_more hi).1;have hp2:Pegs (e.begin_ t).frame.follow:=by rw[hfr];exact Pegs.follow (Pegs.run hp0 hi0 kind (zB _))
 rw[hap];refine⟨rs,fun c=>n1 (by omega),?_,t1.seq,t1.tk,t1.fits,?_,hmp,⟨hi2,l1,f1,hp2,hrest⟩,?_⟩
 ·have:=t1.out;rw[this];rfl
 ·rw[←hmp];exact s1
 ·have h1:=t1.seq;have h2:=hgw.seq1;have h3:(e.begin_ t).seq=e.seq:=rfl;have h4:({ e with rest:=[],out:=[] }:Eng).seq=e.seq:=rfl;rw[h4]at h1;omega
end Go.Proofs.YtanfmhonjpjpoaaGreatDoor
