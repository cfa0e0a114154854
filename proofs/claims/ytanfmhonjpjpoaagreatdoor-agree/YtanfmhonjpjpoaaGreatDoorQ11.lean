import Derived.Test.YtanfmhonjpjpoaaGreatDoorQ00
import Derived.Test.YtanfmhonjpjpoaaGreatDoorQ10
set_option linter.all false
set_option maxRecDepth 100000
set_option maxHeartbeats 8000000
namespace Go.Proofs.YtanfmhonjpjpoaaGreatDoor
variable{i:Nat}{o:Ord}{v:Nat→Int}{side x kind:Int}{e':Eng}
open Eng
section
variable {e:Eng}
theorem Fr.cong(h:Fr e)(ha:e'.all=e.all):Fr e':=⟨fun i o ho=>h.sh i o (ha▸ho),fun i o ho=>h.of i o (ha▸ho),fun i j x y hx hy=>h.nc i j x y (ha▸hx) (ha▸hy)⟩
theorem Fr.upd(h:Fr e)(f:Ord→Ord)(hf: ∀o,e.all[i]? =some o→(f o).side=o.side∧(f o).typ=o.typ∧(f o).off=o.off∧ShO (f o)∧(restN (f o)→restN o∧(f o).price=o.price)):Fr (e.upd i f):=by
 have key: ∀(j:Nat) (y:Ord),(e.upd i f).all[j]? =some y→∃x,e.all[j]? =some x∧y.side=x.side∧y.typ=x.typ∧y.off=x.off∧ShO y∧(restN y→restN x∧y.price=x.price):=by
  intro j y hy;rw[upd_at]at hy;by_cases q:i=j
  ·subst q;rw[if_pos rfl]at hy;obtain⟨x,hx,rfl⟩:=Option.map_eq_some_iff.1 hy;obtain⟨a,b,c,d,g⟩:=hf x hx;exact⟨x,hx,a,b,c,d,g⟩
  ·rw[if_neg q]at hy;exact⟨y,hy,rfl,rfl,rfl,h.sh j y hy,fun r=>⟨r,rfl⟩⟩
 refine⟨fun j y hy=>?_,fun j y hy=>?_,fun j k x y hx hy rx ry sx sy=>?_⟩
 ·obtain⟨x,_,_,_,_,d,_⟩:=key j y hy;exact d
 ·obtain⟨x,hx,a,b,c,_,_⟩:=key j y hy;have:=h.of j x hx;unfold OfO at this⊢;rw[a,b,c];exact this
 ·obtain⟨x',hx',a,_,_,_,g⟩:=key j x hx;obtain⟨y',hy',a2,_,_,_,g2⟩:=key k y hy;have:=h.nc j k x' y' hx' hy' (g rx).1 (g2 ry).1 (a▸sx) (a2▸sy);rw[(g rx).2,(g2 ry).2];exact this
theorem Fr.gone(h:Fr e)(reason:Int):Fr (e.gone i reason):=by
 unfold Eng.gone;cases ho:e.all[i]? with
 |none=>exact h
 |some o=>exact(h.upd (i:=i) (fun o=>{ o with cancelled:=o.opn,opn:=0,shown:=0,status:=3 }) (fun x _=>⟨rfl,rfl,rfl,fun c=>absurd c (by show¬(3:Int)=1;decide),fun c=>absurd rfl c.2⟩)).cong rfl
theorem zDq(f:Eng→Nat→Eng)(h1: ∀e i,Fr e→Fr (f e i)): ∀(l:List Nat) (e:Eng),Fr e→Fr (l.foldl f e)
 | [],e,h=>h
 |i::l,e,h=>zDq f h1 l (f e i) (h1 e i h)
theorem zG1(h:Fr e)(p:Ord→Bool)(reason:Int):Fr (e.due p reason):=zDq _ (fun e i h=>by
 rcases dueOne_at p reason e i with q|⟨_,q⟩
 ·rw[q];exact h
 ·rw[q];exact h.gone reason) _ e h
theorem zL3(h:Fr e):Fr e.follow:=zDq _ (fun e i h=>by
 rcases followOne_at e i with q|⟨o,ho,hs,ht,hne,⟨h0,q⟩|⟨h0,q⟩⟩
 ·rw[q];exact h
 ·rw[q];exact(h.upd (i:=i) (fun o=>{ o with price:=0,shown:=0 }) (fun x hx=>by
   obtain rfl:o=x:=Option.some.inj (ho.symm.trans hx);exact⟨rfl,rfl,rfl,fun _ c=>absurd ht c,fun c=>absurd ht c.1⟩)).cong rfl
 ·rw[q];exact(h.upd (i:=i) (fun x=>{ x with price:=e.target o,stamp:=(e.stamp+1:Nat),shown:=x.opn }) (fun x hx=>by
   obtain rfl:o=x:=Option.some.inj (ho.symm.trans hx);exact⟨rfl,rfl,rfl,fun _ c=>absurd ht c,fun c=>absurd ht c.1⟩)).cong rfl) _ e h
theorem zG2(h:EInv e)(hx:FrX i e)(ho:e.all[i]? =some o)(hs:o.status=1)(hsh:o.shown=0)(ht:o.typ≠3):Fr (e.sweep i):=by
 obtain⟨o',ho',i2,hs',hsh',hk,_⟩:=trades_inv (e.opnOf i).toNat h ho hs hsh;have hf:o.opn.toNat≤(e.opnOf i).toNat:=by unfold Eng.opnOf;rw[ho];exact Nat.le_refl _
 have hd:=zG0 (e.opnOf i).toNat h ho hs hsh hf;have fx:=hx.sub (zG (e.opnOf i).toNat h ho hs hsh);rw[sweep_eq];unfold Eng.swept;simp only[ho'];have ko:=i2.ok i o' ho';by_cases h0:o'.opn=0
 ·rw[if_pos h0];have key: ∀(j:Nat) (y:Ord),((trades (e.opnOf i).toNat e i).upd i fun o=>{ o with status:=2 }).all[j]? =some y→(j=i∧y={ o' with status:=2 })∨(j≠i∧(trades (e.opnOf i).toNat e i).all[j]? =some y):=by
   intro j y hy;by_cases q:i=j
   ·subst q;rw[upd_same _ _ _ _ ho']at hy;exact .inl ⟨rfl,(Option.some.inj hy).symm⟩
   ·rw[upd_ne _ _ _ _ q]at hy;exact .inr ⟨fun c=>q c.symm,hy⟩
  refine⟨fun j y hy=>?_,fun j y hy=>?_,fun j k x y hx hy rx ry sx sy=>?_⟩
  ·rcases key j y hy with⟨_,rfl⟩|⟨q,w⟩
   ·exact fun c=>absurd c (by show¬(2:Int)=1;decide)
   ·exact fx.sh j y q w
  ·rcases key j y hy with⟨_,rfl⟩|⟨q,w⟩
   ·exact fx.of i o' ho'
   ·exact fx.of j y w
  ·rcases key j x hx with⟨_,rfl⟩|⟨q,w⟩
   ·exact absurd hsh' rx.2
   ·rcases key k y hy with⟨_,rfl⟩|⟨q2,w2⟩
    ·exact absurd hsh' ry.2
    ·exact fx.nc j k x y q q2 w w2 rx ry sx sy
 ·rw[if_neg h0];have hp:0<o'.opn:=by have:=ko.opn0;omega
  have hb:=atRest_bd ko h0;have hmn:=zL2 i2 ho' hp hd;have hty:o'.typ≠3:=by rw[hk.typ];exact ht
  have key: ∀(j:Nat) (y:Ord),((trades (e.opnOf i).toNat e i).lay i (atRest o')).all[j]? =some y→(j=i∧y={ o' with stamp:=((trades (e.opnOf i).toNat e i).stamp+1:Nat),shown:=atRest o' })∨(j≠i∧(trades (e.opnOf i).toNat e i).all[j]? =some y):=by
   intro j y hy;rw[lay_at]at hy;by_cases q:i=j
   ·subst q;rw[if_pos rfl,ho']at hy;exact .inl ⟨rfl,(Option.some.inj hy).symm⟩
   ·rw[if_neg q]at hy;exact .inr ⟨fun c=>q c.symm,hy⟩
  refine⟨fun j y hy=>?_,fun j y hy=>?_,fun j k x y hx hy rx ry sx sy=>?_⟩
  ·rcases key j y hy with⟨_,rfl⟩|⟨q,w⟩
   ·exact fun _ _=>by show 0<atRest o';omega
   ·exact fx.sh j y q w
  ·rcases key j y hy with⟨_,rfl⟩|⟨q,w⟩
   ·exact fx.of i o' ho'
   ·exact fx.of j y w
  ·rcases key j x hx with⟨q1,rfl⟩|⟨q,w⟩
   ·rcases key k y hy with⟨_,rfl⟩|⟨q2,w2⟩
    ·have a:o'.side=1:=sx;have b:o'.side=2:=sy;omega
    ·have a:o'.side=1:=sx;have:=hmn k y w2 (by unfold Eng.rests;rw[a,sy];simp[ry.2]);unfold meets at this;rw[if_pos a]at this;show o'.price<y.price;simp at this;omega
   ·rcases key k y hy with⟨_,rfl⟩|⟨q2,w2⟩
    ·have b:o'.side=2:=sy;have:=hmn j x w (by unfold Eng.rests;rw[b,sx];simp[rx.2]);unfold meets at this;rw[if_neg (by omega)]at this;show x.price<o'.price;simp at this;omega
    ·exact fx.nc j k x y q q2 w w2 rx ry sx sy
theorem zL4(h:e.why v=0)(h3:v 2=3):(v 1=1→v 6≤0)∧(v 1=2→0≤v 6):=by
 unfold Eng.why at h;by_cases c1:v 0=0∨inn (v 1) 1 2=false∨inn (v 2) 1 3=false∨inn (v 7) 1 3=false
 ·rw[if_pos c1]at h;exact absurd h (by decide)
 rw[if_neg c1]at h;by_cases c2:(e.find (v 0)).isSome
 ·rw[if_pos c2]at h;exact absurd h (by decide)
 rw[if_neg c2]at h;by_cases c3:(if v 2=3 then v 3 == 0 else inn (v 3) 1 e.mp)=false
 ·rw[if_pos c3]at h;exact absurd h (by decide)
 rw[if_neg c3]at h;by_cases c4:inn (v 4) 1 e.mq=false∨(if v 2=2 then inn (v 5) 1 (v 4) else v 5 == 0)=false
 ·rw[if_pos c4]at h;exact absurd h (by decide)
 rw[if_neg c4]at h;by_cases c5:(if v 2=3 then(if v 1=1 then inn (v 6) (-e.mp) 0 else inn (v 6) 0 e.mp) else v 6 == 0)=false
 ·rw[if_pos c5]at h;exact absurd h (by decide)
 rw[if_pos h3]at c5;by_cases q:v 1=1
 ·rw[if_pos q,inn_iff']at c5;exact⟨fun _=>c5.2,fun c=>by omega⟩
 ·rw[if_neg q,inn_iff']at c5;exact⟨fun c=>absurd c q,fun _=>c5.1⟩
theorem zL5(h:EInv e)(hf:Fr e)(hv:VOk v):Fr (e.fresh v):=by
 rw[fresh_eq];by_cases hw:e.why v=0
 ·rw[if_neg (by omega)];obtain⟨i1,hn⟩:=enter_inv h hv hw;have hof:OfO (newOrd v):=fun c=>zL4 hw c
  have fx:FrX e.all.length (e.enter v):=by
   refine⟨fun i o hi ho=>?_,fun i o ho=>?_,fun i j x y hi hj hx hy=>?_⟩
   ·rcases enter_at e v i o ho with⟨_,q⟩|⟨q,_⟩
    ·exact hf.sh i o q
    ·exact absurd q hi
   ·rcases enter_at e v i o ho with⟨_,q⟩|⟨_,q⟩
    ·exact hf.of i o q
    ·rw[q];exact hof
   ·rcases enter_at e v i x hx with⟨_,q⟩|⟨q,_⟩
    ·rcases enter_at e v j y hy with⟨_,q2⟩|⟨q2,_⟩
     ·exact hf.nc i j x y q q2
     ·exact absurd q2 hj
    ·exact absurd q hi
  by_cases h3:v 2=3
  ·rw[if_pos h3];refine⟨fun i o ho=>?_,fx.of,fun i j x y hx hy rx ry=>?_⟩
   ·rcases enter_at e v i o ho with⟨_,q⟩|⟨_,q⟩
    ·exact hf.sh i o q
    ·rw[q];exact fun _ c=>absurd h3 c
   ·rcases enter_at e v i x hx with⟨_,q⟩|⟨_,q⟩
    ·rcases enter_at e v j y hy with⟨_,q2⟩|⟨_,q2⟩
     ·exact hf.nc i j x y q q2 rx ry
     ·rw[q2]at ry;exact absurd rfl ry.2
    ·rw[q]at rx;exact absurd rfl rx.2
  ·rw[if_neg h3];exact zG2 i1 fx hn rfl rfl h3
 ·rw[if_pos hw];exact hf.cong rfl
theorem zL6(id:Int)(hf:Fr e):Fr (e.cancel id):=by
 unfold Eng.cancel;cases q:e.liveAt id with
 |none=>exact hf.cong rfl
 |some i=>exact hf.gone 1
theorem zL7(h:EInv e)(hf:Fr e)(ho:e.all[i]? =some o)(hs:o.status=1)(v:Nat→Int)(h5:(if o.typ=3 then v 3 == 0 else inn (v 3) 1 e.mp)=true)(h6:inn (v 4) (o.filled+1) e.mq=true):Fr (e.repEnd i o v):=by
 have h6':=h6;rw[inn_iff]at h6;unfold Eng.repEnd;by_cases hk:keepsPl o v=true
 ·rw[if_pos hk];have hu:(e.repTell i o v).upd i (fun o=>{ o with shown:=if o.opn<o.shown then o.opn else o.shown })=(e.upd i fun _=>{ repO o (v 4) with shown:=if(repO o (v 4)).opn<(repO o (v 4)).shown then(repO o (v 4)).opn else(repO o (v 4)).shown }).tell 5 (v 0) 0 (v 3) (v 4) (if keepsPl o v then 1 else 0):=by
   unfold Eng.repTell;rw[tell_upd,upd_upd]
  rw[hu];refine(hf.upd (i:=i) (fun _=>{ repO o (v 4) with shown:=if(repO o (v 4)).opn<(repO o (v 4)).shown then(repO o (v 4)).opn else(repO o (v 4)).shown }) (fun x hx=>?_)).cong rfl;obtain rfl:o=x:=Option.some.inj (ho.symm.trans hx);refine⟨rfl,rfl,rfl,fun a b=>?_,fun c=>⟨⟨c.1,fun z=>?_⟩,rfl⟩⟩
  ·have:=hf.sh i o ho a b;show 0<(if v 4 - o.filled<o.shown then v 4 - o.filled else o.shown);split<;>omega
  ·refine c.2 ?_;show(if v 4 - o.filled<o.shown then v 4 - o.filled else o.shown)=0;rw[if_neg (by omega)];exact z
 ·rw[if_neg hk];by_cases ht:o.typ=3
  ·rw[if_neg (by intro c;exact c ht)];have f1:Fr (e.repTell i o v):=(hf.upd (i:=i) (fun _=>repO o (v 4)) (fun x hx=>by
    obtain rfl:o=x:=Option.some.inj (ho.symm.trans hx);exact⟨rfl,rfl,rfl,fun _ c=>absurd ht c,fun c=>absurd ht c.1⟩)).cong rfl
   by_cases hz:0<o.shown
   ·rw[if_pos hz];have ha:(e.repTell i o v).all[i]? =some (repO o (v 4)):=upd_same e i (fun _=>repO o (v 4)) o ho;have e1:(e.repTell i o v).lay i (v 4 - o.filled)=({ (e.repTell i o v) with stamp:=(e.repTell i o v).stamp+1 }.upd i fun x=>{ x with stamp:=((e.repTell i o v).stamp+1:Nat),shown:=v 4 - o.filled }).tell 6 (repO o (v 4)).id 0 (repO o (v 4)).price (v 4 - o.filled) 0:=by unfold Eng.lay;rw[ha]
    rw[e1];refine(Fr.upd (e:={ (e.repTell i o v) with stamp:=(e.repTell i o v).stamp+1 }) (i:=i) (f1.cong rfl) (fun x=>{ x with stamp:=((e.repTell i o v).stamp+1:Nat),shown:=v 4 - o.filled }) (fun x hx=>?_)).cong rfl;obtain rfl:repO o (v 4)=x:=Option.some.inj (ha.symm.trans hx);exact⟨rfl,rfl,rfl,fun _ c=>absurd ht c,fun c=>absurd ht c.1⟩
   ·rw[if_neg hz];exact f1
  ·rw[if_pos ht];have hu:(e.repTell i o v).upd i (fun o=>{ o with price:=v 3,shown:=0 })=(e.upd i fun _=>{ repO o (v 4) with price:=v 3,shown:=0 }).tell 5 (v 0) 0 (v 3) (v 4) (if keepsPl o v then 1 else 0):=by
    unfold Eng.repTell;rw[tell_upd,upd_upd]
   have i1:=rep_sw_inv h ho hs v ht h5 h6';have ha:((e.repTell i o v).upd i fun o=>{ o with price:=v 3,shown:=0 }).all[i]? =some { repO o (v 4) with price:=v 3,shown:=0 }:=by
    rw[hu];exact upd_same e i (fun _=>{ repO o (v 4) with price:=v 3,shown:=0 }) o ho
   have fx:FrX i ((e.repTell i o v).upd i fun o=>{ o with price:=v 3,shown:=0 }):=by
    rw[hu];refine(hf.x i).sub ⟨fun j y hy=>?_⟩;have hy':(e.upd i fun _=>{ repO o (v 4) with price:=v 3,shown:=0 }).all[j]? =some y:=hy;by_cases q:i=j
    ·subst q;rw[upd_same _ _ _ _ ho]at hy';obtain rfl:=Option.some.inj hy';exact⟨o,ho,rfl,rfl,rfl,fun c=>absurd rfl c⟩
    ·rw[upd_ne _ _ _ _ q]at hy';exact⟨y,hy',rfl,rfl,rfl,fun _=>⟨rfl,id,id⟩⟩
   exact zG2 i1 fx ha hs rfl ht
theorem zL8(kind:Int)(h:EInv e)(hf:Fr e)(hv:VOk v):Fr (e.run kind v):=by
 unfold Eng.run;split
 ·exact zL5 h hf hv
 split
 ·exact zL6 _ hf
 split
 ·rw[replace_eq];cases q:e.liveAt (v 0) with
  |none=>exact hf.cong rfl
  |some i=>
   obtain⟨o,ho,hid,hs⟩:=liveAt_some q;simp only[ho];by_cases h5:(if o.typ=3 then v 3 == 0 else inn (v 3) 1 e.mp)=false
   ·rw[if_pos h5];exact hf.cong rfl
   ·rw[if_neg h5];by_cases h6:inn (v 4) (o.filled+1) e.mq=false
    ·rw[if_pos h6];exact hf.cong rfl
    ·rw[if_neg h6];exact zL7 h hf ho hs v (Bool.not_eq_false _▸h5) (Bool.not_eq_false _▸h6)
 split
 ·unfold Eng.tick;split
  ·exact hf.cong rfl
  ·exact zG1 (e:={ e with now:=v 8 }) (hf.cong rfl) _ _
 split
 ·exact zG1 hf _ _
 ·exact hf
end
def lead(side:Int)(x:Ord):Prop:=x.side=side∧x.typ≠3∧0<x.shown
def bF(side:Int)(p:Int)(x:Ord):Int:=if x.side=side∧x.typ≠3∧0<x.shown∧(p=0∨(side=1∧p<x.price)∨(side=2∧x.price<p)) then x.price else p
theorem zCm(hs:side=1∨side=2): ∀(l:List Ord) (p:Int),(∀x∈l,lead side x→1≤x.price)→0≤p→
 (l.foldl (bF side) p=p∨∃x∈l,lead side x∧l.foldl (bF side) p=x.price)∧
 (∀x∈l,lead side x→1≤l.foldl (bF side) p∧(side=1→x.price≤l.foldl (bF side) p)∧(side=2→l.foldl (bF side) p≤x.price))∧
 (1≤p→1≤l.foldl (bF side) p∧(side=1→p≤l.foldl (bF side) p)∧(side=2→l.foldl (bF side) p≤p))
 | [],p,_,hp=>⟨.inl rfl,fun x hx=>by simp at hx,fun h=>⟨h,fun _=>Int.le_refl _,fun _=>Int.le_refl _⟩⟩
 |y::l,p,hl,hp=>by
  rw[List.foldl_cons];have hy1:=hl y (List.mem_cons_self ..);have hl': ∀x∈l,lead side x→1≤x.price:=fun x hx=>hl x (List.mem_cons_of_mem _ hx)
  by_cases c:y.side=side∧y.typ≠3∧0<y.shown∧(p=0∨(side=1∧p<y.price)∨(side=2∧y.price<p))
  ·have hF:bF side p y=y.price:=if_pos c;rw[hF];have gy:lead side y:=⟨c.1,c.2.1,c.2.2.1⟩;have p1:=hy1 gy;obtain⟨a,b,d⟩:=zCm hs l y.price hl' (by omega);obtain⟨d1,d2,d3⟩:=d p1;generalize l.foldl (bF side) y.price=q at *;refine⟨.inr ?_,fun x hx hg=>?_,fun h=>⟨d1,fun s=>?_,fun s=>?_⟩⟩
   ·rcases a with a|⟨x,hx,hg,e1⟩
    ·exact⟨y,List.mem_cons_self ..,gy,a⟩
    ·exact⟨x,List.mem_cons_of_mem _ hx,hg,e1⟩
   ·rcases List.mem_cons.1 hx with rfl|hx
    ·exact⟨d1,d2,d3⟩
    ·exact b x hx hg
   ·have:=d2 s;rcases c.2.2.2 with z|⟨_,z⟩|⟨z,_⟩<;>omega
   ·have:=d3 s;rcases c.2.2.2 with z|⟨z,_⟩|⟨_,z⟩<;>omega
  ·have hF:bF side p y=p:=if_neg c;rw[hF];obtain⟨a,b,d⟩:=zCm hs l p hl' hp;generalize l.foldl (bF side) p=q at *;refine⟨?_,fun x hx hg=>?_,d⟩
   ·rcases a with a|⟨x,hx,hg,e1⟩
    ·exact .inl a
    ·exact .inr ⟨x,List.mem_cons_of_mem _ hx,hg,e1⟩
   ·rcases List.mem_cons.1 hx with rfl|hx
    ·have hn: ¬(p=0∨(side=1∧p<x.price)∨(side=2∧x.price<p)):=fun z=>c ⟨hg.1,hg.2.1,hg.2.2,z⟩
     obtain⟨d1,d2,d3⟩:=d (by omega);exact⟨d1,fun s=>by have:=d2 s;omega,fun s=>by have:=d3 s;omega⟩
    ·exact b x hx hg
section
variable {e:Eng}
theorem zG3(h:EInv e): ∀x∈e.all,lead side x→1≤x.price:=fun x hx hg=>by
 obtain⟨i,hi⟩:=List.getElem?_of_mem hx;exact(h.ok i x hi).shp hg.2.2
theorem zL9(h:EInv e)(hs:side=1∨side=2):bestOf side e.all=0∨∃(i:Nat) (x:Ord),e.all[i]? =some x∧lead side x∧bestOf side e.all=x.price:=by
 rcases(zCm hs e.all 0 (zG3 h) (Int.le_refl 0)).1 with q|⟨x,hx,hg,q⟩
 ·exact .inl q
 ·obtain⟨i,hi⟩:=List.getElem?_of_mem hx;exact .inr ⟨i,x,hi,hg,q⟩
theorem zSo(h:EInv e)(hs:side=1∨side=2){x:Ord}(hx:e.all[i]? =some x)(hg:lead side x):1≤bestOf side e.all∧(side=1→x.price≤bestOf side e.all)∧(side=2→bestOf side e.all≤x.price):=
 (zCm hs e.all 0 (zG3 h) (Int.le_refl 0)).2.1 x (List.mem_of_getElem? hx) hg
theorem zG4(side:Int)(f:Ord→Ord): ∀(l:List Ord) (i:Nat) (p:Int),(∀o,l[i]? =some o→o.typ=3∧(f o).typ=3)→(l.modify i f).foldl (bF side) p=l.foldl (bF side) p
 | [],i,p,_=>by cases i<;>rfl
 |x::l,0,p,h=>by
  obtain⟨h1,h2⟩:=h x rfl;have a1:bF side p (f x)=p:=if_neg (fun c=>c.2.1 h2);have a2:bF side p x=p:=if_neg (fun c=>c.2.1 h1);rw[List.modify_zero_cons,List.foldl_cons,List.foldl_cons,a1,a2]
 |x::l,i+1,p,h=>by
  rw[List.modify_succ_cons,List.foldl_cons,List.foldl_cons];exact zG4 side f l i _ (fun o ho=>h o ho)
theorem zG5(ho:e.all[i]? =some o)(ht:o.typ=3)(f:Ord→Ord)(hf:(f o).typ=3)(side:Int):bestOf side (e.upd i f).all=bestOf side e.all:=
 zG4 side f e.all i 0 (fun x hx=>by obtain rfl:o=x:=Option.some.inj (ho.symm.trans hx);exact⟨ht,hf⟩)
theorem zDr{o':Ord}(hb: ∀side,bestOf side e'.all=bestOf side e.all)(hm:e'.mp=e.mp)(hs:o'.side=o.side)(hf:o'.off=o.off):e'.target o'=e.target o:=by
 unfold Eng.target;simp only[hb,hm,hs,hf]
theorem zLa(i:Nat):(∀side,bestOf side (followOne e i).all=bestOf side e.all)∧(followOne e i).mp=e.mp:=by
 rcases followOne_at e i with q|⟨o,ho,hs,ht,hne,⟨h0,q⟩|⟨h0,q⟩⟩
 ·rw[q];exact⟨fun _=>rfl,rfl⟩
 ·rw[q];exact⟨fun side=>zG5 ho ht (fun o=>{ o with price:=0,shown:=0 }) ht side,rfl⟩
 ·rw[q];exact⟨fun side=>zG5 (e:={ e with stamp:=e.stamp+1 }) ho ht (fun x=>{ x with price:=e.target o,stamp:=(e.stamp+1:Nat),shown:=x.opn }) ht side,rfl⟩
def AtT(n:Nat)(e:Eng):Prop:= ∀(j:Nat) (o:Ord),j<n→e.all[j]? =some o→o.status=1→o.typ=3→o.price=e.target o
theorem zLb(h:AtT i e):AtT (i+1) (followOne e i):=by
 obtain⟨hb,hm⟩:=zLa (e:=e) i;intro j x hj hx hs ht;by_cases q:i=j
 ·subst q;rcases followOne_at e i with q|⟨o,ho,hs2,ht2,hne,⟨h0,q⟩|⟨h0,q⟩⟩
  ·have hx':=hx;rw[q]at hx';have e1:followOne e i=e:=q;unfold followOne at q;rw[hx']at q;simp only at q;rw[if_pos ⟨hs,ht⟩]at q;rw[e1];by_cases c:e.target x=x.price
   ·exact c.symm
   ·rw[if_neg c]at q;by_cases c2:e.target x=0
    ·rw[if_pos c2]at q;have:=congrArg Eng.seq q;exact absurd this (by show¬e.seq+1=e.seq;omega)
    ·rw[if_neg c2]at q;have:=congrArg Eng.seq q;exact absurd this (by show¬e.seq+1=e.seq;omega)
  ·have hy:(followOne e i).all[i]? =some { o with price:=0,shown:=0 }:=by rw[q];exact upd_same e i (fun o=>{ o with price:=0,shown:=0 }) o ho
   obtain rfl:=Option.some.inj (hy.symm.trans hx);exact h0.symm.trans (zDr (o:=o) hb hm rfl rfl).symm
  ·have hy:(followOne e i).all[i]? =some { o with price:=e.target o,stamp:=(e.stamp+1:Nat),shown:=o.opn }:=by
    rw[q];exact upd_same { e with stamp:=e.stamp+1 } i (fun x=>{ x with price:=e.target o,stamp:=(e.stamp+1:Nat),shown:=x.opn }) o ho
   obtain rfl:=Option.some.inj (hy.symm.trans hx);exact(zDr (o:=o) hb hm rfl rfl).symm
 ·rw[follow_ne e i j q]at hx;rw[zDr (o:=x) hb hm rfl rfl];exact h j x (by omega) hx hs ht
theorem zG6: ∀(n:Nat) (e:Eng),AtT n ((List.range n).foldl followOne e)
 |0,e=>fun j o hj=>by omega
 |n+1,e=>by
  rw[List.range_succ,List.foldl_append];exact zLb (zG6 n e)
theorem zLc(h:EInv e): ∀(j:Nat) (o:Ord),e.follow.all[j]? =some o→o.status=1→o.typ=3→o.price=e.follow.target o:=fun j o ho=>by
 have hl:=(follow_inv h).2.len;exact zG6 e.all.length e j o (by have:=(List.getElem?_eq_some_iff.1 ho).1;omega) ho
end
namespace Book
structure Still(b:Book)(mp:Int):Prop where
 cross: ∀(i j:Nat) (x y:Ent),b.first 1=some i→b.first 2=some j→b.l[i]? =some x→b.l[j]? =some y→x.price<y.price
 sum: ∀(i:Nat) (o:Ent),b.l[i]? =some o→o.qty=o.filled+o.gone+o.opn∧0≤o.filled∧0≤o.opn∧o.live=decide (0<o.opn)∧(o.live=false→o.shown≤0)
 peg: ∀(i:Nat) (o:Ent),b.l[i]? =some o→o.live=true→o.kind=3→b.target mp o=o.price∧(0<o.price→o.shown=o.opn)∧(o.price=0→o.shown≤0)
 oth: ∀(i:Nat) (o:Ent),b.l[i]? =some o→o.live=true→o.kind≠3→1≤o.shown∧(o.kind=1→o.shown=o.opn)
end Book
section
variable {e:Eng}
theorem zG7{mp:Int}{st:Nat}(side:Int): ∀(l:List Ord) (p:Int),(∀o∈l,Ok mp st o)→(l.map Ord.ent).foldl (Book.tF side) p=l.foldl (bF side) p
 | [],p,_=>rfl
 |x::l,p,h=>by
  rw[List.map_cons,List.foldl_cons,List.foldl_cons];have k:=h x (List.mem_cons_self ..);have e1:Book.tF side p x.ent=bF side p x:=by
   unfold Book.tF bF;by_cases c:x.side=side∧x.typ≠3∧0<x.shown∧(p=0∨(side=1∧p<x.price)∨(side=2∧x.price<p))
   ·have hp:0<x.opn:=by have:=k.shn1;have:=c.2.2.1;omega
    rw[if_pos c,if_pos ⟨zBd hp,c⟩];rfl
   ·rw[if_neg c,if_neg (fun q=>c q.2)]
  rw[e1];exact zG7 side l _ (fun o ho=>h o (List.mem_cons_of_mem _ ho))
theorem zLd(h:EInv e)(o:Ord):(bk e).target e.mp o.ent=e.target o:=by
 have hk: ∀x∈e.all,Ok e.mp e.stamp x:=fun x hx=>by obtain⟨i,hi⟩:=List.getElem?_of_mem hx;exact h.ok i x hi
 have e1:(bk e).l.foldl (Book.tF o.ent.side) 0=bestOf o.side e.all:=zG7 o.side e.all 0 hk;have hb:=bestOf_bd (mp:=e.mp) (st:=e.stamp) o.side e.all hk;unfold Book.target Eng.target;rw[e1];simp only;by_cases c:bestOf o.side e.all=0
 ·rw[if_pos c,if_neg (by omega),c]
 ·rw[if_neg c,if_pos (by omega)];rfl
theorem zSp(h:EInv e)(side:Int):0≤bestOf side e.all:=by
 have hk: ∀x∈e.all,Ok e.mp e.stamp x:=fun x hx=>by obtain⟨i,hi⟩:=List.getElem?_of_mem hx;exact h.ok i x hi
 have:=bestOf_bd (mp:=e.mp) (st:=e.stamp) side e.all hk;omega
theorem zG8(h:EInv e)(hf:Fr e)(ht: ∀(j:Nat) (o:Ord),e.all[j]? =some o→o.status=1→o.typ=3→o.price=e.target o){x:Ord}(hx:e.all[i]? =some x)(hsh:x.shown≠0): ∃(j:Nat) (z:Ord),e.all[j]? =some z∧restN z∧z.side=x.side∧(x.side=1→x.price≤z.price)∧(x.side=2→z.price≤x.price):=by
 have k:=h.ok i x hx;by_cases t:x.typ=3
 ·have hst:x.status=1:=Classical.byContradiction fun c=>hsh (k.dead c)
  have hp:=ht i x hx hst t;have h1:=k.shp (by have:=k.shn0;omega);have hof:=hf.of i x hx t;rcases zL9 h k.side with q|⟨j,z,hz,hg,q⟩
  ·exfalso;unfold Eng.target at hp;simp only at hp;rw[if_neg (by omega)]at hp;omega
  ·refine⟨j,z,hz,⟨hg.2.1,by have:=hg.2.2;omega⟩,hg.1,fun s=>?_,fun s=>?_⟩
   ·have hz1:=(h.ok j z hz).shp hg.2.2;unfold Eng.target at hp;simp only at hp;rw[q,if_pos (by omega)]at hp;have:=hof.1 s;unfold clamp at hp;simp only at hp;split at hp
    ·split at hp<;>omega
    ·split at hp<;>omega
   ·have hz1:=(h.ok j z hz).shp hg.2.2;have hz2:=(h.ok j z hz).prc1;unfold Eng.target at hp;simp only at hp;rw[q,if_pos (by omega)]at hp;have:=hof.2 s;unfold clamp at hp;simp only at hp;split at hp
    ·split at hp<;>omega
    ·split at hp<;>omega
 ·exact⟨i,x,hx,⟨t,hsh⟩,rfl,fun _=>Int.le_refl _,fun _=>Int.le_refl _⟩
theorem zLe(h:EInv e)(hl:Lv e)(hf:Fr e)(hp:Pegs e)(ht: ∀(j:Nat) (o:Ord),e.all[j]? =some o→o.status=1→o.typ=3→o.price=e.target o):(bk e).Still e.mp:=by
 have at': ∀(i:Nat) (x:Ent),(bk e).l[i]? =some x→∃o,e.all[i]? =some o∧x=o.ent:=by
  intro i x hx;have hx':(e.all.map Ord.ent)[i]? =some x:=hx;rw[List.getElem?_map]at hx';obtain⟨o,ho,rfl⟩:=Option.map_eq_some_iff.1 hx';exact⟨o,ho,rfl⟩
 have live: ∀(i:Nat) (o:Ord),e.all[i]? =some o→o.ent.live=true→o.status=1:=by
  intro i o ho hx;have:0<o.opn:=by simpa [Ord.ent] using hx
  exact(hl i o ho).2 this
 refine⟨fun i j x y h1 h2 hx hy=>?_,fun i x hx=>?_,fun i x hx hv hk=>?_,fun i x hx hv hk=>?_⟩
 ·obtain⟨o,ho,rfl⟩:=at' i x hx;obtain⟨r,hr,rfl⟩:=at' j y hy;rw[zDe h (.inl rfl)]at h1;rw[zDe h (.inr rfl)]at h2;obtain⟨_,o',ho',r1⟩:=firstTo_some h1;obtain⟨_,r',hr',r2⟩:=firstTo_some h2;obtain rfl:o=o':=Option.some.inj (ho.symm.trans ho');obtain rfl:r=r':=Option.some.inj (hr.symm.trans hr');obtain⟨a1,a2⟩:=rests_shown r1;obtain⟨b1,b2⟩:=rests_shown r2;obtain⟨j1,z1,c1,c2,c3,c4,_⟩:=zG8 h hf ht ho a1;obtain⟨j2,z2,d1,d2,d3,_,d5⟩:=zG8 h hf ht hr b1;have:=hf.nc j1 j2 z1 z2 c1 d1 c2 d2 (c3.trans a2) (d3.trans b2);have q1:=c4 a2;have q2:=d5 b2;show o.price<r.price;omega
 ·obtain⟨o,ho,rfl⟩:=at' i x hx;have k:=h.ok i o ho;refine⟨?_,k.fil0,k.opn0,rfl,fun c=>?_⟩
  ·show o.qty=o.filled+o.cancelled+o.opn;have:=k.sum;omega
  ·have: ¬0<o.opn:=by simpa [Ord.ent] using c
   show o.shown≤0;have:=k.shn1;omega
 ·obtain⟨o,ho,rfl⟩:=at' i x hx;have k:=h.ok i o ho;have hs:=live i o ho hv;have hk':o.typ=3:=hk;refine⟨?_,fun c=>?_,fun c=>?_⟩
  ·rw[zLd h];exact(ht i o ho hs hk').symm
  ·have c':0<o.price:=c;have:=(hp i o ho hs hk').2 (by omega);rcases k.whole (by omega) with w|w
   ·omega
   ·exact w
  ·have c':o.price=0:=c;show o.shown≤0;by_cases z:0<o.shown
   ·have:=k.shp z;omega
   ·omega
 ·obtain⟨o,ho,rfl⟩:=at' i x hx;have k:=h.ok i o ho;have hs:=live i o ho hv;have hk':o.typ≠3:=hk;have:=hf.sh i o ho hs hk';refine⟨by show 1≤o.shown;omega,fun c=>?_⟩;have c':o.typ=1:=c;rcases k.whole (by omega) with w|w
  ·omega
  ·exact w
theorem zG9(off:Int)(kind:Int)(hoff:kind=1→off=v 6)(h:EInv e)(hl:Lv e)(hf:Fr e)(hp:Pegs e)(hv:VOk v): ∃rs,(kind=1∨kind=2∨kind=3→rs≠[])∧Told off e rs (e.run kind v).follow∧(bk (e.run kind v).follow).Still (e.run kind v).follow.mp∧Lv (e.run kind v).follow∧Fr (e.run kind v).follow:=by
 have i1:=run_inv h kind hv;obtain⟨⟨r1,n1,t1⟩,l1⟩:=zL0 off kind hoff h hl hp hv;have f1:=zL8 kind h hf hv;have p1:=Pegs.run hp h kind hv;obtain⟨⟨r2,t2⟩,l2⟩:=zJp (off:=off) i1 l1;have i2:=(follow_inv i1).1;have f2:=zL3 f1;have p2:=Pegs.follow p1;refine⟨r1++r2,fun c=>?_,t1.trans t2,zLe i2 l2 f2 p2 (zLc i1),l2,f2⟩;intro z;exact n1 c (List.append_eq_nil_iff.1 z).1
end
theorem zDs(h0:0≤x)(h1:x<256):((byteOf x).toNat:Int)=x:=by
 unfold byteOf;rw[UInt8.toNat_ofNat_of_lt' (by simp[UInt8.size];omega)];omega
theorem zBw: ∀(n:Nat) (x:Int),0≤x→x<256 ^ n→val (be n x)=x
 |0,x,h0,h1=>by
  have:x=0:=by simp at h1;omega
  rw[this];rfl
 |n+1,x,h0,h1=>by
  show val (be n (x / 256)++ [byteOf x])=x;have hp:(256:Int) ^ (n+1)=256 ^ n*256:=Int.pow_succ ..;rw[zDb,zBw n (x / 256) (by omega) (by rw[hp]at h1;omega)];have hb:byteOf x=byteOf (x % 256):=by
   unfold byteOf;rw[Int.emod_emod]
  rw[hb,zDs (by omega) (by omega)];omega
theorem zLf(h0: -2147483648≤x)(h1:x<0):val (be 4 x)=x+4294967296:=by
 have:=zEn 4 x 1;rw[←this,zBw 4 (x+1*256 ^ 4) (by omega) (by omega)];omega
theorem zGa: ∀(l:List (Nat×Nat)) (v:Nat→Int),bad l v=none→∀p∈l,fit p (v p.1)=true
 | [],v,h,p,hp=>by cases hp
 |q::l,v,h,p,hp=>by
  unfold bad at h;by_cases c:fit q (v q.1)=true
  ·rw[if_pos c]at h;rcases List.mem_cons.1 hp with rfl|hp
   ·exact c
   ·exact zGa l v (by simpa using h) p hp
  ·rw[if_neg c]at h;cases h
theorem zGb(v:Nat→Int): ∀l:List (Nat×Nat),(body l v).length=wsum l
 | []=>rfl
 |p::l=>by
  show(be p.2 (v p.1)++body l v).length=p.2+wsum l;rw[List.length_append,zA2,zGb v l]
theorem zLg{t pre post:List UInt8}{p:Nat×Nat}(ht:t=pre++be p.2 x++post)(hf:fit p x=true)(h2:p.1=6→p.2=4):rd t pre.length p=x:=by
 have hd:(t.drop pre.length).take p.2=be p.2 x:=by
  rw[ht,List.append_assoc,List.drop_left];have:=List.take_left (l₁:=be p.2 x) (l₂:=post);rw[zA2]at this;exact this
 unfold rd;rw[hd];unfold fit at hf;by_cases c:p.1=6
 ·rw[if_pos c]at hf;have hf':=of_decide_eq_true hf;rw[h2 c];by_cases n:x<0
  ·rw[zLf hf'.1 n,if_pos ⟨c,by omega⟩];omega
  ·rw[zBw 4 x (by omega) (by omega),if_neg (fun q=>by have:=q.2;omega)]
 ·rw[if_neg c]at hf;have hf':=of_decide_eq_true hf;rw[zBw _ _ hf'.1 hf'.2,if_neg (fun q=>c q.1)]
theorem zGc(v:Nat→Int)(t:List UInt8): ∀(l:List (Nat×Nat)) (pre:List UInt8) (u:Nat→Int),t=pre++body l v→(∀p∈l,fit p (v p.1)=true∧(p.1=6→p.2=4))→(l.map (·.1)).Nodup→(∀p∈l,reads t pre.length l u p.1=v p.1)∧∀j,j∉l.map (·.1)→reads t pre.length l u j=u j
 | [],pre,u,ht,hf,hn=>⟨fun p hp=>(by cases hp),fun j _=>rfl⟩
 |q::l,pre,u,ht,hf,hn=>by
  have hb:body (q::l) v=be q.2 (v q.1)++body l v:=rfl;have hq:=hf q (List.mem_cons_self ..);have hr:=zLg (t:=t) (pre:=pre) (post:=body l v) (p:=q) (x:=v q.1) (by rw[ht,hb,List.append_assoc]) hq.1 hq.2;rw[List.map_cons,List.nodup_cons]at hn;have hlen:pre.length+q.2=(pre++be q.2 (v q.1)).length:=by rw[List.length_append,zA2]
  obtain⟨a,b⟩:=zGc v t l (pre++be q.2 (v q.1)) (upd u q.1 (rd t pre.length q)) (by rw[ht,hb,List.append_assoc]) (fun p hp=>hf p (List.mem_cons_of_mem _ hp)) hn.2;rw[←hlen]at a b;refine⟨fun p hp=>?_,fun j hj=>?_⟩
  ·show reads t (pre.length+q.2) l (upd u q.1 (rd t pre.length q)) p.1=v p.1;rcases List.mem_cons.1 hp with rfl|hp
   ·rw[b p.1 hn.1,hr];unfold Go.Proofs.YtanfmhonjpjpoaaGreatDoor.upd;rw[if_pos rfl]
   ·exact a p hp
  ·rw[List.map_cons,List.mem_cons,not_or]at hj;show reads t (pre.length+q.2) l (upd u q.1 (rd t pre.length q)) j=u j;rw[b j hj.2];unfold Go.Proofs.YtanfmhonjpjpoaaGreatDoor.upd;rw[if_neg hj.1]
theorem zLh(kind:Int):((terms kind).map (·.1)).Nodup:=by
 unfold terms;repeat' split
 all_goals decide
theorem zLi(kind:Int):wsum (terms kind)≤27:=by
 unfold terms;repeat' split
 all_goals decide
theorem zGd(h:(encRes kind v).2.1=0):1≤kind∧kind≤5∧nextE (ba (encRes kind v).1)=0∧nextM (ba (encRes kind v).1)=(encRes kind v).1.length∧nextK (ba (encRes kind v).1)=kind∧(kind=1→nextV (ba (encRes kind v).1) 6=v 6):=by
 unfold encRes at h⊢;by_cases c:1≤kind∧kind≤5
 ·rw[if_pos c]at h⊢;cases hb:bad (terms kind) v with
  |some i=>rw[hb]at h;exact absurd (show(3:Int)=0 from h) (by decide)
  |none=>
   simp only;have hw:=zLi kind;have hlen:=zGb v (terms kind);have b0:bAt (ba (byteOf (((body (terms kind) v).length:Int)+1)::byteOf kind::body (terms kind) v)) 0=wsum (terms kind)+1:=by
    show(byteOf (((body (terms kind) v).length:Int)+1)).toNat=_;have:=zDs (x:=((body (terms kind) v).length:Int)+1) (by omega) (by omega);omega
   have b1:((bAt (ba (byteOf (((body (terms kind) v).length:Int)+1)::byteOf kind::body (terms kind) v)) 1:Nat):Int)=kind:=zDs (by omega) (by omega);have hsz:(ba (byteOf (((body (terms kind) v).length:Int)+1)::byteOf kind::body (terms kind) v)).size=wsum (terms kind)+2:=by rw[zA3,List.length_cons,List.length_cons,hlen]
   have hdl:(ba (byteOf (((body (terms kind) v).length:Int)+1)::byteOf kind::body (terms kind) v)).data.toList= [byteOf (((body (terms kind) v).length:Int)+1),byteOf kind] ++body (terms kind) v:=by simp[ba]
   have hE:nextE (ba (byteOf (((body (terms kind) v).length:Int)+1)::byteOf kind::body (terms kind) v))=0:=by
    unfold nextE;rw[if_neg (by omega),if_neg (by omega),if_neg (by omega),if_pos];rw[zDn,b1];refine⟨by omega,by omega,by omega⟩
   refine⟨c.1,c.2,hE,?_,?_,fun k1=>?_⟩
   ·unfold nextM;rw[if_neg (by omega),if_neg (by omega),if_neg (by omega),b0];simp only[List.length_cons,hlen];omega
   ·unfold nextK;rw[if_pos hE];exact b1
   ·unfold nextV;rw[if_pos hE,b1,hdl];have hr:=(zGc v ([byteOf (((body (terms kind) v).length:Int)+1),byteOf kind] ++body (terms kind) v) (terms kind) [byteOf (((body (terms kind) v).length:Int)+1),byteOf kind] (fun _=>0) rfl (fun p hp=>⟨zGa _ _ hb p hp,(zAh kind p hp).2.2⟩) (zLh kind)).1 (6,4) (by rw[k1];decide);exact hr
 ·rw[if_neg c]at h;exact absurd h (by decide)
structure Calm(e:Eng):Prop where
 inv:EInv e
 lv:Lv e
 fr:Fr e
 pegs:Pegs e
 rest:e.rest= []
theorem zSq{e:Eng}(h:Calm e)(henc:(encRes kind v).2.1=0): ∃rs,(kind≤3→rs≠[])∧(e.apply (encRes kind v).1).out=encR e.seq rs∧(e.apply (encRes kind v).1).seq=e.seq+rs.length∧Book.takes (v 6) (bk e) rs=some (bk (e.apply (encRes kind v).1))∧(∀r∈rs,r.Fits)∧(bk (e.apply (encRes kind v).1)).Still e.mp∧(e.apply (encRes kind v).1).mp=e.mp∧Calm (e.apply (encRes kind v).1)∧rs.length≤2100:=by
 obtain⟨k1,k5,nE,nM,nK,nV⟩:=zGd henc;have hne:(encRes kind v).1≠[]:=fun c=>by
  rw[c]at nE;exact absurd nE (by decide +kernel)
 generalize hT:(encRes kind v).1=t at *;obtain⟨f,hf⟩: ∃f,t.length=f+1:=⟨t.length - 1,by have:=List.length_pos_iff.2 hne;omega⟩;have hr0:(e.begin_ t).rest=t:=by show e.rest++t=t;rw[h.rest];rfl
 have hcut:(e.begin_ t).cut={ e with rest:=[],out:=[] }:=by
  unfold Eng.cut;rw[hr0,nM];show({ e with rest:=t.drop ((t.length:Int)).toNat,out:=[] }:Eng)=_;rw[Int.toNat_natCast,List.drop_length]
 have hfr:(e.begin_ t).frame=({ e with rest:=[],out:=[] }:Eng).run kind (nextV (ba t)):=by
  unfold Eng.frame;rw[hr0,if_neg (by rw[nE];decide),hcut,nK]
 have hi:EInv (e.begin_ t):=h.inv.cong rfl rfl rfl rfl rfl rfl;obtain⟨_,hkp,hgw⟩:=step_more hi;rw[hcut]at hkp;have hrest:(e.begin_ t).frame.follow.rest= []:=hkp.rest;have hmp:(e.begin_ t).frame.follow.mp=e.mp:=hkp.mp;have hap:e.apply t=(e.begin_ t).frame.follow:=by
  show steps (e.rest.length+t.length) (e.begin_ t)=_;rw[h.rest,List.length_nil,Nat.zero_add,hf];show(if nextE (ba (e.begin_ t).rest)=4 then e.begin_ t else steps f (e.begin_ t).frame.follow)=_;rw[hr0,if_neg (by rw[nE];decide)];cases f with
  |zero=>rfl
  |succ f=>
   show(if nextE (ba (e.begin_ t).frame.follow.rest)=4 then(e.begin_ t).frame.follow else _)=_;rw[hrest,if_pos (by decide +kernel)]
 have hi0:EInv ({ e with rest:=[],out:=[] }:Eng):=h.inv.cong rfl rfl rfl rfl rfl rfl;have hp0:Pegs ({ e with rest:=[],out:=[] }:Eng):=h.pegs.cong rfl;obtain⟨rs,n1,t1,s1,l1,f1⟩:=zG9 (e:={ e with rest:=[],out:=[] }) (v 6) kind (v:=nextV (ba t)) (fun c=>(nV c).symm) hi0 (h.lv.cong rfl) (h.fr.cong rfl) hp0 (zAn _);rw[←hfr]at t1 s1 l1 f1;have hi2:=(step_more hi).1;have hp2:Pegs (e.begin_ t).frame.follow:=by rw[hfr];exact Pegs.follow (Pegs.run hp0 hi0 kind (zAn _))
 rw[hap];refine⟨rs,fun c=>n1 (by omega),?_,t1.seq,t1.tk,t1.fits,?_,hmp,⟨hi2,l1,f1,hp2,hrest⟩,?_⟩
 ·have:=t1.out;rw[this];rfl
 ·rw[←hmp];exact s1
 ·have h1:=t1.seq;have h2:=hgw.seq1;have h3:(e.begin_ t).seq=e.seq:=rfl;have h4:({ e with rest:=[],out:=[] }:Eng).seq=e.seq:=rfl;rw[h4]at h1;omega
def PO(o:Ord):Prop:=(o.status=2→o.cancelled=0)∧(o.status=3→0<o.cancelled)
def Sg(e:Eng):Prop:= ∀(i:Nat) (o:Ord),e.all[i]? =some o→PO o
section
variable {e:Eng}
theorem Sg.cong(h:Sg e)(ha:e'.all=e.all):Sg e':=fun i o ho=>h i o (ha▸ho)
theorem Sg.upd(h:Sg e)(f:Ord→Ord)(hf: ∀o,e.all[i]? =some o→PO (f o)):Sg (e.upd i f):=by
 intro j o ho;rw[upd_at]at ho;by_cases q:i=j
 ·subst q;rw[if_pos rfl]at ho;obtain⟨x,hx,rfl⟩:=Option.map_eq_some_iff.1 ho;exact hf x hx
 ·rw[if_neg q]at ho;exact h j o ho
theorem Sg.lay(h:Sg e)(n:Int):Sg (e.lay i n):=by
 intro j o ho;rw[lay_at]at ho;by_cases q:i=j
 ·subst q;rw[if_pos rfl]at ho;obtain⟨x,hx,rfl⟩:=Option.map_eq_some_iff.1 ho;exact h i x hx
 ·rw[if_neg q]at ho;exact h j o ho
theorem Sg.gone(h:Sg e)(ho:e.all[i]? =some o)(hp:0<o.opn)(reason:Int):Sg (e.gone i reason):=by
 unfold Eng.gone;rw[ho];exact(h.upd (i:=i) (fun o=>{ o with cancelled:=o.opn,opn:=0,shown:=0,status:=3 }) (fun x hx=>by
  obtain rfl:o=x:=Option.some.inj (ho.symm.trans hx);exact⟨fun c=>absurd c (by show¬(3:Int)=2;decide),fun _=>hp⟩)).cong rfl
theorem zLj{k:Nat}{r:Ord}(h:Sg e)(hi:EInv e)(hr:e.all[k]? =some r)(hs:r.status=1):Sg (e.trade2 k r):=by
 unfold Eng.trade2;by_cases h0:r.opn=0
 ·rw[if_pos h0];refine h.upd (i:=k) _ (fun x hx=>?_);obtain rfl:r=x:=Option.some.inj (hr.symm.trans hx);exact⟨fun _=>(hi.ok k r hr).live hs,fun c=>absurd c (by show¬(2:Int)=3;decide)⟩
 ·rw[if_neg h0];by_cases h1:r.shown=0
  ·rw[if_pos h1];exact(h.cong (e':=e.draw.2) rfl).lay _
  ·rw[if_neg h1];exact h
theorem zLk(h:EInv e){k:Nat}(hl:Sg e)(ho:e.all[i]? =some o)(hs:o.status=1)(hsh:o.shown=0)(hm:e.mate i=some k):Sg (e.trade i k):=by
 obtain⟨r,hr,hne,hop2,hrs,hst,hsd,hmt,i1,et,i2,_⟩:=trade_step h ho hs hsh hm;have hk1:(e.trade1 i k o r).all[k]? =some (tradeR o r):=by rw[trade1_at,if_pos rfl,hr];rfl
 rw[et];refine zLj ?_ i1 hk1 hst;intro j x hx;rw[trade1_at]at hx;by_cases q:k=j
 ·subst q;rw[if_pos rfl,hr]at hx;obtain rfl:=Option.some.inj hx;exact hl k r hr
 ·rw[if_neg q]at hx;by_cases q2:i=j
  ·subst q2;rw[if_pos rfl,ho]at hx;obtain rfl:=Option.some.inj hx;exact hl i o ho
  ·rw[if_neg q2]at hx;exact hl j x hx
theorem zGe: ∀(f:Nat) {e:Eng} {i:Nat} {o:Ord},EInv e→Sg e→e.all[i]? =some o→o.status=1→o.shown=0→Sg (trades f e i)
 |0,e,i,o,h,hl,ho,hs,hsh=>hl
 |f+1,e,i,o,h,hl,ho,hs,hsh=>by
  unfold Eng.trades;cases hm:e.mate i with
  |none=>exact hl
  |some k=>
   obtain⟨r,hr,hne,hop2,hrs,hst,hsd,hmt,i1,et,i2,hi,_⟩:=trade_step h ho hs hsh hm;exact zGe f i2 (zLk h hl ho hs hsh hm) hi hs hsh
theorem zGf(h:EInv e)(hl:Sg e)(ho:e.all[i]? =some o)(hs:o.status=1)(hsh:o.shown=0):Sg (e.sweep i):=by
 obtain⟨o',ho',i2,hs',hsh',hk,_⟩:=trades_inv (e.opnOf i).toNat h ho hs hsh;have hx:=zGe (e.opnOf i).toNat h hl ho hs hsh;rw[sweep_eq];unfold Eng.swept;simp only[ho'];by_cases h0:o'.opn=0
 ·rw[if_pos h0];refine hx.upd (i:=i) _ (fun x hx=>?_);obtain rfl:o'=x:=Option.some.inj (ho'.symm.trans hx);exact⟨fun _=>(i2.ok i o' ho').live hs',fun c=>absurd c (by show¬(2:Int)=3;decide)⟩
 ·rw[if_neg h0];exact hx.lay _
theorem zDt(f:Eng→Nat→Eng)(P:Eng→Prop)(h1: ∀e i,P e→Sg e→P (f e i)∧Sg (f e i)): ∀(l:List Nat) (e:Eng),P e→Sg e→Sg (l.foldl f e)
 | [],e,_,h=>h
 |i::l,e,p,h=>zDt f P h1 l (f e i) (h1 e i p h).1 (h1 e i p h).2
theorem zGg(h:EInv e)(hl:Lv e)(hg:Sg e)(p:Ord→Bool)(reason:Int)(h2:1≤reason)(h3:reason≤3):Sg (e.due p reason):=zDt _ (fun e=>EInv e∧Lv e) (fun e i q g=>by
 refine⟨(zEx (off:=0) p reason h2 h3 i q.1 q.2).2,?_⟩;rcases dueOne_at p reason e i with c|⟨c,d⟩
 ·rw[c];exact g
 ·rw[d];unfold lives at c;cases ho:e.all[i]? with
  |none=>rw[ho]at c;cases c
  |some o=>
   rw[ho]at c;have hs:o.status=1:=by simpa using c
   exact g.gone ho ((q.2 i o ho).1 hs) reason) _ e ⟨h,hl⟩ hg
theorem zLl(hg:Sg e):Sg e.follow:=zDt _ (fun _=>True) (fun e i _ h=>by
 refine⟨trivial,?_⟩;rcases followOne_at e i with q|⟨o,ho,hs,ht,hne,⟨h0,q⟩|⟨h0,q⟩⟩
 ·rw[q];exact h
 ·rw[q];exact(h.upd (i:=i) (fun o=>{ o with price:=0,shown:=0 }) (fun x hx=>h i x hx)).cong rfl
 ·rw[q];exact(h.upd (i:=i) (fun x=>{ x with price:=e.target o,stamp:=(e.stamp+1:Nat),shown:=x.opn }) (fun x hx=>h i x hx)).cong rfl) _ e trivial hg
theorem zLm(h:EInv e)(hf:Sg e)(hv:VOk v):Sg (e.fresh v):=by
 rw[fresh_eq];by_cases hw:e.why v=0
 ·rw[if_neg (by omega)];obtain⟨i1,hn⟩:=enter_inv h hv hw;have hl1:Sg (e.enter v):=by
   intro j x hx;rcases enter_at e v j x hx with⟨_,q⟩|⟨_,q⟩
   ·exact hf j x q
   ·subst q;exact⟨fun c=>absurd c (by show¬(1:Int)=2;decide),fun c=>absurd c (by show¬(1:Int)=3;decide)⟩
  by_cases h3:v 2=3
  ·rw[if_pos h3];exact hl1
  ·rw[if_neg h3];exact zGf i1 hl1 hn rfl rfl
 ·rw[if_pos hw];exact hf.cong rfl
theorem zLn(h:EInv e)(hf:Sg e)(ho:e.all[i]? =some o)(hs:o.status=1)(v:Nat→Int)(h5:(if o.typ=3 then v 3 == 0 else inn (v 3) 1 e.mp)=true)(h6:inn (v 4) (o.filled+1) e.mq=true):Sg (e.repEnd i o v):=by
 have hP:=hf i o ho;have f1:Sg (e.repTell i o v):=(hf.upd (i:=i) (fun _=>repO o (v 4)) (fun x hx=>hP)).cong rfl;unfold Eng.repEnd;by_cases hk:keepsPl o v=true
 ·rw[if_pos hk];exact f1.upd (i:=i) _ (fun x hx=>f1 i x hx)
 ·rw[if_neg hk];by_cases ht:o.typ=3
  ·rw[if_neg (by intro c;exact c ht)];by_cases hz:0<o.shown
   ·rw[if_pos hz];exact f1.lay _
   ·rw[if_neg hz];exact f1
  ·rw[if_pos ht];have i1:=rep_sw_inv h ho hs v ht h5 h6;have ha:((e.repTell i o v).upd i fun o=>{ o with price:=v 3,shown:=0 }).all[i]? =some { repO o (v 4) with price:=v 3,shown:=0 }:=by
    have a1:(e.repTell i o v).all[i]? =some (repO o (v 4)):=upd_same e i (fun _=>repO o (v 4)) o ho;exact upd_same (e.repTell i o v) i (fun o=>{ o with price:=v 3,shown:=0 }) _ a1
   exact zGf i1 (f1.upd (i:=i) _ (fun x hx=>f1 i x hx)) ha hs rfl
theorem zLo(kind:Int)(h:EInv e)(hl:Lv e)(hf:Sg e)(hv:VOk v):Sg (e.run kind v):=by
 unfold Eng.run;split
 ·exact zLm h hf hv
 split
 ·unfold Eng.cancel;cases q:e.liveAt (v 0) with
  |none=>exact hf.cong rfl
  |some i=>
   obtain⟨o,ho,_,hs⟩:=liveAt_some q;exact hf.gone ho ((hl i o ho).1 hs) 1
 split
 ·rw[replace_eq];cases q:e.liveAt (v 0) with
  |none=>exact hf.cong rfl
  |some i=>
   obtain⟨o,ho,hid,hs⟩:=liveAt_some q;simp only[ho];by_cases h5:(if o.typ=3 then v 3 == 0 else inn (v 3) 1 e.mp)=false
   ·rw[if_pos h5];exact hf.cong rfl
   ·rw[if_neg h5];by_cases h6:inn (v 4) (o.filled+1) e.mq=false
    ·rw[if_pos h6];exact hf.cong rfl
    ·rw[if_neg h6];exact zLn h hf ho hs v (Bool.not_eq_false _▸h5) (Bool.not_eq_false _▸h6)
 split
 ·unfold Eng.tick;split
  ·exact hf.cong rfl
  ·have h':EInv { e with now:=v 8 }:=⟨h.mo0,h.mo1,h.mp0,h.mp1,h.mq0,h.mq1,h.ok,h.ids,h.apart,hv.t0,hv.t1,h.live⟩;exact zGg (e:={ e with now:=v 8 }) h' (hl.cong rfl) (hf.cong rfl) _ 2 (by decide) (by decide)
 split
 ·exact zGg h hl hf _ 3 (by decide) (by decide)
 ·exact hf
end
def Run:Book→List Rcd→Book→Prop
 |b,[],b'=>b=b'
 |b,r::t,b'=> ∃(off:Int) (c:Book),b.take r off=some c∧b.Can r∧r.Fits∧Run c t b'
theorem Run.append: ∀{s t:List Rcd} {b c d:Book},Run b s c→Run c t d→Run b (s++t) d
 | [],t,b,c,d,h,k=>by
  obtain rfl:b=c:=h;exact k
 |r::s,t,b,c,d,h,k=>by
  obtain⟨off,x,h1,h2,h3,h4⟩:=h;exact⟨off,x,h1,h2,h3,Run.append h4 k⟩
theorem Run.of{off:Int}: ∀{rs:List Rcd} {b c:Book},Book.takes off b rs=some c→Book.Cans off b rs→(∀r∈rs,r.Fits)→Run b rs c
 | [],b,c,h,_,_=>Option.some.inj h
 |r::t,b,c,h,k,f=>by
  unfold Book.takes at h;cases q:b.take r off with
  |none=>rw[q]at h;cases h
  |some x=>
   rw[q]at h;exact⟨off,x,q,k.1,f r (List.mem_cons_self ..),Run.of h (k.2 x q) (fun y hy=>f y (List.mem_cons_of_mem _ hy))⟩
theorem Run.part: ∀{s t:List Rcd} {b d:Book},Run b (s++t) d→∃c,Run b s c∧Run c t d
 | [],t,b,d,h=>⟨b,rfl,h⟩
 |r::s,t,b,d,h=>by
  obtain⟨off,x,h1,h2,h3,h4⟩:=h;obtain⟨c,h5,h6⟩:=Run.part h4;exact⟨c,⟨off,x,h1,h2,h3,h5⟩,h6⟩
theorem Run.fits: ∀{rs:List Rcd} {b d:Book},Run b rs d→∀r∈rs,r.Fits
 | [],b,d,h=>fun r hr=>by cases hr
 |x::s,b,d,h=>by
  obtain⟨off,c,h1,h2,h3,h4⟩:=h;intro r hr;rcases List.mem_cons.1 hr with rfl|hr
  ·exact h3
  ·exact Run.fits h4 r hr
end Go.Proofs.YtanfmhonjpjpoaaGreatDoor
