import Derived.Test.YtanfmhonjpjpoaaGreatDoorQ00
import Derived.Test.YtanfmhonjpjpoaaGreatDoorQ04
import Derived.Test.YtanfmhonjpjpoaaGreatDoorQ12
import Derived.Test.YtanfmhonjpjpoaaGreatDoorQ22
import Derived.Deep.RegionHeld3
set_option linter.all false
set_option maxRecDepth 100000
set_option maxHeartbeats 8000000
namespace Go.Proofs.YtanfmhonjpjpoaaGreatDoor
variable{w a w':World}{q i b j:Nat}{k:Nat→Int}{o:Ord}
open Go.Extern Go.Maps Go.RowKit
structure ACh(q:Nat)(w w':World):Prop where
 os:w'.os=w.os
 tape:w'.tape=w.tape
 output:w'.output=w.output
 size:w.heap.size≤w'.heap.size
 block: ∀k,k<w.heap.size→k≠q→w'.heap[k]? =w.heap[k]?
theorem ACh.refl(q:Nat)(w:World):ACh q w w:=⟨rfl,rfl,rfl,Nat.le_refl _,fun _ _ _=>rfl⟩
theorem ACh.below{b:World}(h:ACh q w a)(hb:Below a.heap.size a b):ACh q w b:=⟨hb.os.trans h.os,hb.tape.trans h.tape,hb.output.trans h.output,Nat.le_trans h.size hb.size,fun k hk hq=>(hb.block k (Nat.lt_of_lt_of_le hk h.size)).trans (h.block k hk hq)⟩
theorem ACh.same{b:World}(h:ACh q w a)(hs:Same a b):ACh q w b:=⟨hs.os.trans h.os,hs.tape.trans h.tape,hs.output.trans h.output,by rw[hs.heap];exact h.size,fun k hk hq=>by rw[hs.heap];exact h.block k hk hq⟩
theorem ACh.set(h:ACh q w a)(j:Nat)(u:Value):ACh q w (a.setCell ⟨q,j,none⟩ u):=by
 have hb:Below q a (a.setCell ⟨q,j,none⟩ u):=(Below.refl q a).setCell (Nat.le_refl q) u;exact⟨hb.os.trans h.os,hb.tape.trans h.tape,hb.output.trans h.output,Nat.le_trans h.size hb.size,fun k hk hq=>by rw[Below.heap_setCell _ _ _ _ hq];exact h.block k hk hq⟩
theorem ACh.low{base:Nat}(h:ACh q w w')(hq:base≤q)(hw:base≤w.heap.size):Below base w w':=⟨h.os,h.tape,h.output,h.size,fun k hk=>h.block k (by omega) (by omega)⟩
theorem OA.below(h:OA w q i o)(hb:Below w.heap.size w w'):OA w' q i o:=⟨by rw[hb.block q h.lt];exact h.blk⟩
theorem OA.wr(h:OA w q i o)(j:Nat)(u:Value)(o':Ord)(hc:(o.code i).setIfInBounds j u=o'.code i):OA (w.setCell ⟨q,j,none⟩ u) q i o':=⟨by rw[zA7 w q j u _ _ _ h.blk,hc]⟩
structure RB(w:World)(b:Nat)(k:Nat→Int):Prop where
 blk:w.heap[b]? =some (.cells #[.int .i64 (k 0),.int .i64 (k 1),.int .i64 (k 2),.int .i64 (k 3),.int .i64 (k 4),.int .i64 (k 5),.int .i64 (k 6)] 73 (0,0))
theorem RB.lt(h:RB w b k):b<w.heap.size:=(Array.getElem?_eq_some_iff.1 h.blk).1
theorem RB.cell(h:RB w b k)(j:Nat):w.cell? ⟨b,j,none⟩=#[.int .i64 (k 0),.int .i64 (k 1),.int .i64 (k 2),.int .i64 (k 3),.int .i64 (k 4),.int .i64 (k 5),.int .i64 (k 6)][j]? :=by simp[World.cell?,h.blk]
theorem RB.below(h:RB w b k)(hb:Below w.heap.size w w'):RB w' b k:=⟨by rw[hb.block b h.lt];exact h.blk⟩
theorem RB.same(h:RB w b k)(hs:Same w w'):RB w' b k:=⟨by rw[hs.heap];exact h.blk⟩
section
variable {pr:Nat→Option (Array Value×TypeId)} {base:Nat} {w w':World} {ab lm em n:Nat} {q:Nat} {o o':Ord}
theorem AG.lw(h:AG pr base w ab lm em n):base≤w.heap.size:=by obtain⟨L,E,h⟩:=h;have:=h.lo;have:=h.lt;omega
theorem AG.chg(h:AG pr base w ab lm em n)(ho:OA w q 0 o)(hc:ACh q w w')(hO:OA w' q 0 o')(hk:AOk o'):AG pr base w' ab lm em n:=by
 obtain⟨L,E,h⟩:=h;have hb:=ho.blk;have mp: ∀{V:Type} {E:Elem V} {x:Nat} {l:List (Int×V)},PM E Tryz.prog 3 w x l→PM E Tryz.prog 3 w' x l:=by
  intro V E x l hp;obtain⟨es,c,hm⟩:=hp.is_map;exact hp.of_block (hc.block x hp.lt (fun e1=>by rw[e1,hb]at hm;cases hm))
 refine⟨L,E,?_,mp h.live,mp h.ended,fun p hp=>?_,h.ents,h.ne,h.lo,h.ll,h.el,fun b c t hpb=>⟨(h.rows b c t hpb).1,by rw[hc.block b (Array.getElem?_eq_some_iff.1 (h.rows b c t hpb).2).1 (fun e1=>by have:=(h.rows b c t hpb).2;rw[e1,hb]at this;injection this with this;injection this with _ this _;exact(h.rows b c t hpb).1 this.symm)];exact(h.rows b c t hpb).2⟩⟩
 ·rw[hc.block ab h.lt.1 (fun e1=>by have:=h.blk;rw[e1,hb]at this;injection this with this;injection this with _ this _;exact absurd this (by decide))];exact h.blk
 ·obtain⟨q',x,h1,h2,h3,h4⟩:=h.ords p hp;by_cases e1:q'=q
  ·subst e1;exact⟨q',o',h1,h2,hO,hk⟩
  ·exact⟨q',x,h1,h2,⟨by rw[hc.block q' h3.lt e1];exact h3.blk⟩,h4⟩
end
section
variable {base:Nat} {w w':World} {q:Nat} {o o':Ord}
theorem ACh.alloc(h:ACh q w a)(x:Obj):ACh q w (a.alloc x):=h.below ((Below.refl a.heap.size a).alloc (Nat.le_refl _) x)
theorem zCa(h:OA w q i o)(hr:r63 (o.qty - o.filled)):
 Calls Tryz.prog 124 #[.pointer (some ⟨q,0,none⟩)] w fun en w'=>en=.returned (.int .i64 (o.qty - o.filled))∧∃m,w'=w.drewN m:=by
 have c4:w.cell? ⟨q,4,none⟩=some (.int .i64 o.qty):=h.cell 4;have c10:w.cell? ⟨q,10,none⟩=some (.int .i64 o.filled):=h.cell 10;have hw:IntKind.i64.wrap (o.qty - o.filled)=o.qty - o.filled:=zA8 _ hr.1 hr.2;have hw':wrap64 (o.qty - o.filled)=o.qty - o.filled:=by unfold wrap64;obtain⟨h1,h2⟩:=hr;omega
 clear h hr;go_enter Tryz.func124,Tryz.ntmps124;go_wp2_with fail;go_quiet (fail);go_wp2;go_ret;exact⟨rfl,nq,rfl⟩
theorem zBy(n a c:Int):
 Calls Tryz.prog 145 #[.int .i64 n,.int .i64 a,.int .i64 c] w fun en w'=>en=.returned (.bool (Eng.inn n a c))∧w'=w:=by
 unfold Eng.inn;by_cases h1:a≤n
 ·go_enter Tryz.func145,Tryz.ntmps145;have h1b:decide (a≤n)=true:=by simpa using h1
  go_wp2;go_ret;exact⟨by simp[h1],rfl⟩
 ·go_enter Tryz.func145,Tryz.ntmps145;have h1b:decide (a≤n)=false:=by simpa using h1
  go_wp2;go_ret;exact⟨by simp[h1],rfl⟩
theorem OA.wr2(hO:OA w q 0 o)(j:Nat)(u:Value)(o1:Ord)(h1:(o.code 0).setIfInBounds j u=o1.code 0)(j2:Nat)(u2:Value)(o2:Ord)(h2:(o1.code 0).setIfInBounds j2 u2=o2.code 0):OA ((w.setCell ⟨q,j,none⟩ u).setCell ⟨q,j2,none⟩ u2) q 0 o2:=(hO.wr j u o1 h1).wr j2 u2 o2 h2
def dueF(a0 a1 a2 a3 a4 a5 a6:Int):Nat→Int
 |0=>a0|1=>a1|2=>a2|3=>a3|4=>a4|5=>a5|_=>a6
structure DueR(q rb db:Nat)(o:Ord)(k d:Nat→Int)(w X:World):Prop where
 oa:OA X q 0 o
 rb:RB X rb k
 db:RB X db d
 chg:ACh q w X
theorem ACh.news{z:Nat}{b:World}(h:ACh q w a)(hn:ACh z a b)(hz:w.heap.size≤z):ACh q w b:=⟨hn.os.trans h.os,hn.tape.trans h.tape,hn.output.trans h.output,Nat.le_trans h.size hn.size,fun k hk hq=>(hn.block k (Nat.lt_of_lt_of_le hk h.size) (by omega)).trans (h.block k hk hq)⟩
theorem zCb{W:World}{rb:Nat}(a0 a1 a2 a3 a4 a5 a6:Int)(ho:OA W q 0 o)(hr:RB W rb k)(hc:ACh q w W):DueR q rb W.heap.size o k (dueF a0 a1 a2 a3 a4 a5 a6) w (W.alloc (.cells #[.int .i64 a0,.int .i64 a1,.int .i64 a2,.int .i64 a3,.int .i64 a4,.int .i64 a5,.int .i64 a6] 73)):=
 ⟨ho.alloc _,hr.below ((Below.refl W.heap.size W).alloc (Nat.le_refl _) _),⟨heap_alloc_new W _⟩,hc.alloc _⟩
theorem zHk{W:World}{rb:Nat}(a0 a1 a2 a3 a4 a5 a6:Int)(m:Nat)(ho:OA W q 0 o)(hr:RB W rb k)(hc:ACh q w W):DueR q rb W.heap.size o k (dueF a0 a1 a2 a3 a4 a5 a6) w (((((((((W.alloc (.cells #[.int .i64 0,.int .i64 0,.int .i64 0,.int .i64 0,.int .i64 0,.int .i64 0,.int .i64 0] 73)).drewN m).setCell ⟨W.heap.size,0,none⟩ (.int .i64 a0)).setCell ⟨W.heap.size,1,none⟩ (.int .i64 a1)).setCell ⟨W.heap.size,2,none⟩ (.int .i64 a2)).setCell ⟨W.heap.size,3,none⟩ (.int .i64 a3)).setCell ⟨W.heap.size,4,none⟩ (.int .i64 a4)).setCell ⟨W.heap.size,5,none⟩ (.int .i64 a5)).setCell ⟨W.heap.size,6,none⟩ (.int .i64 a6)):=by
 have b0:Below W.heap.size W ((W.alloc (.cells #[.int .i64 0,.int .i64 0,.int .i64 0,.int .i64 0,.int .i64 0,.int .i64 0,.int .i64 0] 73)).drewN m):=by
  have:=(Below.refl W.heap.size W).alloc (Nat.le_refl _) (.cells #[.int .i64 0,.int .i64 0,.int .i64 0,.int .i64 0,.int .i64 0,.int .i64 0,.int .i64 0] 73);exact⟨this.os,this.tape,this.output,this.size,this.block⟩
 have h0:((W.alloc (.cells #[.int .i64 0,.int .i64 0,.int .i64 0,.int .i64 0,.int .i64 0,.int .i64 0,.int .i64 0] 73)).drewN m).heap[W.heap.size]? =some (.cells #[.int .i64 0,.int .i64 0,.int .i64 0,.int .i64 0,.int .i64 0,.int .i64 0,.int .i64 0] 73 (0,0)):=heap_alloc_new W _;have hql:=ho.lt;have hrl:=hr.lt;generalize (W.alloc (.cells #[.int .i64 0,.int .i64 0,.int .i64 0,.int .i64 0,.int .i64 0,.int .i64 0,.int .i64 0] 73)).drewN m=Y at *;have hz:w.heap.size≤W.heap.size:=hc.size;have o0:=ho.below b0;have r0:=hr.below b0;have c0:=hc.below b0;clear ho hr hc b0;generalize W.heap.size=z at *;have hqz:q≠z:=by omega
 have hrz:rb≠z:=by omega
 have h1:=zA7 _ z 0 (.int .i64 a0) _ _ _ h0;have h2:=zA7 _ z 1 (.int .i64 a1) _ _ _ h1;have h3:=zA7 _ z 2 (.int .i64 a2) _ _ _ h2;have h4:=zA7 _ z 3 (.int .i64 a3) _ _ _ h3;have h5:=zA7 _ z 4 (.int .i64 a4) _ _ _ h4;have h6:=zA7 _ z 5 (.int .i64 a5) _ _ _ h5;have h7:=zA7 _ z 6 (.int .i64 a6) _ _ _ h6;refine⟨⟨?_⟩,⟨?_⟩,⟨?_⟩,?_⟩
 ·iterate 7 rw[Below.heap_setCell _ _ _ _ hqz]
  exact o0.blk
 ·iterate 7 rw[Below.heap_setCell _ _ _ _ hrz]
  exact r0.blk
 ·rw[h7];simp[dueF]
 ·exact c0.news ((((((((ACh.refl z Y).set _ _).set _ _).set _ _).set _ _).set _ _).set _ _).set _ _) hz
end
def Ent.ao(x:Ent):Ord:=⟨x.id,x.side,x.kind,x.qty,0,0,0,0,1,x.price,x.opn,x.filled,0,x.shown,0⟩
def Ent.so(x:Ent):Ord:=if x.live=true then⟨x.id,0,0,0,0,0,0,0,1,x.price,x.opn,x.filled,0,x.shown,0⟩ else⟨x.id,0,0,0,0,0,0,0,if x.gone=0 then 2 else 3,x.price,0,x.filled,x.gone,0,0⟩
theorem Ent.so_id(x:Ent):x.so.id=x.id:=by unfold Ent.so;split<;>rfl
theorem OA.fields{o':Ord}(h:OA w q 0 o)(h':OA w q 0 o'):o.id=o'.id∧o.typ=o'.typ∧o.price=o'.price∧o.qty=o'.qty∧o.filled=o'.filled∧o.shown=o'.shown:=by
 have e:=h.blk.symm.trans h'.blk;injection e with e;injection e with e;unfold Ord.code at e;simp at e;obtain⟨e0,e1,e2,e3,e4,e5,e6,e7,e8,e10,e11,e12⟩:=e;exact⟨e0,e2,e3,e4,e10,e11⟩
theorem AOk.cong{o':Ord}(h:AOk o)(e:o.id=o'.id∧o.typ=o'.typ∧o.price=o'.price∧o.qty=o'.qty∧o.filled=o'.filled∧o.shown=o'.shown):AOk o':=by
 obtain⟨e1,e2,e3,e4,e5,e6⟩:=e;obtain⟨h1,h2,h3,h4⟩:=h;rw[e1]at h1;rw[e4,e5]at h2;rw[e4,e5,e6]at h3;rw[e2,e3,e6]at h4;exact⟨h1,h2,h3,h4⟩
structure AX(pr:Nat→Option (Array Value×TypeId))(base:Nat)(w:World)(ab lm em n:Nat)(L:List (Int×Option Nat))(E:List (Int×List Int))(B:List Ent):Prop where
 aw:AW pr base w ab lm em n L E
 lv: ∀(i:Nat) (x:Ent),B[i]? =some x→x.live=true→∃q,(x.id,some q)∈L∧OA w q 0 x.ao
 en: ∀(i:Nat) (x:Ent),B[i]? =some x→x.live=false→(x.id,x.so.state)∈E
 ol: ∀p∈L,∃(i:Nat) (x:Ent),B[i]? =some x∧x.live=true∧x.id=p.1
 oe: ∀p∈E,∃(i:Nat) (x:Ent),B[i]? =some x∧x.live=false∧x.id=p.1
 ids: ∀(i j:Nat) (x y:Ent),B[i]? =some x→B[j]? =some y→x.id=y.id→i=j
section
variable {pr:Nat→Option (Array Value×TypeId)} {base:Nat} {w w':World} {ab lm em n:Nat} {L:List (Int×Option Nat)} {E:List (Int×List Int)} {B:List Ent} {i q:Nat} {x x':Ent}
theorem AX.keep(h:AX pr base w ab lm em n L E B)(hk: ∀k,k<w.heap.size→w'.heap[k]? =w.heap[k]?):AX pr base w' ab lm em n L E B:=
 ⟨h.aw.keep hk,fun i x hx hl=>by obtain⟨q,h1,h2⟩:=h.lv i x hx hl;exact⟨q,h1,⟨by rw[hk q h2.lt];exact h2.blk⟩⟩,h.en,h.ol,h.oe,h.ids⟩
theorem AX.below(h:AX pr base w ab lm em n L E B)(hb:Below w.heap.size w w'):AX pr base w' ab lm em n L E B:=h.keep fun k hk=>hb.block k hk
theorem AX.same(h:AX pr base w ab lm em n L E B)(hs:Same w w'):AX pr base w' ab lm em n L E B:=h.keep fun k _=>by rw[hs.heap]
theorem AX.more{m:Nat}(h:AX pr base w ab lm em n L E B)(hm:n≤m):AX pr base w ab lm em m L E B:=⟨h.aw.more hm,h.lv,h.en,h.ol,h.oe,h.ids⟩
theorem AX.lw(h:AX pr base w ab lm em n L E B):base≤w.heap.size:=by have:=h.aw.lo;have:=h.aw.lt;omega
theorem AX.own(h:AX pr base w ab lm em n L E B)(hx:B[i]? =some x)(hl:x.live=true): ∃q,(x.id,some q)∈L∧base≤q∧OA w q 0 x.ao∧AOk x.ao:=by
 obtain⟨q,h1,h2⟩:=h.lv i x hx hl;obtain⟨q',o,e1,e2,e3,e4⟩:=h.aw.ords _ h1;obtain rfl:q=q':=by simpa using e1
 exact⟨q,h1,e2,h2,e4.cong (e3.fields h2)⟩
theorem AX.uniq(h:AX pr base w ab lm em n L E B){id:Int}{q':Nat}(h1:(id,some q)∈L)(h2:(id,some q')∈L):q=q':=by
 have:=zCj (h.aw.live.nodup keyedInt) h1 h2 rfl;injection this with _ this;injection this
theorem AX.apart(h:AX pr base w ab lm em n L E B)(hx:B[i]? =some x)(hl:x.live=true)(h1:(x.id,some q)∈L){q':Nat}{y:Ent}(hy:B[j]? =some y)(hyl:y.live=true)(h2:(y.id,some q')∈L)(hne:i≠j):q≠q':=by
 intro e;subst e;obtain⟨a,a1,a2⟩:=h.lv i x hx hl;obtain⟨c,c1,c2⟩:=h.lv j y hy hyl;obtain rfl:=h.uniq a1 h1;obtain rfl:=h.uniq c1 h2;exact hne (h.ids i j x y hx hy (a2.fields c2).1)
theorem zBz{l:List Ent}{a y:Ent}(h:(l.set i a)[j]? =some y):(j=i∧y=a)∨(j≠i∧l[j]? =some y):=by
 by_cases e:i=j
 ·subst e;rw[List.getElem?_set_self']at h;obtain⟨_,_,rfl⟩:=Option.map_eq_some_iff.1 h;exact .inl ⟨rfl,rfl⟩
 ·rw[List.getElem?_set_ne e]at h;exact .inr ⟨fun c=>e c.symm,h⟩
theorem zB{l:List Ent}{a x:Ent}(h:l[i]? =some x):(l.set i a)[i]? =some a:=by
 rw[List.getElem?_set_self',h];rfl
theorem zBm{l:List Ent}{a y:Ent}(h:l[j]? =some y)(hne:j≠i):(l.set i a)[j]? =some y:=by
 rw[List.getElem?_set_ne (fun e=>hne e.symm)];exact h
theorem AX.chg(h:AX pr base w ab lm em n L E B)(hx:B[i]? =some x)(hl:x.live=true)(hm:(x.id,some q)∈L)(hc:ACh q w w')(hO:OA w' q 0 x'.ao)(hk:AOk x'.ao)(hid:x'.id=x.id)(hl':x'.live=true):AX pr base w' ab lm em n L E (B.set i x'):=by
 obtain⟨q0,m0,o0⟩:=h.lv i x hx hl;obtain rfl:=h.uniq m0 hm;have hb:=o0.blk;have mp: ∀{V:Type} {E:Elem V} {x:Nat} {l:List (Int×V)},PM E Tryz.prog 3 w x l→PM E Tryz.prog 3 w' x l:=by
  intro V E x l hp;obtain⟨es,c,hm⟩:=hp.is_map;exact hp.of_block (hc.block x hp.lt (fun e1=>by rw[e1,hb]at hm;cases hm))
 have hAW:AW pr base w' ab lm em n L E:=by
  have h0:=h.aw;refine⟨?_,mp h0.live,mp h0.ended,fun p hp=>?_,h0.ents,h0.ne,h0.lo,h0.ll,h0.el,fun b c t hpb=>⟨(h0.rows b c t hpb).1,by rw[hc.block b (Array.getElem?_eq_some_iff.1 (h0.rows b c t hpb).2).1 (fun e1=>by have:=(h0.rows b c t hpb).2;rw[e1,hb]at this;injection this with this;injection this with _ this _;exact(h0.rows b c t hpb).1 this.symm)];exact(h0.rows b c t hpb).2⟩⟩
  ·rw[hc.block ab h0.lt.1 (fun e1=>by have:=h0.blk;rw[e1,hb]at this;injection this with this;injection this with _ this _;exact absurd this (by decide))];exact h0.blk
  ·obtain⟨q',o,h1,h2,h3,h4⟩:=h0.ords p hp;by_cases e1:q'=q0
   ·subst e1;exact⟨q',_,h1,h2,hO,hk⟩
   ·exact⟨q',o,h1,h2,⟨by rw[hc.block q' h3.lt e1];exact h3.blk⟩,h4⟩
 refine⟨hAW,fun j y hy hyl=>?_,fun j y hy hyl=>?_,fun p hp=>?_,fun p hp=>?_,fun j k y z hy hz e=>?_⟩
 ·rcases zBz hy with⟨rfl,rfl⟩|⟨hne,hy'⟩
  ·exact⟨q0,by rw[hid];exact hm,hO⟩
  ·obtain⟨q1,m1,o1⟩:=h.lv j y hy' hyl;refine⟨q1,m1,⟨?_⟩⟩;rw[hc.block q1 o1.lt (fun c=>(h.apart hx hl hm hy' hyl m1 (fun e=>hne e.symm)) c.symm)];exact o1.blk
 ·rcases zBz hy with⟨rfl,rfl⟩|⟨hne,hy'⟩
  ·rw[hl']at hyl;cases hyl
  ·exact h.en j y hy' hyl
 ·obtain⟨j,y,h1,h2,h3⟩:=h.ol p hp;by_cases e:j=i
  ·subst e;obtain rfl:=Option.some.inj (hx.symm.trans h1);exact⟨j,x',zB hx,hl',by rw[hid];exact h3⟩
  ·exact⟨j,y,zBm h1 e,h2,h3⟩
 ·obtain⟨j,y,h1,h2,h3⟩:=h.oe p hp;have e:j≠i:=fun e=>by
   subst e;obtain rfl:=Option.some.inj (hx.symm.trans h1);rw[hl]at h2;cases h2
  exact⟨j,y,zBm h1 e,h2,h3⟩
 ·have key: ∀(j:Nat) (y:Ent),(B.set i x')[j]? =some y→∃y',B[j]? =some y'∧y'.id=y.id:=fun j y hy=>by
   rcases zBz hy with⟨rfl,rfl⟩|⟨_,hy'⟩
   ·exact⟨x,hx,hid.symm⟩
   ·exact⟨y,hy',rfl⟩
  obtain⟨y',a1,a2⟩:=key j y hy;obtain⟨z',c1,c2⟩:=key k z hz;exact h.ids j k y' z' a1 c1 (by rw[a2,c2];exact e)
theorem zD{V:Type}{l:List (Int×V)}{k:Int}{p:Int×V}(h:p∈l)(hn:p.1≠k):p∈strike l k:=List.mem_filter.2 ⟨h,by simp[hn]⟩
theorem zHl{V:Type}{l:List (Int×V)}{k:Int}{p:Int×V}(h:p∈strike l k):p.1≠k:=by have:=(List.mem_filter.1 h).2;simpa using this
theorem AX.ends{w1 w2:World}{m:Nat}(h:AX pr base w ab lm em n L E B)(hx:B[i]? =some x)(hl:x.live=true)(hid:x'.id=x.id)(hl':x'.live=false)(hA:AW pr base w2 ab lm em m (strike L x.id) (strike E x.id++ [(x.id,x'.so.state)]))(hc: ∀(b:Nat) (c:Array Value) (t:TypeId) (f:Nat×Nat),w.heap[b]? =some (.cells c t f)→w2.heap[b]? =some (.cells c t f)):AX pr base w2 ab lm em m (strike L x.id) (strike E x.id++ [(x.id,x'.so.state)]) (B.set i x'):=by
 refine⟨hA,fun j y hy hyl=>?_,fun j y hy hyl=>?_,fun p hp=>?_,fun p hp=>?_,fun j k y z hy hz e=>?_⟩
 ·rcases zBz hy with⟨rfl,rfl⟩|⟨hne,hy'⟩
  ·rw[hl']at hyl;cases hyl
  ·obtain⟨q1,m1,o1⟩:=h.lv j y hy' hyl;exact⟨q1,zD m1 (fun c=>hne (h.ids j i y x hy' hx c)),⟨hc _ _ _ _ o1.blk⟩⟩
 ·rcases zBz hy with⟨rfl,rfl⟩|⟨hne,hy'⟩
  ·rw[hid];exact List.mem_append_right _ (List.mem_singleton.2 rfl)
  ·exact List.mem_append_left _ (zD (h.en j y hy' hyl) (fun c=>hne (h.ids j i y x hy' hx c)))
 ·obtain⟨j,y,h1,h2,h3⟩:=h.ol p (zBx hp);have e:j≠i:=fun e=>by
   subst e;obtain rfl:=Option.some.inj (hx.symm.trans h1);exact zHl hp h3.symm
  exact⟨j,y,zBm h1 e,h2,h3⟩
 ·rcases List.mem_append.1 hp with hp|hp
  ·obtain⟨j,y,h1,h2,h3⟩:=h.oe p (zBx hp);have e:j≠i:=fun e=>by
    subst e;obtain rfl:=Option.some.inj (hx.symm.trans h1);exact zHl hp h3.symm
   exact⟨j,y,zBm h1 e,h2,h3⟩
  ·rw[List.mem_singleton]at hp;exact⟨i,x',zB hx,hl',by rw[hp,hid]⟩
 ·have key: ∀(j:Nat) (y:Ent),(B.set i x')[j]? =some y→∃y',B[j]? =some y'∧y'.id=y.id:=fun j y hy=>by
   rcases zBz hy with⟨rfl,rfl⟩|⟨_,hy'⟩
   ·exact⟨x,hx,hid.symm⟩
   ·exact⟨y,hy',rfl⟩
  obtain⟨y',a1,a2⟩:=key j y hy;obtain⟨z',c1,c2⟩:=key k z hz;exact h.ids j k y' z' a1 c1 (by rw[a2,c2];exact e)
theorem zHm(st:Int)(h:AX pr base w ab lm em n L E B)(hn:n≤1000000000)(hx:B[i]? =some x)(hl:x.live=true)(hm:(x.id,some q)∈L)(hO:OA w q 0 x.ao)(hk:r63 x.id)(hid:x'.id=x.id)(hl':x'.live=false)
 (hS: ∀W,OA W q 0 x.ao→Calls Tryz.prog 77 #[.pointer (some ⟨q,0,none⟩),.int .i64 st] W fun en w'=>en=.returned (aggElem.val x'.so.state)∧Below W.heap.size W w'):
 Calls Tryz.prog 227 #[.pointer (some ⟨ab,0,none⟩),.pointer (some ⟨q,0,none⟩),.int .i64 st] w fun en w'=>en=.returned (.tuple #[])∧Hid (AX pr base w' ab lm em (n+1) (strike L x.id) (strike E x.id++ [(x.id,x'.so.state)]) (B.set i x')∧Below base w w'∧(∀(b:Nat) (c:Array Value) (t:TypeId) (f:Nat×Nat),w.heap[b]? =some (.cells c t f)→w'.heap[b]? =some (.cells c t f))):=by
 have hlw:base≤w.heap.size:=h.lw;have a0:=h.aw.c0;have c0:w.cell? ⟨q,0,none⟩=some (.int .i64 x.id):=hO.cell 0;have HD:Hid (∃w1,(Builtin.delete_ #[110,3] 0 #[.map (some lm),.int .i64 x.id]).run Tryz.prog w.drew=.ok (.tuple #[]) w1∧w1.cell? ⟨ab,1,none⟩=some (.map (some em))∧w1.cell? ⟨q,0,none⟩=some (.int .i64 x.id)∧
  Hid (∀W,Same w1 W→Calls Tryz.prog 77 #[.pointer (some ⟨q,0,none⟩),.int .i64 st] W fun en w'=>en=.returned (.agg (x'.so.state.map (Value.int .i64)).toArray)∧w'.cell? ⟨ab,1,none⟩=some (.map (some em))∧w'.cell? ⟨q,0,none⟩=some (.int .i64 x.id)∧∃w2,(Instr.mapUpdate 113 (.map (some em)) (.int .i64 x.id) (.agg (x'.so.state.map (Value.int .i64)).toArray)).run Tryz.prog w'=.ok () w2∧Hid (AX pr base w2 ab lm em (n+1) (strike L x.id) (strike E x.id++ [(x.id,x'.so.state)]) (B.set i x')∧Below base w w2∧(∀(b:Nat) (c:Array Value) (t:TypeId) (f:Nat×Nat),w.heap[b]? =some (.cells c t f)→w2.heap[b]? =some (.cells c t f))))):=by
  have hs0:Same w w.drew:=(Same.refl w).drew;have hW:=h.aw.same hs0;obtain⟨w1,q1,q2,q3⟩:=hW.live.del keyedInt Tryz.underlying3 Tryz.underlying110 (wf63 hk) 0;have t3:=Turned.of q3;have h1:AW pr base w1 ab lm em n (strike L x.id) E:=hW.turn_live t3 q2 (fun p hp=>hW.ords p (zBx hp)) (Nat.le_trans (zE4 _ _) h.aw.ll) (Nat.le_refl _);have o1:OA w1 q 0 x.ao:=⟨t3.cells (hO.same hs0).blk⟩;refine⟨w1,q1,h1.c1,o1.cell 0,?_⟩;intro W hW1;refine(hS W (o1.same hW1)).mono ?_;rintro en w' ⟨rfl,hb⟩;have h2:=(h1.same hW1).below hb;have o2:OA w' q 0 x.ao:=⟨by rw[hb.block q (o1.same hW1).lt];exact(o1.same hW1).blk⟩;obtain⟨w2,r1,r2,r3⟩:=h2.ended.put keyedInt Tryz.underlying3 Tryz.underlying113 (by have:=h2.el;unfold maxLen;omega) (wf63 hk) x'.so.state;have t4:=Turned.of r3
  have hce: ∀(b:Nat) (c:Array Value) (t:TypeId) (f:Nat×Nat),w.heap[b]? =some (.cells c t f)→w2.heap[b]? =some (.cells c t f):=fun b c t f h'=>by
   have o5:w1.heap[b]? =some (.cells c t f):=t3.cells (by rw[hs0.heap];exact h');have o6:W.heap[b]? =some (.cells c t f):=by rw[hW1.heap];exact o5
   refine t4.cells ?_;rw[hb.block b (Array.getElem?_eq_some_iff.1 o6).1];exact o6
  have hAW:AW pr base w2 ab lm em (n+1) (strike L x.id) (strike E x.id++ [(x.id,x'.so.state)]):=h2.turn_ended (m:=n+1) t4 r2 (fun p hp=>by
   rcases List.mem_append.1 hp with hp|hp
   ·exact h2.ents p (zBx hp)
   ·rw[List.mem_singleton]at hp;exact⟨x'.so,by rw[hp,Ent.so_id,hid]⟩) (by
   rw[List.length_append];have:=zE4 E x.id;have:=h.aw.el;simp;omega) (by omega)
  refine⟨rfl,h2.c1,o2.cell 0,w2,r1,h.ends (w1:=w1) hx hl hid hl' hAW hce,?_,hce⟩;have e1:Below base w w1:=(hs0.low).trans (t3.low h.aw.lo.2.1 (by rw[hs0.heap];exact hlw));have e2:base≤w1.heap.size:=Nat.le_trans hlw e1.size;have e3:Below base w W:=e1.trans hW1.low;have e4:Below base w w':=e3.trans (hb.mono (by rw[hW1.heap];exact e2));exact e4.trans (t4.low h.aw.lo.2.2 (Nat.le_trans hlw e4.size))
 clear h hn hO hk hid hS hlw hx hl hm hl';obtain⟨w1,hw1,c1,c0',HST⟩:=HD.out;go_enter Tryz.func227,Tryz.ntmps227;go_wp2_with fail;go_region_law(fail);all_goals(
  go_wp2_with fail;go_region_with(first|(go_at_call 77;refine(HST.out w1.drew ((Same.refl w1).drew)).mono ?_;rintro en w2 ⟨rfl,c10',c00',w3,hw3,HZ⟩));all_goals(go_end0;exact⟨rfl,HZ⟩))
def Ent.fill(x:Ent)(v:Int):Ent:={ x with opn:=x.opn - v,filled:=x.filled+v,live:=decide (0<x.opn - v) }
theorem zHn(v:Int)(h:AX pr base w ab lm em n L E B)(hn:n≤1000000000)(hx:B[i]? =some x)(hl:x.live=true)(hm:(x.id,some q)∈L)(hO:OA w q 0 x.ao)(hq:base≤q)(hk:AOk x.ao)(hv:0≤v)(hv2:v≤x.qty - x.filled - x.shown)(hop:x.opn=x.qty - x.filled)(hg:x.gone=0):
 Calls Tryz.prog 226 #[.pointer (some ⟨ab,0,none⟩),.pointer (some ⟨q,0,none⟩),.int .i64 v] w fun en w'=>en=.returned (.tuple #[])∧Hid (∃L' E',AX pr base w' ab lm em (n+1) L' E' (B.set i (x.fill v))∧(∀p∈L,p.1≠x.id→p∈L')∧Below base w w'∧(∀(b:Nat) (c:Array Value) (t:TypeId) (f:Nat×Nat),b≠q→w.heap[b]? =some (.cells c t f)→w'.heap[b]? =some (.cells c t f))):=by
 have c10:w.cell? ⟨q,10,none⟩=some (.int .i64 x.filled):=hO.cell 10;have f10:=hO.froz 10;have a1:0≤x.filled∧x.filled≤x.qty∧x.qty≤4294967295:=hk.fil;have a2:0≤x.shown∧x.shown≤x.qty - x.filled:=hk.sh;have hw:wrap64 (x.filled+v)=x.filled+v:=by unfold wrap64;omega
 have hk':AOk { x with filled:=x.filled+v,opn:=x.opn - v }.ao:=⟨hk.id,⟨by show 0≤x.filled+v;omega,by show x.filled+v≤x.qty;omega,a1.2.2⟩,⟨a2.1,by show x.shown≤x.qty - (x.filled+v);omega⟩,hk.peg⟩;have o1:OA (w.setCell ⟨q,10,none⟩ (.int .i64 (x.filled+v))) q 0 { x with filled:=x.filled+v,opn:=x.opn - v }.ao:=hO.wr 10 _ _ (by simp[Ord.code,Ent.ao]);have ch:ACh q w (w.setCell ⟨q,10,none⟩ (.int .i64 (x.filled+v))):=(ACh.refl q w).set 10 _;have h1:=h.chg (x':={ x with filled:=x.filled+v,opn:=x.opn - v }) hx hl hm ch o1 hk' rfl hl;have b1:Below base w (w.setCell ⟨q,10,none⟩ (.int .i64 (x.filled+v))):=(Below.refl base w).setCell hq _;have ot:(∀(b:Nat) (c:Array Value) (t:TypeId) (f:Nat×Nat),b≠q→w.heap[b]? =some (.cells c t f)→(w.setCell ⟨q,10,none⟩ (.int .i64 (x.filled+v))).heap[b]? =some (.cells c t f)):=fun b c t f hq' h'=>by rw[Below.heap_setCell _ _ _ _ hq'];exact h'
 have HX:=hid (And.intro h1 (And.intro o1 (And.intro b1 (And.intro ot (And.intro hk' hn)))));have HL:=hid (And.intro hm (And.intro hl (And.intro hx (And.intro hop hg))));have HK:=hid hk;clear h hn hO hq hk hv hv2 hk' h1 o1 b1 ot ch hm hl hop hg hx a1 a2;go_enter Tryz.func226,Tryz.ntmps226;go_wp2_with fail;generalize w.setCell ⟨q,10,none⟩ (.int .i64 (x.filled+v))=W at *;refine(zAi HX.out.2.1 HX.out.2.2.2.2.1.opn).mono ?_;rintro en w1 ⟨rfl,hs⟩;have HS:=hid hs;clear hs c10 f10 hw;have HQQ:Hid (({ x with filled:=x.filled+v,opn:=x.opn - v }:Ent).ao.qty - ({ x with filled:=x.filled+v,opn:=x.opn - v }:Ent).ao.filled=x.opn - v):=by
  show x.qty - (x.filled+v)=x.opn - v;have:=HL.out.2.2.2.1;omega
 rw[HQQ.out];cases e1:(x.opn - v == 0)
 ·go_wp2;go_end0;obtain⟨x1,x2,x3,x4,x5,x6⟩:=HX.out;have hne:x.opn - v≠0:=by simpa using e1
  have hpos:0<x.opn - v:=by
   have h5:x.filled+v≤x.qty:=x5.fil.2.1;have:=HL.out.2.2.2.1;omega
  have hfe:x.fill v={ x with filled:=x.filled+v,opn:=x.opn - v }:=by
   unfold Ent.fill;rw[decide_eq_true hpos,←HL.out.2.1]
  rw[hfe];exact⟨rfl,hid ⟨_,_,(x1.same HS.out).more (by omega),fun p hp _=>hp,x3.trans HS.out.low,fun b c t f hq' h'=>by rw[HS.out.heap];exact x4 b c t f hq' h'⟩⟩
 ·go_wp2_with fail;have HE:Hid (Calls Tryz.prog 227 #[.pointer (some ⟨ab,0,none⟩),.pointer (some ⟨q,0,none⟩),.int .i64 2] w1 fun en w'=>en=.returned (.tuple #[])∧Hid (∃L' E',AX pr base w' ab lm em (n+1) L' E' (B.set i (x.fill v))∧(∀p∈L,p.1≠x.id→p∈L')∧Below base w w'∧(∀(b:Nat) (c:Array Value) (t:TypeId) (f:Nat×Nat),b≠q→w.heap[b]? =some (.cells c t f)→w'.heap[b]? =some (.cells c t f)))):=by
   obtain⟨x1,x2,x3,x4,x5,x6⟩:=HX.out;have hz:x.opn - v=0:=by simpa using e1
   have hfe:x.fill v={ x with filled:=x.filled+v,opn:=x.opn - v,live:=false }:=by
    unfold Ent.fill;rw[decide_eq_false (by omega)]
   refine(zHm (x:={ x with filled:=x.filled+v,opn:=x.opn - v }) (x':=x.fill v) 2 (x1.same HS.out) x6 (zB HL.out.2.2.1) HL.out.2.1 HL.out.1 (x2.same HS.out) HK.out.r rfl (by rw[hfe]) (fun W hW=>by
    have h5:=zH2 hW;refine h5.mono ?_;rintro en w' ⟨rfl,hb⟩;refine⟨?_,hb⟩;rw[hfe];simp[Ent.so,HL.out.2.2.2.2,stV,aggElem,Ord.state,Ent.ao])).mono ?_
   rintro en w' ⟨rfl,HZ⟩;obtain⟨y1,y2,y3⟩:=HZ.out;rw[List.set_set]at y1;exact⟨rfl,hid ⟨_,_,y1,fun p hp hne=>zD hp hne,(x3.trans HS.out.low).trans y2,fun b c t f hq' h'=>y3 b c t f (by rw[HS.out.heap];exact x4 b c t f hq' h')⟩⟩
  refine HE.out.mono ?_;rintro en w2 ⟨rfl,HZ⟩;go_wp2;go_end0;exact⟨rfl,HZ⟩
end
def FX(q:Nat)(w:World)(o':Ord)(en:Ending)(w':World):Prop:=en=.returned (.bool true)∧Hid (OA w' q 0 o'∧ACh q w w')
section
variable {base:Nat} {w w':World} {q:Nat} {o o':Ord}
theorem zNv(k:Nat→Int)(hO:OA w q 0 o)(hk:AOk o)(hd:k 0=8∧k 1=0∧k 2=o.id∧k 3=0∧k 4=0∧k 5=0∧k 6=0)(e2:o.typ=3)(e3:o.price≠0):
 Calls Tryz.prog 185 #[.pointer (some ⟨q,0,none⟩),recW (k 0) (k 1) (k 2) (k 3) (k 4) (k 5) (k 6)] w fun en w'=>FX q w { o with price:=0,shown:=0 } en w':=by
 have hneq:=fun W=>neqRec (k 0) (k 1) (k 2) (k 3) (k 4) (k 5) (k 6) 8 0 o.id 0 0 0 0 W
 have hgd:=Tryz.recGuard;generalize hcc:(k 0 == 8 && k 1 == 0 && k 2 == o.id && k 3 == 0 && k 4 == 0 && k 5 == 0 && k 6 == 0)=c at hneq;obtain rfl:c=true:=by rw[←hcc];obtain⟨d0,d1,d2,d3,d4,d5,d6⟩:=hd;simp[d0,d1,d2,d3,d4,d5,d6]
 clear hcc hd;have hql:=hO.lt;have hqn:q≠w.heap.size:=Nat.ne_of_lt hql;have hqn1:q≠w.heap.size+1:=by omega
 have c0:w.cell? ⟨q,0,none⟩=some (.int .i64 o.id):=hO.cell 0;have c2:w.cell? ⟨q,2,none⟩=some (.int .i64 o.typ):=hO.cell 2;have c3:w.cell? ⟨q,3,none⟩=some (.int .i64 o.price):=hO.cell 3;have c11:w.cell? ⟨q,11,none⟩=some (.int .i64 o.shown):=hO.cell 11;have f3:=hO.froz 3;have f11:=hO.froz 11;have HX:Hid (OA w q 0 o∧AOk o):=⟨hO,hk⟩;have HK:Hid (AOk { o with price:=0,shown:=0 }):=⟨hk.id,hk.fil,⟨Int.le_refl _,by have:=hk.fil.2.1;show(0:Int)≤o.qty - o.filled;omega⟩,fun _ _=>rfl⟩;clear hO hk;go_enter Tryz.func185,Tryz.ntmps185;go_wp2;go_ret;exact⟨rfl,hid ⟨((HX.out.1.wr2 3 (.int .i64 0) { o with price:=0 } (by simp[Ord.code]) 11 (.int .i64 0) { o with price:=0,shown:=0 } (by simp[Ord.code])).alloc _).alloc _,((((ACh.refl q w).set _ _).set _ _).alloc _).alloc _⟩⟩
theorem zEc{a b:Int}(h:a=3↔b=0):Calls Tryz.prog 225 #[.int .i64 a,.int .i64 b] w fun en w'=>en=.returned (.bool true)∧w'=w:=by
 by_cases e:a=3
 ·have e0:b=0:=h.1 e;subst e;subst e0;clear h;go_enter Tryz.func225,Tryz.ntmps225;go_wp2;go_ret;exact⟨rfl,rfl⟩
 ·have f1:(a == 3)=false:=by simp[e]
  have f2:(b == 0)=false:=by simp;exact fun c=>e (h.2 c)
  clear h e;go_enter Tryz.func225,Tryz.ntmps225;go_wp2;go_ret;exact⟨rfl,rfl⟩
theorem zNw(k:Nat→Int)(hd:k 0=2∧k 1=0∧k 3=0∧k 4=0∧k 5=0)(h6:1≤k 6∧k 6≤10):
 Calls Tryz.prog 179 #[recW (k 0) (k 1) (k 2) (k 3) (k 4) (k 5) (k 6)] w fun en w'=>en=.returned (.bool true)∧Below w.heap.size w w':=by
 have hgd:=Tryz.recGuard;have hi:Eng.inn (k 6) 1 10=true:=by unfold Eng.inn;simp[h6.1,h6.2]
 obtain⟨d0,d1,d3,d4,d5⟩:=hd;rw[d0,d1,d3,d4,d5];clear d0 d1 d3 d4 d5 h6;have HI:=hid hi;clear hi;go_enter Tryz.func179,Tryz.ntmps179;go_wp2_with fail;all_goals first
  |(refine(zBy _ _ _).mono ?_
    rintro en w5 ⟨rfl,rfl⟩;rw[HI.out];go_wp2;go_ret;exact⟨rfl,zCv ((Below.refl w.heap.size w).alloc (Nat.le_refl _) _) _⟩)
end
section
variable {pr:Nat→Option (Array Value×TypeId)} {base:Nat} {w w':World} {ab lm em n:Nat} {L:List (Int×Option Nat)} {E:List (Int×List Int)} {B:List Ent} {i q:Nat} {o:Ord} {x x':Ent}
theorem AX.still(h:AX pr base w ab lm em n L E B)(hx:B[i]? =some x)(hl:x.live=true)(hm:(x.id,some q)∈L)(hc:ACh q w w')(hO:OA w' q 0 x.ao)(hk:AOk x.ao):AX pr base w' ab lm em n L E B:=by
 have h1:=h.chg (x':=x) hx hl hm hc hO hk rfl hl;have e:B.set i x=B:=by
  apply List.ext_getElem?;intro j;by_cases c:i=j
  ·subst c;rw[List.getElem?_set_self',hx];rfl
  ·rw[List.getElem?_set_ne c]
 rw[e]at h1;exact h1
theorem zNx(k:Nat→Int)(h:AX pr base w ab lm em n L E B)(hn:n≤1000000000)(hx:B[i]? =some x)(hl:x.live=true)(hm:(x.id,some q)∈L)(hox:x.ao=o)(hO:OA w q 0 o)(hq:base≤q)(hk:AOk o)(hd:k 0=4∧k 1=0∧k 2=o.id∧k 3=0∧k 4=0∧k 5=o.qty - o.filled)(h6:1≤k 6∧k 6≤3)(hid':x'.id=x.id)(hl':x'.live=false)(hst:x'.so.state= [o.id,3,o.price,0,o.filled,o.qty - o.filled,0]):
 Calls Tryz.prog 181 #[.pointer (some ⟨ab,0,none⟩),.pointer (some ⟨q,0,none⟩),recW (k 0) (k 1) (k 2) (k 3) (k 4) (k 5) (k 6)] w fun en w'=>en=.returned (.bool true)∧Hid (∃L' E',AX pr base w' ab lm em (n+1) L' E' (B.set i x')∧Below base w w'):=by
 have hneq:=fun W=>neqRec (k 0) (k 1) (k 2) (k 3) (k 4) (k 5) (k 6) 4 0 o.id 0 0 (o.qty - o.filled) (k 6) W
 have hgd:=Tryz.recGuard;generalize hcc:(!(k 0 == 4 && k 1 == 0 && k 2 == o.id && k 3 == 0 && k 4 == 0 && k 5 == o.qty - o.filled && k 6 == k 6))=c at hneq;obtain rfl:c=false:=by rw[←hcc];obtain⟨d0,d1,d2,d3,d4,d5⟩:=hd;simp[d0,d1,d2,d3,d4,d5]
 have E1:Hid (Eng.inn (k 6) 1 3=true):=by show Eng.inn (k 6) 1 3=true;unfold Eng.inn;simp[h6.1,h6.2]
 have HOX:=hid (And.intro hox (And.intro hx (And.intro hl (And.intro hm (And.intro hid' (And.intro hl' hst))))));have HKK:=hid hk;have HAG:Hid (∀Y,OA Y q 0 o→ACh q w Y→AX pr base Y ab lm em n L E B∧Below base w Y):=fun Y h1 h2=>⟨h.still hx hl hm h2 (by rw[hox];exact h1) (by rw[hox];exact hk),h2.low hq h.lw⟩
 have HN:=hid hn;have hoa:=hO.alloc (.cells #[.int .i64 (k 0),.int .i64 (k 1),.int .i64 (k 2),.int .i64 (k 3),.int .i64 (k 4),.int .i64 (k 5),.int .i64 (k 6)] 73);have hrb:RB (w.alloc (.cells #[.int .i64 (k 0),.int .i64 (k 1),.int .i64 (k 2),.int .i64 (k 3),.int .i64 (k 4),.int .i64 (k 5),.int .i64 (k 6)] 73)) w.heap.size k:=⟨heap_alloc_new w _⟩;have hch:=(ACh.refl q w).alloc (.cells #[.int .i64 (k 0),.int .i64 (k 1),.int .i64 (k 2),.int .i64 (k 3),.int .i64 (k 4),.int .i64 (k 5),.int .i64 (k 6)] 73);have hqn:q≠w.heap.size:=Nat.ne_of_lt hO.lt;clear hO hk h hn hq hcc hd h6 hox hx hl hm hid' hl' hst;go_enter Tryz.func181,Tryz.ntmps181;go_wp2_with fail;generalize w.alloc (.cells #[.int .i64 (k 0),.int .i64 (k 1),.int .i64 (k 2),.int .i64 (k 3),.int .i64 (k 4),.int .i64 (k 5),.int .i64 (k 6)] 73)=W at *;generalize w.heap.size=rb at *
 have c0:W.cell? ⟨q,0,none⟩=some (.int .i64 o.id):=hoa.cell 0;have r6:W.cell? ⟨rb,6,none⟩=some (.int .i64 (k 6)):=hrb.cell 6;have HOA:=hid hoa;have HRB:=hid hrb;have HCH:=hid hch;have HOP:Hid (∀X,Same W X→Calls Tryz.prog 124 #[.pointer (some ⟨q,0,none⟩)] X fun en w1=>en=.returned (.int .i64 (o.qty - o.filled))∧w1.cell? ⟨q,0,none⟩=some (.int .i64 o.id)∧w1.cell? ⟨rb,6,none⟩=some (.int .i64 (k 6))∧w1.heap.size≠q∧w1.heap.size≠rb∧Hid (OA w1 q 0 o∧RB w1 rb k∧ACh q w w1)):=by
  intro X hX;refine(zAi (hoa.same hX) HKK.out.opn).mono ?_;rintro en w1 ⟨rfl,hs1⟩;have hs2:=hX.trans hs1;exact⟨rfl,(hoa.same hs2).cell 0,(hrb.same hs2).cell 6,(Nat.ne_of_lt (hoa.same hs2).lt).symm,(Nat.ne_of_lt (hrb.same hs2).lt).symm,hoa.same hs2,hrb.same hs2,hch.same hs2⟩
 have HOPD:Hid (∀X,OA X q 0 o→Calls Tryz.prog 124 #[.pointer (some ⟨q,0,none⟩)] X fun en w1=>en=.returned (.int .i64 (o.qty - o.filled))∧∃m,w1=X.drewN m):=fun X hX=>zCa hX HKK.out.opn
 clear hoa hrb hch;have n1:=World.new_ne W _ (hid c0).out;have n2:=World.new_ne W _ (hid r6).out;go_region_held3(fun X=>X.cell? ⟨q,0,none⟩=some (.int .i64 o.id)∧X.cell? ⟨rb,6,none⟩=some (.int .i64 (k 6))) (go_keep) (first|(go_at_call 124;refine(HOP.out W.drew (Same.refl W).drew).mono ?_;rintro en w1 ⟨rfl,d0,s6,n3,n4,HS1⟩)|(go_at_call 124;refine(HOPD.out _ (HOA.out.alloc _).drew).mono ?_;rintro en w1 ⟨rfl,m,rfl⟩));all_goals(
  first
  |(have HD:=hid (zCb (w:=w) 4 0 o.id 0 0 (o.qty - o.filled) (k 6) HS1.out.1 HS1.out.2.1 HS1.out.2.2)
    generalize w1.alloc (.cells #[.int .i64 4,.int .i64 0,.int .i64 o.id,.int .i64 0,.int .i64 0,.int .i64 (o.qty - o.filled),.int .i64 (k 6)] 73)=Y at *;generalize w1.heap.size=db at *)
  |(have HD:=hid (zHk (w:=w) 4 0 o.id 0 0 (o.qty - o.filled) (k 6) (1+m) HOA.out HRB.out HCH.out)
    generalize (((((((((W.alloc (.cells #[.int .i64 0,.int .i64 0,.int .i64 0,.int .i64 0,.int .i64 0,.int .i64 0,.int .i64 0] 73)).drewN (1+m)).setCell ⟨W.heap.size,0,none⟩ (.int .i64 4)).setCell ⟨W.heap.size,1,none⟩ (.int .i64 0)).setCell ⟨W.heap.size,2,none⟩ (.int .i64 o.id)).setCell ⟨W.heap.size,3,none⟩ (.int .i64 0)).setCell ⟨W.heap.size,4,none⟩ (.int .i64 0)).setCell ⟨W.heap.size,5,none⟩ (.int .i64 (o.qty - o.filled))).setCell ⟨W.heap.size,6,none⟩ (.int .i64 (k 6)))=Y at *;generalize W.heap.size=db at *)
  have y0:Y.cell? ⟨rb,0,none⟩=some (.int .i64 (k 0)):=HD.out.rb.cell 0;have y1:Y.cell? ⟨rb,1,none⟩=some (.int .i64 (k 1)):=HD.out.rb.cell 1;have y2:Y.cell? ⟨rb,2,none⟩=some (.int .i64 (k 2)):=HD.out.rb.cell 2;have y3:Y.cell? ⟨rb,3,none⟩=some (.int .i64 (k 3)):=HD.out.rb.cell 3;have y4:Y.cell? ⟨rb,4,none⟩=some (.int .i64 (k 4)):=HD.out.rb.cell 4;have y5:Y.cell? ⟨rb,5,none⟩=some (.int .i64 (k 5)):=HD.out.rb.cell 5;have y6:Y.cell? ⟨rb,6,none⟩=some (.int .i64 (k 6)):=HD.out.rb.cell 6;have z0:Y.cell? ⟨db,0,none⟩=some (.int .i64 4):=HD.out.db.cell 0;have z1:Y.cell? ⟨db,1,none⟩=some (.int .i64 0):=HD.out.db.cell 1;have z2:Y.cell? ⟨db,2,none⟩=some (.int .i64 o.id):=HD.out.db.cell 2;have z3:Y.cell? ⟨db,3,none⟩=some (.int .i64 0):=HD.out.db.cell 3;have z4:Y.cell? ⟨db,4,none⟩=some (.int .i64 0):=HD.out.db.cell 4;have z5:Y.cell? ⟨db,5,none⟩=some (.int .i64 (o.qty - o.filled)):=HD.out.db.cell 5
  have z6:Y.cell? ⟨db,6,none⟩=some (.int .i64 (k 6)):=HD.out.db.cell 6;try clear d0 s6 n3 n4 HS1
  clear HOP HOPD HOA HRB HCH c0 r6 n1 n2;obtain⟨a1,a2⟩:=HAG.out Y HD.out.oa HD.out.chg;have HA1:=hid a1;have HA2:=hid a2;clear a1 a2;have e1:=E1.out;go_wp2_with fail;refine(zBy _ _ _).mono ?_;rintro en w5 ⟨rfl,rfl⟩;rw[e1];go_wp2_with fail;have HE:Hid (Calls Tryz.prog 227 #[.pointer (some ⟨ab,0,none⟩),.pointer (some ⟨q,0,none⟩),.int .i64 3] w5 fun en w'=>en=.returned (.tuple #[])∧Hid (∃L' E',AX pr base w' ab lm em (n+1) L' E' (B.set i x')∧Below base w w')):=by
   obtain⟨hox,hx,hl,hm,hid',hl',hst⟩:=HOX.out;have hoa:=HD.out.oa;rw[←hox]at hoa;have hkr:r63 x.id:=by have:=HKK.out.r;rw[←hox]at this;exact this
   refine(zHm (x':=x') 3 HA1.out HN.out hx hl hm hoa hkr hid' hl' (fun W hW=>?_)).mono ?_
   ·have hW':OA W q 0 o:=by rw[←hox];exact hW
    refine(zH6 hW' HKK.out.opn).mono ?_;rintro en w' ⟨rfl,hb⟩;refine⟨?_,hb⟩;rw[hst];simp[stV,aggElem]
   ·rintro en w' ⟨rfl,HZ⟩;exact⟨rfl,hid ⟨_,_,HZ.out.1,HA2.out.trans HZ.out.2.1⟩⟩
  refine HE.out.mono ?_;rintro en w6 ⟨rfl,HZ⟩;clear HE y0 y1 y2 y3 y4 y5 y6 z0 z1 z2 z3 z4 z5 z6;go_wp2;go_ret;exact⟨rfl,HZ⟩)
end
section
variable {base:Nat} {w w':World} {q:Nat} {o o':Ord}
def repT(a b:Int):Nat→Int
 |3=>a|4=>b|_=>0
end
section
variable {base:Nat} {w w':World} {q:Nat} {o o':Ord}
def repX(o:Ord)(k:Nat→Int)(b:Bool):Ord:=if b=true then{ o with qty:=k 5,shown:=Ord.left { o with qty:=k 5 } } else if o.typ=3 then{ o with qty:=k 5 } else{ o with qty:=k 5,price:=k 4,shown:=0 }
theorem zNy(k:Nat→Int)(b1:Bool)(hO:OA w q 0 o)(hk:AOk o)(hb5:k 5≤4294967295)(hb1:(decide (k 5≤o.qty) && (o.typ == 3 || k 4 == o.price))=b1)(hd:k 0=5∧k 1=0∧k 2=o.id∧k 3=0∧k 6=if b1=true then 1 else 0)(hf5:o.filled<k 5)(hpc:o.typ=3↔k 4=0):
 Calls Tryz.prog 182 #[.pointer (some ⟨q,0,none⟩),recW (k 0) (k 1) (k 2) (k 3) (k 4) (k 5) (k 6)] w fun en w'=>FX q w (repX o k b1) en w':=by
 have hneq0:=fun W=>neqRec (k 0) (k 1) (k 2) (k 3) (k 4) (k 5) (k 6) 5 0 o.id 0 (k 4) (k 5) 0 W
 have hneq1:=fun W=>neqRec (k 0) (k 1) (k 2) (k 3) (k 4) (k 5) (k 6) 5 0 o.id 0 (k 4) (k 5) 1 W
 have hgd:=Tryz.recGuard;generalize hca:(!(k 0 == 5 && k 1 == 0 && k 2 == o.id && k 3 == 0 && k 4 == k 4 && k 5 == k 5 && k 6 == 0))=ca at hneq0;generalize hcb:(!(k 0 == 5 && k 1 == 0 && k 2 == o.id && k 3 == 0 && k 4 == k 4 && k 5 == k 5 && k 6 == 1))=cb at hneq1;have HCA:Hid (b1=false→ca=false):=fun c=>by rw[←hca];obtain⟨d0,d1,d2,d3,d6⟩:=hd;rw[if_neg (by rw[c];decide)]at d6;simp[d0,d1,d2,d3,d6]
 have HCB:Hid (b1=true→cb=false):=fun c=>by rw[←hcb];obtain⟨d0,d1,d2,d3,d6⟩:=hd;rw[if_pos c]at d6;simp[d0,d1,d2,d3,d6]
 have HE3:Hid (decide (k 5≤o.filled)=false):=decide_eq_false (by omega);have HPC:=hid hpc;have HBB:=hid hb1;clear hca hcb hd hf5 hpc hb1;have HKQ:=hid hb5;have HKK:=hid hk;have hoa:=hO.alloc (.cells #[.int .i64 (k 0),.int .i64 (k 1),.int .i64 (k 2),.int .i64 (k 3),.int .i64 (k 4),.int .i64 (k 5),.int .i64 (k 6)] 73);have hrb:RB (w.alloc (.cells #[.int .i64 (k 0),.int .i64 (k 1),.int .i64 (k 2),.int .i64 (k 3),.int .i64 (k 4),.int .i64 (k 5),.int .i64 (k 6)] 73)) w.heap.size k:=⟨heap_alloc_new w _⟩;have hch:=(ACh.refl q w).alloc (.cells #[.int .i64 (k 0),.int .i64 (k 1),.int .i64 (k 2),.int .i64 (k 3),.int .i64 (k 4),.int .i64 (k 5),.int .i64 (k 6)] 73);have HNE:Hid (q≠w.heap.size):=Nat.ne_of_lt hO.lt;clear hO hk hb5;go_enter Tryz.func182,Tryz.ntmps182;go_wp2_with fail
 generalize w.alloc (.cells #[.int .i64 (k 0),.int .i64 (k 1),.int .i64 (k 2),.int .i64 (k 3),.int .i64 (k 4),.int .i64 (k 5),.int .i64 (k 6)] 73)=W at *;generalize w.heap.size=rb at *;refine(zH (repT (k 4) (k 5)) hoa).mono ?_;rintro en X ⟨rfl,hb1⟩;have HOA:=hid (hoa.below hb1);have HRB:=hid (hrb.below hb1);have HCH:=hid (hch.below hb1);have hb1e:b1=(decide (repT (k 4) (k 5) 4≤o.qty) && (o.typ == 3 || repT (k 4) (k 5) 3 == o.price)):=HBB.out.symm;have HB1:Hid (b1=(decide (k 5≤o.qty) && (o.typ == 3 || k 4 == o.price))):=hb1e;rw[←hb1e];clear hb1e;clear hoa hrb hch hb1;have c0:X.cell? ⟨q,0,none⟩=some (.int .i64 o.id):=HOA.out.cell 0;have r4:X.cell? ⟨rb,4,none⟩=some (.int .i64 (k 4)):=HRB.out.cell 4;have r5:X.cell? ⟨rb,5,none⟩=some (.int .i64 (k 5)):=HRB.out.cell 5;have n1:=World.new_ne X _ (hid c0).out;have n2:=World.new_ne X _ (hid r5).out;cases b1
 ·clear hneq1;go_wp2_with fail;go_region_held3(fun X=>X.cell? ⟨q,0,none⟩=some (.int .i64 o.id)∧X.cell? ⟨rb,4,none⟩=some (.int .i64 (k 4))∧X.cell? ⟨rb,5,none⟩=some (.int .i64 (k 5))) (go_keep) (fail);have HD:=hid (zCb (w:=w) 5 0 o.id 0 (k 4) (k 5) 0 HOA.out HRB.out HCH.out);have HD:Hid (DueR q rb X.heap.size o k (dueF 5 0 o.id 0 (k 4) (k 5) 0) w (X.alloc (.cells #[.int .i64 5,.int .i64 0,.int .i64 o.id,.int .i64 0,.int .i64 (k 4),.int .i64 (k 5),.int .i64 0] 73)).drew):=⟨HD.out.oa.drew,HD.out.rb.same (Same.refl _).drew,HD.out.db.same (Same.refl _).drew,HD.out.chg.same (Same.refl _).drew⟩;have hsz:w.heap.size≤X.heap.size:=HCH.out.size;have hqx:q<X.heap.size:=HOA.out.lt;have hrx:rb<X.heap.size:=HRB.out.lt;generalize (X.alloc (.cells #[.int .i64 5,.int .i64 0,.int .i64 o.id,.int .i64 0,.int .i64 (k 4),.int .i64 (k 5),.int .i64 0] 73)).drew=Y at *;generalize X.heap.size=db at *
  clear HOA HRB HCH c0 r4 r5 n1 n2;clear hsz hqx hrx;have y0:Y.cell? ⟨rb,0,none⟩=some (.int .i64 (k 0)):=HD.out.rb.cell 0;have y1:Y.cell? ⟨rb,1,none⟩=some (.int .i64 (k 1)):=HD.out.rb.cell 1;have y2:Y.cell? ⟨rb,2,none⟩=some (.int .i64 (k 2)):=HD.out.rb.cell 2;have y3:Y.cell? ⟨rb,3,none⟩=some (.int .i64 (k 3)):=HD.out.rb.cell 3;have y4:Y.cell? ⟨rb,4,none⟩=some (.int .i64 (k 4)):=HD.out.rb.cell 4;have y5:Y.cell? ⟨rb,5,none⟩=some (.int .i64 (k 5)):=HD.out.rb.cell 5;have y6:Y.cell? ⟨rb,6,none⟩=some (.int .i64 (k 6)):=HD.out.rb.cell 6;have z0:Y.cell? ⟨db,0,none⟩=some (.int .i64 5):=HD.out.db.cell 0;have z1:Y.cell? ⟨db,1,none⟩=some (.int .i64 0):=HD.out.db.cell 1;have z2:Y.cell? ⟨db,2,none⟩=some (.int .i64 o.id):=HD.out.db.cell 2;have z3:Y.cell? ⟨db,3,none⟩=some (.int .i64 0):=HD.out.db.cell 3;have z4:Y.cell? ⟨db,4,none⟩=some (.int .i64 (k 4)):=HD.out.db.cell 4
  have z5:Y.cell? ⟨db,5,none⟩=some (.int .i64 (k 5)):=HD.out.db.cell 5;have z6:Y.cell? ⟨db,6,none⟩=some (.int .i64 0):=HD.out.db.cell 6;have x2:Y.cell? ⟨q,2,none⟩=some (.int .i64 o.typ):=HD.out.oa.cell 2;have x10:Y.cell? ⟨q,10,none⟩=some (.int .i64 o.filled):=HD.out.oa.cell 10;obtain rfl:ca=false:=HCA.out (by trivial);have e3:=HE3.out;have HK:Hid (¬k 5≤o.filled):=by show¬k 5≤o.filled;simpa using e3
  go_wp2_with fail;go_region_held3(fun X=>X.cell? ⟨rb,0,none⟩=some (.int .i64 (k 0))∧X.cell? ⟨rb,1,none⟩=some (.int .i64 (k 1))∧X.cell? ⟨rb,2,none⟩=some (.int .i64 (k 2))∧X.cell? ⟨rb,3,none⟩=some (.int .i64 (k 3))∧X.cell? ⟨rb,4,none⟩=some (.int .i64 (k 4))∧X.cell? ⟨rb,5,none⟩=some (.int .i64 (k 5))∧X.cell? ⟨rb,6,none⟩=some (.int .i64 (k 6))∧X.cell? ⟨db,0,none⟩=some (.int .i64 5)∧X.cell? ⟨db,1,none⟩=some (.int .i64 0)∧X.cell? ⟨db,2,none⟩=some (.int .i64 o.id)∧X.cell? ⟨db,3,none⟩=some (.int .i64 0)∧X.cell? ⟨db,4,none⟩=some (.int .i64 (k 4))∧X.cell? ⟨db,5,none⟩=some (.int .i64 (k 5))∧X.cell? ⟨db,6,none⟩=some (.int .i64 0)∧X.cell? ⟨q,2,none⟩=some (.int .i64 o.typ)∧X.cell? ⟨q,10,none⟩=some (.int .i64 o.filled)) (go_keep) (first|(go_at_call 225;refine(zEc HPC.out).mono ?_;rintro en w8 ⟨rfl,rfl⟩));have HY:Hid (OA Y.drew q 0 o∧ACh q w Y.drew):=⟨HD.out.oa.drew,HD.out.chg.same (Same.refl Y).drew⟩
  have y4':Y.drew.cell? ⟨rb,4,none⟩=some (.int .i64 (k 4)):=y4;have y5':Y.drew.cell? ⟨rb,5,none⟩=some (.int .i64 (k 5)):=y5;have hqrb:q≠rb:=HNE.out;clear hneq0 e3 x2 x10 y0 y1 y2 y3 y4 y5 y6 z0 z1 z2 z3 z4 z5 z6 HD;generalize Y.drew=Z at *;have x4:Z.cell? ⟨q,4,none⟩=some (.int .i64 o.qty):=HY.out.1.cell 4;have f4:=HY.out.1.froz 4;have HO5:Hid (OA (Z.setCell ⟨q,4,none⟩ (.int .i64 (k 5))) q 0 { o with qty:=k 5 }∧ACh q w (Z.setCell ⟨q,4,none⟩ (.int .i64 (k 5)))):=⟨HY.out.1.wr 4 _ _ (by simp[Ord.code]),HY.out.2.set _ _⟩;have x2':Z.cell? ⟨q,2,none⟩=some (.int .i64 o.typ):=HY.out.1.cell 2;have x3':Z.cell? ⟨q,3,none⟩=some (.int .i64 o.price):=HY.out.1.cell 3;have x11':Z.cell? ⟨q,11,none⟩=some (.int .i64 o.shown):=HY.out.1.cell 11;have f3:=HY.out.1.froz 3;have f11:=HY.out.1.froz 11;by_cases e9:o.typ=3
  ·go_wp2;go_ret;have e5:repX o k false={ o with qty:=k 5 }:=by unfold repX;rw[if_neg (by decide),if_pos e9]
   rw[e5];exact⟨rfl,HO5⟩
  ·go_wp2;go_ret;have e5:repX o k false={ o with qty:=k 5,price:=k 4,shown:=0 }:=by unfold repX;rw[if_neg (by decide),if_neg e9]
   rw[e5];exact⟨rfl,hid ⟨HO5.out.1.wr2 3 (.int .i64 (k 4)) { o with qty:=k 5,price:=k 4 } (by simp[Ord.code]) 11 (.int .i64 0) _ (by simp[Ord.code]),(HO5.out.2.set _ _).set _ _⟩⟩
 ·clear hneq0;go_wp2_with fail;go_region_held3(fun X=>X.cell? ⟨q,0,none⟩=some (.int .i64 o.id)∧X.cell? ⟨rb,4,none⟩=some (.int .i64 (k 4))∧X.cell? ⟨rb,5,none⟩=some (.int .i64 (k 5))) (go_keep) (fail);have HD:=hid (zCb (w:=w) 5 0 o.id 0 (k 4) (k 5) 0 HOA.out HRB.out HCH.out);have HD:Hid (DueR q rb X.heap.size o k (dueF 5 0 o.id 0 (k 4) (k 5) 0) w (X.alloc (.cells #[.int .i64 5,.int .i64 0,.int .i64 o.id,.int .i64 0,.int .i64 (k 4),.int .i64 (k 5),.int .i64 0] 73)).drew):=⟨HD.out.oa.drew,HD.out.rb.same (Same.refl _).drew,HD.out.db.same (Same.refl _).drew,HD.out.chg.same (Same.refl _).drew⟩;have hsz:w.heap.size≤X.heap.size:=HCH.out.size;have hqx:q<X.heap.size:=HOA.out.lt;have hrx:rb<X.heap.size:=HRB.out.lt;generalize (X.alloc (.cells #[.int .i64 5,.int .i64 0,.int .i64 o.id,.int .i64 0,.int .i64 (k 4),.int .i64 (k 5),.int .i64 0] 73)).drew=Y at *;generalize X.heap.size=db at *
  clear HOA HRB HCH c0 r4 r5 n1 n2;have u6:Y.cell? ⟨db,6,none⟩=some (.int .i64 0):=HD.out.db.cell 6;have v6:Y.frozen? ⟨db,6,none⟩=false:=by simp[World.frozen?,HD.out.db.blk]
  have HD:Hid (DueR q rb db o k (dueF 5 0 o.id 0 (k 4) (k 5) 1) w (Y.setCell ⟨db,6,none⟩ (.int .i64 1))):=⟨HD.out.oa.set _ _ (by show q≠db;omega),⟨by rw[Below.heap_setCell _ _ _ _ (by show rb≠db;omega)];exact HD.out.rb.blk⟩,⟨by rw[zA7 _ db 6 _ _ _ _ HD.out.db.blk];simp[dueF]⟩,HD.out.chg.news ((ACh.refl db Y).set 6 _) hsz⟩;clear hsz hqx hrx;go_wp2_with fail;clear u6 v6;generalize Y.setCell ⟨db,6,none⟩ (.int .i64 1)=Y at *;have y0:Y.cell? ⟨rb,0,none⟩=some (.int .i64 (k 0)):=HD.out.rb.cell 0;have y1:Y.cell? ⟨rb,1,none⟩=some (.int .i64 (k 1)):=HD.out.rb.cell 1;have y2:Y.cell? ⟨rb,2,none⟩=some (.int .i64 (k 2)):=HD.out.rb.cell 2;have y3:Y.cell? ⟨rb,3,none⟩=some (.int .i64 (k 3)):=HD.out.rb.cell 3;have y4:Y.cell? ⟨rb,4,none⟩=some (.int .i64 (k 4)):=HD.out.rb.cell 4;have y5:Y.cell? ⟨rb,5,none⟩=some (.int .i64 (k 5)):=HD.out.rb.cell 5
  have y6:Y.cell? ⟨rb,6,none⟩=some (.int .i64 (k 6)):=HD.out.rb.cell 6;have z0:Y.cell? ⟨db,0,none⟩=some (.int .i64 5):=HD.out.db.cell 0;have z1:Y.cell? ⟨db,1,none⟩=some (.int .i64 0):=HD.out.db.cell 1;have z2:Y.cell? ⟨db,2,none⟩=some (.int .i64 o.id):=HD.out.db.cell 2;have z3:Y.cell? ⟨db,3,none⟩=some (.int .i64 0):=HD.out.db.cell 3;have z4:Y.cell? ⟨db,4,none⟩=some (.int .i64 (k 4)):=HD.out.db.cell 4;have z5:Y.cell? ⟨db,5,none⟩=some (.int .i64 (k 5)):=HD.out.db.cell 5;have z6:Y.cell? ⟨db,6,none⟩=some (.int .i64 1):=HD.out.db.cell 6;have x2:Y.cell? ⟨q,2,none⟩=some (.int .i64 o.typ):=HD.out.oa.cell 2;have x10:Y.cell? ⟨q,10,none⟩=some (.int .i64 o.filled):=HD.out.oa.cell 10;obtain rfl:cb=false:=HCB.out (by trivial);have e3:=HE3.out;have HK:Hid (¬k 5≤o.filled):=by show¬k 5≤o.filled;simpa using e3
  go_wp2_with fail;go_region_held3(fun X=>X.cell? ⟨rb,0,none⟩=some (.int .i64 (k 0))∧X.cell? ⟨rb,1,none⟩=some (.int .i64 (k 1))∧X.cell? ⟨rb,2,none⟩=some (.int .i64 (k 2))∧X.cell? ⟨rb,3,none⟩=some (.int .i64 (k 3))∧X.cell? ⟨rb,4,none⟩=some (.int .i64 (k 4))∧X.cell? ⟨rb,5,none⟩=some (.int .i64 (k 5))∧X.cell? ⟨rb,6,none⟩=some (.int .i64 (k 6))∧X.cell? ⟨db,0,none⟩=some (.int .i64 5)∧X.cell? ⟨db,1,none⟩=some (.int .i64 0)∧X.cell? ⟨db,2,none⟩=some (.int .i64 o.id)∧X.cell? ⟨db,3,none⟩=some (.int .i64 0)∧X.cell? ⟨db,4,none⟩=some (.int .i64 (k 4))∧X.cell? ⟨db,5,none⟩=some (.int .i64 (k 5))∧X.cell? ⟨db,6,none⟩=some (.int .i64 1)∧X.cell? ⟨q,2,none⟩=some (.int .i64 o.typ)∧X.cell? ⟨q,10,none⟩=some (.int .i64 o.filled)) (go_keep) (first|(go_at_call 225;refine(zEc HPC.out).mono ?_;rintro en w8 ⟨rfl,rfl⟩));have HY:Hid (OA Y.drew q 0 o∧ACh q w Y.drew):=⟨HD.out.oa.drew,HD.out.chg.same (Same.refl Y).drew⟩
  have y4':Y.drew.cell? ⟨rb,4,none⟩=some (.int .i64 (k 4)):=y4;have y5':Y.drew.cell? ⟨rb,5,none⟩=some (.int .i64 (k 5)):=y5;have hqrb:q≠rb:=HNE.out;clear hneq1 e3 x2 x10 y0 y1 y2 y3 y4 y5 y6 z0 z1 z2 z3 z4 z5 z6 HD;generalize Y.drew=Z at *;have x4:Z.cell? ⟨q,4,none⟩=some (.int .i64 o.qty):=HY.out.1.cell 4;have f4:=HY.out.1.froz 4;have HO5:Hid (OA (Z.setCell ⟨q,4,none⟩ (.int .i64 (k 5))) q 0 { o with qty:=k 5 }∧ACh q w (Z.setCell ⟨q,4,none⟩ (.int .i64 (k 5)))):=⟨HY.out.1.wr 4 _ _ (by simp[Ord.code]),HY.out.2.set _ _⟩;go_wp2_with fail;generalize Z.setCell ⟨q,4,none⟩ (.int .i64 (k 5))=Z5 at *;have hop:r63 (k 5 - o.filled):=by
   have u1:=HKK.out.fil;have u2:=HKQ.out;have u3:=of_decide_eq_false HE3.out;exact⟨by omega,by omega⟩
  refine(zH0 HO5.out.1 hop).mono ?_;rintro en w9 ⟨rfl,W9,hs9,h9⟩;have HZ:Hid (FX q w (repX o k true) (.returned (.bool true)) w9):=by
   have e5:repX o k true={ o with qty:=k 5,shown:=Ord.left { o with qty:=k 5 } }:=by unfold repX;rw[if_pos rfl]
   rw[e5];rcases h9 with rfl|⟨hle2,rfl⟩
   ·exact⟨rfl,hid ⟨(HO5.out.1.same hs9).wr 11 _ _ (by simp[Ord.code]),(HO5.out.2.same hs9).set _ _⟩⟩
   ·rw[hle2];exact⟨rfl,hid ⟨HO5.out.1.same hs9,HO5.out.2.same hs9⟩⟩
  clear h9 hs9 HO5 HK HY x4 f4 y4' y5' hop;go_wp2;go_ret;exact HZ.out
end
section
variable {base:Nat} {w w':World} {q:Nat} {o o':Ord}
theorem zNz(k:Nat→Int)(hO:OA w q 0 o)(hk:AOk o)(hd:k 0=7∧k 1=0∧k 2=o.id∧k 3=0∧k 5=o.qty - o.filled∧k 6=0)(ht:o.typ=3)(h4:k 4≠0)(h4p:k 4≠o.price):
 Calls Tryz.prog 184 #[.pointer (some ⟨q,0,none⟩),recW (k 0) (k 1) (k 2) (k 3) (k 4) (k 5) (k 6)] w fun en w'=>FX q w { o with price:=k 4,shown:=k 5 } en w':=by
 have hneq:=fun W=>neqRec (k 0) (k 1) (k 2) (k 3) (k 4) (k 5) (k 6) 7 0 o.id 0 (k 4) (o.qty - o.filled) 0 W
 have hgd:=Tryz.recGuard;generalize hcc:(!(k 0 == 7 && k 1 == 0 && k 2 == o.id && k 3 == 0 && k 4 == k 4 && k 5 == o.qty - o.filled && k 6 == 0))=c at hneq;obtain rfl:c=false:=by rw[←hcc];obtain⟨d0,d1,d2,d3,d5,d6⟩:=hd;simp[d0,d1,d2,d3,d5,d6]
 have E2:Hid ((o.typ != 3)=false):=by show(o.typ != 3)=false;simp[ht]
 have E3:Hid ((k 4 == 0)=false):=by show(k 4 == 0)=false;simp[h4]
 have E4:Hid ((k 4 == o.price)=false):=by show(k 4 == o.price)=false;simp[h4p]
 clear hcc hd ht h4 h4p;have HKK:=hid hk;have hoa:=hO.alloc (.cells #[.int .i64 (k 0),.int .i64 (k 1),.int .i64 (k 2),.int .i64 (k 3),.int .i64 (k 4),.int .i64 (k 5),.int .i64 (k 6)] 73);have hrb:RB (w.alloc (.cells #[.int .i64 (k 0),.int .i64 (k 1),.int .i64 (k 2),.int .i64 (k 3),.int .i64 (k 4),.int .i64 (k 5),.int .i64 (k 6)] 73)) w.heap.size k:=⟨heap_alloc_new w _⟩;have hch:=(ACh.refl q w).alloc (.cells #[.int .i64 (k 0),.int .i64 (k 1),.int .i64 (k 2),.int .i64 (k 3),.int .i64 (k 4),.int .i64 (k 5),.int .i64 (k 6)] 73);have hqn:q≠w.heap.size:=Nat.ne_of_lt hO.lt;clear hO hk;go_enter Tryz.func184,Tryz.ntmps184;go_wp2_with fail;generalize w.alloc (.cells #[.int .i64 (k 0),.int .i64 (k 1),.int .i64 (k 2),.int .i64 (k 3),.int .i64 (k 4),.int .i64 (k 5),.int .i64 (k 6)] 73)=W at *;generalize w.heap.size=rb at *;have c0:W.cell? ⟨q,0,none⟩=some (.int .i64 o.id):=hoa.cell 0
 have r4:W.cell? ⟨rb,4,none⟩=some (.int .i64 (k 4)):=hrb.cell 4;have hql:=hoa.lt;have hrl:=hrb.lt;have hqW:q≠W.heap.size:=Nat.ne_of_lt hql;have hrW:rb≠W.heap.size:=Nat.ne_of_lt hrl;have HOA:=hid hoa;have HRB:=hid hrb;have HCH:=hid hch;have HOP:Hid (∀X,Same W X→Calls Tryz.prog 124 #[.pointer (some ⟨q,0,none⟩)] X fun en w1=>en=.returned (.int .i64 (o.qty - o.filled))∧w1.cell? ⟨q,0,none⟩=some (.int .i64 o.id)∧w1.cell? ⟨rb,4,none⟩=some (.int .i64 (k 4))∧w1.heap.size≠q∧w1.heap.size≠rb∧Hid (OA w1 q 0 o∧RB w1 rb k∧ACh q w w1)):=by
  intro X hX;refine(zAi (hoa.same hX) HKK.out.opn).mono ?_;rintro en w1 ⟨rfl,hs1⟩;have hs2:=hX.trans hs1;exact⟨rfl,(hoa.same hs2).cell 0,(hrb.same hs2).cell 4,(Nat.ne_of_lt (hoa.same hs2).lt).symm,(Nat.ne_of_lt (hrb.same hs2).lt).symm,hoa.same hs2,hrb.same hs2,hch.same hs2⟩
 have HOPD:Hid (∀X,OA X q 0 o→Calls Tryz.prog 124 #[.pointer (some ⟨q,0,none⟩)] X fun en w1=>en=.returned (.int .i64 (o.qty - o.filled))∧∃m,w1=X.drewN m):=fun X hX=>zCa hX HKK.out.opn
 clear hoa hrb hch;have n1:=World.new_ne W _ (hid c0).out;have n2:=World.new_ne W _ (hid r4).out;go_region_held3(fun X=>X.cell? ⟨q,0,none⟩=some (.int .i64 o.id)∧X.cell? ⟨rb,4,none⟩=some (.int .i64 (k 4))) (go_keep) (first|(go_at_call 124;refine(HOP.out W.drew (Same.refl W).drew).mono ?_;rintro en w1 ⟨rfl,d0,s4,n3,n4,HS1⟩)|(go_at_call 124;refine(HOPD.out _ (HOA.out.alloc _).drew).mono ?_;rintro en w1 ⟨rfl,m,rfl⟩));all_goals(
  first
  |(have HD:=hid (zCb (w:=w) 7 0 o.id 0 (k 4) (o.qty - o.filled) 0 HS1.out.1 HS1.out.2.1 HS1.out.2.2)
    generalize w1.alloc (.cells #[.int .i64 7,.int .i64 0,.int .i64 o.id,.int .i64 0,.int .i64 (k 4),.int .i64 (o.qty - o.filled),.int .i64 0] 73)=Y at *;generalize w1.heap.size=db at *)
  |(have HD:=hid (zHk (w:=w) 7 0 o.id 0 (k 4) (o.qty - o.filled) 0 (1+m) HOA.out HRB.out HCH.out)
    generalize (((((((((W.alloc (.cells #[.int .i64 0,.int .i64 0,.int .i64 0,.int .i64 0,.int .i64 0,.int .i64 0,.int .i64 0] 73)).drewN (1+m)).setCell ⟨W.heap.size,0,none⟩ (.int .i64 7)).setCell ⟨W.heap.size,1,none⟩ (.int .i64 0)).setCell ⟨W.heap.size,2,none⟩ (.int .i64 o.id)).setCell ⟨W.heap.size,3,none⟩ (.int .i64 0)).setCell ⟨W.heap.size,4,none⟩ (.int .i64 (k 4))).setCell ⟨W.heap.size,5,none⟩ (.int .i64 (o.qty - o.filled))).setCell ⟨W.heap.size,6,none⟩ (.int .i64 0))=Y at *;generalize W.heap.size=db at *)
  have y0:Y.cell? ⟨rb,0,none⟩=some (.int .i64 (k 0)):=HD.out.rb.cell 0;have y1:Y.cell? ⟨rb,1,none⟩=some (.int .i64 (k 1)):=HD.out.rb.cell 1;have y2:Y.cell? ⟨rb,2,none⟩=some (.int .i64 (k 2)):=HD.out.rb.cell 2;have y3:Y.cell? ⟨rb,3,none⟩=some (.int .i64 (k 3)):=HD.out.rb.cell 3;have y4:Y.cell? ⟨rb,4,none⟩=some (.int .i64 (k 4)):=HD.out.rb.cell 4;have y5:Y.cell? ⟨rb,5,none⟩=some (.int .i64 (k 5)):=HD.out.rb.cell 5;have y6:Y.cell? ⟨rb,6,none⟩=some (.int .i64 (k 6)):=HD.out.rb.cell 6;have z0:Y.cell? ⟨db,0,none⟩=some (.int .i64 7):=HD.out.db.cell 0;have z1:Y.cell? ⟨db,1,none⟩=some (.int .i64 0):=HD.out.db.cell 1;have z2:Y.cell? ⟨db,2,none⟩=some (.int .i64 o.id):=HD.out.db.cell 2;have z3:Y.cell? ⟨db,3,none⟩=some (.int .i64 0):=HD.out.db.cell 3;have z4:Y.cell? ⟨db,4,none⟩=some (.int .i64 (k 4)):=HD.out.db.cell 4;have z5:Y.cell? ⟨db,5,none⟩=some (.int .i64 (o.qty - o.filled)):=HD.out.db.cell 5
  have z6:Y.cell? ⟨db,6,none⟩=some (.int .i64 0):=HD.out.db.cell 6;have x2:Y.cell? ⟨q,2,none⟩=some (.int .i64 o.typ):=HD.out.oa.cell 2;have x3:Y.cell? ⟨q,3,none⟩=some (.int .i64 o.price):=HD.out.oa.cell 3;have x11:Y.cell? ⟨q,11,none⟩=some (.int .i64 o.shown):=HD.out.oa.cell 11;have f3:=HD.out.oa.froz 3;have f11:=HD.out.oa.froz 11;try clear d0 s4 n3 n4 HS1
  clear HOP HOPD HOA HRB HCH c0 r4 n1 n2 hql hrl hqW hrW;have e2:=E2.out;have e3:=E3.out;have e4:=E4.out;go_wp2_with fail;go_quiet (fail);go_wp2_with fail;have HY:Hid (DueR q rb db o k (dueF 7 0 o.id 0 (k 4) (o.qty - o.filled) 0) w (Y.drewN nq)):=⟨HD.out.oa.same ((Same.refl Y).drewN nq),HD.out.rb.same ((Same.refl Y).drewN nq),HD.out.db.same ((Same.refl Y).drewN nq),HD.out.chg.same ((Same.refl Y).drewN nq)⟩;clear hneq e2 e3 e4 x2 x3 x11 y0 y1 y2 y3 y4 y5 y6 z0 z1 z2 z3 z4 z5 z6 f3 f11 HD;generalize Y.drewN nq=Z at *;have y4:Z.cell? ⟨rb,4,none⟩=some (.int .i64 (k 4)):=HY.out.rb.cell 4;have y5:Z.cell? ⟨rb,5,none⟩=some (.int .i64 (k 5)):=HY.out.rb.cell 5;have x3:Z.cell? ⟨q,3,none⟩=some (.int .i64 o.price):=HY.out.oa.cell 3;have x11:Z.cell? ⟨q,11,none⟩=some (.int .i64 o.shown):=HY.out.oa.cell 11;have f3:=HY.out.oa.froz 3;have f11:=HY.out.oa.froz 11;go_region_law(fail);all_goals(
   go_wp2;go_ret;exact⟨rfl,hid ⟨HY.out.oa.drew.wr2 3 (.int .i64 (k 4)) { o with price:=k 4 } (by simp[Ord.code]) 11 (.int .i64 (k 5)) { o with price:=k 4,shown:=k 5 } (by simp[Ord.code]),((HY.out.chg.same (Same.refl Z).drew).set _ _).set _ _⟩⟩))
end
end Go.Proofs.YtanfmhonjpjpoaaGreatDoor
