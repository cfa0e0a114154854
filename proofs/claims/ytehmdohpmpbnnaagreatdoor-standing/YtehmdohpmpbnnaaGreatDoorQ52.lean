import Derived.Test.YtehmdohpmpbnnaaGreatDoorQ00
import Derived.Test.YtehmdohpmpbnnaaGreatDoorQ08
import Derived.Test.YtehmdohpmpbnnaaGreatDoorQ32
import Derived.Test.YtehmdohpmpbnnaaGreatDoorQ33
import Derived.Test.YtehmdohpmpbnnaaGreatDoorQ36
import Derived.Test.YtehmdohpmpbnnaaGreatDoorQ47
import Derived.Test.YtehmdohpmpbnnaaGreatDoorQ48
import Derived.Test.YtehmdohpmpbnnaaGreatDoorQ51
import Derived.Deep.RegionHeld3
set_option linter.all false
set_option maxRecDepth 100000
set_option maxHeartbeats 8000000
namespace Go.Proofs.YtehmdohpmpbnnaaGreatDoor
variable{b:Nat}{c:Array Value}
open Go.Proofs.Tryz
open Go.Extern Go.Maps Go.RowKit
section
variable {pr:Nat→Option (Array Value×TypeId)} {base:Nat} {w w':World} {ab lm em n:Nat}
theorem Same.below{a b:World}(h:Same a b)(m:Nat):Below m a b:=⟨h.os,h.tape,h.output,by rw[h.heap];exact Nat.le_refl _,fun k _=>by rw[h.heap]⟩
def lK(w:World)(b j:Nat):Int:=match w.cell? ⟨b,j,none⟩ with|some (.int .i64 x)=>x|_=>0
def vL(w:World)(b:Nat):Ord:=⟨lK w b 0,lK w b 1,lK w b 2,lK w b 4,lK w b 5,lK w b 6,lK w b 7,lK w b 8,1,lK w b 3,lK w b 4 - lK w b 10,lK w b 10,0,lK w b 11,lK w b 12⟩
def entIn(E:List (Int×List Int))(i:Nat):Ord:=match E[i]? with|some (a,[_,s,p,n,f,c,h])=>⟨a,0,0,0,0,0,0,0,s,p,n,f,c,h,0⟩|_=>ord0
theorem zNl{E:List (Int×List Int)}(h:∀p∈E,∃o:Ord,p=(o.id,o.state)):((List.range E.length).map fun i=>((entIn E i).id,(entIn E i).state))=E:=by
 apply List.ext_getElem?;intro i;by_cases A:i<E.length
 ·rw[List.getElem?_map,List.getElem?_range A,Option.map_some];obtain⟨o,B⟩:=h _ (List.getElem_mem A);have C:E[i]? =some (o.id,o.state):=by rw[List.getElem?_eq_getElem A,B]
  unfold entIn;rw[C];rfl
 rw[List.getElem?_eq_none (by simp;omega),List.getElem?_eq_none (by omega)]
theorem zNm{w:World}(h:∃o,OA w b 0 o∧qK o){W:World}(hb:Below w.heap.size w W):
 Cl 112 #[iP b,iV 1] W fun en w'=>en=.returned (.agg #[iV (vL w b).id,iV (vL w b).dm,iV (vL w b).bn,iV (vL w b).opn,iV (vL w b).bu,iV (vL w b).cancelled,iV (vL w b).bg])∧Below W.heap.size W w':=by
 obtain⟨o,A,C⟩:=h;have B:vL w b={ o with dm:=1,opn:=o.mg - o.bu,cancelled:=0 }:=by
  unfold vL lK;rw[A.cell 0,A.cell 1,A.cell 2,A.cell 3,A.cell 4,A.cell 5,A.cell 6,A.cell 7,A.cell 8,A.cell 10,A.cell 11,A.cell 12];rfl
 rw[B];exact zCg (o:=o) (A.below hb) C.opn
theorem zNn(h:AG pr base w ab lm em n)(hn:n≤100000000):∀Y,Same w Y→Cl 177 #[.map (some lm)] Y fun en w1=> ∃hb:Nat,en=.returned (.func (.func 195) #[] #[iP hb])∧w1.cell? (iA ab 0)=some (.map (some lm))∧w1.cell? (iA ab 1)=some (.map (some em))∧
 Hd (∀Z,Same w1 Z→Cl 176 #[.func (.func 195) #[] #[iP hb]] Z fun en w2=> ∃(p:Option Addr) (m c:Nat),en=.returned (.slice p m c)∧w2.cell? (iA ab 0)=some (.map (some lm))∧w2.cell? (iA ab 1)=some (.map (some em))∧
  Hd (∀U,Same w2 U→Cl 73 #[.slice p m c,.map (some em)] U fun en w3=> ∃g0 ml:Nat,en=.returned (sL g0 ml ml)∧w3.cell? (iA ab 0)=some (.map (some lm))∧w3.cell? (iA ab 1)=some (.map (some em))∧Hd (∃M:List Ord,M.length=ml∧M.length≤2*n∧w3.ownsRow w.heap.size 121 7 (sL g0 ml ml) ml (M.flatMap encS)∧Below w.heap.size w w3))):=by
 obtain⟨L,E,h⟩:=h;intro Y y;refine(zNk lm Y).mono ?_;rintro en w1 ⟨rfl,rfl⟩;have O:Bw Y (Y.alloc (.cells #[.map (some lm)] 89)):=(Below.refl _ Y).alloc (Nat.le_refl _) _;have k:=(h.same y).below O;have hc:=(Boxed.new Y 89 (.map (some lm)));have N:Bw w (Y.alloc (.cells #[.map (some lm)] 89)):=(y.below _).trans (O.mono (by rw[y.heap];exact Nat.le_refl _));refine⟨_,rfl,k.c0,k.c1,?_⟩;generalize Y.alloc (.cells #[.map (some lm)] 89)=w1 at *;intro Z f;have l:=k.same f;have T:Boxed Z Y.heap.size 89 (.map (some lm)):=by unfold Boxed;rw[f.heap];exact hc
 refine(zNj Y.heap.size lm L (fun p hp=>by obtain⟨q,o,F,_⟩:=l.jc p hp;exact⟨q,F⟩) (by have:=h.ll;omega) Z T.lt T.cell l.live).mono ?_;rintro en w2 ⟨v,B,ps,rfl,X,V,A,R⟩;have s:=l.below R;have t:Bw w w2:=(N.trans (f.below _)).trans (R.mono (by rw[f.heap];exact N.size));obtain⟨p,m,c,rfl,hm⟩:∃p m c,v=.slice p m c∧m=B.length:=by
  rcases A.2 with⟨rfl,K⟩|⟨g,C,D,rfl,_⟩
  ·exact⟨_,_,_,rfl,K.symm⟩
  exact⟨_,_,_,rfl,rfl⟩
 subst hm;refine⟨p,_,c,rfl,s.c0,s.c1,?_⟩;intro U u;have d:=s.same u;have H:Bw w U:=t.trans (u.below _);have I:U.ownsRow 0 200 1 (.slice p B.length c) B.length (B.map lU):=by
  have F:(B.map fun x=>Value.pointer (some (iA x 0)))=B.map lU:=rfl;rw[F]at A;refine⟨A.1,?_⟩;rcases A.2 with K|⟨g,C,D,J,hg,hh,r⟩
  ·exact .inl K
  exact .inr ⟨g,C,D,J,Nat.zero_le _,by rw[u.heap];exact hh,r⟩
 have z:∀b∈B,∃o,OA U b 0 o∧qK o:=fun b hb=>by
  have F:some b∈ps.map Prod.snd:=by rw[V];exact List.mem_map_of_mem hb
  obtain⟨x,hx,J⟩:=List.mem_map.1 F;obtain⟨q,o,e3,_,e4,e5⟩:=d.jc x (X.mem_iff.1 hx);have:b=q:=by rw[J]at e3;injection e3
  subst this;exact⟨o,e4,e5⟩
 have A0:B.length=L.length:=by
  have F:=congrArg List.length V;simp at F;rw[←F];exact X.length_eq
 refine(zCw B.length (B.map (vL U)) (by simp) B (List.range E.length) (entIn E) em p c rfl (by rw[zNl d.ents];exact d.ended) I (by have:=h.ll;omega) (by have:=h.el;simp;omega) ?_).mono ?_
 ·intro j b o hj i W hW;rw[List.getElem?_map,hj]at i;injection i with i;subst i;exact zNm (z b (List.mem_of_getElem? hj)) hW
 rintro en w3 ⟨g0,M,rfl,hM,_,G,S⟩;have A1:M.length=L.length+E.length:=by rw[hM.length_eq];simp[A0]
 have h5:=d.below S;refine⟨g0,M.length,rfl,h5.c0,h5.c1,M,rfl,by have:=h.ll;have:=h.el;omega,?_,H.trans (S.mono H.size)⟩;refine⟨G.1,?_⟩;rcases G.2 with K|⟨g,C,D,J,hg,r⟩
 ·exact .inl K
 exact .inr ⟨g,C,D,J,Nat.le_trans H.size hg,r⟩
end
section
variable {pr:Nat→Option (Array Value×TypeId)} {base:Nat} {w w':World} {ab lm em n:Nat}
def prOf(w:World)(b:Nat):Option (Array Value×TypeId):=match w.heap[b]? with
 |some (.cells c t (0,0))=>if t=55∨t=128 then some (c,t) else none
 |_=>none
theorem zDp{t:TypeId}(h:w.heap[b]? =some (.cells c t (0,0)))(ht:t=55∨t=128):prOf w b=some (c,t):=by
 unfold prOf;rw[h];simp only;rw[if_pos ht]
theorem zNo{t:TypeId}(h:prOf w b=some (c,t)):t≠202∧w.heap[b]? =some (.cells c t (0,0)):=by
 unfold prOf at h;split at h
 ·rename_i E F C;split at h
  ·rename_i D;injection h with h;injection h with A B;subst A B;refine⟨?_,C⟩;rcases D with rfl|rfl<;>decide
  cases h
 cases h
theorem AG.guard(h:AG pr base w ab lm em n):AG (prOf w) base w ab lm em n:=by
 obtain⟨L,E,h⟩:=h;exact⟨L,E,h.blk,h.live,h.ended,h.jc,h.ents,h.ne,h.lo,h.ll,h.el,fun b c t hb=>zNo hb⟩
theorem AG.row{t:TypeId}(h:AG pr base w ab lm em n)(hb:pr b=some (c,t)):w.heap[b]? =some (.cells c t (0,0)):=by
 obtain⟨L,E,h⟩:=h;exact(h.rows b c t hb).2
theorem zNp(s:ByteArray)(k:Nat):∀u∈qy s k,∃x:Int,u=iV x∧0≤x∧x≤4294967295:=fun u hu=>by
 simp only[qy,List.mem_flatMap,List.mem_map]at hu;obtain⟨i,_,x,hx,rfl⟩:=hu;refine⟨x,rfl,?_⟩;simp only[xA,List.mem_cons,List.not_mem_nil,or_false]at hx;have key:∀p a n,n≤4→0≤xh s p a n∧xh s p a n≤4294967295:=fun p a n h=>by have:=zAn s p a n h;omega
 rcases hx with rfl|rfl|rfl|rfl|rfl|rfl|rfl<;>exact key _ _ _ (by omega)
theorem wM{B g k cap:Nat}{s:ByteArray}(h:w.ownsRow B 55 7 (sL g k cap) k (qy s k))(j:Nat)(hj:j<k*7):∃x:Int,w.cell? (iA g j)=sI x∧0≤x∧x≤4294967295:=by
 have C:=h.cellAt j hj;have F:=h.1;have A:j<(qy s k).length:=by omega
 rw[List.getElem?_eq_getElem A]at C;obtain⟨x,E,D⟩:=zNp s k _ (List.getElem_mem A);exact⟨x,by rw[C,E],D⟩
theorem zNq(k i:Nat)(h:i<k):k - (intOf (iV ((i:Int)+1))).toNat<k - (intOf (iV (i:Int))).toNat:=by
 simp[intOf];omega
def seven(x0 x1 x2 x3 x4 x5 x6:Int):Nat→Int
 |0=>x0|1=>x1|2=>x2|3=>x3|4=>x4|5=>x5|6=>x6|_=>0
def ARes(ad:Nat→Addr)(w:World)(e:Ending)(w':World):Prop:=Below w.heap.size w w'∧
 ((∃(j b:Nat) (pl:Int),j<8∧e=rV #[.slice none 0 0,.iface 124 (iP b)]∧w'.cell? (iA b 0)=sI pl∧w'.cell? (iA b 1)=some (.iface 309 (.pointer (some (ad j)))))∨
  ∃g0 ml:Nat,e=rV #[sL g0 ml ml,.nilIface]∧∃M:List Ord,M.length=ml∧ml≤100000000∧w'.ownsRow w.heap.size 121 7 (sL g0 ml ml) ml (M.flatMap encS))
theorem zNr(ad:Nat→Addr)(st:Nat→ByteArray)(s:ByteArray)(w:World)(hE:lq w ad st)(hm:s.size≤100000000):
 Cl 143 #[.string s] w fun e w'=>ARes ad w e w':=by
 have HM:=mkM;have Aa:=mkE;have A3:AG (fun _=>none) w.heap.size (((w.alloc (.map #[] 0)).alloc (.map #[] 0)).alloc (.cells #[.map (some w.heap.size),.map (some (w.heap.size+1))] 271)) (w.heap.size+1+1) w.heap.size (w.heap.size+1) 0:=by
  have b0:(((w.alloc (.map #[] 0)).alloc (.map #[] 0)).alloc (.cells #[.map (some w.heap.size),.map (some (w.heap.size+1))] 271)).heap[w.heap.size]? =some (.map #[] 0):=sU (sU (pR rfl));have b1:(((w.alloc (.map #[] 0)).alloc (.map #[] 0)).alloc (.cells #[.map (some w.heap.size),.map (some (w.heap.size+1))] 271)).heap[w.heap.size+1]? =some (.map #[] 0):=sU (pR (by simp));refine⟨[],[],pR (by simp),zAz jf b0,zAz dJ b1,(fun p l=>by cases l),(fun p l=>by cases l),by omega,⟨by omega,by omega,by omega⟩,Nat.le_refl _,Nat.le_refl _,(fun b c t hb=>by cases hb)⟩
 have S:Below w.heap.size w (((w.alloc (.map #[] 0)).alloc (.map #[] 0)).alloc (.cells #[.map (some w.heap.size),.map (some (w.heap.size+1))] 271)):=((Grow.refl w).alloc _).alloc _ |>.alloc _;have A1:=hid (zJj ad st s _ (hE.below S) (by omega));have I:=hid (And.intro A3 S);have R:Hd (∀X,Below w.heap.size w X→lq X ad st):=fun X hX=>hE.below hX
 clear A3 S hE;go_enter func143,ntmps143;go_wp2_with fail;clear HM Aa;generalize hW0:((w.alloc (.map #[] 0)).alloc (.map #[] 0)).alloc (.cells #[.map (some w.heap.size),.map (some (w.heap.size+1))] 271)=W0 at *;clear hW0;refine A1.mono ?_;rintro e u ⟨k,v,Ag,rfl,hk,T,H,A7⟩;have J:Hd (AG (prOf u) w.heap.size u (w.heap.size+1+1) w.heap.size (w.heap.size+1) 0∧Below w.heap.size w u):=⟨(I.1.below T).guard,I.2.trans (T.mono I.1.lw)⟩;have C:=hid H;have A2:=hid A7;obtain⟨p,c,rfl,l⟩:∃p c,v=.slice p k c∧(k=0∨∃g,p=some (iA g 0)):=by
  rcases H.2 with⟨rfl,h⟩|⟨g,N,O,rfl,_⟩
  ·exact⟨_,_,by rw[h],.inl h⟩
  exact⟨_,_,rfl,.inr ⟨g,rfl⟩⟩
 have HP:=hid l;clear T H A7 A1 I l;generalize hab:w.heap.size+1+1=ab at *;generalize hem:w.heap.size+1=em at *;clear hab hem;have HK:Hd (22*k≤100000000):=Nat.le_trans hk hm;clear hk hm;go_wp2_with fail;go_loopw [22] (fun iv wr=> ∃i:Nat,iv=iV i∧i≤k∧Hd (AG (prOf u) w.heap.size wr ab w.heap.size em (2*i)∧Below w.heap.size w wr)) (fun iv _=>k - (intOf iv).toNat)
 case atStart=>exact⟨0,rfl,Nat.zero_le _,J.o⟩
 case round=>
  obtain⟨i,rfl,hi,L⟩:=hrel;by_cases A6:i<k
  ·have Ad:(i:Int)<(k:Int):=by omega
   have Af:wrap64 ((i:Int)+1)=(i:Int)+1:=by have:=HK.o;unfold wrap64;omega
   obtain⟨g,rfl⟩:=HP.o.resolve_left (by omega);have D:wr.ownsRow W0.heap.size 55 7 (sL g k c) k (qy s k):=by
    refine⟨C.1,?_⟩;rcases C.o.2 with h|⟨g',N,O,e2,hg,hh,r⟩
    ·exact .inl h
    exact .inr ⟨g',N,O,e2,hg,L.1.row (zDp hh (.inl rfl)),r⟩
   obtain⟨x,c0,d0⟩:=wM D (i*7+0) (by omega);obtain⟨y,c1,d1⟩:=wM D (i*7+1) (by omega);obtain⟨z,c2,d2⟩:=wM D (i*7+2) (by omega);obtain⟨x3,c3,d3⟩:=wM D (i*7+3) (by omega);obtain⟨x4,c4,d4⟩:=wM D (i*7+4) (by omega);obtain⟨x5,c5,d5⟩:=wM D (i*7+5) (by omega);obtain⟨x6,c6,d6⟩:=wM D (i*7+6) (by omega);rw[Nat.add_zero]at c0;have A5:KOk (seven x y z x3 x4 x5 x6):=fun j=>by
    match j with
    |0=>exact d0
    |1=>exact d1
    |2=>exact d2
    |3=>exact d3
    |4=>exact d4
    |5=>exact d5
    |6=>exact d6
    |_+7=>exact⟨Int.le_refl _,by show(0:Int)≤4294967295;omega⟩
   have A:Below wr.heap.size wr (wr.alloc (.cells #[iV x,iV y,iV z,iV x3,iV x4,iV x5,iV x6] 55)):=(Below.refl _ wr).alloc (Nat.le_refl _) _;have F:Hd (Below w.heap.size w (wr.alloc (.cells #[iV x,iV y,iV z,iV x3,iV x4,iV x5,iV x6] 55))):=L.2.trans (A.mono L.1.lw);have HT:Hd (Cl 175 #[iP ab,iV ((i:Int)+1),bM x y z x3 x4 x5 x6] (wr.alloc (.cells #[iV x,iV y,iV z,iV x3,iV x4,iV x5,iV x6] 55)) fun f w'=>Tk ad f∧Hd (AG (prOf u) w.heap.size w' ab w.heap.size em (2*(i+1))∧Below w.heap.size w w')):=by
    have h5:=zKl ad st ((i:Int)+1) (seven x y z x3 x4 x5 x6) A5 (L.1.below A) (by have:=HK.o;omega) (R.o _ F.o) (fun X hX=>R.o X (F.trans hX));refine h5.mono ?_;rintro f w' ⟨t1,t2,t3⟩;exact⟨t1,t2,F.trans t3⟩
   clear D d0 d1 d2 d3 d4 d5 d6 A5 A F HP C A2 J;go_wp2_with fail;refine HT.mono ?_;rintro f Z ⟨hT,d⟩;clear HT c0 c1 c2 c3 c4 c5 c6;have A0:Hd (w.heap.size≤Z.heap.size):=d.2.size;rcases hT with rfl|rfl|rfl
   ·go_wp2;go_roundw
    case rel=>exact⟨i+1,by go_num,A6,d⟩
    case measure=>
     rw[Af];exact zNq k i A6
   ·go_wp2;go_ret2;exact⟨d.2.alloc A0.o _,.inl ⟨6,Z.heap.size,(i:Int)+1,by omega,rfl,by simp,by simp⟩⟩
   go_wp2;go_ret2;exact⟨d.2.alloc A0.o _,.inl ⟨7,Z.heap.size,(i:Int)+1,by omega,rfl,by simp,by simp⟩⟩
  have Ae:i=k:=by omega
  subst Ae;have Ad:¬(i:Int)<(i:Int):=by omega
  have G:Below wr.heap.size wr (wr.alloc (.cells #[.pointer none] 124)):=(Below.refl _ wr).alloc (Nat.le_refl _) _;have B:Hd (AG (prOf u) w.heap.size (wr.alloc (.cells #[.pointer none] 124)) ab w.heap.size em (2*i)∧Below w.heap.size w (wr.alloc (.cells #[.pointer none] 124))):=⟨L.1.below G,L.2.trans (G.mono L.1.lw)⟩;have A:=Boxed.new wr 124 (.pointer none);have F:=hid A;have Ab:Hd (w.heap.size≤wr.heap.size):=L.1.lw;have Y:w.heap.size≤wr.heap.size:=Ab.o;rcases A2.o with rfl|⟨j,b,pl,hj,rfl,Ac⟩
  ·have HC:=hid (zNn B.1 (by have:=HK.o;omega));have a0:=B.1.c0;have a1:=B.1.c1;have E:=hid (zEj (.iface 126 (iP wr.heap.size)) (wr.alloc (.cells #[.pointer none] 124)));clear G J C HP A Y;go_wp2_with fail;refine E.mono ?_;rintro e Z ⟨rfl,rfl⟩;clear E;generalize wr.alloc (.cells #[.pointer none] 124)=W at *;generalize hrb:wr.heap.size=rb at *;clear hrb;go_wp2_with fail;go_region_held3(fun X=>X.cell? (iA ab 0)=some (.map (some w.heap.size))∧X.cell? (iA ab 1)=some (.map (some em))) (go_keep) (first
    |(go_at_call 177;refine(HC.o _ (by first|exact(Same.refl W).drew|exact(Same.refl W).drewN _)).mono ?_;rintro f w3 ⟨hb,rfl,e0,e1,A8⟩)
    |(go_at_call 176;refine(A8.o _ (by first|exact Same.refl w3|exact(Same.refl w3).drew|exact(Same.refl w3).drewN _)).mono ?_;rintro f w4 ⟨q,m,c',rfl,f0,f1,A9⟩)
    |(go_at_call 73;refine(A9.o _ (by first|exact Same.refl w4|exact(Same.refl w4).drew|exact(Same.refl w4).drewN _)).mono ?_;rintro f w5 ⟨g0,ml,rfl,k0,k1,d⟩))
   all_goals(
    go_wp2;go_ret2;obtain⟨M,m1,m2,m3,m4⟩:=d.o;refine⟨B.2.trans (m4.mono B.1.lw),.inr ⟨g0,ml,rfl,M,m1,by have:=HK.o;omega,?_⟩⟩;refine⟨m3.1,?_⟩;rcases m3.2 with h|⟨g',N,O,e2,hg,r⟩
    ·exact .inl h
    exact .inr ⟨g',N,O,e2,Nat.le_trans B.1.lw hg,r⟩)
  have V:=L.1.row (zDp Ac (.inr rfl));have U:b<wr.heap.size:=(Array.getElem?_eq_some_iff.1 V).1;have E:Hd (Cl 53 #[.iface 124 (iP b),.iface 126 (iP wr.heap.size)] (wr.alloc (.cells #[.pointer none] 124)) fun ev w'=>ev=rB true∧w'.cell? (iA wr.heap.size 0)=some (iP b)∧w'.cell? (iA b 0)=sI pl∧w'.cell? (iA b 1)=some (.iface 309 (.pointer (some (ad j))))∧Hd (Below w.heap.size w w')):=by
   refine(zBk (iA b 0) (iA wr.heap.size 0) (.pointer none) _ (R.o _ B.2).handle A.cell A.frozen).mono ?_;rintro ev w' ⟨rfl,h1,h2⟩;have A4:w'.heap[b]? =some (.cells #[iV pl,.iface 309 (.pointer (some (ad j)))] 128 (0,0)):=by
    rw[h2.block b U,G.block b U];exact V
   exact⟨rfl,h1,by simp[World.cell?,A4],by simp[World.cell?,A4],B.2.trans (h2.mono Y)⟩
  clear G J C HP A Y V U;go_wp2_with fail;refine E.mono ?_;rintro e Z ⟨rfl,h1,h2,h3,K⟩;clear E;generalize wr.heap.size=rb at *;go_wp2_with fail;go_region_held3(fun X=>X.cell? (iA rb 0)=some (iP b)∧X.cell? (iA b 0)=sI pl∧X.cell? (iA b 1)=some (.iface 309 (.pointer (some (ad j))))) (go_keep) (fail);all_goals(
   go_wp2;go_ret2;refine⟨?_,.inl ⟨j,Z.heap.size,IntKind.i64.wrap (pl+1),hj,rfl,by simp,by simp⟩⟩
   first
   |exact K.alloc K.size _
   |exact(K.trans ((Same.refl Z).drew.below _)).alloc K.size _)
end
theorem fifteen{α:Type}:∀{xs:List α},15≤xs.length→∃a0 a1 a2 a3 a4 a5 a6 a7 a8 a9 a10 a11 a12 a13 a14 r,xs=a0::a1::a2::a3::a4::a5::a6::a7::a8::a9::a10::a11::a12::a13::a14::r:=by
 intro xs h;rcases xs with _|⟨a0,_|⟨a1,_|⟨a2,_|⟨a3,_|⟨a4,_|⟨a5,_|⟨a6,_|⟨a7,_|⟨a8,_|⟨a9,_|⟨a10,_|⟨a11,_|⟨a12,_|⟨a13,_|⟨a14,r⟩⟩⟩⟩⟩⟩⟩⟩⟩⟩⟩⟩⟩⟩⟩;all_goals first
  |exact⟨_,_,_,_,_,_,_,_,_,_,_,_,_,_,_,_,rfl⟩
  |(simp at h;done)
  |(simp at h;omega)
theorem zDq:∀(m:Nat) (xs:List Value),xs.length=m*15→(∀u∈xs,∃x,u=iV x)→∃l:List Ord,l.length=m∧rows l=xs
 |0,xs,h,_=>⟨[],rfl,by
  have e:xs= []:=List.eq_nil_of_length_eq_zero (by omega);rw[e];rfl⟩
 |m+1,xs,h,hx=>by
  obtain⟨a0,a1,a2,a3,a4,a5,a6,a7,a8,a9,a10,a11,a12,a13,a14,r,rfl⟩:=fifteen (xs:=xs) (by omega);obtain⟨x0,rfl⟩:=hx a0 (by simp);obtain⟨x1,rfl⟩:=hx a1 (by simp);obtain⟨x2,rfl⟩:=hx a2 (by simp);obtain⟨x3,rfl⟩:=hx a3 (by simp);obtain⟨x4,rfl⟩:=hx a4 (by simp);obtain⟨x5,rfl⟩:=hx a5 (by simp);obtain⟨x6,rfl⟩:=hx a6 (by simp);obtain⟨x7,rfl⟩:=hx a7 (by simp);obtain⟨x8,rfl⟩:=hx a8 (by simp);obtain⟨x9,rfl⟩:=hx a9 (by simp);obtain⟨x10,rfl⟩:=hx a10 (by simp);obtain⟨x11,rfl⟩:=hx a11 (by simp);obtain⟨x12,rfl⟩:=hx a12 (by simp);obtain⟨x13,rfl⟩:=hx a13 (by simp);obtain⟨x14,rfl⟩:=hx a14 (by simp);obtain⟨l,hl,hr⟩:=zDq m r (by simp only[List.length_cons]at h;omega) (fun u hu=>hx u (by simp[hu]));exact⟨⟨x0,x1,x2,x3,x4,x5,x6,x7,x8,x9,x10,x11,x12,x13,x14⟩::l,by rw[List.length_cons,hl],by rw[←hr];rfl⟩
theorem SR.orders{base:Nat}{w:World}{v:Value}{m:Nat}(h:SR base w v m):∃l:List Ord,l.length=m∧OR base w v l:=by
 obtain⟨E,A,C⟩:=h;obtain⟨l,B,D⟩:=zDq m E A.1 C;refine⟨l,B,?_⟩;unfold OR;rw[B,D];exact A
def PRes(w:World)(e:Ending)(w':World):Prop:=Below w.heap.size w w'∧
 ((∃n pl:Int,n≠0∧e=.returned (.tuple #[.slice none 0 0,.int .i64 n,.int .i64 pl]))∨
  ∃g0 ml:Nat,e=.returned (.tuple #[.slice (some ⟨g0,0,none⟩) ml ml,.int .i64 0,.int .i64 (-1)])∧∃M:List Ord,M.length=ml∧ml≤100000000∧w'.ownsRow w.heap.size 121 7 (.slice (some ⟨g0,0,none⟩) ml ml) ml (M.flatMap encS))
theorem zNs(ad:Nat→Addr)(st:Nat→ByteArray)(s:ByteArray)(w:World)(hE:lq w ad st)(hm:s.size≤100000000):
 Cl 104 #[.string s] w fun e w'=>ARes ad w e w':=by
 have C:=hid (zNr ad st s w hE hm);clear hE hm;go_enter func104,ntmps104;go_wp2_with fail;refine C.mono ?_;rintro e K ⟨B,⟨j,b,J,G,rfl,D,E⟩|⟨H,I,rfl,F⟩⟩
 ·have A:=hid (And.intro B (And.intro G (And.intro D E)));clear B G D E C;go_wp2;go_ret2;exact⟨A.1,.inl ⟨j,b,J,A.2.1,rfl,A.2.2⟩⟩
 have A:=hid (And.intro B F);clear B F C;go_wp2;go_ret2;exact⟨A.1,.inr ⟨H,I,rfl,A.2⟩⟩
theorem zNt(ad:Nat→Addr)(st:Nat→ByteArray)(s:ByteArray)(w:World)(hE:lq w ad st)(hm:s.size≤100000000):
 Cl 68 #[.string s] w fun e w'=>PRes w e w':=by
 have D:=hid (zNs ad st s w hE hm);have E:Hd (∀X,Bw w X→lq X ad st):=fun X hX=>hE.below hX
 clear hE hm;go_enter func68,ntmps68;go_wp2_with fail;refine D.mono ?_;rintro e N ⟨A,⟨j,b,M,L,rfl,I,J⟩|⟨S,T,rfl,K⟩⟩
 ·have G:=hid (wZ ad st j L b 0 M N (E.o N A) I J);have F:=hid A;have R:Hd (((j:Int)+1)≠0):=by show _≠_;omega
  clear A L I J D E;generalize (j:Int)+1=nn at *;go_wp2_with fail;refine G.mono ?_;rintro e O ⟨rfl,B⟩;have C:Hd (Bw w O):=F.trans (B.mono F.size);clear B G;go_wp2;go_ret3;exact⟨C.o,.inl ⟨nn,M,R.o,rfl⟩⟩
 have H:=hid (And.intro A K);clear A K D E;go_wp2_with fail;refine(kR _).mono ?_;rintro e O ⟨rfl,rfl⟩;go_wp2;go_ret3;exact⟨H.1,.inr ⟨S,T,rfl,H.2⟩⟩
theorem zNu{w0:World}(ad:Nat→Addr)(st:Nat→ByteArray)(hE:lq w0 ad st):oM w0:=by
 intro w n V left t h hn ht;obtain⟨A,G,h,I⟩:=h;have O:=hid (zNt ad st t w (hE.below h.low) ht);have D:Hd (∀W,Cl 69 #[.string t] W fun e w'=>AudBack W e w'):=fun W=>zMf t W ht
 have X:Hd (wu A G w0 w n V left):=h;have B:Hd (∀p∈G,p.all.size≤sizes V):=I;have N:=hid hn;clear h I hn ht hE;go_enter func39,ntmps39;go_wp2_with fail;refine O.mono ?_;rintro e w1 ⟨E,⟨nn,pl,A6,rfl⟩|⟨g0,F,rfl,hM⟩⟩
 ·have C:Hd (wu A G w0 w1 n V left):=X.below E;clear E O X;go_wp2_with fail;refine(D.o w1).mono ?_;rintro e U ⟨v,m,y,k2,rfl,q,h2,H⟩;have L:Hd (Next w0 U n):=St.next ⟨A,G,C.below H,B.o⟩;clear q h2 H C D B N;cases k:(nn != y)
  ·have e2:nn=y:=by simpa using k
   subst e2;cases e3:(pl == k2)
   ·go_wp2;go_ret;exact⟨⟨_,rfl⟩,L.o⟩
   go_wp2;go_ret;exact⟨⟨_,rfl⟩,L.o⟩
  go_wp2;go_ret;exact⟨⟨_,rfl⟩,L.o⟩
 have C:Hd (wu A G w0 w1 n V left):=X.below E;have K:=hid hM;have J:=hid E;clear E O hM;go_wp2_with fail;refine(D.o w1).mono ?_;rintro e U ⟨v,m,y,k2,rfl,q,h2,H⟩;have S:Hd (wu A G w0 U n V left):=C.below H;have A0:Hd (Bw w U):=J.trans (H.mono J.size);by_cases k:y=0
 ·subst k;obtain⟨M,m1,m2,m3⟩:=K.o;have b:Hd (mZ w.heap.size U (some (iA g0 0)) F F M):=(mZ.of m1.symm m3).below H;have Y:Hd (M.length=F∧F≤100000000):=⟨m1,m2⟩;obtain⟨l,hl,T⟩:=q.orders;have HL:Hd (l.length≤100000000):=by show _≤_;omega
  have d:=hid (zDn w1.heap.size U v l T (by omega));obtain⟨pv,nv,cv,rfl⟩:∃pl nl cl,v=.slice pl nl cl:=by
   rcases T.2 with⟨rfl,_⟩|⟨g,A4,A5,h,_⟩
   ·exact⟨_,_,_,rfl⟩
   exact⟨_,_,_,h⟩
  have A1:Hd (w0.heap.size<w.heap.size):=X.lt;have i:Hd (∀g,w.heap.size≤g→A g=.own):=X.tup;clear q h2 H m1 m2 m3 hl T K C J D X;go_wp2_with fail;refine d.mono ?_;rintro en w3 ⟨pb,mb,cb,rfl,HZ⟩;have c:Hd (wu A G w0 w3 n V left):=S.below HZ.2;have R:Hd (mZ w.heap.size w3 (some (iA g0 0)) F F M):=b.below HZ.2;have f:=hid (zDm (by have:=Y.o;omega) (by have:=HL.o;omega) R.o HZ.1);clear d b S A0;go_wp2_with fail;refine f.mono ?_;rintro en w4 ⟨⟨r,rfl,hr⟩,j,rfl⟩;have A3:Hd (wu A G w0 (w3.drewN j) n V left):=c.drewN j;have A2:Hd (mZ w.heap.size (w3.drewN j) (some (iA g0 0)) F F M):=R.below ⟨rfl,rfl,rfl,Nat.le_refl _,fun _ _=>rfl⟩;clear hr f R c;have u:F≤1000000000:=by have:=Y.o;omega
  have Z:=hid (vK A3.o N.o (some (iA g0 0)) F (stX M) u (A2.free A1.o i.o) (fun e=>by cases e));clear u;go_wp2_with fail;refine Z.mono ?_;rintro en w5 ⟨rfl,⟨z,s⟩,x⟩;have L:Hd (Next w0 w5 n):=Next.of ⟨z,G,s,B.o⟩;clear s x Z;go_wp2;go_ret;exact⟨⟨_,rfl⟩,L.o⟩
 have e2:((0:Int) != y)=true:=by simp;exact fun h=>k h.symm
 have L:Hd (Next w0 U n):=St.next ⟨A,G,S.o,B.o⟩;clear q h2 H C D B N K k;go_wp2;go_ret;exact⟨⟨_,rfl⟩,L.o⟩
end Go.Proofs.YtehmdohpmpbnnaaGreatDoor
