import Derived.Test.YtehmdohpmpbnnaaGreatDoorQ00
import Derived.Test.YtehmdohpmpbnnaaGreatDoorQ12
import Derived.Test.YtehmdohpmpbnnaaGreatDoorQ14
import Derived.Test.YtehmdohpmpbnnaaGreatDoorQ25
import Derived.Deep.LoopGhost
set_option linter.all false
set_option maxRecDepth 100000
set_option maxHeartbeats 8000000
namespace Go.Proofs.YtehmdohpmpbnnaaGreatDoor
variable{e:bf}{i:Nat}{o:Ord}
open Go.Proofs.Tryz
open Go.Extern Go.RowKit
theorem rM{B:Nat}{w w':World}(h:Below B w w')(n:Nat):Below B w (w'.drewN n):=⟨h.os,h.tape,h.output,h.size,h.block⟩
namespace bf
def aK(e:bf)(k:Nat):bf:=(List.range k).foldl gm e
theorem followTo_succ(e:bf)(k:Nat):aK e (k+1)=gm (aK e k) k:=by
 unfold aK;rw[List.range_succ,List.foldl_append];rfl
theorem followTo_all(e:bf):aK e e.all.length=e.follow:=rfl
theorem followTo_inv(h:fe e)(k:Nat):fe (aK e k)∧ng e (aK e k):=qM _ (fun e i h=>mH h i) jJ _ e h
theorem followTo_grew(h:fe e)(k:Nat)(hk:k≤e.all.length):jv 64 0 e (aK e k):=by
 have:=nM gm (fun e i=>by
  rcases zq e i with B|⟨o,D,E,G,F,⟨B,A⟩|⟨B,A⟩⟩
  ·rw[B];exact(jv.refl e).mono (Nat.zero_le _) (Int.le_refl _)
  ·have C:aN e i=true:=by unfold aN;rw[D];simp[E]
   rw[C,A];exact jv.park _ _ _
  ·have C:aN e i=true:=by unfold aN;rw[D];simp[E]
   rw[C,A];exact jv.move _ _ _ _) (fun e i j hne=>by
  rcases zq e i with B|⟨o,D,E,G,F,⟨B,A⟩|⟨B,A⟩⟩
  ·rw[B]
  ·rw[A];exact nN (upd_ne _ _ _ _ hne)
  rw[A];exact nN (upd_ne _ _ _ _ hne)) (List.range k) List.nodup_range e
 have A:=count_le (aN e) (range_sub hk);rw[count_range]at A;exact this.mono (by have:=h.live;have:=h.mo1;omega) (by omega)
def xw(side:Int)(l:List Ord)(k:Nat):Int:=qw side (l.take k)
theorem bestTo_succ(side:Int)(l:List Ord)(k:Nat)(x:Ord)(h:l[k]? =some x):xw side l (k+1)=if x.side=side∧x.typ≠3∧0<x.bg∧(xw side l k=0∨(side=1∧xw side l k<x.bn)∨(side=2∧x.bn<xw side l k)) then x.bn else xw side l k:=by
 unfold xw qw;rw[List.take_add_one,h,List.foldl_append];rfl
theorem bestTo_all(side:Int)(l:List Ord):xw side l l.length=qw side l:=by unfold xw;rw[List.take_length]
theorem bestTo_bd{mp:Int}{st:Nat}(side:Int)(l:List Ord)(k:Nat)(h:∀o∈l,Ok mp st o)(hm:0≤mp):0≤xw side l k∧xw side l k≤mp:=by
 have:=rU (mp:=mp) (st:=st) side (l.take k) (fun o ho=>h o (List.mem_of_mem_take ho));unfold xw;omega
theorem mF(ho:e.all[i]? =some o)(h:¬(o.dm=1∧o.typ=3)):gm e i=e:=by
 unfold gm;rw[ho];simp only;rw[if_neg h]
theorem mG(ho:e.all[i]? =some o)(hs:o.dm=1)(ht:o.typ=3)(h:e.target o=o.bn):gm e i=e:=by
 unfold gm;rw[ho];simp only;rw[if_pos ⟨hs,ht⟩,if_pos h]
theorem rH(ho:e.all[i]? =some o)(hs:o.dm=1)(ht:o.typ=3)(h:e.target o≠o.bn)(h0:e.target o=0):gm e i=(e.upd i fun _=>{ o with bn:=0,bg:=0 }).tell 8 o.id 0 0 0 0:=by
 unfold gm;rw[ho];simp only;rw[if_pos ⟨hs,ht⟩,if_neg h,if_pos h0];rw[nk e i (fun o=>{ o with bn:=0,bg:=0 }) (fun _=>{ o with bn:=0,bg:=0 }) (fun x hx=>by obtain rfl:o=x:=Option.some.inj (ho.symm.trans hx);rfl)]
theorem jE(ho:e.all[i]? =some o)(hs:o.dm=1)(ht:o.typ=3)(p:Int)(hp:e.target o=p)(h:p≠o.bn)(h0:p≠0):gm e i=({ e with dh:=e.dh+1 }.upd i fun _=>{ o with bn:=p,dh:=(e.dh+1:Nat),bg:=o.opn }).tell 7 o.id 0 p o.opn 0:=by
 subst hp;unfold gm;rw[ho];simp only;rw[if_pos ⟨hs,ht⟩,if_neg h,if_neg h0];rw[nk { e with dh:=e.dh+1 } i (fun x=>{ x with bn:=e.target o,dh:=(e.dh+1:Nat),bg:=x.opn }) (fun _=>{ o with bn:=e.target o,dh:=(e.dh+1:Nat),bg:=o.opn }) (fun x hx=>by obtain rfl:o=x:=Option.some.inj (ho.symm.trans hx);rfl)]
end bf
theorem zHk{F:Nat→Prop}{base:Nat}{w:World}{b:Nat}{dv av:Value}(h:dn F base w b e dv av)(hI:bf.fe e)(hr:Room 100 e):
 Cl 72 #[iP b] w fun en w'=>en=rV #[]∧dn F base w' b e.follow dv av∧Touch F w w':=by
 obtain⟨p,D,rfl⟩:=h.slice;have HR:=hid h;have HI:=hid hI;have Az:=hid hr;have Bq:=hr.len;clear h hI hr;generalize hn:e.all.length=n at *;have Ai:=hid hn;clear hn;go_enter func72,ntmps72;go_wp2_with fail
 go_loopg [2] n (fun k s wr=> ∃j:Nat,s=iV j∧j≤n∧k=n - j∧dn F base wr b (bf.aK e j) dv (.slice p n D)∧Touch F w wr)
 case atStart=>exact⟨0,rfl,Nat.zero_le _,by omega,HR.o,Touch.refl F w⟩
 case round=>
  obtain⟨j,rfl,hj,rfl,hR,hT⟩:=hrel;have U:=hid hR;have A5:=hid hT;obtain⟨Aq,Ab⟩:=bf.followTo_inv HI.o j;have A0:=hid Aq;have Aj:Hd ((bf.aK e j).all.length=n):=Ab.len.trans Ai.o;have Aw:=hid (bf.followTo_grew HI.o j (by rw[Ai.o];exact hj));have Bi:Hd ((bf.aK e j).mp=e.mp):=Ab.mp;have B1:=hid (bf.followTo_succ e j);have A:Hd (Room 2 (bf.aK e j)):=(Az.qY Aw.o Ab.len (by omega)).mono (by omega);have c5:wr.cell? (iA b 5)=some (.slice p n D):=hR.cell 5;have L:Hd (∀W:World,dn F base W b (bf.gm (bf.aK e j) j) dv (.slice p n D)→dn F base W b (bf.aK e (j+1)) dv (.slice p n D)):=fun W hW=>by rw[B1.o];exact hW
  clear hR hT Aq Ab;by_cases B7:j<n;rotate_left
  ·have Bp:¬(j:Int)<(n:Int):=by omega
   obtain rfl:j=n:=by omega
   go_wp2;go_end0;refine⟨rfl,?_,A5.o⟩;have q:=U.o;rw[show bf.aK e j=e.follow from by rw[←bf.followTo_all,Ai.o]]at q;exact q
  generalize bf.aK e j=E at *;have Bo:(j:Int)<(n:Int):=by omega
  obtain⟨o,ho⟩:∃o,E.all[j]? =some o:=⟨_,List.getElem?_eq_getElem (by rw[Aj.o];exact B7)⟩;obtain⟨g,rfl⟩:=U.o.xU ho;have HO:=hid U.jc.1;have C:=hid ho;have o8:=HO.cell j 8 o _ ho rfl;have o2:=HO.cell j 2 o _ ho rfl;have I:=hid (A0.ok j o ho);clear ho;cases q8:(o.dm != 1);rotate_left
  ·have M:Hd (bf.gm E j=E):=bf.mF C.o (fun hc=>by simp[hc.1]at q8);go_wp2_with fail
   go_roundg (n - (j+1))
   case measure=>omega
   case rel=>exact⟨j+1,by go_num,by omega,rfl,L.o _ (by rw[M.o];exact U.o),A5.o⟩
  cases q2:(o.typ != 3);rotate_left
  ·have M:Hd (bf.gm E j=E):=bf.mF C.o (fun hc=>by simp[hc.2]at q2);go_wp2_with fail
   go_roundg (n - (j+1))
   case measure=>omega
   case rel=>exact⟨j+1,by go_num,by omega,rfl,L.o _ (by rw[M.o];exact U.o),A5.o⟩
  have l:Hd (o.dm=1):=by show _=_;simpa using q8
  have t:Hd (o.typ=3):=by show _=_;simpa using q2
  have Ax:Hd (∀x∈E.all,bf.Ok E.mp E.dh x):=fun x hx=>by obtain⟨i,hi⟩:=List.getElem?_of_mem hx;exact A0.ok i x hi
  have Av:Hd (∀k,0≤bf.xw o.side E.all k∧bf.xw o.side E.all k≤E.mp):=fun k=>bf.bestTo_bd o.side E.all k Ax.o (by have:=A0.mp0;omega)
  have B6:g<wr.heap.size:=by
   rcases U.o.shape with⟨O,_⟩|⟨g',Bb,O,_,_,_,h6⟩
   ·cases O
   injection O with O _ _;injection O with O;injection O with O;rw[O];exact h6
  have B4:=U.lt;have B0:Hd (bf.xw o.side E.all n=bf.qw o.side E.all):=by show _=_;rw[←Aj.o,bf.bestTo_all]
  go_wp2_with fail;generalize wr=W0 at *
  go_loopg [4,5] n (fun k s4 s5 W=> ∃m:Nat,s5=iV m∧m≤n∧k=n - m∧s4=iV (bf.xw o.side E.all m)∧Below W0.heap.size W0 W)
  case atStart=>exact⟨0,rfl,Nat.zero_le _,by omega,rfl,Below.refl _ _⟩
  case round=>
   obtain⟨m,rfl,hm,rfl,rfl,hb⟩:=hrel;have A6:wr.cell? (iA b 5)=some (sL g n D):=(hb.cell (p:=(iA b 5)) B4).trans c5;have Ap:=hid (HO.below hb B6);have HB:=hid hb;have Bm:=hb.size;have Bn:g<wr.heap.size:=by omega
   have Bl:b<wr.heap.size:=by omega
   obtain⟨Bj,Bk⟩:=Av.o m;have Be:E.mp≤1000000:=A0.oN;clear hb;by_cases B8:m<n
   ·as_aux_lemma=>
     have Br:(m:Int)<(n:Int):=by omega
     obtain⟨x,hx⟩:∃x,E.all[m]? =some x:=⟨_,List.getElem?_eq_getElem (by rw[Aj.o];exact B8)⟩;obtain⟨x0,x1,x2,x3,x4,x5,x6,x7,x8,x9,Bt,Bu,Bv,Bw,Bx⟩:=Ap.o.c15 m x hx;have y1:=Ap.cell j 1 o _ C.o rfl;have S:=hid (bf.bestTo_succ o.side E.all m x hx);clear hx;generalize bf.xw o.side E.all m=bm at *;cases u1:(x.side == o.side)
     ·have u:Hd (bf.xw o.side E.all (m+1)=bm):=by
       show _=_;rw[S.o,if_neg (fun hc=>by simp[hc.1]at u1)]
      go_wp2_with fail;go_quiet (fail);go_wp2_with fail
      go_roundg (n - (m+1))
      case measure=>omega
      case rel=>exact⟨m+1,by go_num,by omega,rfl,by rw[u.o],by repeat(first|exact HB.o|refine xq ?_ _ (by first|omega|(simp;omega))|refine rM ?_ _)⟩
     cases u2:(x.typ != 3)
     ·have u:Hd (bf.xw o.side E.all (m+1)=bm):=by
       show _=_;rw[S.o,if_neg (fun hc=>by(have z:x.typ=3:=by simpa using u2);exact hc.2.1 z)]
      go_wp2_with fail;go_quiet (fail);go_wp2_with fail
      go_roundg (n - (m+1))
      case measure=>omega
      case rel=>exact⟨m+1,by go_num,by omega,rfl,by rw[u.o],by repeat(first|exact HB.o|refine xq ?_ _ (by first|omega|(simp;omega))|refine rM ?_ _)⟩
     by_cases u3:0<x.bg;rotate_left
     ·have Ba:decide (0<x.bg)=false:=by simpa using u3
      have u:Hd (bf.xw o.side E.all (m+1)=bm):=by
       show _=_;rw[S.o,if_neg (fun hc=>u3 hc.2.2.1)]
      go_wp2_with fail;go_quiet (fail);go_wp2_with fail
      go_roundg (n - (m+1))
      case measure=>omega
      case rel=>exact⟨m+1,by go_num,by omega,rfl,by rw[u.o],by repeat(first|exact HB.o|refine xq ?_ _ (by first|omega|(simp;omega))|refine rM ?_ _)⟩
     have Ba:decide (0<x.bg)=true:=by simpa using u3
     have e1:Hd (x.side=o.side∧x.typ≠3):=⟨by simpa using u1,by simpa using u2⟩;cases u4:(bm == 0);rotate_left
     ·have u:Hd (bf.xw o.side E.all (m+1)=x.bn):=by
       show _=_;rw[S.o,if_pos ⟨e1.out.1,e1.out.2,u3,.inl (by simpa using u4)⟩]
      go_wp2_with fail;go_quiet (fail);go_wp2_with fail
      go_roundg (n - (m+1))
      case measure=>omega
      case rel=>exact⟨m+1,by go_num,by omega,rfl,by rw[u.o],by repeat(first|exact HB.o|refine xq ?_ _ (by first|omega|(simp;omega))|refine rM ?_ _)⟩
     have n4:Hd (¬bm=0):=by show¬_=_;simpa using u4
     cases u5:(o.side == 1)
     ·have O:¬o.side=1:=by simpa using u5
      have B9:=I.out.side;have An:Hd (o.side=2):=by show _=_;omega
      have u6:(o.side == 2)=true:=by rw[An.out];rfl
      clear O B9;by_cases u7:x.bn<bm
      ·have Ao:decide (x.bn<bm)=true:=by simpa using u7
       have u:Hd (bf.xw o.side E.all (m+1)=x.bn):=by
        show _=_;rw[S.o,if_pos ⟨e1.out.1,e1.out.2,u3,.inr (.inr ⟨An.out,u7⟩)⟩]
       go_wp2_with fail;go_quiet (fail);go_wp2_with fail
       go_roundg (n - (m+1))
       case measure=>omega
       case rel=>exact⟨m+1,by go_num,by omega,rfl,by rw[u.o],by repeat(first|exact HB.o|refine xq ?_ _ (by first|omega|(simp;omega))|refine rM ?_ _)⟩
      have Ao:decide (x.bn<bm)=false:=by simpa using u7
      have u:Hd (bf.xw o.side E.all (m+1)=bm):=by
       show _=_;rw[S.o,if_neg (fun hc=>by rcases hc.2.2.2 with q|q|q;exact n4.out q;(have:=q.1;rw[An.out]at this;exact absurd this (by decide));exact u7 q.2)]
      go_wp2_with fail;go_quiet (fail);go_wp2_with fail
      go_roundg (n - (m+1))
      case measure=>omega
      case rel=>exact⟨m+1,by go_num,by omega,rfl,by rw[u.o],by repeat(first|exact HB.o|refine xq ?_ _ (by first|omega|(simp;omega))|refine rM ?_ _)⟩
     have Am:Hd (o.side=1):=by show _=_;simpa using u5
     have u6:(o.side == 2)=false:=by rw[Am.out];rfl
     by_cases u7:bm<x.bn
     ·have Ao:decide (bm<x.bn)=true:=by simpa using u7
      have u:Hd (bf.xw o.side E.all (m+1)=x.bn):=by
       show _=_;rw[S.o,if_pos ⟨e1.out.1,e1.out.2,u3,.inr (.inl ⟨Am.out,u7⟩)⟩]
      go_wp2_with fail;go_quiet (fail);go_wp2_with fail
      go_roundg (n - (m+1))
      case measure=>omega
      case rel=>exact⟨m+1,by go_num,by omega,rfl,by rw[u.o],by repeat(first|exact HB.o|refine xq ?_ _ (by first|omega|(simp;omega))|refine rM ?_ _)⟩
     have Ao:decide (bm<x.bn)=false:=by simpa using u7
     have u:Hd (bf.xw o.side E.all (m+1)=bm):=by
      show _=_;rw[S.o,if_neg (fun hc=>by rcases hc.2.2.2 with q|q|q;exact n4.out q;exact u7 q.2;(have:=q.1;rw[Am.out]at this;exact absurd this (by decide)))]
     go_wp2_with fail;go_quiet (fail);go_wp2_with fail
     go_roundg (n - (m+1))
     case measure=>omega
     case rel=>exact⟨m+1,by go_num,by omega,rfl,by rw[u.o],by repeat(first|exact HB.o|refine xq ?_ _ (by first|omega|(simp;omega))|refine rM ?_ _)⟩
   have Bs:¬(m:Int)<(n:Int):=by omega
   obtain rfl:m=n:=by omega
   have B:=hid (U.below HB.o);have V:=hid (A5.below HB.o);have N:=hid B.jc.1;have y:=B.jc.2.1;have B5:=B.jc.2.2.1;have A4:Hd (E.target o=if 0<bf.xw o.side E.all m then bf.nJ (bf.xw o.side E.all m+o.off) 1 E.mp else bf.xw o.side E.all m):=by
    show _=_;rw[B0.o];rfl
   generalize bf.xw o.side E.all m=bm at *;have o5:=N.cell j 5 o _ C.o rfl;have o9:=N.cell j 9 o _ C.o rfl;have Ae:=N.cell j 13 o _ C.o rfl;have Af:=N.cell j 14 o _ C.o rfl;have Ad:=N.cell j 10 o _ C.o rfl;have o0:=N.cell0 j o C.o;have f9:=N.dz (j*15+9);have A8:=N.dz (j*15+13);have A9:=N.dz (j*15+14);have c1:wr.cell? (iA b 1)=sI E.mp:=B.cell 1;have A7:wr.cell? (iA b 9)=sI (E.dh:Int):=B.cell 9;have Aa:=B.dz 9;have Bf:=A.qC;have Bg:=I.out.off0;have Bh:=I.out.off1;have Bd:=A0.mp0;have Bc:b≠g:=fun e=>B5 e.symm
   clear c5 o8 o2;by_cases Ac:0<bm;rotate_left
   ·as_aux_lemma=>
     have As:bm=0:=by omega
     have Z:Hd (E.target o=0):=by show _=_;rw[A4.o,if_neg Ac,As]
     have Ar:decide (0<bm)=false:=by simpa using Ac
     subst As;cases u9:((0:Int) == o.bn);rotate_left
     ·have M:Hd (bf.gm E j=E):=bf.mG C.o l.out t.out (by rw[Z.o];simpa using u9);go_wp2_with fail
      go_roundg (m - (j+1))
      case measure=>omega
      case rel=>exact⟨j+1,by go_num,by omega,rfl,L.o _ (by rw[M.o];exact B.o),V.o⟩
     have v:Hd (¬(0:Int)=o.bn):=by show¬_=_;simpa using u9
     have M:=hid (bf.rH C.o l.out t.out (by rw[Z.o];exact v.out) Z.o);have Ay:Hd (dn F base ((wr.setCell (iA g (j*15+9)) (iV 0)).setCell (iA g (j*15+13)) (iV 0)) b (E.upd j fun _=>{ o with bn:=0,bg:=0 }) dv (sL g m D)):=by
      have O:=B.bB j 9 0 o { o with bn:=0 } C.o rfl (by omega);have z:=O.bB j 13 0 _ { o with bn:=0,bg:=0 } (bf.nu _ _ _ _ C.o) rfl (by omega);rw[bf.jD]at z;exact z
     have B2:=hid ((V.set g (j*15+9) (iV 0) y).set g (j*15+13) (iV 0) y);go_wp2_with fail;refine(vk Ay.o B2.o 8 o.id 0 0 0 0 ⟨by have:=A.seq;show E.seq+1≤_;omega,by show E.dh+1≤_;omega,by have:=A.o.out;show E.out.length+22*1≤_;omega,by rw[bf.kz];exact A.len,by have:=A.fD;show E.drawn+1≤_;omega⟩ (n63 8 (by omega) (by omega)) (n63 _ (by have:=I.out.nC;omega) (by have:=I.out.nD;omega)) (n63 0 (by omega) (by omega)) (n63 0 (by omega) (by omega)) (n63 0 (by omega) (by omega)) (n63 0 (by omega) (by omega)) _ rfl rfl rfl rfl).mono ?_;rintro en w3 ⟨rfl,G,K⟩;have H:=hid G;have B3:=hid K;clear G K A6 o5 o9 Ae Af Ad o0 f9 A8 A9 c1 A7 Aa;go_wp2_with fail
     go_roundg (m - (j+1))
     case measure=>omega
     case rel=>exact⟨j+1,by go_num,by omega,rfl,L.o _ (by rw[M.o];exact H.o),B3.o⟩
   have Ar:decide (0<bm)=true:=by simpa using Ac
   have Z:=A4;replace Z:Hd (E.target o=bf.nJ (bm+o.off) 1 E.mp):=by show _=_;rw[A4.o,if_pos Ac]
   clear A4;by_cases f:bm+o.off<1
   ·as_aux_lemma=>
     have Al:decide (bm+o.off<1)=true:=by simpa using f
     have Ak:¬E.mp<1:=by omega
     have c:Hd (E.target o=1):=by
      show _=_;rw[Z.o];unfold bf.nJ;simp only;rw[if_pos f,if_neg (by omega)]
     have Ag:1≤1:=by omega
     have Ah:1≤1000000:=by omega
     cases u9:((1:Int) == o.bn);rotate_left
     ·have M:Hd (bf.gm E j=E):=bf.mG C.o l.out t.out (by rw[c.o];simpa using u9);go_wp2_with fail
      go_roundg (m - (j+1))
      case measure=>omega
      case rel=>exact⟨j+1,by go_num,by omega,rfl,L.o _ (by rw[M.o];exact B.o),V.o⟩
     have v:Hd (¬1=o.bn):=by show¬_=_;simpa using u9
     have Au:((1:Int) == 0)=false:=by first|(simp;done)|(simp;omega)
     have M:=hid (bf.jE C.o l.out t.out (1) c.o v.out (by omega));have H:Hd (dn F base (((wr.setCell (iA g (j*15+9)) (iV (1))).setCell (iA g (j*15+13)) (iV 0)).setCell (iA b 9) (iV ((E.dh:Int)+1))) b ({ E with dh:=E.dh+1 }.upd j fun _=>{ o with bn:=1,bg:=0 }) dv (sL g m D)):=by
      have O:=B.bB j 9 (1) o { o with bn:=1 } C.o rfl (by omega);have z:=O.bB j 13 0 _ { o with bn:=1,bg:=0 } (bf.nu _ _ _ _ C.o) rfl (by omega);rw[bf.jD]at z;exact z.set 9 (iV ((E.dh:Int)+1)) ({ E with dh:=E.dh+1 }.upd j fun _=>{ o with bn:=1,bg:=0 }) rfl rfl rfl
     have d:(((wr.setCell (iA g (j*15+9)) (iV (1))).setCell (iA g (j*15+13)) (iV 0)).setCell (iA b 9) (iV ((E.dh:Int)+1))).cell? (iA b 9)=sI ((E.dh:Int)+1):=H.cell 9;have T:Hd (dn F base (((((wr.setCell (iA g (j*15+9)) (iV (1))).setCell (iA g (j*15+13)) (iV 0)).setCell (iA b 9) (iV ((E.dh:Int)+1))).setCell (iA g (j*15+14)) (iV ((E.dh:Int)+1))).setCell (iA g (j*15+13)) (iV o.opn)) b ({ E with dh:=E.dh+1 }.upd j fun _=>{ o with bn:=1,dh:=(E.dh+1:Nat),bg:=o.opn }) dv (sL g m D)):=by
      have h4:=H.bB j 14 ((E.dh:Int)+1) _ { o with bn:=1,bg:=0,dh:=(E.dh+1:Nat) } (bf.nu _ _ _ o C.o) rfl (by omega);rw[bf.jD]at h4;have h5:=h4.bB j 13 o.opn _ { o with bn:=1,dh:=(E.dh+1:Nat),bg:=o.opn } (bf.nu _ _ _ o C.o) rfl (by omega);rw[bf.jD]at h5;exact h5
     have A2:Hd (Touch F w (((((wr.setCell (iA g (j*15+9)) (iV (1))).setCell (iA g (j*15+13)) (iV 0)).setCell (iA b 9) (iV ((E.dh:Int)+1))).setCell (iA g (j*15+14)) (iV ((E.dh:Int)+1))).setCell (iA g (j*15+13)) (iV o.opn))):=((((V.set g _ _ y).set g _ _ y).set b _ _ B.own).set g _ _ y).set g _ _ y;have R:Hd (({ E with dh:=E.dh+1 }.upd j fun _=>{ o with bn:=1,dh:=(E.dh+1:Nat),bg:=o.opn }).all[j]? =some { o with bn:=1,dh:=(E.dh+1:Nat),bg:=o.opn }):=bf.nu _ _ _ o C.o;go_wp2_with fail;clear d H A6 o5 o9 Ae Af Ad o0 f9 A8 A9 c1 A7 Aa;generalize ((((wr.setCell (iA g (j*15+9)) (iV (1))).setCell (iA g (j*15+13)) (iV 0)).setCell (iA b 9) (iV ((E.dh:Int)+1))).setCell (iA g (j*15+14)) (iV ((E.dh:Int)+1))).setCell (iA g (j*15+13)) (iV o.opn)=X5 at *
     have J:Hd (∀(W:World) (E':bf),dn F base W b E' dv (sL g m D)→E'.all[j]? =some { o with bn:=1,dh:=(E.dh+1:Nat),bg:=o.opn }→W.cell? (iA g (j*15))=sI o.id∧W.cell? (iA g (j*15+10))=sI o.opn):=fun W E' hW hE=>by
      have a0:=hW.jc.1.cell0 j _ hE;have a1:=hW.jc.1.cell j 10 _ _ hE rfl;exact⟨a0,a1⟩
     obtain⟨z0,z1⟩:=J.o X5 _ T.o R.o;have Y:=hid (vk T.o A2.o 7 o.id 0 (1) o.opn 0 ⟨by have:=A.seq;show E.seq+1≤_;omega,by show E.dh+1+1≤_;omega,by have:=A.o.out;show E.out.length+22*1≤_;omega,by rw[bf.kz];exact A.len,by have:=A.fD;show E.drawn+1≤_;omega⟩ (n63 7 (by omega) (by omega)) (n63 _ (by have:=I.out.nC;omega) (by have:=I.out.nD;omega)) (n63 0 (by omega) (by omega)) (n63 _ (by omega) (by omega)) (n63 _ I.out.dN (by have:=I.out.sum;have:=I.out.fJ;have:=I.out.jN;have:=I.out.fH;omega)) (n63 0 (by omega) (by omega)));go_region_held3(fun X=>X.cell? (iA g (j*15))=sI o.id∧X.cell? (iA g (j*15+10))=sI o.opn) (first|exact⟨z0,z1⟩|exact J.o _ _ G R.o) ((go_at_call 106;refine(Y.o X5.drew rfl rfl rfl rfl).mono ?_;rintro en w3 ⟨rfl,G,K⟩));have A1:=hid G;have A3:=hid K;clear G K z0 z1 Y J;go_wp2_with fail
     go_roundg (m - (j+1))
     case measure=>omega
     case rel=>exact⟨j+1,by go_num,by omega,rfl,L.o _ (by rw[M.o];exact A1.o),A3.o⟩
   have Al:decide (bm+o.off<1)=false:=by simpa using f
   by_cases Ak:E.mp<bm+o.off
   ·as_aux_lemma=>
     have At:decide (E.mp<bm+o.off)=true:=by simpa using Ak
     have c:Hd (E.target o=E.mp):=by
      show _=_;rw[Z.o];unfold bf.nJ;simp only;rw[if_neg f,if_pos (by omega)]
     have Ag:1≤E.mp:=by omega
     have Ah:E.mp≤1000000:=by omega
     cases u9:((E.mp:Int) == o.bn);rotate_left
     ·have M:Hd (bf.gm E j=E):=bf.mG C.o l.out t.out (by rw[c.o];simpa using u9);go_wp2_with fail
      go_roundg (m - (j+1))
      case measure=>omega
      case rel=>exact⟨j+1,by go_num,by omega,rfl,L.o _ (by rw[M.o];exact B.o),V.o⟩
     have v:Hd (¬E.mp=o.bn):=by show¬_=_;simpa using u9
     have Au:((E.mp:Int) == 0)=false:=by first|(simp;done)|(simp;omega)
     have M:=hid (bf.jE C.o l.out t.out (E.mp) c.o v.out (by omega));have H:Hd (dn F base (((wr.setCell (iA g (j*15+9)) (iV (E.mp))).setCell (iA g (j*15+13)) (iV 0)).setCell (iA b 9) (iV ((E.dh:Int)+1))) b ({ E with dh:=E.dh+1 }.upd j fun _=>{ o with bn:=E.mp,bg:=0 }) dv (sL g m D)):=by
      have O:=B.bB j 9 (E.mp) o { o with bn:=E.mp } C.o rfl (by omega);have z:=O.bB j 13 0 _ { o with bn:=E.mp,bg:=0 } (bf.nu _ _ _ _ C.o) rfl (by omega);rw[bf.jD]at z;exact z.set 9 (iV ((E.dh:Int)+1)) ({ E with dh:=E.dh+1 }.upd j fun _=>{ o with bn:=E.mp,bg:=0 }) rfl rfl rfl
     have d:(((wr.setCell (iA g (j*15+9)) (iV (E.mp))).setCell (iA g (j*15+13)) (iV 0)).setCell (iA b 9) (iV ((E.dh:Int)+1))).cell? (iA b 9)=sI ((E.dh:Int)+1):=H.cell 9;have T:Hd (dn F base (((((wr.setCell (iA g (j*15+9)) (iV (E.mp))).setCell (iA g (j*15+13)) (iV 0)).setCell (iA b 9) (iV ((E.dh:Int)+1))).setCell (iA g (j*15+14)) (iV ((E.dh:Int)+1))).setCell (iA g (j*15+13)) (iV o.opn)) b ({ E with dh:=E.dh+1 }.upd j fun _=>{ o with bn:=E.mp,dh:=(E.dh+1:Nat),bg:=o.opn }) dv (sL g m D)):=by
      have h4:=H.bB j 14 ((E.dh:Int)+1) _ { o with bn:=E.mp,bg:=0,dh:=(E.dh+1:Nat) } (bf.nu _ _ _ o C.o) rfl (by omega);rw[bf.jD]at h4;have h5:=h4.bB j 13 o.opn _ { o with bn:=E.mp,dh:=(E.dh+1:Nat),bg:=o.opn } (bf.nu _ _ _ o C.o) rfl (by omega);rw[bf.jD]at h5;exact h5
     have A2:Hd (Touch F w (((((wr.setCell (iA g (j*15+9)) (iV (E.mp))).setCell (iA g (j*15+13)) (iV 0)).setCell (iA b 9) (iV ((E.dh:Int)+1))).setCell (iA g (j*15+14)) (iV ((E.dh:Int)+1))).setCell (iA g (j*15+13)) (iV o.opn))):=((((V.set g _ _ y).set g _ _ y).set b _ _ B.own).set g _ _ y).set g _ _ y;have R:Hd (({ E with dh:=E.dh+1 }.upd j fun _=>{ o with bn:=E.mp,dh:=(E.dh+1:Nat),bg:=o.opn }).all[j]? =some { o with bn:=E.mp,dh:=(E.dh+1:Nat),bg:=o.opn }):=bf.nu _ _ _ o C.o;go_wp2_with fail;clear d H A6 o5 o9 Ae Af Ad o0 f9 A8 A9 c1 A7 Aa;generalize ((((wr.setCell (iA g (j*15+9)) (iV (E.mp))).setCell (iA g (j*15+13)) (iV 0)).setCell (iA b 9) (iV ((E.dh:Int)+1))).setCell (iA g (j*15+14)) (iV ((E.dh:Int)+1))).setCell (iA g (j*15+13)) (iV o.opn)=X5 at *
     have J:Hd (∀(W:World) (E':bf),dn F base W b E' dv (sL g m D)→E'.all[j]? =some { o with bn:=E.mp,dh:=(E.dh+1:Nat),bg:=o.opn }→W.cell? (iA g (j*15))=sI o.id∧W.cell? (iA g (j*15+10))=sI o.opn):=fun W E' hW hE=>by
      have a0:=hW.jc.1.cell0 j _ hE;have a1:=hW.jc.1.cell j 10 _ _ hE rfl;exact⟨a0,a1⟩
     obtain⟨z0,z1⟩:=J.o X5 _ T.o R.o;have Y:=hid (vk T.o A2.o 7 o.id 0 (E.mp) o.opn 0 ⟨by have:=A.seq;show E.seq+1≤_;omega,by show E.dh+1+1≤_;omega,by have:=A.o.out;show E.out.length+22*1≤_;omega,by rw[bf.kz];exact A.len,by have:=A.fD;show E.drawn+1≤_;omega⟩ (n63 7 (by omega) (by omega)) (n63 _ (by have:=I.out.nC;omega) (by have:=I.out.nD;omega)) (n63 0 (by omega) (by omega)) (n63 _ (by omega) (by omega)) (n63 _ I.out.dN (by have:=I.out.sum;have:=I.out.fJ;have:=I.out.jN;have:=I.out.fH;omega)) (n63 0 (by omega) (by omega)));go_region_held3(fun X=>X.cell? (iA g (j*15))=sI o.id∧X.cell? (iA g (j*15+10))=sI o.opn) (first|exact⟨z0,z1⟩|exact J.o _ _ G R.o) ((go_at_call 106;refine(Y.o X5.drew rfl rfl rfl rfl).mono ?_;rintro en w3 ⟨rfl,G,K⟩));have A1:=hid G;have A3:=hid K;clear G K z0 z1 Y J;go_wp2_with fail
     go_roundg (m - (j+1))
     case measure=>omega
     case rel=>exact⟨j+1,by go_num,by omega,rfl,L.o _ (by rw[M.o];exact A1.o),A3.o⟩
   as_aux_lemma=>
    have At:decide (E.mp<bm+o.off)=false:=by simpa using Ak
    have c:Hd (E.target o=bm+o.off):=by
     show _=_;rw[Z.o];unfold bf.nJ;simp only;rw[if_neg f,if_neg (by omega)]
    have Ag:1≤bm+o.off:=by omega
    have Ah:bm+o.off≤1000000:=by omega
    cases u9:((bm+o.off:Int) == o.bn);rotate_left
    ·have M:Hd (bf.gm E j=E):=bf.mG C.o l.out t.out (by rw[c.o];simpa using u9);go_wp2_with fail
     go_roundg (m - (j+1))
     case measure=>omega
     case rel=>exact⟨j+1,by go_num,by omega,rfl,L.o _ (by rw[M.o];exact B.o),V.o⟩
    have v:Hd (¬bm+o.off=o.bn):=by show¬_=_;simpa using u9
    have Au:((bm+o.off:Int) == 0)=false:=by first|(simp;done)|(simp;omega)
    have M:=hid (bf.jE C.o l.out t.out (bm+o.off) c.o v.out (by omega));have H:Hd (dn F base (((wr.setCell (iA g (j*15+9)) (iV (bm+o.off))).setCell (iA g (j*15+13)) (iV 0)).setCell (iA b 9) (iV ((E.dh:Int)+1))) b ({ E with dh:=E.dh+1 }.upd j fun _=>{ o with bn:=bm+o.off,bg:=0 }) dv (sL g m D)):=by
     have O:=B.bB j 9 (bm+o.off) o { o with bn:=bm+o.off } C.o rfl (by omega);have z:=O.bB j 13 0 _ { o with bn:=bm+o.off,bg:=0 } (bf.nu _ _ _ _ C.o) rfl (by omega);rw[bf.jD]at z;exact z.set 9 (iV ((E.dh:Int)+1)) ({ E with dh:=E.dh+1 }.upd j fun _=>{ o with bn:=bm+o.off,bg:=0 }) rfl rfl rfl
    have d:(((wr.setCell (iA g (j*15+9)) (iV (bm+o.off))).setCell (iA g (j*15+13)) (iV 0)).setCell (iA b 9) (iV ((E.dh:Int)+1))).cell? (iA b 9)=sI ((E.dh:Int)+1):=H.cell 9;have T:Hd (dn F base (((((wr.setCell (iA g (j*15+9)) (iV (bm+o.off))).setCell (iA g (j*15+13)) (iV 0)).setCell (iA b 9) (iV ((E.dh:Int)+1))).setCell (iA g (j*15+14)) (iV ((E.dh:Int)+1))).setCell (iA g (j*15+13)) (iV o.opn)) b ({ E with dh:=E.dh+1 }.upd j fun _=>{ o with bn:=bm+o.off,dh:=(E.dh+1:Nat),bg:=o.opn }) dv (sL g m D)):=by
     have h4:=H.bB j 14 ((E.dh:Int)+1) _ { o with bn:=bm+o.off,bg:=0,dh:=(E.dh+1:Nat) } (bf.nu _ _ _ o C.o) rfl (by omega);rw[bf.jD]at h4;have h5:=h4.bB j 13 o.opn _ { o with bn:=bm+o.off,dh:=(E.dh+1:Nat),bg:=o.opn } (bf.nu _ _ _ o C.o) rfl (by omega);rw[bf.jD]at h5;exact h5
    have A2:Hd (Touch F w (((((wr.setCell (iA g (j*15+9)) (iV (bm+o.off))).setCell (iA g (j*15+13)) (iV 0)).setCell (iA b 9) (iV ((E.dh:Int)+1))).setCell (iA g (j*15+14)) (iV ((E.dh:Int)+1))).setCell (iA g (j*15+13)) (iV o.opn))):=((((V.set g _ _ y).set g _ _ y).set b _ _ B.own).set g _ _ y).set g _ _ y;have R:Hd (({ E with dh:=E.dh+1 }.upd j fun _=>{ o with bn:=bm+o.off,dh:=(E.dh+1:Nat),bg:=o.opn }).all[j]? =some { o with bn:=bm+o.off,dh:=(E.dh+1:Nat),bg:=o.opn }):=bf.nu _ _ _ o C.o;go_wp2_with fail;clear d H A6 o5 o9 Ae Af Ad o0 f9 A8 A9 c1 A7 Aa;generalize ((((wr.setCell (iA g (j*15+9)) (iV (bm+o.off))).setCell (iA g (j*15+13)) (iV 0)).setCell (iA b 9) (iV ((E.dh:Int)+1))).setCell (iA g (j*15+14)) (iV ((E.dh:Int)+1))).setCell (iA g (j*15+13)) (iV o.opn)=X5 at *
    have J:Hd (∀(W:World) (E':bf),dn F base W b E' dv (sL g m D)→E'.all[j]? =some { o with bn:=bm+o.off,dh:=(E.dh+1:Nat),bg:=o.opn }→W.cell? (iA g (j*15))=sI o.id∧W.cell? (iA g (j*15+10))=sI o.opn):=fun W E' hW hE=>by
     have a0:=hW.jc.1.cell0 j _ hE;have a1:=hW.jc.1.cell j 10 _ _ hE rfl;exact⟨a0,a1⟩
    obtain⟨z0,z1⟩:=J.o X5 _ T.o R.o;have Y:=hid (vk T.o A2.o 7 o.id 0 (bm+o.off) o.opn 0 ⟨by have:=A.seq;show E.seq+1≤_;omega,by show E.dh+1+1≤_;omega,by have:=A.o.out;show E.out.length+22*1≤_;omega,by rw[bf.kz];exact A.len,by have:=A.fD;show E.drawn+1≤_;omega⟩ (n63 7 (by omega) (by omega)) (n63 _ (by have:=I.out.nC;omega) (by have:=I.out.nD;omega)) (n63 0 (by omega) (by omega)) (n63 _ (by omega) (by omega)) (n63 _ I.out.dN (by have:=I.out.sum;have:=I.out.fJ;have:=I.out.jN;have:=I.out.fH;omega)) (n63 0 (by omega) (by omega)));go_region_held3(fun X=>X.cell? (iA g (j*15))=sI o.id∧X.cell? (iA g (j*15+10))=sI o.opn) (first|exact⟨z0,z1⟩|exact J.o _ _ G R.o) ((go_at_call 106;refine(Y.o X5.drew rfl rfl rfl rfl).mono ?_;rintro en w3 ⟨rfl,G,K⟩));have A1:=hid G;have A3:=hid K;clear G K z0 z1 Y J;go_wp2_with fail
    go_roundg (m - (j+1))
    case measure=>omega
    case rel=>exact⟨j+1,by go_num,by omega,rfl,L.o _ (by rw[M.o];exact A1.o),A3.o⟩
end Go.Proofs.YtehmdohpmpbnnaaGreatDoor
