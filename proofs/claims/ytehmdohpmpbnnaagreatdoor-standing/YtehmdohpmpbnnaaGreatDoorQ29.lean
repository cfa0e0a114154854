import Derived.Test.YtehmdohpmpbnnaaGreatDoorQ00
import Derived.Test.YtehmdohpmpbnnaaGreatDoorQ20
import Derived.Test.YtehmdohpmpbnnaaGreatDoorQ25
import Derived.Test.YtehmdohpmpbnnaaGreatDoorQ28
import Derived.Deep.LoopGhost
set_option linter.all false
set_option maxRecDepth 100000
set_option maxHeartbeats 8000000
namespace Go.Proofs.YtehmdohpmpbnnaaGreatDoor
variable{E:bf}{x:Ord}{wr w':World}
open Go.Proofs.Tryz
section
open Go.Extern Go.RowKit
theorem zHr{F:Nat→Prop}{base:Nat}{w:World}{b vb:Nat}{e:bf}{dv av:Value}{v:Nat→Int}(kind:Int)(h:dn F base w b e dv av)(hk:w.cell? (iA vb 0)=sI kind)(hv:VAt w vb v)(hvF:¬F vb)(hvl:vb<w.heap.size)(hI:bf.fe e)(hv0:bf.VOk v)(hv3:0≤v 3∧v 3≤4294967296)(hv4:0≤v 4∧v 4≤4294967296)(hr:Room 2200 e)(hsu:jR 1000 e)(hd:Dr e)(hl1:e.all.length<1000000000):
 Cl 71 #[iP b,iP vb] w fun en w'=>en=rV #[]∧(∃av',dn F base w' b (e.run kind v) dv av')∧Touch F w w':=by
 have J:=hid h;have HV:=hid hv;have X:=hv.c0;have Y:=hv.c8;clear h hv;go_enter func71,ntmps71;cases q1:(kind == 1);rotate_left
 ·have K:Hd (e.run kind v=e.fresh v):=by
   show _=_;unfold bf.run;rw[if_pos (by simpa using q1)]
  go_wp2_with fail;refine(zHp J.o HV.o hvF hvl hI hv0 (hr.mono (by omega)) hsu hd hl1).mono ?_;rintro en w2 ⟨rfl,C,D⟩;have N:=hid C;have O:=hid D;clear C D X Y hk;go_wp2;go_end0;exact⟨rfl,by rw[K.o];exact N.o,O.o⟩
 have u:Hd (¬kind=1):=by show¬_=_;simpa using q1
 cases q2:(kind == 2);rotate_left
 ·have K:Hd (e.run kind v=e.cancel (v 0)):=by
   show _=_;unfold bf.run;rw[if_neg u.out,if_pos (by simpa using q2)]
  obtain⟨p,R,rfl⟩:=J.o.slice;go_wp2_with fail;refine(qX J.o (v 0) hr.len).mono ?_;rintro en w2 ⟨rfl,A8⟩;cases A8;have f:w.cell? (iA b 5)=some (.slice p e.all.length R):=J.cell 5;rcases hf:e.find (v 0) with _|i
  ·have A4:lN none= -1:=rfl;have M:Hd (e.cancel (v 0)=e.ny (v 0) 3):=by show _=_;unfold bf.cancel;rw[zCt hf]
   clear hf;go_wp2_with fail;refine(cZ J.o (v 0) 3 (hr.mono (by omega)) (n63 _ hv0.nC (by have:=hv0.nD;omega)) (n63 3 (by omega) (by omega))).mono ?_;rintro en w3 ⟨rfl,A,B⟩;have E:=hid A;have H:=hid B;clear A B X Y hk f;go_wp2;go_end0;exact⟨rfl,⟨_,by rw[K.o,M.o];exact E.o⟩,H.o⟩
  have A4:lN (some i)=(i:Int):=rfl;obtain⟨o,L,t⟩:=bf.nL hf;obtain⟨g,rfl⟩:=J.o.xU L;have hi:i<e.all.length:=(List.getElem?_eq_some_iff.1 L).1;have Ab:(i:Int)<(e.all.length:Int):=by omega
  have Aa:¬(i:Int)<0:=by omega
  have A9:decide ((i:Int)<0)=false:=by simp
  have A6:=hr.len;have z:=J.jc.1.cell i 8 o _ L rfl;have c:=hid (zCu hf L);have HA:=hid L;have I:=hid (hI.ok i o L);clear hf L t;cases x:(o.dm != 1)
  ·have hs:Hd (o.dm=1):=by show _=_;simpa using x
   have M:Hd (e.cancel (v 0)=e.gone i 1):=by show _=_;unfold bf.cancel;rw[c.o,if_pos hs.out]
   go_wp2_with fail;refine(qZ i 1 o J.o HA.o (hr.mono (by omega)) (n63 _ (by have:=I.out.nC;omega) (by have:=I.out.nD;omega)) (n63 _ I.out.dN (by have:=I.out.sum;have:=I.out.fJ;have:=I.out.jN;have:=I.out.fH;omega)) (n63 1 (by omega) (by omega))).mono ?_;rintro en w3 ⟨rfl,A,B⟩;have E:=hid A;have H:=hid B;clear A B X Y hk f z;go_wp2;go_end0;exact⟨rfl,⟨_,by rw[K.o,M.o];exact E.o⟩,H.o⟩
  have hs:Hd (¬o.dm=1):=by show¬_=_;simpa using x
  have M:Hd (e.cancel (v 0)=e.ny (v 0) 3):=by show _=_;unfold bf.cancel;rw[c.o,if_neg hs.out]
  go_wp2_with fail;refine(cZ J.o (v 0) 3 (hr.mono (by omega)) (n63 _ hv0.nC (by have:=hv0.nD;omega)) (n63 3 (by omega) (by omega))).mono ?_;rintro en w3 ⟨rfl,A,B⟩;have E:=hid A;have H:=hid B;clear A B X Y hk f z;go_wp2;go_end0;exact⟨rfl,⟨_,by rw[K.o,M.o];exact E.o⟩,H.o⟩
 have y:Hd (¬kind=2):=by show¬_=_;simpa using q2
 cases q3:(kind == 3);rotate_left
 ·have K:Hd (e.run kind v=e.replace v):=by
   show _=_;unfold bf.run;rw[if_neg u.out,if_neg y.out,if_pos (by simpa using q3)]
  go_wp2_with fail;refine(zHq J.o HV.o hvF hvl hI hv0 hv3 hv4 (hr.mono (by omega)) hsu hd).mono ?_;rintro en w2 ⟨rfl,C,D⟩;have N:=hid C;have O:=hid D;clear C D X Y hk;go_wp2;go_end0;exact⟨rfl,⟨_,by rw[K.o];exact N.o⟩,O.o⟩
 have n3:Hd (¬kind=3):=by show¬_=_;simpa using q3
 cases q4:(kind == 4);rotate_left
 ·have K:Hd (e.run kind v=e.tick (v 8)):=by
   show _=_;unfold bf.run;rw[if_neg u.out,if_neg y.out,if_neg n3.out,if_pos (by simpa using q4)]
  go_wp2_with fail;refine(zHj (v 8) J.o hI hv0.t0 hv0.t1 (hr.mono (by omega))).mono ?_;rintro en w2 ⟨rfl,C,D⟩;have N:=hid C;have O:=hid D;clear C D X Y hk;go_wp2;go_end0;exact⟨rfl,⟨_,by rw[K.o];exact N.o⟩,O.o⟩
 have n4:Hd (¬kind=4):=by show¬_=_;simpa using q4
 cases q5:(kind == 5)
 ·have n5:Hd (¬kind=5):=by show¬_=_;simpa using q5
  have K:Hd (e.run kind v=e):=by
   show _=_;unfold bf.run;rw[if_neg u.out,if_neg y.out,if_neg n3.out,if_neg n4.out,if_neg n5.out]
  go_wp2;go_end0;exact⟨rfl,⟨_,by rw[K.o];exact J.o⟩,Touch.refl F w⟩
 have K:Hd (e.run kind v=e.due (fun o=>o.jr == 1) 3):=by
  show _=_;unfold bf.run;rw[if_neg u.out,if_neg y.out,if_neg n3.out,if_neg n4.out,if_pos (by simpa using q5)];rfl
 obtain⟨p,R,rfl⟩:=J.o.slice;have Z:=hid hI;have A3:Hd (Room 100 e):=hr.mono (by omega);have A2:Hd (e.all.length≤1000000000):=hr.len;clear hI hr;go_wp2_with fail;clear X Y hk;generalize hn:e.all.length=n at *;have T:=hid hn;clear hn
 go_loopg [5] n (fun k s wr=> ∃j:Nat,s=iV j∧j≤n∧k=n - j∧dn F base wr b (bf.aJ (fun o=>o.jr == 1) 3 e j) dv (.slice p n R)∧Touch F w wr)
 case atStart=>exact⟨0,rfl,Nat.zero_le _,by omega,J.o,Touch.refl F w⟩
 case round=>
  obtain⟨j,rfl,hj,rfl,hR,hT⟩:=hrel;have G:=hid hR;have U:=hid hT;obtain⟨l,m⟩:=bf.dueTo_inv Z.o (fun o=>o.jr == 1) 3 j;have A1:=hid l;have S:Hd ((bf.aJ (fun o=>o.jr == 1) 3 e j).all.length=n):=m.len.trans T.o;have A0:=hid (bf.dueTo_grew Z.o (fun o=>o.jr == 1) 3 j (by rw[T.o];exact hj));have V:=hid (bf.dueTo_succ (fun o=>o.jr == 1) 3 e j);have f:wr.cell? (iA b 5)=some (.slice p n R):=hR.cell 5;clear hR hT l m;by_cases A5:j<n;rotate_left
  ·have Ad:¬(j:Int)<(n:Int):=by omega
   obtain rfl:j=n:=by omega
   go_wp2;go_end0;refine⟨rfl,⟨.slice p j R,?_⟩,U.o⟩;rw[K.o];have q:=G.o;rw[show bf.aJ (fun o=>o.jr == 1) 3 e j=e.due (fun o=>o.jr == 1) 3 from by rw[←bf.dueTo_all,T.o]]at q;exact q
  have Ac:(j:Int)<(n:Int):=by omega
  obtain⟨o,L⟩:∃o,(bf.aJ (fun o=>o.jr == 1) 3 e j).all[j]? =some o:=⟨_,List.getElem?_eq_getElem (by rw[S.o];exact A5)⟩;obtain⟨g,rfl⟩:=G.o.xU L;have z:=G.jc.1.cell j 8 o _ L rfl;have o6:=G.jc.1.cell j 6 o _ L rfl;have d:=hid L;have A6:=A2.o;clear L;cases x:(o.dm == 1)
  ·have M:Hd (bf.aJ (fun o=>o.jr == 1) 3 e (j+1)=bf.aJ (fun o=>o.jr == 1) 3 e j):=by
    show _=_;rw[V.o];unfold bf.xk;rw[d.o];simp only;rw[if_neg (fun hc=>by simp[hc.1]at x)]
   go_wp2_with fail
   go_roundg (n - (j+1))
   case measure=>omega
   case rel=>exact⟨j+1,by go_num,by omega,rfl,by rw[M.o];exact G.o,U.o⟩
  cases q6:(o.jr == 1)
  ·have M:Hd (bf.aJ (fun o=>o.jr == 1) 3 e (j+1)=bf.aJ (fun o=>o.jr == 1) 3 e j):=by
    show _=_;rw[V.o];unfold bf.xk;rw[d.o];simp only;rw[if_neg (fun hc=>by simp[q6]at hc)]
   go_wp2_with fail
   go_roundg (n - (j+1))
   case measure=>omega
   case rel=>exact⟨j+1,by go_num,by omega,rfl,by rw[M.o];exact G.o,U.o⟩
  have M:Hd (bf.aJ (fun o=>o.jr == 1) 3 e (j+1)=(bf.aJ (fun o=>o.jr == 1) 3 e j).gone j 3):=by
   show _=_;rw[V.o];unfold bf.xk;rw[d.o];simp only;rw[if_pos ⟨by simpa using x,q6⟩]
  have A7:Hd (Room 1 (bf.aJ (fun o=>o.jr == 1) 3 e j)):=(A3.qY A0.o (S.trans T.symm) (by omega)).mono (by omega);have I:=hid (A1.ok j o d.o);go_wp2_with fail;refine(qZ j 3 o (by rw[S.o];exact G.o) d.o A7.out (n63 _ (by have:=I.out.nC;omega) (by have:=I.out.nD;omega)) (n63 _ I.out.dN (by have:=I.out.sum;have:=I.out.fJ;have:=I.out.jN;have:=I.out.fH;omega)) (n63 3 (by omega) (by omega))).mono ?_;rintro en w3 ⟨rfl,A,B⟩;rw[S.o]at A;have E:=hid A;have H:=hid (U.trans B);clear A B f z o6;go_wp2_with fail
  go_roundg (n - (j+1))
  case measure=>omega
  case rel=>exact⟨j+1,by go_num,by omega,rfl,by rw[M.o];exact E.o,H.o⟩
end
section
open Go.Extern Go.Maps Go.RowKit
section
variable {F:Nat→Prop} {base:Nat} {w:World} {b i k:Nat} {e:bf} {g:Gh} {S:jk} {o r:Ord}
def vH(F:Nat→Prop)(base:Nat)(w:World)(b:Nat)(g:Gh)(e:bf)(i:Nat)(o:Ord)(E:bf)(x:Ord)(wr:World):Prop:= ∃t S',dw F base wr b E { g with txt:=t } S'∧Holds E S' [] []∧Touch F w wr∧bC e i E x∧bf.Kin o x
theorem vH.same(h:vH F base w b g e i o E x wr)(hs:Same wr w'):vH F base w b g e i o E x w':=by
 obtain⟨t,A,B,C,D,G,H⟩:=h;exact⟨t,A,B.same hs,C,D.trans hs.touch,G,H⟩
theorem vH.below(h:vH F base w b g e i o E x wr)(hs:Below wr.heap.size wr w'):vH F base w b g e i o E x w':=by
 obtain⟨t,B,A,C,D,G,H⟩:=h;exact⟨t,B,A.below hs,C,D.trans (zk A.up hs),G,H⟩
theorem vH.oa(h:vH F base w b g e i o E x wr):OA wr (g.blk i) i x:=by
 obtain⟨t,C,B,D,G,A,H⟩:=h;exact B.oa A.at_ A.st
theorem vH.ok(h:vH F base w b g e i o E x wr):bf.Ok E.mp E.dh x∧x.dm=1∧x.opn=x.mg - x.bu∧x.opn≤1000∧0≤x.opn∧x.typ=o.typ∧x.side=o.side∧E.mp≤1000000:=by
 obtain⟨t,C,D,G,H,A,B⟩:=h;have k:=A.inv.ok i x A.at_;exact⟨k,A.st,k.open_ A.st,by have:=k.sum;have:=k.fJ;have:=k.jN;have:=k.fH;omega,k.dN,B.typ,B.side,A.inv.oN⟩
theorem vH.open_(h:vH F base w b g e i o E x wr)(W:World)(hW:Same wr W):Cl 153 #[iP (g.blk i)] W fun en w1=>en=.returned (iV x.opn)∧w1.cell? (iA (g.blk i) 3)=sI x.bn∧Hd (vH F base w b g e i o E x w1):=by
 obtain⟨k,G,B,D,C,_⟩:=h.ok;refine(gL ((h.same hW).oa) (by rw[←B];exact rz (by omega) (by omega))).mono ?_;rintro en w1 ⟨rfl,A⟩;exact⟨by rw[B],((h.same (hW.trans A)).oa).cell 3,h.same (hW.trans A)⟩
theorem vH.fill(h:vH F base w b g e i o E x wr)(h0:x.opn=0):Cl 170 #[iP b,iP (g.blk i)] wr fun en w'=>en=rV #[]∧Hd (qj F base w b g (e.zy i) w'):=by
 obtain⟨t,O,K,D,N,A,R⟩:=h;have B:=A.at_;have J:=A.inv.ok i x B;have I:=(K.small D).mono A.room.len;have G:=J.live A.st;refine(zCb (fun r=>{ r with dm:=2 }) K B A.st (D.live B A.st) (rz (by have:=J.nC;omega) (by have:=J.nD;omega)) I (by simp[Ord.state,h0,A.sh,G])).mono ?_;rintro en w' ⟨rfl,L,M⟩;have C:e.zy i=E.upd i fun r=>{ r with dm:=2 }:=by
  rw[A.done (vG B (by omega))];unfold bf.dP;rw[B];exact if_pos h0
 refine⟨rfl,t,_,by rw[C];exact L,?_,N.trans M⟩;rw[C];have H:(E.upd i fun o=>{ o with bg:=0 })=E:=bf.upd_self (fun y hy=>by
  obtain rfl:x=y:=Option.some.inj (B.symm.trans hy);show{ x with bg:=0 }=x;rw[←A.sh])
 exact(D.leave A.inv B).gone A.inv B A.st (List.mem_cons_self ..) (fun j hj=>by simp[hj]) (fun j hj=>by cases hj) (by simp) rfl rfl A.sh (by rw[H];exact A.inv)
theorem vH.show(h:vH F base w b g e i o E x wr)(h0:0<x.opn)(hm:E.bH i=none):Cl 168 #[iP (g.blk i)] wr fun en w1=>en=.returned (iV (bf.pq x))∧Hd (Cl 167 #[iP b,iP (g.blk i),iV (bf.pq x)] w1 fun en w'=>en=rV #[]∧Hd (qj F base w b g (e.zy i) w')):=by
 obtain⟨k,I,G,J,_⟩:=h.ok;refine(vF h.oa (by rw[←G];exact rz (by omega) (by omega)) G).mono ?_;rintro en w1 ⟨rfl,L⟩;refine⟨rfl,?_⟩;obtain⟨t,X,N,K,R,A,Y⟩:=h.same L;have D:=A.at_;have Z:=bf.atRest_bd k (by omega);have M:=(N.small K).mono A.room.len;have B:aD x.id:=rz (by have:=k.nC;omega) (by have:=k.nD;omega);have H:aD x.bn:=rz k.lM (by have:=k.gY;have:=A.inv.oN;omega);refine(zAs _ N D I (K.live D I) B H (rz (by omega) (by omega)) (by have:=A.room.qC;omega) M (by have:=A.room.seq;omega) (by have:=A.room.out;omega)).mono ?_;rintro en c ⟨rfl,V,T,U⟩;have C:e.zy i=E.lay i (bf.pq x):=by
  rw[A.done hm];unfold bf.dP;rw[D];exact if_neg (by omega)
 refine⟨rfl,V,_,by rw[C];exact T,?_,R.trans U⟩;rw[C];have O:=Holds.lay (f:=fun y=>{ y with dh:=(E.dh+1:Nat),bg:=bf.pq x }) K A.inv D rfl rfl rfl (fun j hj=>by cases hj) (show¬bf.pq x=0 by omega);refine O.vz ?_;unfold bf.lay;rw[D];rfl
theorem vH.sw(h:vH F base w b g e i o E x wr)(h0:0<x.opn)(hm:E.bH i=some k):Cl 169 #[iP b,iP (g.blk i),iP (g.blk k)] wr fun en w'=>en=rV #[]∧Hd (∃y,vH F base w b g e i o (E.sw i k) y w'∧y.opn<x.opn):=by
 obtain⟨t,d,J,K,M,A,L⟩:=h;obtain⟨r,H,B,C,D,G,R,O,j,et,l,f,N,_⟩:=bf.bJ A.inv A.at_ A.st A.sh hm;refine(zGf J A.inv K A.at_ H B A.st A.sh C D G (A.room.mono (by omega)) A.sums A.dr).mono ?_;rintro en w' ⟨rfl,T⟩;obtain⟨c,I,U,V,X⟩:=T.out;obtain⟨Y,Z⟩:=A.step hm H;exact⟨rfl,_,⟨c,I,U,V,M.trans X,Y,L.trans (bf.vN x r)⟩,Z⟩
theorem zHs(h:Value)(w:World):(Go.method 442 173 h "orderbook/orderbook.firstFor").run prog w=.ok (256,h) w:=by kernel_rfl
theorem zHt(q:Nat)(w:World):(nilAhead 442 173 (iP q) "orderbook/orderbook.firstFor").run prog w=.ok (some false) w:=by kernel_rfl
theorem vH.first_sel(h:vH F base w b g e i o E x wr)(h0:0<x.opn)(hs:o.side=1):Cl 256 #[iP g.xg,iV x.bn] wr fun en w1=>en=.returned (aG g (E.bH i))∧Hd (vH F base w b g e i o E x w1):=by
 have B:=h;obtain⟨t,I,C,D,J,A,G⟩:=h;refine(zG1 C A.inv D A.at_ h0 (by rw[G.side];exact hs)).mono ?_;rintro en w1 ⟨rfl,H⟩;exact⟨rfl,B.below H⟩
theorem zHu(h:dw F base w b e g S)(inv:bf.fe e)(hH:Holds e S [] [])(ho:e.all[i]? =some o)(hos:o.dm=1)(hsh:o.bg=0)(hro:Room 2001 e)(hsu:jR 1000 e)(hd:Dr e)(hs:o.side=1):
 Cl 128 #[iP b,iP (g.blk i)] w fun en w'=>en=rV #[]∧Hd (qj F base w b g (e.zy i) w'):=by
 have L:Hd (Cl 166 #[iP b,iP (g.blk i)] w fun en w'=>en=rV #[.iface 167 (iP g.wz),.iface 173 (iP g.xg)]∧Hd (vH F base w b g e i o e o w')):=by
  refine(gT h (h.oa ho hos) hs).mono ?_;rintro en w' ⟨rfl,G⟩;exact⟨rfl,g.txt,S,h.same G,hH,G.touch,bC.start inv ho hos hsh hro hsu hd,bf.Kin.refl o⟩
 have X:=hid hs;go_enter func128,ntmps128;go_wp2_with fail;refine L.mono ?_;rintro en n ⟨rfl,c⟩;go_wp2_with fail
 go_loopg [6] o.opn.toNat (fun k _ wr=> ∃(E:bf) (x:Ord),k=x.opn.toNat∧vH F base w b g e i o E x wr)
 case atStart=>exact⟨e,o,rfl,c⟩
 case round=>
  obtain⟨E,x,rfl,V⟩:=hrel;have Y:=hid V;go_wp2_with fail;refine(Y.open_ wr (Same.refl wr)).mono ?_;rintro en B ⟨rfl,m,A⟩;by_cases R:0<x.opn
  ·have I:Hd (∀W,Same B W→Cl 256 #[iP g.xg,iV x.bn] W fun en B=>en=.returned (aG g (E.bH i))∧Hd (vH F base w b g e i o E x B)):=fun W hW=>(A.same hW).first_sel R X
   have U:=zHs (iP g.xg) B.drew;have d:=zHt g.xg B.drew;go_wp2_with fail;go_region_with(first|(go_at_call 256;refine(I B.drew ((Same.refl B).drew)).mono ?_;rintro en j ⟨rfl,D⟩));all_goals(
    rcases U:E.bH i with _|k
    ·have M:=hid (D.show R U);unfold aG nR;simp only[Option.map_none];go_wp2_with fail;refine M.mono ?_;rintro en l ⟨rfl,C⟩;go_wp2_with fail;refine C.mono ?_;rintro en p ⟨rfl,H⟩;go_wp2
     (try simp only[Exit.inBlock,Exit.then])
     refine bodyPost_ret (results_none rfl _ _ _) rfl ?_;exact⟨rfl,H⟩
    have N:=hid (D.sw R U);unfold aG nR;simp only[Option.map_some];go_wp2_with fail;refine N.mono ?_;rintro en l ⟨rfl,Z⟩;obtain⟨y,f,T⟩:=Z;have O:=hid f;have K:=hid T;go_wp2_with fail
    go_roundg y.opn.toNat
    case rel=>exact⟨_,y,rfl,O⟩
    case measure=>have:=K;omega)
  have J:=hid (A.fill (by have:=A.ok.2.2.2.2.1;omega));go_wp2_with fail;refine J.mono ?_;rintro en j ⟨rfl,H⟩;go_wp2;go_end0;exact⟨rfl,H⟩
theorem zHv(h:Value)(w:World):(Go.method 442 167 h "orderbook/orderbook.firstFor").run prog w=.ok (250,h) w:=by kernel_rfl
theorem zHw(q:Nat)(w:World):(nilAhead 442 167 (iP q) "orderbook/orderbook.firstFor").run prog w=.ok (some false) w:=by kernel_rfl
theorem vH.first_buy(h:vH F base w b g e i o E x wr)(h0:0<x.opn)(hs:¬o.side=1):Cl 250 #[iP g.wz,iV x.bn] wr fun en w1=>en=.returned (aG g (E.bH i))∧Hd (vH F base w b g e i o E x w1):=by
 have B:=h;obtain⟨t,I,C,D,J,A,G⟩:=h;refine(zG2 C A.inv D A.at_ h0 (by rw[G.side];exact hs)).mono ?_;rintro en w1 ⟨rfl,H⟩;exact⟨rfl,B.below H⟩
theorem zHx(h:dw F base w b e g S)(inv:bf.fe e)(hH:Holds e S [] [])(ho:e.all[i]? =some o)(hos:o.dm=1)(hsh:o.bg=0)(hro:Room 2001 e)(hsu:jR 1000 e)(hd:Dr e)(hs:¬o.side=1):
 Cl 128 #[iP b,iP (g.blk i)] w fun en w'=>en=rV #[]∧Hd (qj F base w b g (e.zy i) w'):=by
 have L:Hd (Cl 166 #[iP b,iP (g.blk i)] w fun en w'=>en=rV #[.iface 173 (iP g.xg),.iface 167 (iP g.wz)]∧Hd (vH F base w b g e i o e o w')):=by
  refine(gU h (h.oa ho hos) hs).mono ?_;rintro en w' ⟨rfl,G⟩;exact⟨rfl,g.txt,S,h.same G,hH,G.touch,bC.start inv ho hos hsh hro hsu hd,bf.Kin.refl o⟩
 have X:=hid hs;go_enter func128,ntmps128;go_wp2_with fail;refine L.mono ?_;rintro en n ⟨rfl,c⟩;go_wp2_with fail
 go_loopg [6] o.opn.toNat (fun k _ wr=> ∃(E:bf) (x:Ord),k=x.opn.toNat∧vH F base w b g e i o E x wr)
 case atStart=>exact⟨e,o,rfl,c⟩
 case round=>
  obtain⟨E,x,rfl,V⟩:=hrel;have Y:=hid V;go_wp2_with fail;refine(Y.open_ wr (Same.refl wr)).mono ?_;rintro en B ⟨rfl,m,A⟩;by_cases R:0<x.opn
  ·have I:Hd (∀W,Same B W→Cl 250 #[iP g.wz,iV x.bn] W fun en B=>en=.returned (aG g (E.bH i))∧Hd (vH F base w b g e i o E x B)):=fun W hW=>(A.same hW).first_buy R X
   have U:=zHv (iP g.wz) B.drew;have d:=zHw g.wz B.drew;go_wp2_with fail;go_region_with(first|(go_at_call 250;refine(I B.drew ((Same.refl B).drew)).mono ?_;rintro en j ⟨rfl,D⟩));all_goals(
    rcases U:E.bH i with _|k
    ·have M:=hid (D.show R U);unfold aG nR;simp only[Option.map_none];go_wp2_with fail;refine M.mono ?_;rintro en l ⟨rfl,C⟩;go_wp2_with fail;refine C.mono ?_;rintro en p ⟨rfl,H⟩;go_wp2
     (try simp only[Exit.inBlock,Exit.then])
     refine bodyPost_ret (results_none rfl _ _ _) rfl ?_;exact⟨rfl,H⟩
    have N:=hid (D.sw R U);unfold aG nR;simp only[Option.map_some];go_wp2_with fail;refine N.mono ?_;rintro en l ⟨rfl,Z⟩;obtain⟨y,f,T⟩:=Z;have O:=hid f;have K:=hid T;go_wp2_with fail
    go_roundg y.opn.toNat
    case rel=>exact⟨_,y,rfl,O⟩
    case measure=>have:=K;omega)
  have J:=hid (A.fill (by have:=A.ok.2.2.2.2.1;omega));go_wp2_with fail;refine J.mono ?_;rintro en j ⟨rfl,H⟩;go_wp2;go_end0;exact⟨rfl,H⟩
theorem zCv(h:dw F base w b e g S)(inv:bf.fe e)(hH:Holds e S [] [])(ho:e.all[i]? =some o)(hos:o.dm=1)(hsh:o.bg=0)(hro:Room 2001 e)(hsu:jR 1000 e)(hd:Dr e):
 Cl 128 #[iP b,iP (g.blk i)] w fun en w'=>en=rV #[]∧Hd (qj F base w b g (e.zy i) w'):=by
 by_cases A:o.side=1
 ·exact zHu h inv hH ho hos hsh hro hsu hd A
 exact zHx h inv hH ho hos hsh hro hsu hd A
end
end
end Go.Proofs.YtehmdohpmpbnnaaGreatDoor
