import Derived.Test.YtilbfpnpkkkpgaaGreatDoorQ00
import Derived.Test.YtilbfpnpkkkpgaaGreatDoorQ22
import Derived.Test.YtilbfpnpkkkpgaaGreatDoorQ27
import Derived.Test.YtilbfpnpkkkpgaaGreatDoorQ30
import Derived.Deep.LoopGhost
set_option linter.all false
set_option maxRecDepth 100000
set_option maxHeartbeats 8000000
namespace Go.Proofs.YtilbfpnpkkkpgaaGreatDoor
variable{E:Eng}{x:Ord}{wr w':World}
section
open Go.Extern Go.RowKit
theorem zMp{F:Nat→Prop}{base:Nat}{w:World}{b vb:Nat}{e:Eng}{dv av:Value}{v:Nat→Int}(kind:Int)(h:RefRep F base w b e dv av)(hk:w.cell? ⟨vb,0,none⟩=some (.int .i64 kind))(hv:VAt w vb v)(hvF: ¬F vb)(hvl:vb<w.heap.size)(hI:Eng.EInv e)(hv0:Eng.VOk v)(hv3:0≤v 3∧v 3≤4294967296)(hv4:0≤v 4∧v 4≤4294967296)(hr:Room 2200 e)(hsu:Sums 1000 e)(hd:Dr e)(hl1:e.all.length<1000000000):
 Calls Tryz.prog 119 #[.pointer (some ⟨b,0,none⟩),.pointer (some ⟨vb,0,none⟩)] w fun en w'=>en=.returned (.tuple #[])∧(∃av',RefRep F base w' b (e.run kind v) dv av')∧Touch F w w':=by
 have HR:=hid h;have HV:=hid hv;have v0:=hv.c0;have v8:=hv.c8;clear h hv;go_enter Tryz.func119,Tryz.ntmps119;cases q1:(kind == 1);rotate_left
 ·have HF:Hid (e.run kind v=e.fresh v):=by
   show _=_;unfold Eng.run;rw[if_pos (by simpa using q1)]
  go_wp2_with fail;refine(zMn HR.out HV.out hvF hvl hI hv0 (hr.mono (by omega)) hsu hd hl1).mono ?_;rintro en w2 ⟨rfl,hr2,ht2⟩;have HR2:=hid hr2;have HT2:=hid ht2;clear hr2 ht2 v0 v8 hk;go_wp2;go_end0;exact⟨rfl,by rw[HF.out];exact HR2.out,HT2.out⟩
 have n1:Hid (¬kind=1):=by show¬_=_;simpa using q1
 cases q2:(kind == 2);rotate_left
 ·have HF:Hid (e.run kind v=e.cancel (v 0)):=by
   show _=_;unfold Eng.run;rw[if_neg n1.out,if_pos (by simpa using q2)]
  obtain⟨p,cap,rfl⟩:=HR.out.slice;go_wp2_with fail;refine(zDm HR.out (v 0) hr.len).mono ?_;rintro en w2 ⟨rfl,hw2⟩;cases hw2;have c5:w.cell? ⟨b,5,none⟩=some (.slice p e.all.length cap):=HR.out.cell 5;rcases hf:e.find (v 0) with _|i
  ·have hix:idxV none= -1:=rfl;have HE:Hid (e.cancel (v 0)=e.reject (v 0) 3):=by show _=_;unfold Eng.cancel;rw[zGc hf]
   clear hf;go_wp2_with fail;refine(zBu HR.out (v 0) 3 (hr.mono (by omega)) (n63 _ hv0.id0 (by have:=hv0.id1;omega)) (n63 3 (by omega) (by omega))).mono ?_;rintro en w3 ⟨rfl,hr3,ht3⟩;have HR3:=hid hr3;have HT3:=hid ht3;clear hr3 ht3 v0 v8 hk c5;go_wp2;go_end0;exact⟨rfl,⟨_,by rw[HF.out,HE.out];exact HR3.out⟩,HT3.out⟩
  ·have hix:idxV (some i)=(i:Int):=rfl;obtain⟨o,ho,hoid⟩:=Eng.find_some hf;obtain⟨g,rfl⟩:=HR.out.at_slice ho;have hi:i<e.all.length:=(List.getElem?_eq_some_iff.1 ho).1;have hiI:(i:Int)<(e.all.length:Int):=by omega
   have hi0: ¬(i:Int)<0:=by omega
   have hi0b:decide ((i:Int)<0)=false:=by simp
   have hle:=hr.len;have o8:=HR.out.ords.1.cell i 8 o _ ho rfl;have HLV:=hid (zGd hf ho);have HA:=hid ho;have ko:=hid (hI.ok i o ho);clear hf ho hoid;cases q8:(o.status != 1)
   ·have hs:Hid (o.status=1):=by show _=_;simpa using q8
    have HE:Hid (e.cancel (v 0)=e.gone i 1):=by show _=_;unfold Eng.cancel;rw[HLV.out,if_pos hs.out]
    go_wp2_with fail;refine(zDp i 1 o HR.out HA.out (hr.mono (by omega)) (n63 _ (by have:=ko.out.id0;omega) (by have:=ko.out.id1;omega)) (n63 _ ko.out.opn0 (by have:=ko.out.sum;have:=ko.out.fil0;have:=ko.out.can0;have:=ko.out.qty1;omega)) (n63 1 (by omega) (by omega))).mono ?_;rintro en w3 ⟨rfl,hr3,ht3⟩;have HR3:=hid hr3;have HT3:=hid ht3;clear hr3 ht3 v0 v8 hk c5 o8;go_wp2;go_end0;exact⟨rfl,⟨_,by rw[HF.out,HE.out];exact HR3.out⟩,HT3.out⟩
   ·have hs:Hid (¬o.status=1):=by show¬_=_;simpa using q8
    have HE:Hid (e.cancel (v 0)=e.reject (v 0) 3):=by show _=_;unfold Eng.cancel;rw[HLV.out,if_neg hs.out]
    go_wp2_with fail;refine(zBu HR.out (v 0) 3 (hr.mono (by omega)) (n63 _ hv0.id0 (by have:=hv0.id1;omega)) (n63 3 (by omega) (by omega))).mono ?_;rintro en w3 ⟨rfl,hr3,ht3⟩;have HR3:=hid hr3;have HT3:=hid ht3;clear hr3 ht3 v0 v8 hk c5 o8;go_wp2;go_end0;exact⟨rfl,⟨_,by rw[HF.out,HE.out];exact HR3.out⟩,HT3.out⟩
 have n2:Hid (¬kind=2):=by show¬_=_;simpa using q2
 cases q3:(kind == 3);rotate_left
 ·have HF:Hid (e.run kind v=e.replace v):=by
   show _=_;unfold Eng.run;rw[if_neg n1.out,if_neg n2.out,if_pos (by simpa using q3)]
  go_wp2_with fail;refine(zMo HR.out HV.out hvF hvl hI hv0 hv3 hv4 (hr.mono (by omega)) hsu hd).mono ?_;rintro en w2 ⟨rfl,hr2,ht2⟩;have HR2:=hid hr2;have HT2:=hid ht2;clear hr2 ht2 v0 v8 hk;go_wp2;go_end0;exact⟨rfl,⟨_,by rw[HF.out];exact HR2.out⟩,HT2.out⟩
 have n3:Hid (¬kind=3):=by show¬_=_;simpa using q3
 cases q4:(kind == 4);rotate_left
 ·have HF:Hid (e.run kind v=e.tick (v 8)):=by
   show _=_;unfold Eng.run;rw[if_neg n1.out,if_neg n2.out,if_neg n3.out,if_pos (by simpa using q4)]
  go_wp2_with fail;refine(zMh (v 8) HR.out hI hv0.t0 hv0.t1 (hr.mono (by omega))).mono ?_;rintro en w2 ⟨rfl,hr2,ht2⟩;have HR2:=hid hr2;have HT2:=hid ht2;clear hr2 ht2 v0 v8 hk;go_wp2;go_end0;exact⟨rfl,⟨_,by rw[HF.out];exact HR2.out⟩,HT2.out⟩
 have n4:Hid (¬kind=4):=by show¬_=_;simpa using q4
 cases q5:(kind == 5)
 ·have n5:Hid (¬kind=5):=by show¬_=_;simpa using q5
  have HF:Hid (e.run kind v=e):=by
   show _=_;unfold Eng.run;rw[if_neg n1.out,if_neg n2.out,if_neg n3.out,if_neg n4.out,if_neg n5.out]
  go_wp2;go_end0;exact⟨rfl,⟨_,by rw[HF.out];exact HR.out⟩,Touch.refl F w⟩
 have HF:Hid (e.run kind v=e.due (fun o=>o.life == 1) 3):=by
  show _=_;unfold Eng.run;rw[if_neg n1.out,if_neg n2.out,if_neg n3.out,if_neg n4.out,if_pos (by simpa using q5)];rfl
 obtain⟨p,cap,rfl⟩:=HR.out.slice;have HI1:=hid hI;have HRM:Hid (Room 100 e):=hr.mono (by omega);have HLE:Hid (e.all.length≤1000000000):=hr.len;clear hI hr;go_wp2_with fail;clear v0 v8 hk;generalize hn:e.all.length=n at *;have HNN:=hid hn;clear hn
 go_loopg [5] n (fun k s wr=> ∃j:Nat,s=.int .i64 j∧j≤n∧k=n - j∧RefRep F base wr b (Eng.dueTo (fun o=>o.life == 1) 3 e j) dv (.slice p n cap)∧Touch F w wr)
 case atStart=>exact⟨0,rfl,Nat.zero_le _,by omega,HR.out,Touch.refl F w⟩
 case round=>
  obtain⟨j,rfl,hj,rfl,hR,hT⟩:=hrel;have HRr:=hid hR;have HTr:=hid hT;obtain⟨hIj,hSj⟩:=Eng.dueTo_inv HI1.out (fun o=>o.life == 1) 3 j;have HIj:=hid hIj;have HLj:Hid ((Eng.dueTo (fun o=>o.life == 1) 3 e j).all.length=n):=hSj.len.trans HNN.out;have HGj:=hid (Eng.dueTo_grew HI1.out (fun o=>o.life == 1) 3 j (by rw[HNN.out];exact hj));have HSC:=hid (Eng.dueTo_succ (fun o=>o.life == 1) 3 e j);have c5:wr.cell? ⟨b,5,none⟩=some (.slice p n cap):=hR.cell 5;clear hR hT hIj hSj;by_cases hjn:j<n;rotate_left
  ·have hjN: ¬(j:Int)<(n:Int):=by omega
   obtain rfl:j=n:=by omega
   go_wp2;go_end0;refine⟨rfl,⟨.slice p j cap,?_⟩,HTr.out⟩;rw[HF.out];have q:=HRr.out;rw[show Eng.dueTo (fun o=>o.life == 1) 3 e j=e.due (fun o=>o.life == 1) 3 from by rw[←Eng.dueTo_all,HNN.out]]at q;exact q
  have hjI:(j:Int)<(n:Int):=by omega
  obtain⟨o,ho⟩: ∃o,(Eng.dueTo (fun o=>o.life == 1) 3 e j).all[j]? =some o:=⟨_,List.getElem?_eq_getElem (by rw[HLj.out];exact hjn)⟩;obtain⟨g,rfl⟩:=HRr.out.at_slice ho;have o8:=HRr.out.ords.1.cell j 8 o _ ho rfl;have o6:=HRr.out.ords.1.cell j 6 o _ ho rfl;have HO:=hid ho;have hle:=HLE.out;clear ho;cases q8:(o.status == 1)
  ·have HE:Hid (Eng.dueTo (fun o=>o.life == 1) 3 e (j+1)=Eng.dueTo (fun o=>o.life == 1) 3 e j):=by
    show _=_;rw[HSC.out];unfold Eng.dueOne;rw[HO.out];simp only;rw[if_neg (fun hc=>by simp[hc.1]at q8)]
   go_wp2_with fail
   go_roundg (n - (j+1))
   case measure=>omega
   case rel=>exact⟨j+1,by go_num,by omega,rfl,by rw[HE.out];exact HRr.out,HTr.out⟩
  ·cases q6:(o.life == 1)
   ·have HE:Hid (Eng.dueTo (fun o=>o.life == 1) 3 e (j+1)=Eng.dueTo (fun o=>o.life == 1) 3 e j):=by
     show _=_;rw[HSC.out];unfold Eng.dueOne;rw[HO.out];simp only;rw[if_neg (fun hc=>by simp[q6]at hc)]
    go_wp2_with fail
    go_roundg (n - (j+1))
    case measure=>omega
    case rel=>exact⟨j+1,by go_num,by omega,rfl,by rw[HE.out];exact HRr.out,HTr.out⟩
   ·have HE:Hid (Eng.dueTo (fun o=>o.life == 1) 3 e (j+1)=(Eng.dueTo (fun o=>o.life == 1) 3 e j).gone j 3):=by
     show _=_;rw[HSC.out];unfold Eng.dueOne;rw[HO.out];simp only;rw[if_pos ⟨by simpa using q8,q6⟩]
    have hrm:Hid (Room 1 (Eng.dueTo (fun o=>o.life == 1) 3 e j)):=(HRM.out.grew HGj.out (HLj.out.trans HNN.out.symm) (by omega)).mono (by omega);have ko:=hid (HIj.out.ok j o HO.out);go_wp2_with fail;refine(zDp j 3 o (by rw[HLj.out];exact HRr.out) HO.out hrm.out (n63 _ (by have:=ko.out.id0;omega) (by have:=ko.out.id1;omega)) (n63 _ ko.out.opn0 (by have:=ko.out.sum;have:=ko.out.fil0;have:=ko.out.can0;have:=ko.out.qty1;omega)) (n63 3 (by omega) (by omega))).mono ?_;rintro en w3 ⟨rfl,hr3,ht3⟩;rw[HLj.out]at hr3;have HR3:=hid hr3;have HT3:=hid (HTr.out.trans ht3);clear hr3 ht3 c5 o8 o6;go_wp2_with fail
    go_roundg (n - (j+1))
    case measure=>omega
    case rel=>exact⟨j+1,by go_num,by omega,rfl,by rw[HE.out];exact HR3.out,HT3.out⟩
end
section
open Go.Extern Go.Maps Go.RowKit
section
variable {F:Nat→Prop} {base:Nat} {w:World} {b i k:Nat} {e:Eng} {g:Gh} {S:Sets} {o r:Ord}
def Csw(F:Nat→Prop)(base:Nat)(w:World)(b:Nat)(g:Gh)(e:Eng)(i:Nat)(o:Ord)(E:Eng)(x:Ord)(wr:World):Prop:= ∃t S',CRep F base wr b E { g with txt:=t } S'∧Holds E S' [] []∧Touch F w wr∧Sweeping e i E x∧Eng.Kin o x
theorem Csw.same(h:Csw F base w b g e i o E x wr)(hs:Same wr w'):Csw F base w b g e i o E x w':=by
 obtain⟨t,S',h1,h2,h3,h4,h5⟩:=h;exact⟨t,S',h1.same hs,h2,h3.trans hs.touch,h4,h5⟩
theorem Csw.below(h:Csw F base w b g e i o E x wr)(hs:Below wr.heap.size wr w'):Csw F base w b g e i o E x w':=by
 obtain⟨t,S',h1,h2,h3,h4,h5⟩:=h;exact⟨t,S',h1.below hs,h2,h3.trans (zAp h1.up hs),h4,h5⟩
theorem Csw.oa(h:Csw F base w b g e i o E x wr):OA wr (g.blk i) i x:=by
 obtain⟨t,S',h1,h2,h3,h4,h5⟩:=h;exact h1.oa h4.at_ h4.st
theorem Csw.ok(h:Csw F base w b g e i o E x wr):Eng.Ok E.mp E.stamp x∧x.status=1∧x.opn=x.qty - x.filled∧x.opn≤1000∧0≤x.opn∧x.typ=o.typ∧x.side=o.side∧E.mp≤1000000:=by
 obtain⟨t,S',h1,h2,h3,h4,h5⟩:=h;have k:=h4.inv.ok i x h4.at_;exact⟨k,h4.st,k.open_ h4.st,by have:=k.sum;have:=k.fil0;have:=k.can0;have:=k.qty1;omega,k.opn0,h5.typ,h5.side,h4.inv.mp1⟩
theorem Csw.open_(h:Csw F base w b g e i o E x wr)(W:World)(hW:Same wr W):Cl 133 #[iP (g.blk i)] W fun en w1=>en=.returned (iV x.opn)∧w1.cell? (iA (g.blk i) 3)=sI x.price∧Hid (Csw F base w b g e i o E x w1):=by
 obtain⟨k,hs,ho,h1,h0,_⟩:=h.ok;refine(zAu ((h.same hW).oa) (by rw[←ho];exact zA3 (by omega) (by omega))).mono ?_;rintro en w1 ⟨rfl,hs1⟩;exact⟨by rw[ho],((h.same (hW.trans hs1)).oa).cell 3,h.same (hW.trans hs1)⟩
theorem Csw.fill(h:Csw F base w b g e i o E x wr)(h0:x.opn=0):Cl 137 #[iP b,iP (g.blk i)] wr fun en w'=>en=rV #[]∧Hid (Cdone F base w b g (e.sweep i) w'):=by
 obtain⟨t,S',hC,hH,hT,hS,hK⟩:=h;have hk:=hS.at_;have kr:=hS.inv.ok i x hk;have hsm:=(hC.small hH).mono hS.room.len;have hc0:=kr.live hS.st;refine(zFx (fun r=>{ r with status:=2 }) hC hk hS.st (hH.live hk hS.st) (zA3 (by have:=kr.id0;omega) (by have:=kr.id1;omega)) hsm (by simp[Ord.state,h0,hS.sh,hc0])).mono ?_;rintro en w' ⟨rfl,h1,h2⟩;have het:e.sweep i=E.upd i fun r=>{ r with status:=2 }:=by
  rw[hS.done (zG9 hk (by omega))];unfold Eng.swept;rw[hk];exact if_pos h0
 refine⟨rfl,t,_,by rw[het];exact h1,?_,hT.trans h2⟩;rw[het];have hse:(E.upd i fun o=>{ o with shown:=0 })=E:=Eng.upd_self (fun y hy=>by
  obtain rfl:x=y:=Option.some.inj (hk.symm.trans hy);show{ x with shown:=0 }=x;rw[←hS.sh])
 exact(hH.leave hS.inv hk).gone hS.inv hk hS.st (List.mem_cons_self ..) (fun j hj=>by simp[hj]) (fun j hj=>by cases hj) (by simp) rfl rfl hS.sh (by rw[hse];exact hS.inv)
theorem Csw.show(h:Csw F base w b g e i o E x wr)(h0:0<x.opn)(hm:E.mate i=none):Cl 135 #[iP (g.blk i)] wr fun en w1=>en=.returned (iV (Eng.atRest x))∧Hid (Cl 134 #[iP b,iP (g.blk i),iV (Eng.atRest x)] w1 fun en w'=>en=rV #[]∧Hid (Cdone F base w b g (e.sweep i) w')):=by
 obtain⟨k,hst,hop,h1000,_⟩:=h.ok;refine(zFs h.oa (by rw[←hop];exact zA3 (by omega) (by omega)) hop).mono ?_;rintro en w1 ⟨rfl,hs1⟩;refine⟨rfl,?_⟩;obtain⟨t,S',hC,hH,hT,hS,hK⟩:=h.same hs1;have hk:=hS.at_;have hb:=Eng.atRest_bd k (by omega);have hsm:=(hC.small hH).mono hS.room.len;have hid63:r63 x.id:=zA3 (by have:=k.id0;omega) (by have:=k.id1;omega);have hp63:r63 x.price:=zA3 k.prc0 (by have:=k.prc1;have:=hS.inv.mp1;omega);refine(zDv _ hC hk hst (hH.live hk hst) hid63 hp63 (zA3 (by omega) (by omega)) (by have:=hS.room.stm;omega) hsm (by have:=hS.room.seq;omega) (by have:=hS.room.out;omega)).mono ?_;rintro en w2 ⟨rfl,t2,p1,p2⟩;have het:e.sweep i=E.lay i (Eng.atRest x):=by
  rw[hS.done hm];unfold Eng.swept;rw[hk];exact if_neg (by omega)
 refine⟨rfl,t2,_,by rw[het];exact p1,?_,hT.trans p2⟩;rw[het];have hL:=Holds.lay (f:=fun y=>{ y with stamp:=(E.stamp+1:Nat),shown:=Eng.atRest x }) hH hS.inv hk rfl rfl rfl (fun j hj=>by cases hj) (show¬Eng.atRest x=0 by omega);refine hL.cong ?_;unfold Eng.lay;rw[hk];rfl
theorem Csw.trade(h:Csw F base w b g e i o E x wr)(h0:0<x.opn)(hm:E.mate i=some k):Cl 136 #[iP b,iP (g.blk i),iP (g.blk k)] wr fun en w'=>en=rV #[]∧Hid (∃y,Csw F base w b g e i o (E.trade i k) y w'∧y.opn<x.opn):=by
 obtain⟨t,S',hC,hH,hT,hS,hK⟩:=h;obtain⟨r,hr,hne,hop,hr1,hst,hr2,hmt,i1,et,i2,hi,hlt,_⟩:=Eng.trade_step hS.inv hS.at_ hS.st hS.sh hm;refine(zLk hC hS.inv hH hS.at_ hr hne hS.st hS.sh hop hr1 hst (hS.room.mono (by omega)) hS.sums hS.dr).mono ?_;rintro en w' ⟨rfl,hz⟩;obtain⟨t',S2,p1,p2,p3⟩:=hz.out;obtain⟨q1,q2⟩:=hS.step hm hr;exact⟨rfl,_,⟨t',S2,p1,p2,hT.trans p3,q1,hK.trans (Eng.tradeO_kin x r)⟩,q2⟩
theorem zMq(h:Value)(w:World):(Go.method 429 122 h "orderbook/orderbook.firstFor").run Tryz.prog w=.ok (233,h) w:=by kernel_rfl
theorem zMr(q:Nat)(w:World):(nilAhead 429 122 (iP q) "orderbook/orderbook.firstFor").run Tryz.prog w=.ok (some false) w:=by kernel_rfl
theorem Csw.first_sel(h:Csw F base w b g e i o E x wr)(h0:0<x.opn)(hs:o.side=1):Cl 233 #[iP g.selB,iV x.price] wr fun en w1=>en=.returned (optPtr g (E.mate i))∧Hid (Csw F base w b g e i o E x w1):=by
 have h':=h;obtain⟨t,S',hC,hH,hT,hS,hK⟩:=h;refine(zL2 hC hS.inv hH hS.at_ h0 (by rw[hK.side];exact hs)).mono ?_;rintro en w1 ⟨rfl,hb⟩;exact⟨rfl,h'.below hb⟩
theorem zMs(h:CRep F base w b e g S)(inv:Eng.EInv e)(hH:Holds e S [] [])(ho:e.all[i]? =some o)(hos:o.status=1)(hsh:o.shown=0)(hro:Room 2001 e)(hsu:Sums 1000 e)(hd:Dr e)(hs:o.side=1):
 Cl 94 #[iP b,iP (g.blk i)] w fun en w'=>en=rV #[]∧Hid (Cdone F base w b g (e.sweep i) w'):=by
 have HSD:Hid (Cl 132 #[iP b,iP (g.blk i)] w fun en w'=>en=rV #[.iface 116 (iP g.buyB),.iface 122 (iP g.selB)]∧Hid (Csw F base w b g e i o e o w')):=by
  refine(zCt h (h.oa ho hos) hs).mono ?_;rintro en w' ⟨rfl,hsm⟩;exact⟨rfl,g.txt,S,h.same hsm,hH,hsm.touch,Sweeping.start inv ho hos hsh hro hsu hd,Eng.Kin.refl o⟩
 have HS:=hid hs;go_enter Tryz.func94,Tryz.ntmps94;go_wp2_with fail;refine HSD.mono ?_;rintro en w0 ⟨rfl,HZ⟩;go_wp2_with fail
 go_loopg [6] o.opn.toNat (fun k _ wr=> ∃(E:Eng) (x:Ord),k=x.opn.toNat∧Csw F base w b g e i o E x wr)
 case atStart=>exact⟨e,o,rfl,HZ⟩
 case round=>
  obtain⟨E,x,rfl,hsw⟩:=hrel;have HW:=hid hsw;go_wp2_with fail;refine(HW.open_ wr (Same.refl wr)).mono ?_;rintro en w1 ⟨rfl,c3,HW1⟩;by_cases h0:0<x.opn
  ·have HFF:Hid (∀W,Same w1 W→Cl 233 #[iP g.selB,iV x.price] W fun en w1=>en=.returned (optPtr g (E.mate i))∧Hid (Csw F base w b g e i o E x w1)):=fun W hW=>(HW1.same hW).first_sel h0 HS
   have hm:=zMq (iP g.selB) w1.drew;have hnl:=zMr g.selB w1.drew;go_wp2_with fail;go_region_with(first|(go_at_call 233;refine(HFF w1.drew ((Same.refl w1).drew)).mono ?_;rintro en w2 ⟨rfl,HW2⟩));all_goals(
    rcases hm:E.mate i with _|k
    ·have HSH:=hid (HW2.show h0 hm);unfold optPtr ptrOf;simp only[Option.map_none];go_wp2_with fail;refine HSH.mono ?_;rintro en w3 ⟨rfl,HSH2⟩;go_wp2_with fail;refine HSH2.mono ?_;rintro en w4 ⟨rfl,HD⟩;go_wp2
     (try simp only[Exit.inBlock,Exit.then])
     refine bodyPost_ret (results_none rfl _ _ _) rfl ?_;exact⟨rfl,HD⟩
    ·have HTR:=hid (HW2.trade h0 hm);unfold optPtr ptrOf;simp only[Option.map_some];go_wp2_with fail;refine HTR.mono ?_;rintro en w3 ⟨rfl,HY⟩;obtain⟨y,hy,hlt⟩:=HY;have HY2:=hid hy;have HLT:=hid hlt;go_wp2_with fail
     go_roundg y.opn.toNat
     case rel=>exact⟨_,y,rfl,HY2⟩
     case measure=>have:=HLT;omega)
  ·have HFL:=hid (HW1.fill (by have:=HW1.ok.2.2.2.2.1;omega));go_wp2_with fail;refine HFL.mono ?_;rintro en w2 ⟨rfl,HD⟩;go_wp2;go_end0;exact⟨rfl,HD⟩
theorem zMt(h:Value)(w:World):(Go.method 429 116 h "orderbook/orderbook.firstFor").run Tryz.prog w=.ok (227,h) w:=by kernel_rfl
theorem zMu(q:Nat)(w:World):(nilAhead 429 116 (iP q) "orderbook/orderbook.firstFor").run Tryz.prog w=.ok (some false) w:=by kernel_rfl
theorem Csw.first_buy(h:Csw F base w b g e i o E x wr)(h0:0<x.opn)(hs: ¬o.side=1):Cl 227 #[iP g.buyB,iV x.price] wr fun en w1=>en=.returned (optPtr g (E.mate i))∧Hid (Csw F base w b g e i o E x w1):=by
 have h':=h;obtain⟨t,S',hC,hH,hT,hS,hK⟩:=h;refine(zL3 hC hS.inv hH hS.at_ h0 (by rw[hK.side];exact hs)).mono ?_;rintro en w1 ⟨rfl,hb⟩;exact⟨rfl,h'.below hb⟩
theorem zMv(h:CRep F base w b e g S)(inv:Eng.EInv e)(hH:Holds e S [] [])(ho:e.all[i]? =some o)(hos:o.status=1)(hsh:o.shown=0)(hro:Room 2001 e)(hsu:Sums 1000 e)(hd:Dr e)(hs: ¬o.side=1):
 Cl 94 #[iP b,iP (g.blk i)] w fun en w'=>en=rV #[]∧Hid (Cdone F base w b g (e.sweep i) w'):=by
 have HSD:Hid (Cl 132 #[iP b,iP (g.blk i)] w fun en w'=>en=rV #[.iface 122 (iP g.selB),.iface 116 (iP g.buyB)]∧Hid (Csw F base w b g e i o e o w')):=by
  refine(zCu h (h.oa ho hos) hs).mono ?_;rintro en w' ⟨rfl,hsm⟩;exact⟨rfl,g.txt,S,h.same hsm,hH,hsm.touch,Sweeping.start inv ho hos hsh hro hsu hd,Eng.Kin.refl o⟩
 have HS:=hid hs;go_enter Tryz.func94,Tryz.ntmps94;go_wp2_with fail;refine HSD.mono ?_;rintro en w0 ⟨rfl,HZ⟩;go_wp2_with fail
 go_loopg [6] o.opn.toNat (fun k _ wr=> ∃(E:Eng) (x:Ord),k=x.opn.toNat∧Csw F base w b g e i o E x wr)
 case atStart=>exact⟨e,o,rfl,HZ⟩
 case round=>
  obtain⟨E,x,rfl,hsw⟩:=hrel;have HW:=hid hsw;go_wp2_with fail;refine(HW.open_ wr (Same.refl wr)).mono ?_;rintro en w1 ⟨rfl,c3,HW1⟩;by_cases h0:0<x.opn
  ·have HFF:Hid (∀W,Same w1 W→Cl 227 #[iP g.buyB,iV x.price] W fun en w1=>en=.returned (optPtr g (E.mate i))∧Hid (Csw F base w b g e i o E x w1)):=fun W hW=>(HW1.same hW).first_buy h0 HS
   have hm:=zMt (iP g.buyB) w1.drew;have hnl:=zMu g.buyB w1.drew;go_wp2_with fail;go_region_with(first|(go_at_call 227;refine(HFF w1.drew ((Same.refl w1).drew)).mono ?_;rintro en w2 ⟨rfl,HW2⟩));all_goals(
    rcases hm:E.mate i with _|k
    ·have HSH:=hid (HW2.show h0 hm);unfold optPtr ptrOf;simp only[Option.map_none];go_wp2_with fail;refine HSH.mono ?_;rintro en w3 ⟨rfl,HSH2⟩;go_wp2_with fail;refine HSH2.mono ?_;rintro en w4 ⟨rfl,HD⟩;go_wp2
     (try simp only[Exit.inBlock,Exit.then])
     refine bodyPost_ret (results_none rfl _ _ _) rfl ?_;exact⟨rfl,HD⟩
    ·have HTR:=hid (HW2.trade h0 hm);unfold optPtr ptrOf;simp only[Option.map_some];go_wp2_with fail;refine HTR.mono ?_;rintro en w3 ⟨rfl,HY⟩;obtain⟨y,hy,hlt⟩:=HY;have HY2:=hid hy;have HLT:=hid hlt;go_wp2_with fail
     go_roundg y.opn.toNat
     case rel=>exact⟨_,y,rfl,HY2⟩
     case measure=>have:=HLT;omega)
  ·have HFL:=hid (HW1.fill (by have:=HW1.ok.2.2.2.2.1;omega));go_wp2_with fail;refine HFL.mono ?_;rintro en w2 ⟨rfl,HD⟩;go_wp2;go_end0;exact⟨rfl,HD⟩
theorem zGe(h:CRep F base w b e g S)(inv:Eng.EInv e)(hH:Holds e S [] [])(ho:e.all[i]? =some o)(hos:o.status=1)(hsh:o.shown=0)(hro:Room 2001 e)(hsu:Sums 1000 e)(hd:Dr e):
 Cl 94 #[iP b,iP (g.blk i)] w fun en w'=>en=rV #[]∧Hid (Cdone F base w b g (e.sweep i) w'):=by
 by_cases hs:o.side=1
 ·exact zMs h inv hH ho hos hsh hro hsu hd hs
 ·exact zMv h inv hH ho hos hsh hro hsu hd hs
end
end
end Go.Proofs.YtilbfpnpkkkpgaaGreatDoor
