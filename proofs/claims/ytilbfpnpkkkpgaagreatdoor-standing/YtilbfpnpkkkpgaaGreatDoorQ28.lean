import Derived.Test.YtilbfpnpkkkpgaaGreatDoorQ00
import Derived.Test.YtilbfpnpkkkpgaaGreatDoorQ15
import Derived.Test.YtilbfpnpkkkpgaaGreatDoorQ17
import Derived.Test.YtilbfpnpkkkpgaaGreatDoorQ27
import Derived.Deep.LoopGhost
set_option linter.all false
set_option maxRecDepth 100000
set_option maxHeartbeats 8000000
namespace Go.Proofs.YtilbfpnpkkkpgaaGreatDoor
variable{e:Eng}{i:Nat}{o:Ord}
open Go.Extern Go.RowKit
theorem belowN{B:Nat}{w w':World}(h:Below B w w')(n:Nat):Below B w (w'.drewN n):=⟨h.os,h.tape,h.output,h.size,h.block⟩
namespace Eng
def followTo(e:Eng)(k:Nat):Eng:=(List.range k).foldl followOne e
theorem followTo_succ(e:Eng)(k:Nat):followTo e (k+1)=followOne (followTo e k) k:=by
 unfold followTo;rw[List.range_succ,List.foldl_append];rfl
theorem followTo_all(e:Eng):followTo e e.all.length=e.follow:=rfl
theorem followTo_inv(h:EInv e)(k:Nat):EInv (followTo e k)∧Stays e (followTo e k):=fold_inv _ (fun e i h=>followOne_inv h i) followOne_stays _ e h
theorem followTo_grew(h:EInv e)(k:Nat)(hk:k≤e.all.length):Grew 64 0 e (followTo e k):=by
 have:=fold_grew followOne (fun e i=>by
  rcases followOne_at e i with h1|⟨o,ho,hs,ht,hp,⟨h1,h2⟩|⟨h1,h2⟩⟩
  ·rw[h1];exact(Grew.refl e).mono (Nat.zero_le _) (Int.le_refl _)
  ·have hl:lives e i=true:=by unfold lives;rw[ho];simp[hs]
   rw[hl,h2];exact Grew.park _ _ _
  ·have hl:lives e i=true:=by unfold lives;rw[ho];simp[hs]
   rw[hl,h2];exact Grew.move _ _ _ _) (fun e i j hne=>by
  rcases followOne_at e i with h1|⟨o,ho,hs,ht,hp,⟨h1,h2⟩|⟨h1,h2⟩⟩
  ·rw[h1]
  ·rw[h2];exact lives_at (upd_ne _ _ _ _ hne)
  ·rw[h2];exact lives_at (upd_ne _ _ _ _ hne)) (List.range k) List.nodup_range e
 have h2:=count_le (lives e) (range_sub hk);rw[count_range]at h2;exact this.mono (by have:=h.live;have:=h.mo1;omega) (by omega)
def bestTo(side:Int)(l:List Ord)(k:Nat):Int:=bestOf side (l.take k)
theorem bestTo_succ(side:Int)(l:List Ord)(k:Nat)(x:Ord)(h:l[k]? =some x):bestTo side l (k+1)=if x.side=side∧x.typ≠3∧0<x.shown∧(bestTo side l k=0∨(side=1∧bestTo side l k<x.price)∨(side=2∧x.price<bestTo side l k)) then x.price else bestTo side l k:=by
 unfold bestTo bestOf;rw[List.take_add_one,h,List.foldl_append];rfl
theorem bestTo_all(side:Int)(l:List Ord):bestTo side l l.length=bestOf side l:=by unfold bestTo;rw[List.take_length]
theorem bestTo_bd{mp:Int}{st:Nat}(side:Int)(l:List Ord)(k:Nat)(h: ∀o∈l,Ok mp st o)(hm:0≤mp):0≤bestTo side l k∧bestTo side l k≤mp:=by
 have:=bestOf_bd (mp:=mp) (st:=st) side (l.take k) (fun o ho=>h o (List.mem_of_mem_take ho));unfold bestTo;omega
theorem follow_skip(ho:e.all[i]? =some o)(h: ¬(o.status=1∧o.typ=3)):followOne e i=e:=by
 unfold followOne;rw[ho];simp only;rw[if_neg h]
theorem follow_stay(ho:e.all[i]? =some o)(hs:o.status=1)(ht:o.typ=3)(h:e.target o=o.price):followOne e i=e:=by
 unfold followOne;rw[ho];simp only;rw[if_pos ⟨hs,ht⟩,if_pos h]
theorem follow_park(ho:e.all[i]? =some o)(hs:o.status=1)(ht:o.typ=3)(h:e.target o≠o.price)(h0:e.target o=0):followOne e i=(e.upd i fun _=>{ o with price:=0,shown:=0 }).tell 8 o.id 0 0 0 0:=by
 unfold followOne;rw[ho];simp only;rw[if_pos ⟨hs,ht⟩,if_neg h,if_pos h0];rw[upd_congr e i (fun o=>{ o with price:=0,shown:=0 }) (fun _=>{ o with price:=0,shown:=0 }) (fun x hx=>by obtain rfl:o=x:=Option.some.inj (ho.symm.trans hx);rfl)]
theorem follow_move(ho:e.all[i]? =some o)(hs:o.status=1)(ht:o.typ=3)(p:Int)(hp:e.target o=p)(h:p≠o.price)(h0:p≠0):followOne e i=({ e with stamp:=e.stamp+1 }.upd i fun _=>{ o with price:=p,stamp:=(e.stamp+1:Nat),shown:=o.opn }).tell 7 o.id 0 p o.opn 0:=by
 subst hp;unfold followOne;rw[ho];simp only;rw[if_pos ⟨hs,ht⟩,if_neg h,if_neg h0];rw[upd_congr { e with stamp:=e.stamp+1 } i (fun x=>{ x with price:=e.target o,stamp:=(e.stamp+1:Nat),shown:=x.opn }) (fun _=>{ o with price:=e.target o,stamp:=(e.stamp+1:Nat),shown:=o.opn }) (fun x hx=>by obtain rfl:o=x:=Option.some.inj (ho.symm.trans hx);rfl)]
end Eng
theorem zMi{F:Nat→Prop}{base:Nat}{w:World}{b:Nat}{dv av:Value}(h:RefRep F base w b e dv av)(hI:Eng.EInv e)(hr:Room 100 e):
 Calls Tryz.prog 120 #[.pointer (some ⟨b,0,none⟩)] w fun en w'=>en=.returned (.tuple #[])∧RefRep F base w' b e.follow dv av∧Touch F w w':=by
 obtain⟨p,cap,rfl⟩:=h.slice;have HR:=hid h;have HI:=hid hI;have HRM:=hid hr;have hle:=hr.len;clear h hI hr;generalize hn:e.all.length=n at *;have HHN:=hid hn;clear hn;go_enter Tryz.func120,Tryz.ntmps120;go_wp2_with fail
 go_loopg [2] n (fun k s wr=> ∃j:Nat,s=.int .i64 j∧j≤n∧k=n - j∧RefRep F base wr b (Eng.followTo e j) dv (.slice p n cap)∧Touch F w wr)
 case atStart=>exact⟨0,rfl,Nat.zero_le _,by omega,HR.out,Touch.refl F w⟩
 case round=>
  obtain⟨j,rfl,hj,rfl,hR,hT⟩:=hrel;have HRr:=hid hR;have HTr:=hid hT;obtain⟨hIj,hSj⟩:=Eng.followTo_inv HI.out j;have HIj:=hid hIj;have HLj:Hid ((Eng.followTo e j).all.length=n):=hSj.len.trans HHN.out;have HGj:=hid (Eng.followTo_grew HI.out j (by rw[HHN.out];exact hj));have HMP:Hid ((Eng.followTo e j).mp=e.mp):=hSj.mp;have HSC:=hid (Eng.followTo_succ e j);have HRMj:Hid (Room 2 (Eng.followTo e j)):=(HRM.out.grew HGj.out hSj.len (by omega)).mono (by omega);have c5:wr.cell? ⟨b,5,none⟩=some (.slice p n cap):=hR.cell 5;have HNX:Hid (∀W:World,RefRep F base W b (Eng.followOne (Eng.followTo e j) j) dv (.slice p n cap)→RefRep F base W b (Eng.followTo e (j+1)) dv (.slice p n cap)):=fun W hW=>by rw[HSC.out];exact hW
  clear hR hT hIj hSj;by_cases hjn:j<n;rotate_left
  ·have hjN: ¬(j:Int)<(n:Int):=by omega
   obtain rfl:j=n:=by omega
   go_wp2;go_end0;refine⟨rfl,?_,HTr.out⟩;have q:=HRr.out;rw[show Eng.followTo e j=e.follow from by rw[←Eng.followTo_all,HHN.out]]at q;exact q
  generalize Eng.followTo e j=E at *;have hjI:(j:Int)<(n:Int):=by omega
  obtain⟨o,ho⟩: ∃o,E.all[j]? =some o:=⟨_,List.getElem?_eq_getElem (by rw[HLj.out];exact hjn)⟩;obtain⟨g,rfl⟩:=HRr.out.at_slice ho;have HO:=hid HRr.out.ords.1;have HA:=hid ho;have o8:=HO.out.cell j 8 o _ ho rfl;have o2:=HO.out.cell j 2 o _ ho rfl;have ko:=hid (HIj.out.ok j o ho);clear ho;cases q8:(o.status != 1);rotate_left
  ·have HE:Hid (Eng.followOne E j=E):=Eng.follow_skip HA.out (fun hc=>by simp[hc.1]at q8);go_wp2_with fail
   go_roundg (n - (j+1))
   case measure=>omega
   case rel=>exact⟨j+1,by go_num,by omega,rfl,HNX.out _ (by rw[HE.out];exact HRr.out),HTr.out⟩
  cases q2:(o.typ != 3);rotate_left
  ·have HE:Hid (Eng.followOne E j=E):=Eng.follow_skip HA.out (fun hc=>by simp[hc.2]at q2);go_wp2_with fail
   go_roundg (n - (j+1))
   case measure=>omega
   case rel=>exact⟨j+1,by go_num,by omega,rfl,HNX.out _ (by rw[HE.out];exact HRr.out),HTr.out⟩
  have hst:Hid (o.status=1):=by show _=_;simpa using q8
  have hty:Hid (o.typ=3):=by show _=_;simpa using q2
  have HOK:Hid (∀x∈E.all,Eng.Ok E.mp E.stamp x):=fun x hx=>by obtain⟨i,hi⟩:=List.getElem?_of_mem hx;exact HIj.out.ok i x hi
  have HBD:Hid (∀k,0≤Eng.bestTo o.side E.all k∧Eng.bestTo o.side E.all k≤E.mp):=fun k=>Eng.bestTo_bd o.side E.all k HOK.out (by have:=HIj.out.mp0;omega)
  have hgl:g<wr.heap.size:=by
   rcases HRr.out.shape with⟨h1,_⟩|⟨g',cap',h1,_,_,_,h6⟩
   ·cases h1
   ·injection h1 with h1 _ _;injection h1 with h1;injection h1 with h1;rw[h1];exact h6
  have hbl:=HRr.out.lt;have HSB:Hid (Eng.bestTo o.side E.all n=Eng.bestOf o.side E.all):=by show _=_;rw[←HLj.out,Eng.bestTo_all]
  go_wp2_with fail;generalize wr=W0 at *
  go_loopg [4,5] n (fun k s4 s5 W=> ∃m:Nat,s5=.int .i64 m∧m≤n∧k=n - m∧s4=.int .i64 (Eng.bestTo o.side E.all m)∧Below W0.heap.size W0 W)
  case atStart=>exact⟨0,rfl,Nat.zero_le _,by omega,rfl,Below.refl _ _⟩
  case round=>
   obtain⟨m,rfl,hm,rfl,rfl,hb⟩:=hrel;have c5i:wr.cell? ⟨b,5,none⟩=some (.slice (some ⟨g,0,none⟩) n cap):=(hb.cell (p:=⟨b,5,none⟩) hbl).trans c5;have HOi:=hid (HO.out.below hb hgl);have HB:=hid hb;have hbs:=hb.size;have hgi:g<wr.heap.size:=by omega
   have hbi:b<wr.heap.size:=by omega
   obtain⟨bd0,bd1⟩:=HBD.out m;have hmp1:E.mp≤1000000:=HIj.out.mp1;clear hb;by_cases hmn:m<n
   ·as_aux_lemma=>
     have hmI:(m:Int)<(n:Int):=by omega
     obtain⟨x,hx⟩: ∃x,E.all[m]? =some x:=⟨_,List.getElem?_eq_getElem (by rw[HLj.out];exact hmn)⟩;obtain⟨x0,x1,x2,x3,x4,x5,x6,x7,x8,x9,x10,x11,x12,x13,x14⟩:=HOi.out.c15 m x hx;have y1:=HOi.out.cell j 1 o _ HA.out rfl;have HBS:=hid (Eng.bestTo_succ o.side E.all m x hx);clear hx;generalize Eng.bestTo o.side E.all m=bm at *;cases u1:(x.side == o.side)
     ·have HZ:Hid (Eng.bestTo o.side E.all (m+1)=bm):=by
       show _=_;rw[HBS.out,if_neg (fun hc=>by simp[hc.1]at u1)]
      go_wp2_with fail;go_quiet (fail);go_wp2_with fail
      go_roundg (n - (m+1))
      case measure=>omega
      case rel=>exact⟨m+1,by go_num,by omega,rfl,by rw[HZ.out],by repeat(first|exact HB.out|refine zA6 ?_ _ (by first|omega|(simp;omega))|refine belowN ?_ _)⟩
     ·cases u2:(x.typ != 3)
      ·have HZ:Hid (Eng.bestTo o.side E.all (m+1)=bm):=by
        show _=_;rw[HBS.out,if_neg (fun hc=>by(have h2:x.typ=3:=by simpa using u2);exact hc.2.1 h2)]
       go_wp2_with fail;go_quiet (fail);go_wp2_with fail
       go_roundg (n - (m+1))
       case measure=>omega
       case rel=>exact⟨m+1,by go_num,by omega,rfl,by rw[HZ.out],by repeat(first|exact HB.out|refine zA6 ?_ _ (by first|omega|(simp;omega))|refine belowN ?_ _)⟩
      ·by_cases u3:0<x.shown;rotate_left
       ·have u3b:decide (0<x.shown)=false:=by simpa using u3
        have HZ:Hid (Eng.bestTo o.side E.all (m+1)=bm):=by
         show _=_;rw[HBS.out,if_neg (fun hc=>u3 hc.2.2.1)]
        go_wp2_with fail;go_quiet (fail);go_wp2_with fail
        go_roundg (n - (m+1))
        case measure=>omega
        case rel=>exact⟨m+1,by go_num,by omega,rfl,by rw[HZ.out],by repeat(first|exact HB.out|refine zA6 ?_ _ (by first|omega|(simp;omega))|refine belowN ?_ _)⟩
       have u3b:decide (0<x.shown)=true:=by simpa using u3
       have e1:Hid (x.side=o.side∧x.typ≠3):=⟨by simpa using u1,by simpa using u2⟩;cases u4:(bm == 0);rotate_left
       ·have HZ:Hid (Eng.bestTo o.side E.all (m+1)=x.price):=by
         show _=_;rw[HBS.out,if_pos ⟨e1.out.1,e1.out.2,u3,.inl (by simpa using u4)⟩]
        go_wp2_with fail;go_quiet (fail);go_wp2_with fail
        go_roundg (n - (m+1))
        case measure=>omega
        case rel=>exact⟨m+1,by go_num,by omega,rfl,by rw[HZ.out],by repeat(first|exact HB.out|refine zA6 ?_ _ (by first|omega|(simp;omega))|refine belowN ?_ _)⟩
       have n4:Hid (¬bm=0):=by show¬_=_;simpa using u4
       cases u5:(o.side == 1)
       ·have h1: ¬o.side=1:=by simpa using u5
        have hsd:=ko.out.side;have hs2:Hid (o.side=2):=by show _=_;omega
        have u6:(o.side == 2)=true:=by rw[hs2.out];rfl
        clear h1 hsd;by_cases u7:x.price<bm
        ·have u7b:decide (x.price<bm)=true:=by simpa using u7
         have HZ:Hid (Eng.bestTo o.side E.all (m+1)=x.price):=by
          show _=_;rw[HBS.out,if_pos ⟨e1.out.1,e1.out.2,u3,.inr (.inr ⟨hs2.out,u7⟩)⟩]
         go_wp2_with fail;go_quiet (fail);go_wp2_with fail
         go_roundg (n - (m+1))
         case measure=>omega
         case rel=>exact⟨m+1,by go_num,by omega,rfl,by rw[HZ.out],by repeat(first|exact HB.out|refine zA6 ?_ _ (by first|omega|(simp;omega))|refine belowN ?_ _)⟩
        ·have u7b:decide (x.price<bm)=false:=by simpa using u7
         have HZ:Hid (Eng.bestTo o.side E.all (m+1)=bm):=by
          show _=_;rw[HBS.out,if_neg (fun hc=>by rcases hc.2.2.2 with q|q|q;exact n4.out q;(have:=q.1;rw[hs2.out]at this;exact absurd this (by decide));exact u7 q.2)]
         go_wp2_with fail;go_quiet (fail);go_wp2_with fail
         go_roundg (n - (m+1))
         case measure=>omega
         case rel=>exact⟨m+1,by go_num,by omega,rfl,by rw[HZ.out],by repeat(first|exact HB.out|refine zA6 ?_ _ (by first|omega|(simp;omega))|refine belowN ?_ _)⟩
       ·have hs1:Hid (o.side=1):=by show _=_;simpa using u5
        have u6:(o.side == 2)=false:=by rw[hs1.out];rfl
        by_cases u7:bm<x.price
        ·have u7b:decide (bm<x.price)=true:=by simpa using u7
         have HZ:Hid (Eng.bestTo o.side E.all (m+1)=x.price):=by
          show _=_;rw[HBS.out,if_pos ⟨e1.out.1,e1.out.2,u3,.inr (.inl ⟨hs1.out,u7⟩)⟩]
         go_wp2_with fail;go_quiet (fail);go_wp2_with fail
         go_roundg (n - (m+1))
         case measure=>omega
         case rel=>exact⟨m+1,by go_num,by omega,rfl,by rw[HZ.out],by repeat(first|exact HB.out|refine zA6 ?_ _ (by first|omega|(simp;omega))|refine belowN ?_ _)⟩
        ·have u7b:decide (bm<x.price)=false:=by simpa using u7
         have HZ:Hid (Eng.bestTo o.side E.all (m+1)=bm):=by
          show _=_;rw[HBS.out,if_neg (fun hc=>by rcases hc.2.2.2 with q|q|q;exact n4.out q;exact u7 q.2;(have:=q.1;rw[hs1.out]at this;exact absurd this (by decide)))]
         go_wp2_with fail;go_quiet (fail);go_wp2_with fail
         go_roundg (n - (m+1))
         case measure=>omega
         case rel=>exact⟨m+1,by go_num,by omega,rfl,by rw[HZ.out],by repeat(first|exact HB.out|refine zA6 ?_ _ (by first|omega|(simp;omega))|refine belowN ?_ _)⟩
   ·have hmN: ¬(m:Int)<(n:Int):=by omega
    obtain rfl:m=n:=by omega
    have HR1:=hid (HRr.out.below HB.out);have HT1:=hid (HTr.out.below HB.out);have HO1:=hid HR1.out.ords.1;have hF:=HR1.out.ords.2.1;have hgb:=HR1.out.ords.2.2.1;have HTG:Hid (E.target o=if 0<Eng.bestTo o.side E.all m then Eng.clamp (Eng.bestTo o.side E.all m+o.off) 1 E.mp else Eng.bestTo o.side E.all m):=by
     show _=_;rw[HSB.out];rfl
    generalize Eng.bestTo o.side E.all m=bm at *;have o5:=HO1.out.cell j 5 o _ HA.out rfl;have o9:=HO1.out.cell j 9 o _ HA.out rfl;have o13:=HO1.out.cell j 13 o _ HA.out rfl;have o14:=HO1.out.cell j 14 o _ HA.out rfl;have o10:=HO1.out.cell j 10 o _ HA.out rfl;have o0:=HO1.out.cell0 j o HA.out;have f9:=HO1.out.froz (j*15+9);have f13:=HO1.out.froz (j*15+13);have f14:=HO1.out.froz (j*15+14);have c1:wr.cell? ⟨b,1,none⟩=some (.int .i64 E.mp):=HR1.out.cell 1;have cst:wr.cell? ⟨b,9,none⟩=some (.int .i64 (E.stamp:Int)):=HR1.out.cell 9;have fst:=HR1.out.froz 9;have hstm:=HRMj.out.stm;have kof0:=ko.out.off0;have kof1:=ko.out.off1;have hmp0:=HIj.out.mp0;have hgb':b≠g:=fun e=>hgb e.symm
    clear c5 o8 o2;by_cases hb0:0<bm;rotate_left
    ·as_aux_lemma=>
      have hbz:bm=0:=by omega
      have HTP:Hid (E.target o=0):=by show _=_;rw[HTG.out,if_neg hb0,hbz]
      have hb0b:decide (0<bm)=false:=by simpa using hb0
      subst hbz;cases u9:((0:Int) == o.price);rotate_left
      ·have HE:Hid (Eng.followOne E j=E):=Eng.follow_stay HA.out hst.out hty.out (by rw[HTP.out];simpa using u9);go_wp2_with fail
       go_roundg (m - (j+1))
       case measure=>omega
       case rel=>exact⟨j+1,by go_num,by omega,rfl,HNX.out _ (by rw[HE.out];exact HR1.out),HT1.out⟩
      have hnp:Hid (¬(0:Int)=o.price):=by show¬_=_;simpa using u9
      have HE:=hid (Eng.follow_park HA.out hst.out hty.out (by rw[HTP.out];exact hnp.out) HTP.out);have HR2:Hid (RefRep F base ((wr.setCell ⟨g,j*15+9,none⟩ (.int .i64 0)).setCell ⟨g,j*15+13,none⟩ (.int .i64 0)) b (E.upd j fun _=>{ o with price:=0,shown:=0 }) dv (.slice (some ⟨g,0,none⟩) m cap)):=by
       have h1:=HR1.out.setO j 9 0 o { o with price:=0 } HA.out rfl (by omega);have h2:=h1.setO j 13 0 _ { o with price:=0,shown:=0 } (Eng.updc_at _ _ _ _ HA.out) rfl (by omega);rw[Eng.upd2]at h2;exact h2
      have HT2:=hid ((HT1.out.set g (j*15+9) (.int .i64 0) hF).set g (j*15+13) (.int .i64 0) hF);go_wp2_with fail;refine(zAd HR2.out HT2.out 8 o.id 0 0 0 0 ⟨by have:=HRMj.out.seq;show E.seq+1≤_;omega,by show E.stamp+1≤_;omega,by have:=HRMj.out.out;show E.out.length+22*1≤_;omega,by rw[Eng.upd_len];exact HRMj.out.len,by have:=HRMj.out.drw;show E.drawn+1≤_;omega⟩ (n63 8 (by omega) (by omega)) (n63 _ (by have:=ko.out.id0;omega) (by have:=ko.out.id1;omega)) (n63 0 (by omega) (by omega)) (n63 0 (by omega) (by omega)) (n63 0 (by omega) (by omega)) (n63 0 (by omega) (by omega)) _ rfl rfl rfl rfl).mono ?_;rintro en w3 ⟨rfl,hr3,ht3⟩;have HR3:=hid hr3;have HT3:=hid ht3;clear hr3 ht3 c5i o5 o9 o13 o14 o10 o0 f9 f13 f14 c1 cst fst;go_wp2_with fail
      go_roundg (m - (j+1))
      case measure=>omega
      case rel=>exact⟨j+1,by go_num,by omega,rfl,HNX.out _ (by rw[HE.out];exact HR3.out),HT3.out⟩
    have hb0b:decide (0<bm)=true:=by simpa using hb0
    have HTP:=HTG;replace HTP:Hid (E.target o=Eng.clamp (bm+o.off) 1 E.mp):=by show _=_;rw[HTG.out,if_pos hb0]
    clear HTG;by_cases hlow:bm+o.off<1
    ·as_aux_lemma=>
      have hlowb:decide (bm+o.off<1)=true:=by simpa using hlow
      have hhi: ¬E.mp<1:=by omega
      have HTQ:Hid (E.target o=1):=by
       show _=_;rw[HTP.out];unfold Eng.clamp;simp only;rw[if_pos hlow,if_neg (by omega)]
      have htp0:1≤1:=by omega
      have htp1:1≤1000000:=by omega
      cases u9:((1:Int) == o.price);rotate_left
      ·have HE:Hid (Eng.followOne E j=E):=Eng.follow_stay HA.out hst.out hty.out (by rw[HTQ.out];simpa using u9);go_wp2_with fail
       go_roundg (m - (j+1))
       case measure=>omega
       case rel=>exact⟨j+1,by go_num,by omega,rfl,HNX.out _ (by rw[HE.out];exact HR1.out),HT1.out⟩
      have hnp:Hid (¬1=o.price):=by show¬_=_;simpa using u9
      have htz:((1:Int) == 0)=false:=by first|(simp;done)|(simp;omega)
      have HE:=hid (Eng.follow_move HA.out hst.out hty.out (1) HTQ.out hnp.out (by omega));have HR3:Hid (RefRep F base (((wr.setCell ⟨g,j*15+9,none⟩ (.int .i64 (1))).setCell ⟨g,j*15+13,none⟩ (.int .i64 0)).setCell ⟨b,9,none⟩ (.int .i64 ((E.stamp:Int)+1))) b ({ E with stamp:=E.stamp+1 }.upd j fun _=>{ o with price:=1,shown:=0 }) dv (.slice (some ⟨g,0,none⟩) m cap)):=by
       have h1:=HR1.out.setO j 9 (1) o { o with price:=1 } HA.out rfl (by omega);have h2:=h1.setO j 13 0 _ { o with price:=1,shown:=0 } (Eng.updc_at _ _ _ _ HA.out) rfl (by omega);rw[Eng.upd2]at h2;exact h2.set 9 (.int .i64 ((E.stamp:Int)+1)) ({ E with stamp:=E.stamp+1 }.upd j fun _=>{ o with price:=1,shown:=0 }) rfl rfl rfl
      have cst':(((wr.setCell ⟨g,j*15+9,none⟩ (.int .i64 (1))).setCell ⟨g,j*15+13,none⟩ (.int .i64 0)).setCell ⟨b,9,none⟩ (.int .i64 ((E.stamp:Int)+1))).cell? ⟨b,9,none⟩=some (.int .i64 ((E.stamp:Int)+1)):=HR3.out.cell 9;have HR5:Hid (RefRep F base (((((wr.setCell ⟨g,j*15+9,none⟩ (.int .i64 (1))).setCell ⟨g,j*15+13,none⟩ (.int .i64 0)).setCell ⟨b,9,none⟩ (.int .i64 ((E.stamp:Int)+1))).setCell ⟨g,j*15+14,none⟩ (.int .i64 ((E.stamp:Int)+1))).setCell ⟨g,j*15+13,none⟩ (.int .i64 o.opn)) b ({ E with stamp:=E.stamp+1 }.upd j fun _=>{ o with price:=1,stamp:=(E.stamp+1:Nat),shown:=o.opn }) dv (.slice (some ⟨g,0,none⟩) m cap)):=by
       have h4:=HR3.out.setO j 14 ((E.stamp:Int)+1) _ { o with price:=1,shown:=0,stamp:=(E.stamp+1:Nat) } (Eng.updc_at _ _ _ o HA.out) rfl (by omega);rw[Eng.upd2]at h4;have h5:=h4.setO j 13 o.opn _ { o with price:=1,stamp:=(E.stamp+1:Nat),shown:=o.opn } (Eng.updc_at _ _ _ o HA.out) rfl (by omega);rw[Eng.upd2]at h5;exact h5
      have HT5:Hid (Touch F w (((((wr.setCell ⟨g,j*15+9,none⟩ (.int .i64 (1))).setCell ⟨g,j*15+13,none⟩ (.int .i64 0)).setCell ⟨b,9,none⟩ (.int .i64 ((E.stamp:Int)+1))).setCell ⟨g,j*15+14,none⟩ (.int .i64 ((E.stamp:Int)+1))).setCell ⟨g,j*15+13,none⟩ (.int .i64 o.opn))):=((((HT1.out.set g _ _ hF).set g _ _ hF).set b _ _ HR1.out.own).set g _ _ hF).set g _ _ hF;have HA5:Hid (({ E with stamp:=E.stamp+1 }.upd j fun _=>{ o with price:=1,stamp:=(E.stamp+1:Nat),shown:=o.opn }).all[j]? =some { o with price:=1,stamp:=(E.stamp+1:Nat),shown:=o.opn }):=Eng.updc_at _ _ _ o HA.out;go_wp2_with fail;clear cst' HR3 c5i o5 o9 o13 o14 o10 o0 f9 f13 f14 c1 cst fst
      generalize ((((wr.setCell ⟨g,j*15+9,none⟩ (.int .i64 (1))).setCell ⟨g,j*15+13,none⟩ (.int .i64 0)).setCell ⟨b,9,none⟩ (.int .i64 ((E.stamp:Int)+1))).setCell ⟨g,j*15+14,none⟩ (.int .i64 ((E.stamp:Int)+1))).setCell ⟨g,j*15+13,none⟩ (.int .i64 o.opn)=X5 at *;have HSS:Hid (∀(W:World) (E':Eng),RefRep F base W b E' dv (.slice (some ⟨g,0,none⟩) m cap)→E'.all[j]? =some { o with price:=1,stamp:=(E.stamp+1:Nat),shown:=o.opn }→W.cell? ⟨g,j*15,none⟩=some (.int .i64 o.id)∧W.cell? ⟨g,j*15+10,none⟩=some (.int .i64 o.opn)):=fun W E' hW hE=>by
       have a0:=hW.ords.1.cell0 j _ hE;have a1:=hW.ords.1.cell j 10 _ _ hE rfl;exact⟨a0,a1⟩
      obtain⟨z0,z1⟩:=HSS.out X5 _ HR5.out HA5.out;have HTL:=hid (zAd HR5.out HT5.out 7 o.id 0 (1) o.opn 0 ⟨by have:=HRMj.out.seq;show E.seq+1≤_;omega,by show E.stamp+1+1≤_;omega,by have:=HRMj.out.out;show E.out.length+22*1≤_;omega,by rw[Eng.upd_len];exact HRMj.out.len,by have:=HRMj.out.drw;show E.drawn+1≤_;omega⟩ (n63 7 (by omega) (by omega)) (n63 _ (by have:=ko.out.id0;omega) (by have:=ko.out.id1;omega)) (n63 0 (by omega) (by omega)) (n63 _ (by omega) (by omega)) (n63 _ ko.out.opn0 (by have:=ko.out.sum;have:=ko.out.fil0;have:=ko.out.can0;have:=ko.out.qty1;omega)) (n63 0 (by omega) (by omega)));go_region_held3(fun X=>X.cell? ⟨g,j*15,none⟩=some (.int .i64 o.id)∧X.cell? ⟨g,j*15+10,none⟩=some (.int .i64 o.opn)) (first|exact⟨z0,z1⟩|exact HSS.out _ _ hr3 HA5.out) ((go_at_call 148;refine(HTL.out X5.drew rfl rfl rfl rfl).mono ?_;rintro en w3 ⟨rfl,hr3,ht3⟩));have HR6:=hid hr3;have HT6:=hid ht3
      clear hr3 ht3 z0 z1 HTL HSS;go_wp2_with fail
      go_roundg (m - (j+1))
      case measure=>omega
      case rel=>exact⟨j+1,by go_num,by omega,rfl,HNX.out _ (by rw[HE.out];exact HR6.out),HT6.out⟩
    ·have hlowb:decide (bm+o.off<1)=false:=by simpa using hlow
     by_cases hhi:E.mp<bm+o.off
     ·as_aux_lemma=>
       have hhib:decide (E.mp<bm+o.off)=true:=by simpa using hhi
       have HTQ:Hid (E.target o=E.mp):=by
        show _=_;rw[HTP.out];unfold Eng.clamp;simp only;rw[if_neg hlow,if_pos (by omega)]
       have htp0:1≤E.mp:=by omega
       have htp1:E.mp≤1000000:=by omega
       cases u9:((E.mp:Int) == o.price);rotate_left
       ·have HE:Hid (Eng.followOne E j=E):=Eng.follow_stay HA.out hst.out hty.out (by rw[HTQ.out];simpa using u9);go_wp2_with fail
        go_roundg (m - (j+1))
        case measure=>omega
        case rel=>exact⟨j+1,by go_num,by omega,rfl,HNX.out _ (by rw[HE.out];exact HR1.out),HT1.out⟩
       have hnp:Hid (¬E.mp=o.price):=by show¬_=_;simpa using u9
       have htz:((E.mp:Int) == 0)=false:=by first|(simp;done)|(simp;omega)
       have HE:=hid (Eng.follow_move HA.out hst.out hty.out (E.mp) HTQ.out hnp.out (by omega));have HR3:Hid (RefRep F base (((wr.setCell ⟨g,j*15+9,none⟩ (.int .i64 (E.mp))).setCell ⟨g,j*15+13,none⟩ (.int .i64 0)).setCell ⟨b,9,none⟩ (.int .i64 ((E.stamp:Int)+1))) b ({ E with stamp:=E.stamp+1 }.upd j fun _=>{ o with price:=E.mp,shown:=0 }) dv (.slice (some ⟨g,0,none⟩) m cap)):=by
        have h1:=HR1.out.setO j 9 (E.mp) o { o with price:=E.mp } HA.out rfl (by omega);have h2:=h1.setO j 13 0 _ { o with price:=E.mp,shown:=0 } (Eng.updc_at _ _ _ _ HA.out) rfl (by omega);rw[Eng.upd2]at h2;exact h2.set 9 (.int .i64 ((E.stamp:Int)+1)) ({ E with stamp:=E.stamp+1 }.upd j fun _=>{ o with price:=E.mp,shown:=0 }) rfl rfl rfl
       have cst':(((wr.setCell ⟨g,j*15+9,none⟩ (.int .i64 (E.mp))).setCell ⟨g,j*15+13,none⟩ (.int .i64 0)).setCell ⟨b,9,none⟩ (.int .i64 ((E.stamp:Int)+1))).cell? ⟨b,9,none⟩=some (.int .i64 ((E.stamp:Int)+1)):=HR3.out.cell 9;have HR5:Hid (RefRep F base (((((wr.setCell ⟨g,j*15+9,none⟩ (.int .i64 (E.mp))).setCell ⟨g,j*15+13,none⟩ (.int .i64 0)).setCell ⟨b,9,none⟩ (.int .i64 ((E.stamp:Int)+1))).setCell ⟨g,j*15+14,none⟩ (.int .i64 ((E.stamp:Int)+1))).setCell ⟨g,j*15+13,none⟩ (.int .i64 o.opn)) b ({ E with stamp:=E.stamp+1 }.upd j fun _=>{ o with price:=E.mp,stamp:=(E.stamp+1:Nat),shown:=o.opn }) dv (.slice (some ⟨g,0,none⟩) m cap)):=by
        have h4:=HR3.out.setO j 14 ((E.stamp:Int)+1) _ { o with price:=E.mp,shown:=0,stamp:=(E.stamp+1:Nat) } (Eng.updc_at _ _ _ o HA.out) rfl (by omega);rw[Eng.upd2]at h4;have h5:=h4.setO j 13 o.opn _ { o with price:=E.mp,stamp:=(E.stamp+1:Nat),shown:=o.opn } (Eng.updc_at _ _ _ o HA.out) rfl (by omega);rw[Eng.upd2]at h5;exact h5
       have HT5:Hid (Touch F w (((((wr.setCell ⟨g,j*15+9,none⟩ (.int .i64 (E.mp))).setCell ⟨g,j*15+13,none⟩ (.int .i64 0)).setCell ⟨b,9,none⟩ (.int .i64 ((E.stamp:Int)+1))).setCell ⟨g,j*15+14,none⟩ (.int .i64 ((E.stamp:Int)+1))).setCell ⟨g,j*15+13,none⟩ (.int .i64 o.opn))):=((((HT1.out.set g _ _ hF).set g _ _ hF).set b _ _ HR1.out.own).set g _ _ hF).set g _ _ hF;have HA5:Hid (({ E with stamp:=E.stamp+1 }.upd j fun _=>{ o with price:=E.mp,stamp:=(E.stamp+1:Nat),shown:=o.opn }).all[j]? =some { o with price:=E.mp,stamp:=(E.stamp+1:Nat),shown:=o.opn }):=Eng.updc_at _ _ _ o HA.out;go_wp2_with fail;clear cst' HR3 c5i o5 o9 o13 o14 o10 o0 f9 f13 f14 c1 cst fst
       generalize ((((wr.setCell ⟨g,j*15+9,none⟩ (.int .i64 (E.mp))).setCell ⟨g,j*15+13,none⟩ (.int .i64 0)).setCell ⟨b,9,none⟩ (.int .i64 ((E.stamp:Int)+1))).setCell ⟨g,j*15+14,none⟩ (.int .i64 ((E.stamp:Int)+1))).setCell ⟨g,j*15+13,none⟩ (.int .i64 o.opn)=X5 at *;have HSS:Hid (∀(W:World) (E':Eng),RefRep F base W b E' dv (.slice (some ⟨g,0,none⟩) m cap)→E'.all[j]? =some { o with price:=E.mp,stamp:=(E.stamp+1:Nat),shown:=o.opn }→W.cell? ⟨g,j*15,none⟩=some (.int .i64 o.id)∧W.cell? ⟨g,j*15+10,none⟩=some (.int .i64 o.opn)):=fun W E' hW hE=>by
        have a0:=hW.ords.1.cell0 j _ hE;have a1:=hW.ords.1.cell j 10 _ _ hE rfl;exact⟨a0,a1⟩
       obtain⟨z0,z1⟩:=HSS.out X5 _ HR5.out HA5.out;have HTL:=hid (zAd HR5.out HT5.out 7 o.id 0 (E.mp) o.opn 0 ⟨by have:=HRMj.out.seq;show E.seq+1≤_;omega,by show E.stamp+1+1≤_;omega,by have:=HRMj.out.out;show E.out.length+22*1≤_;omega,by rw[Eng.upd_len];exact HRMj.out.len,by have:=HRMj.out.drw;show E.drawn+1≤_;omega⟩ (n63 7 (by omega) (by omega)) (n63 _ (by have:=ko.out.id0;omega) (by have:=ko.out.id1;omega)) (n63 0 (by omega) (by omega)) (n63 _ (by omega) (by omega)) (n63 _ ko.out.opn0 (by have:=ko.out.sum;have:=ko.out.fil0;have:=ko.out.can0;have:=ko.out.qty1;omega)) (n63 0 (by omega) (by omega)));go_region_held3(fun X=>X.cell? ⟨g,j*15,none⟩=some (.int .i64 o.id)∧X.cell? ⟨g,j*15+10,none⟩=some (.int .i64 o.opn)) (first|exact⟨z0,z1⟩|exact HSS.out _ _ hr3 HA5.out) ((go_at_call 148;refine(HTL.out X5.drew rfl rfl rfl rfl).mono ?_;rintro en w3 ⟨rfl,hr3,ht3⟩));have HR6:=hid hr3
       have HT6:=hid ht3;clear hr3 ht3 z0 z1 HTL HSS;go_wp2_with fail
       go_roundg (m - (j+1))
       case measure=>omega
       case rel=>exact⟨j+1,by go_num,by omega,rfl,HNX.out _ (by rw[HE.out];exact HR6.out),HT6.out⟩
     ·as_aux_lemma=>
       have hhib:decide (E.mp<bm+o.off)=false:=by simpa using hhi
       have HTQ:Hid (E.target o=bm+o.off):=by
        show _=_;rw[HTP.out];unfold Eng.clamp;simp only;rw[if_neg hlow,if_neg (by omega)]
       have htp0:1≤bm+o.off:=by omega
       have htp1:bm+o.off≤1000000:=by omega
       cases u9:((bm+o.off:Int) == o.price);rotate_left
       ·have HE:Hid (Eng.followOne E j=E):=Eng.follow_stay HA.out hst.out hty.out (by rw[HTQ.out];simpa using u9);go_wp2_with fail
        go_roundg (m - (j+1))
        case measure=>omega
        case rel=>exact⟨j+1,by go_num,by omega,rfl,HNX.out _ (by rw[HE.out];exact HR1.out),HT1.out⟩
       have hnp:Hid (¬bm+o.off=o.price):=by show¬_=_;simpa using u9
       have htz:((bm+o.off:Int) == 0)=false:=by first|(simp;done)|(simp;omega)
       have HE:=hid (Eng.follow_move HA.out hst.out hty.out (bm+o.off) HTQ.out hnp.out (by omega));have HR3:Hid (RefRep F base (((wr.setCell ⟨g,j*15+9,none⟩ (.int .i64 (bm+o.off))).setCell ⟨g,j*15+13,none⟩ (.int .i64 0)).setCell ⟨b,9,none⟩ (.int .i64 ((E.stamp:Int)+1))) b ({ E with stamp:=E.stamp+1 }.upd j fun _=>{ o with price:=bm+o.off,shown:=0 }) dv (.slice (some ⟨g,0,none⟩) m cap)):=by
        have h1:=HR1.out.setO j 9 (bm+o.off) o { o with price:=bm+o.off } HA.out rfl (by omega);have h2:=h1.setO j 13 0 _ { o with price:=bm+o.off,shown:=0 } (Eng.updc_at _ _ _ _ HA.out) rfl (by omega);rw[Eng.upd2]at h2;exact h2.set 9 (.int .i64 ((E.stamp:Int)+1)) ({ E with stamp:=E.stamp+1 }.upd j fun _=>{ o with price:=bm+o.off,shown:=0 }) rfl rfl rfl
       have cst':(((wr.setCell ⟨g,j*15+9,none⟩ (.int .i64 (bm+o.off))).setCell ⟨g,j*15+13,none⟩ (.int .i64 0)).setCell ⟨b,9,none⟩ (.int .i64 ((E.stamp:Int)+1))).cell? ⟨b,9,none⟩=some (.int .i64 ((E.stamp:Int)+1)):=HR3.out.cell 9;have HR5:Hid (RefRep F base (((((wr.setCell ⟨g,j*15+9,none⟩ (.int .i64 (bm+o.off))).setCell ⟨g,j*15+13,none⟩ (.int .i64 0)).setCell ⟨b,9,none⟩ (.int .i64 ((E.stamp:Int)+1))).setCell ⟨g,j*15+14,none⟩ (.int .i64 ((E.stamp:Int)+1))).setCell ⟨g,j*15+13,none⟩ (.int .i64 o.opn)) b ({ E with stamp:=E.stamp+1 }.upd j fun _=>{ o with price:=bm+o.off,stamp:=(E.stamp+1:Nat),shown:=o.opn }) dv (.slice (some ⟨g,0,none⟩) m cap)):=by
        have h4:=HR3.out.setO j 14 ((E.stamp:Int)+1) _ { o with price:=bm+o.off,shown:=0,stamp:=(E.stamp+1:Nat) } (Eng.updc_at _ _ _ o HA.out) rfl (by omega);rw[Eng.upd2]at h4;have h5:=h4.setO j 13 o.opn _ { o with price:=bm+o.off,stamp:=(E.stamp+1:Nat),shown:=o.opn } (Eng.updc_at _ _ _ o HA.out) rfl (by omega);rw[Eng.upd2]at h5;exact h5
       have HT5:Hid (Touch F w (((((wr.setCell ⟨g,j*15+9,none⟩ (.int .i64 (bm+o.off))).setCell ⟨g,j*15+13,none⟩ (.int .i64 0)).setCell ⟨b,9,none⟩ (.int .i64 ((E.stamp:Int)+1))).setCell ⟨g,j*15+14,none⟩ (.int .i64 ((E.stamp:Int)+1))).setCell ⟨g,j*15+13,none⟩ (.int .i64 o.opn))):=((((HT1.out.set g _ _ hF).set g _ _ hF).set b _ _ HR1.out.own).set g _ _ hF).set g _ _ hF;have HA5:Hid (({ E with stamp:=E.stamp+1 }.upd j fun _=>{ o with price:=bm+o.off,stamp:=(E.stamp+1:Nat),shown:=o.opn }).all[j]? =some { o with price:=bm+o.off,stamp:=(E.stamp+1:Nat),shown:=o.opn }):=Eng.updc_at _ _ _ o HA.out;go_wp2_with fail;clear cst' HR3 c5i o5 o9 o13 o14 o10 o0 f9 f13 f14 c1 cst fst
       generalize ((((wr.setCell ⟨g,j*15+9,none⟩ (.int .i64 (bm+o.off))).setCell ⟨g,j*15+13,none⟩ (.int .i64 0)).setCell ⟨b,9,none⟩ (.int .i64 ((E.stamp:Int)+1))).setCell ⟨g,j*15+14,none⟩ (.int .i64 ((E.stamp:Int)+1))).setCell ⟨g,j*15+13,none⟩ (.int .i64 o.opn)=X5 at *;have HSS:Hid (∀(W:World) (E':Eng),RefRep F base W b E' dv (.slice (some ⟨g,0,none⟩) m cap)→E'.all[j]? =some { o with price:=bm+o.off,stamp:=(E.stamp+1:Nat),shown:=o.opn }→W.cell? ⟨g,j*15,none⟩=some (.int .i64 o.id)∧W.cell? ⟨g,j*15+10,none⟩=some (.int .i64 o.opn)):=fun W E' hW hE=>by
        have a0:=hW.ords.1.cell0 j _ hE;have a1:=hW.ords.1.cell j 10 _ _ hE rfl;exact⟨a0,a1⟩
       obtain⟨z0,z1⟩:=HSS.out X5 _ HR5.out HA5.out;have HTL:=hid (zAd HR5.out HT5.out 7 o.id 0 (bm+o.off) o.opn 0 ⟨by have:=HRMj.out.seq;show E.seq+1≤_;omega,by show E.stamp+1+1≤_;omega,by have:=HRMj.out.out;show E.out.length+22*1≤_;omega,by rw[Eng.upd_len];exact HRMj.out.len,by have:=HRMj.out.drw;show E.drawn+1≤_;omega⟩ (n63 7 (by omega) (by omega)) (n63 _ (by have:=ko.out.id0;omega) (by have:=ko.out.id1;omega)) (n63 0 (by omega) (by omega)) (n63 _ (by omega) (by omega)) (n63 _ ko.out.opn0 (by have:=ko.out.sum;have:=ko.out.fil0;have:=ko.out.can0;have:=ko.out.qty1;omega)) (n63 0 (by omega) (by omega)));go_region_held3(fun X=>X.cell? ⟨g,j*15,none⟩=some (.int .i64 o.id)∧X.cell? ⟨g,j*15+10,none⟩=some (.int .i64 o.opn)) (first|exact⟨z0,z1⟩|exact HSS.out _ _ hr3 HA5.out) ((go_at_call 148;refine(HTL.out X5.drew rfl rfl rfl rfl).mono ?_;rintro en w3 ⟨rfl,hr3,ht3⟩));have HR6:=hid hr3
       have HT6:=hid ht3;clear hr3 ht3 z0 z1 HTL HSS;go_wp2_with fail
       go_roundg (m - (j+1))
       case measure=>omega
       case rel=>exact⟨j+1,by go_num,by omega,rfl,HNX.out _ (by rw[HE.out];exact HR6.out),HT6.out⟩
end Go.Proofs.YtilbfpnpkkkpgaaGreatDoor
