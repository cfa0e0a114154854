import Derived.Test.YtilbfpnpkkkpgaaGreatDoorQ00
import Derived.Test.YtilbfpnpkkkpgaaGreatDoorQ17
import Derived.Test.YtilbfpnpkkkpgaaGreatDoorQ18
import Derived.Deep.LoopGhost
import Derived.Deep.AppendLies
set_option linter.all false
set_option maxRecDepth 100000
set_option maxHeartbeats 8000000
namespace Go.Proofs.YtilbfpnpkkkpgaaGreatDoor
variable{e E:Eng}{F:Nat→Prop}{base b i cap:Nat}{dv av:Value}{o:Ord}{w:World}
open Go.Extern Go.RowKit
theorem zMf(ho:E.all[i]? =some o)(hf:E.first (3 - o.side)=none):E.mate i=none:=by
 unfold Eng.mate;rw[ho];simp only[hf];split<;>rfl
theorem zG9(ho:E.all[i]? =some o)(h0: ¬0<o.opn):E.mate i=none:=by
 unfold Eng.mate;rw[ho];simp only;rw[if_neg h0]
theorem zMg{k:Nat}{r:Ord}(ho:E.all[i]? =some o)(h0:0<o.opn)(hf:E.first (3 - o.side)=some k)(hk:E.all[k]? =some r):E.mate i=if Eng.meets o r.price then some k else none:=by
 unfold Eng.mate;rw[ho];simp only[hf,hk];rw[if_pos h0]
theorem zGa{g:Nat}(i:Nat)(o:Ord)(h:RefRep F base w b e dv (sL g e.all.length cap))(hI:Eng.EInv e)(ho:e.all[i]? =some o)(hos:o.status=1)(hsh:o.shown=0)(htp:o.typ≠3)(hr:Room 2001 e)(hsu:Sums 1000 e)(hd:Dr e):
 Cl 168 #[iP b,iV i] w fun en w'=>en=rV #[]∧RefRep F base w' b (e.sweep i) dv (sL g e.all.length cap)∧Touch F w w':=by
 have hi:i<e.all.length:=(List.getElem?_eq_some_iff.1 ho).1;have hiI:(i:Int)<(e.all.length:Int):=by omega
 have hle:=hr.len;have HSt:=hid (Sweeping.start hI ho hos hsh hr hsu hd);have HR:=hid h;generalize hn:e.all.length=n at *;go_enter Tryz.func168,Tryz.ntmps168;go_wp2_with fail
 go_loopg [4] o.opn.toNat (fun k _ wr=> ∃(E:Eng) (x:Ord),k=x.opn.toNat∧RefRep F base wr b E dv (sL g n cap)∧Touch F w wr∧Sweeping e i E x∧Eng.Kin o x)
 case atStart=>exact⟨e,o,rfl,HR,Touch.refl F w,HSt,Eng.Kin.refl o⟩
 case round=>
  obtain⟨E,x,rfl,hR,hT,hS,hK⟩:=hrel;have hlen:E.all.length=n:=hS.len.trans hn;obtain⟨hO,hF,hgb,-⟩:=hR.ords;have c5:wr.cell? (iA b 5)=some (sL g n cap):=hR.cell 5;have x10:=hO.cell i 10 x _ hS.at_ rfl;have HO:=hid hO;have HRr:=hid hR;have HTr:=hid hT;have HS:=hid hS;have HK:=hid hK;have kx:=hS.inv.ok i x hS.at_;have hsd:=kx.side;have hqs:x.opn≤1000:=by have:=kx.sum;have:=kx.fil0;have:=kx.can0;have:=kx.qty1;omega
  have HX:=hid kx;have HSD:=hid hsd;have HQS:=hid hqs;have HHN:=hid hn;by_cases hop:0<x.opn
  ·have x1:=HO.cell i 1 x _ HS.at_ rfl;have HFst:=hid (zJy HRr (3 - x.side) (by have:=HS.len.trans HHN;omega));have hsw:wrap64 (3 - x.side)=3 - x.side:=by have:=HSD;unfold wrap64;omega
   go_wp2_with fail;refine HFst.mono ?_;rintro en w1 ⟨rfl,hb1⟩;have HR1:=hid (HRr.below hb1);have HT1:=hid (HTr.below hb1);have c5:w1.cell? (iA b 5)=some (sL g n cap):=HR1.cell 5;have HO1:=hid HR1.ords.1;rcases hf:E.first (3 - x.side) with _|k
   ·have HM:Hid (E.mate i=none):=zMf HS.at_ hf;have hix:idxV none= -1:=rfl;have hqs2:=HQS;go_wp2_with fail;go_quiet (fail);have HR2:=hid (HR1.drewN nq);have HT2:=hid (HT1.drewN nq);generalize w1.drewN nq=W2 at *;have HO2:=hid HR2.ords.1;have c5:W2.cell? (iA b 5)=some (sL g n cap):=HR2.cell 5;have x10:=HO2.cell i 10 x _ HS.at_ rfl;have x2:=HO2.cell i 2 x _ HS.at_ rfl;have x4:=HO2.cell i 4 x _ HS.at_ rfl;have h0:x.opn≠0:=by omega
    have h0b:(x.opn == 0)=false:=by simpa using h0
    have HD:=hid (HS.done HM);have HE:Hid (Eng.swept E i=E.lay i (Eng.atRest x)):=by
     show _=_;unfold Eng.swept;rw[HS.out.at_];simp only;rw[if_neg h0]
    have HSH:=hid (fun(m:Int) (hm:nat63 m)=>zBt (w:=W2) (F:=F) (base:=base) (b:=b) (e:=E) (dv:=dv) (g:=g) (cap:=cap) i m x (by have q:=HR2;rw[←HS.len.trans HHN.out]at q;exact q) HS.at_ HS.room.len (by have:=HS.room.seq;omega) (by have:=HS.room.stm;omega) (by have:=HS.room.out;omega) (n63 _ (by have:=HX.id0;omega) (by have:=HX.id1;omega)) (n63 _ HX.prc0 (by have:=HX.prc1;have:=HS.inv.mp1;omega)) hm);have HFIN:Hid (∀W3:World,RefRep F base W3 b (E.lay i (Eng.atRest x)) dv (sL g E.all.length cap)→RefRep F base W3 b (e.sweep i) dv (sL g n cap)):=fun W3 hW=>by
     rw[HD.out,HE.out];rw[HS.out.len.trans HHN.out]at hW;exact hW
    cases ht2:(x.typ == 2)
    ·have hat:Hid (Eng.atRest x=x.opn):=by
      show _=_;unfold Eng.atRest;rw[if_neg (fun hc=>by simp[hc.1]at ht2)]
     go_wp2_with fail;refine(HSH x.opn ⟨by omega,by omega⟩).mono ?_;rintro en w3 ⟨rfl,hr3,ht3⟩;rw[←hat.out]at hr3;have HR3:=hid (HFIN w3 hr3);have HT3:=hid (HT2.trans ht3);go_wp2;go_end0;exact⟨rfl,HR3,HT3⟩
    ·by_cases hpk:x.peak<x.opn
     ·have hat:Hid (Eng.atRest x=x.peak):=by
       show _=_;unfold Eng.atRest;rw[if_pos ⟨by simpa using ht2,hpk⟩]
      have hp0:=(HX.peak (by simpa using ht2)).1;go_wp2_with fail;refine(HSH x.peak ⟨by omega,by omega⟩).mono ?_;rintro en w3 ⟨rfl,hr3,ht3⟩;rw[←hat.out]at hr3;have HR3:=hid (HFIN w3 hr3);have HT3:=hid (HT2.trans ht3);go_wp2;go_end0;exact⟨rfl,HR3,HT3⟩
     ·have hat:Hid (Eng.atRest x=x.opn):=by
       show _=_;unfold Eng.atRest;rw[if_neg (fun hc=>hpk hc.2)]
      go_wp2_with fail;refine(HSH x.opn ⟨by omega,by omega⟩).mono ?_;rintro en w3 ⟨rfl,hr3,ht3⟩;rw[←hat.out]at hr3;have HR3:=hid (HFIN w3 hr3);have HT3:=hid (HT2.trans ht3);go_wp2;go_end0;exact⟨rfl,HR3,HT3⟩
   ·obtain⟨hklt,r,hk,hrr⟩:=Eng.firstTo_some hf;obtain⟨hrs1,hrs2⟩:=Eng.rests_shown hrr;have hix:idxV (some k)=(k:Int):=rfl;have hkn:k<n:=by have:=HS.len.trans HHN;omega
    have hkI:(k:Int)<(n:Int):=by omega
    have hk0: ¬(k:Int)<0:=by omega
    have HMA:=hid (zMg HS.at_ hop hf hk);have HKK:=hid hk;have HRS:=hid (And.intro hrs1 hrs2);have x1:=HO1.cell i 1 x _ HS.at_ rfl;have x9:=HO1.cell i 9 x _ HS.at_ rfl;have r9:=HO1.cell k 9 r _ HKK rfl;have hqs2:=HQS;have HTR:Hid (Eng.meets x r.price=true→∀W:World,RefRep F base W b E dv (sL g n cap)→Touch F w W→Cl 184 #[iP b,iV i,iV k] W fun en w'=>en=rV #[]∧∃(E':Eng) (x':Ord),x'.opn.toNat<x.opn.toNat∧RefRep F base w' b E' dv (sL g n cap)∧Touch F w w'∧Sweeping e i E' x'∧Eng.Kin o x'):=fun hmt W hW hTW=>by
     have hm:E.mate i=some k:=by rw[HMA.out,if_pos hmt]
     obtain⟨r',hr',hne,hop',hr1,hst,hr2,hmt',i1,et,i2,hi',hlt',h0'⟩:=Eng.trade_step HS.out.inv HS.out.at_ HS.out.st HS.out.sh hm;obtain rfl:r'=r:=Option.some.inj (hr'.symm.trans HKK);have hl:=HS.len.trans HHN;have hsu:=HS.sums;have kx:=HX;refine(zK3 i k x r' (by rw[hl];exact hW) HS.inv HS.at_ HKK hne HS.st HS.sh hop hr1 hst (HS.room.mono (by omega)) hsu.v0 (by have:=hsu.v1;omega) hsu.w0 (by have:=hsu.w1;omega) HS.dr.len HS.dr.bd).mono ?_;rintro en w' ⟨e1,h1,h2⟩;obtain⟨hst',hlt''⟩:=HS.out.step hm HKK;refine⟨e1,E.trade i k,Eng.tradeO x r',?_,by rw[hl]at h1;exact h1,hTW.trans h2,hst',HK.trans (Eng.tradeO_kin x r')⟩;omega
    cases hs1:(x.side == 1)
    ·have h1:x.side≠1:=by simpa using hs1
     have hsd2:=HSD;have hside:Hid (x.side=2):=by show _=_;omega
     have hs2:(x.side == 2)=true:=by simpa using hside.out
     by_cases hpr:r.price<x.price
     ·have HM:Hid (E.mate i=none):=by
       show _=_;rw[HMA.out,if_neg (by unfold Eng.meets;rw[hside.out,if_neg (by decide)];simp;omega)]
      have hk0b:decide ((k:Int)<0)=false:=by simp
      have hprb:decide (r.price<x.price)=true:=by simpa using hpr
      go_wp2_with fail;go_quiet (fail);have HR2:=hid (HR1.drewN nq);have HT2:=hid (HT1.drewN nq);generalize w1.drewN nq=W2 at *;have HO2:=hid HR2.ords.1;have c5:W2.cell? (iA b 5)=some (sL g n cap):=HR2.cell 5;have x10:=HO2.cell i 10 x _ HS.at_ rfl;have x2:=HO2.cell i 2 x _ HS.at_ rfl;have x4:=HO2.cell i 4 x _ HS.at_ rfl;have h0:x.opn≠0:=by omega
      have h0b:(x.opn == 0)=false:=by simpa using h0
      have HD:=hid (HS.done HM);have HE:Hid (Eng.swept E i=E.lay i (Eng.atRest x)):=by
       show _=_;unfold Eng.swept;rw[HS.out.at_];simp only;rw[if_neg h0]
      have HSH:=hid (fun(m:Int) (hm:nat63 m)=>zBt (w:=W2) (F:=F) (base:=base) (b:=b) (e:=E) (dv:=dv) (g:=g) (cap:=cap) i m x (by have q:=HR2;rw[←HS.len.trans HHN.out]at q;exact q) HS.at_ HS.room.len (by have:=HS.room.seq;omega) (by have:=HS.room.stm;omega) (by have:=HS.room.out;omega) (n63 _ (by have:=HX.id0;omega) (by have:=HX.id1;omega)) (n63 _ HX.prc0 (by have:=HX.prc1;have:=HS.inv.mp1;omega)) hm);have HFIN:Hid (∀W3:World,RefRep F base W3 b (E.lay i (Eng.atRest x)) dv (sL g E.all.length cap)→RefRep F base W3 b (e.sweep i) dv (sL g n cap)):=fun W3 hW=>by
       rw[HD.out,HE.out];rw[HS.out.len.trans HHN.out]at hW;exact hW
      cases ht2:(x.typ == 2)
      ·have hat:Hid (Eng.atRest x=x.opn):=by
        show _=_;unfold Eng.atRest;rw[if_neg (fun hc=>by simp[hc.1]at ht2)]
       go_wp2_with fail;refine(HSH x.opn ⟨by omega,by omega⟩).mono ?_;rintro en w3 ⟨rfl,hr3,ht3⟩;rw[←hat.out]at hr3;have HR3:=hid (HFIN w3 hr3);have HT3:=hid (HT2.trans ht3);go_wp2;go_end0;exact⟨rfl,HR3,HT3⟩
      ·by_cases hpk:x.peak<x.opn
       ·have hat:Hid (Eng.atRest x=x.peak):=by
         show _=_;unfold Eng.atRest;rw[if_pos ⟨by simpa using ht2,hpk⟩]
        have hp0:=(HX.peak (by simpa using ht2)).1;go_wp2_with fail;refine(HSH x.peak ⟨by omega,by omega⟩).mono ?_;rintro en w3 ⟨rfl,hr3,ht3⟩;rw[←hat.out]at hr3;have HR3:=hid (HFIN w3 hr3);have HT3:=hid (HT2.trans ht3);go_wp2;go_end0;exact⟨rfl,HR3,HT3⟩
       ·have hat:Hid (Eng.atRest x=x.opn):=by
         show _=_;unfold Eng.atRest;rw[if_neg (fun hc=>hpk hc.2)]
        go_wp2_with fail;refine(HSH x.opn ⟨by omega,by omega⟩).mono ?_;rintro en w3 ⟨rfl,hr3,ht3⟩;rw[←hat.out]at hr3;have HR3:=hid (HFIN w3 hr3);have HT3:=hid (HT2.trans ht3);go_wp2;go_end0;exact⟨rfl,HR3,HT3⟩
     ·have HMT:Hid (Eng.meets x r.price=true):=by
       show _=_;unfold Eng.meets;rw[hside.out,if_neg (by decide)];simp;omega
      have hk0b:decide ((k:Int)<0)=false:=by simp
      have hprb:decide (r.price<x.price)=false:=by simpa using hpr
      go_wp2_with fail;go_quiet (fail);have HR2:=hid (HR1.drewN nq);have HT2:=hid (HT1.drewN nq);generalize w1.drewN nq=W2 at *;go_wp2_with fail;refine(HTR HMT W2 HR2 HT2).mono ?_;rintro en w3 ⟨rfl,hex⟩;have HEX:=hid hex;go_wp2;obtain⟨E',x',hlt3,hR3,hT3,hS3,hK3⟩:=HEX
      go_roundg x'.opn.toNat
      case measure=>exact hlt3
      case rel=>exact⟨E',x',rfl,hR3,hT3,hS3,hK3⟩
    ·have hside:Hid (x.side=1):=by show _=_;simpa using hs1
     have hs2:(x.side == 2)=false:=by rw[hside.out];rfl
     by_cases hpr:x.price<r.price
     ·have HM:Hid (E.mate i=none):=by
       show _=_;rw[HMA.out,if_neg (by unfold Eng.meets;rw[hside.out,if_pos rfl];simp;omega)]
      have hk0b:decide ((k:Int)<0)=false:=by simp
      have hprb:decide (x.price<r.price)=true:=by simpa using hpr
      go_wp2_with fail;go_quiet (fail);have HR2:=hid (HR1.drewN nq);have HT2:=hid (HT1.drewN nq);generalize w1.drewN nq=W2 at *;have HO2:=hid HR2.ords.1;have c5:W2.cell? (iA b 5)=some (sL g n cap):=HR2.cell 5;have x10:=HO2.cell i 10 x _ HS.at_ rfl;have x2:=HO2.cell i 2 x _ HS.at_ rfl;have x4:=HO2.cell i 4 x _ HS.at_ rfl;have h0:x.opn≠0:=by omega
      have h0b:(x.opn == 0)=false:=by simpa using h0
      have HD:=hid (HS.done HM);have HE:Hid (Eng.swept E i=E.lay i (Eng.atRest x)):=by
       show _=_;unfold Eng.swept;rw[HS.out.at_];simp only;rw[if_neg h0]
      have HSH:=hid (fun(m:Int) (hm:nat63 m)=>zBt (w:=W2) (F:=F) (base:=base) (b:=b) (e:=E) (dv:=dv) (g:=g) (cap:=cap) i m x (by have q:=HR2;rw[←HS.len.trans HHN.out]at q;exact q) HS.at_ HS.room.len (by have:=HS.room.seq;omega) (by have:=HS.room.stm;omega) (by have:=HS.room.out;omega) (n63 _ (by have:=HX.id0;omega) (by have:=HX.id1;omega)) (n63 _ HX.prc0 (by have:=HX.prc1;have:=HS.inv.mp1;omega)) hm);have HFIN:Hid (∀W3:World,RefRep F base W3 b (E.lay i (Eng.atRest x)) dv (sL g E.all.length cap)→RefRep F base W3 b (e.sweep i) dv (sL g n cap)):=fun W3 hW=>by
       rw[HD.out,HE.out];rw[HS.out.len.trans HHN.out]at hW;exact hW
      cases ht2:(x.typ == 2)
      ·have hat:Hid (Eng.atRest x=x.opn):=by
        show _=_;unfold Eng.atRest;rw[if_neg (fun hc=>by simp[hc.1]at ht2)]
       go_wp2_with fail;refine(HSH x.opn ⟨by omega,by omega⟩).mono ?_;rintro en w3 ⟨rfl,hr3,ht3⟩;rw[←hat.out]at hr3;have HR3:=hid (HFIN w3 hr3);have HT3:=hid (HT2.trans ht3);go_wp2;go_end0;exact⟨rfl,HR3,HT3⟩
      ·by_cases hpk:x.peak<x.opn
       ·have hat:Hid (Eng.atRest x=x.peak):=by
         show _=_;unfold Eng.atRest;rw[if_pos ⟨by simpa using ht2,hpk⟩]
        have hp0:=(HX.peak (by simpa using ht2)).1;go_wp2_with fail;refine(HSH x.peak ⟨by omega,by omega⟩).mono ?_;rintro en w3 ⟨rfl,hr3,ht3⟩;rw[←hat.out]at hr3;have HR3:=hid (HFIN w3 hr3);have HT3:=hid (HT2.trans ht3);go_wp2;go_end0;exact⟨rfl,HR3,HT3⟩
       ·have hat:Hid (Eng.atRest x=x.opn):=by
         show _=_;unfold Eng.atRest;rw[if_neg (fun hc=>hpk hc.2)]
        go_wp2_with fail;refine(HSH x.opn ⟨by omega,by omega⟩).mono ?_;rintro en w3 ⟨rfl,hr3,ht3⟩;rw[←hat.out]at hr3;have HR3:=hid (HFIN w3 hr3);have HT3:=hid (HT2.trans ht3);go_wp2;go_end0;exact⟨rfl,HR3,HT3⟩
     ·have HMT:Hid (Eng.meets x r.price=true):=by
       show _=_;unfold Eng.meets;rw[hside.out,if_pos rfl];simp;omega
      have hk0b:decide ((k:Int)<0)=false:=by simp
      have hprb:decide (x.price<r.price)=false:=by simpa using hpr
      go_wp2_with fail;go_quiet (fail);have HR2:=hid (HR1.drewN nq);have HT2:=hid (HT1.drewN nq);generalize w1.drewN nq=W2 at *;go_wp2_with fail;refine(HTR HMT W2 HR2 HT2).mono ?_;rintro en w3 ⟨rfl,hex⟩;have HEX:=hid hex;go_wp2;obtain⟨E',x',hlt3,hR3,hT3,hS3,hK3⟩:=HEX
      go_roundg x'.opn.toNat
      case measure=>exact hlt3
      case rel=>exact⟨E',x',rfl,hR3,hT3,hS3,hK3⟩
  ·have HM:Hid (E.mate i=none):=zG9 HS.at_ hop;have h0:x.opn=0:=by have:=HX.opn0;omega
   have HD:=hid (HS.done HM);have f8:=HO.froz (i*15+8);have x8:=HO.cell i 8 x _ HS.at_ rfl;have HE:Hid (Eng.swept E i=E.upd i fun _=>{ x with status:=2 }):=by
    show _=_;unfold Eng.swept;rw[HS.out.at_];simp only;rw[if_pos h0];exact Eng.upd_congr _ i _ _ (fun y hy=>by obtain rfl:x=y:=Option.some.inj (HS.at_.symm.trans hy);rfl)
   have HR2:Hid (RefRep F base (wr.setCell (iA g (i*15+8)) (iV 2)) b (E.upd i fun _=>{ x with status:=2 }) dv (sL g n cap)):=HRr.setO i 8 2 _ _ HS.at_ rfl (by omega);rw[h0]at x10;go_wp2;refine bodyPost_ret (v:=.tuple #[]) (by simp[results,Tryz.results168,go_sem]) rfl ⟨rfl,?_⟩;rw[HD.out,HE.out];exact⟨HR2,HTr.set g _ _ hF⟩
theorem Tryz.infoSt:(Tryz.prog.info? 229).map (fun i=>(i.size,i.bytes))=some (15,120):=by kernel_rfl
theorem Tryz.zeroSt:(Tryz.prog.info? 229).map (fun i=>i.zero)=some (some (.agg #[iV 0,iV 0,iV 0,iV 0,iV 0,iV 0,iV 0,iV 0,iV 0,iV 0,iV 0,iV 0,iV 0,iV 0,iV 0])):=by kernel_rfl
theorem RefRep.appended{W w1:World}{g:Nat}(h:RefRep F base W b e dv av)(o:Ord)(X:Obj)(hown:w1.ownsRow base 229 15 (sL g (e.all.length+1) cap) (e.all.length+1) (rows e.all++o.cells.map (iV)))(hgr:(W.alloc X).drew.grownBy w1 av.ownBlock)(hat:av.ownBlock=some g∨g=W.heap.size+1)(hlt:g<w1.heap.size):
 RefRep F base (w1.setCell (iA b 5) (sL g (e.all.length+1) cap)) b { e with all:=e.all++ [o] } dv (sL g (e.all.length+1) cap)∧Touch F W (w1.setCell (iA b 5) (sL g (e.all.length+1) cap))∧w1.cell? (iA b 5)=some av∧w1.frozen? (iA b 5)=false∧∀k,k<W.heap.size→some k≠av.ownBlock→w1.heap[k]? =W.heap[k]? :=by
 have hsz:W.heap.size+1≤w1.heap.size:=by have:=hgr.size;have e1:(W.alloc X).drew.heap.size=W.heap.size+1:=by show(W.alloc X).heap.size=_;simp
                                         omega
 have hblk: ∀k,k<W.heap.size→some k≠av.ownBlock→w1.heap[k]? =W.heap[k]? :=fun k hk hne=>
  (hgr.block k (by show k<(W.alloc X).heap.size;simp;omega) hne).trans (Below.heap_alloc W X k hk)
 have hbav:some b≠av.ownBlock:=fun e1=>by
  rcases h.al.2 with⟨h1,_⟩|⟨g',cap',cur,h1,_,hh,_⟩
  ·rw[h1]at e1;cases e1
  ·rw[h1]at e1;injection e1 with e1;subst e1;rw[h.blk]at hh;injection hh with hh;injection hh with _ hh _;exact absurd hh (by decide)
 have hb1:=(hblk b h.lt hbav).trans h.blk;have hFg:F g:=by
  rcases hat with h1|h1
  ·exact h.alF g h1
  ·exact h.up g (by omega)
 have hgb:g≠b:=by
  rintro rfl;rcases hown.2 with⟨h1,_⟩|⟨g',cap',cur,h1,_,hh,_⟩
  ·cases h1
  ·injection h1 with h1 _ _;injection h1 with h1;injection h1 with h1;subst h1;rw[hb1]at hh;injection hh with hh;injection hh with _ hh _;exact absurd hh (by decide)
 have hdr1:w1.ownsRow base 3 1 dv e.draws.length (e.draws.map (iV)):=by
  refine⟨h.dr.1,?_⟩;rcases h.dr.2 with h2|⟨g',cap',cur,hv,hg',hh,r⟩
  ·exact .inl h2
  ·refine .inr ⟨g',cap',cur,hv,hg',?_,r⟩;rw[hblk g' (Array.getElem?_eq_some_iff.1 hh).1 (fun e1=>?_)]
   ·exact hh
   ·rcases h.al.2 with⟨h1,_⟩|⟨g'',cap'',cur'',h1,_,hh'',_⟩
    ·rw[h1]at e1;cases e1
    ·rw[h1]at e1;injection e1 with e1;subst e1;rw[hh]at hh'';injection hh'' with hh'';injection hh'' with _ hh'' _;exact absurd hh'' (by decide)
 refine⟨⟨?_,h.own,fun k hk=>h.up k (by have:w1.heap.size≤k:=by simpa using hk
                                       omega),by have:=h.low;simp;omega,?_,?_,fun q hq=>?_⟩,?_,by simp[World.cell?,hb1,engCells],by simp[World.frozen?,hb1],hblk⟩
 ·rw[zA8 w1 b 5 _ _ _ _ hb1];rfl
 ·refine⟨hdr1.1,?_⟩;rcases hdr1.2 with h2|⟨g',cap',cur,hv,hg',hh,r⟩
  ·exact .inl h2
  ·refine .inr ⟨g',cap',cur,hv,hg',?_,r⟩;rw[Below.heap_setCell _ _ _ _ (fun e1=>?_)]
   ·exact hh
   ·have e1:g'=b:=e1;rw[e1,hb1]at hh;injection hh with hh;injection hh with _ hh _;exact absurd hh (by decide)
 ·have hl:({ e with all:=e.all++ [o] }:Eng).all.length=e.all.length+1:=by simp
  rw[hl];show(w1.setCell (iA b 5) _).ownsRow base _ 15 _ _ (rows (e.all++ [o]));rw[zJw];refine⟨hown.1,?_⟩;rcases hown.2 with⟨h1,_⟩|⟨g',cap',cur,hv,hg',hh,r⟩
  ·cases h1
  ·refine .inr ⟨g',cap',cur,hv,hg',?_,r⟩;rw[Below.heap_setCell _ _ _ _ (fun e1=>?_)]
   ·exact hh
   ·injection hv with hv _ _;injection hv with hv;injection hv with hv;exact hgb (hv.trans e1)
 ·have:q=g:=by
   have hq:=hq;exact(Option.some.inj hq).symm
  rw[this];exact hFg
 ·exact Touch.set (⟨hgr.os,hgr.tape,hgr.output,by omega,fun k hk hf=>hblk k hk (fun e1=>hf (h.alF k e1.symm))⟩:Touch F W w1) b 5 _ h.own
namespace Eng
def dueTo(p:Ord→Bool)(reason:Int)(e:Eng)(k:Nat):Eng:=(List.range k).foldl (dueOne p reason) e
theorem dueTo_succ(p:Ord→Bool)(reason:Int)(e:Eng)(k:Nat):dueTo p reason e (k+1)=dueOne p reason (dueTo p reason e k) k:=by
 unfold dueTo;rw[List.range_succ,List.foldl_append];rfl
theorem dueTo_all(p:Ord→Bool)(reason:Int)(e:Eng):dueTo p reason e e.all.length=e.due p reason:=rfl
theorem dueTo_inv(h:EInv e)(p:Ord→Bool)(reason:Int)(k:Nat):EInv (dueTo p reason e k)∧Stays e (dueTo p reason e k):=fold_inv _ (fun e i h=>dueOne_inv h p reason i) (dueOne_stays p reason) _ e h
theorem count_le{α:Type}(p:α→Bool){a b:List α}(h:a.Sublist b):a.countP p≤b.countP p:=h.countP_le
theorem range_sub{k n:Nat}(h:k≤n):(List.range k).Sublist (List.range n):=by
 have:=List.range_sublist.2 h;exact this
theorem dueTo_grew(h:EInv e)(p:Ord→Bool)(reason:Int)(k:Nat)(hk:k≤e.all.length):Grew 64 0 e (dueTo p reason e k):=by
 have:=fold_grew (dueOne p reason) (fun e i=>by
  rcases dueOne_at p reason e i with h1|⟨h1,h2⟩
  ·rw[h1];exact(Grew.refl e).mono (Nat.zero_le _) (Int.le_refl _)
  ·rw[h1,h2];exact gone_grew _ _ _) (fun e i j hne=>by
  rcases dueOne_at p reason e i with h1|⟨h1,h2⟩
  ·rw[h1]
  ·rw[h2];exact lives_at (gone_ne _ _ _ _ hne)) (List.range k) List.nodup_range e
 have h2:=count_le (lives e) (range_sub hk);rw[count_range]at h2;exact this.mono (by have:=h.live;have:=h.mo1;omega) (by omega)
end Eng
theorem RefRep.slice(h:RefRep F base w b e dv av): ∃p cap,av=.slice p e.all.length cap:=by
 rcases h.shape with⟨h1,h2⟩|⟨g,cap,h1,_⟩
 ·exact⟨none,0,by rw[h1,h2];rfl⟩
 ·exact⟨_,cap,h1⟩
theorem RefRep.at_slice{p:Option Addr}{n:Nat}(h:RefRep F base w b e dv (.slice p n cap))(ho:e.all[i]? =some o): ∃g,p=some (iA g 0):=by
 rcases h.shape with⟨_,h2⟩|⟨g,cap,h1,_⟩
 ·rw[h2]at ho;cases ho
 ·injection h1 with h1 _ _;exact⟨g,h1⟩
theorem zMh(t:Int)(h:RefRep F base w b e dv av)(hI:Eng.EInv e)(ht0:0≤t)(ht1:t<4294967296)(hr:Room 100 e):
 Cl 153 #[iP b,iV t] w fun en w'=>en=rV #[]∧RefRep F base w' b (e.tick t) dv av∧Touch F w w':=by
 have c7:cI w b 7 e.now:=h.cell 7;have f7:=h.froz 7;obtain⟨p,cap,rfl⟩:=h.slice;have HR:=hid h;clear h;go_enter Tryz.func153,Tryz.ntmps153;by_cases hlt:t<e.now
 ·have HF:Hid (e.tick t=e.reject 0 10):=by show _=_;unfold Eng.tick;rw[if_pos hlt]
  go_wp2_with fail;refine(zBu HR.out 0 10 (hr.mono (by omega)) (n63 0 (by omega) (by omega)) (n63 10 (by omega) (by omega))).mono ?_;rintro en w2 ⟨rfl,hr2,ht2⟩;have HR2:=hid hr2;have HT2:=hid ht2;clear hr2 ht2 c7 f7;go_wp2;refine bodyPost_ret (v:=.tuple #[]) (by simp[results,Tryz.results153,go_sem]) rfl ⟨rfl,?_,HT2.out⟩;rw[HF.out];exact HR2.out
 ·have HF:Hid (e.tick t={ e with now:=t }.due (fun o=>o.life == 3 && decide (o.time≤t)) 2):=by show _=_;unfold Eng.tick;rw[if_neg hlt]
  have HR1:Hid (RefRep F base (w.setCell (iA b 7) (iV t)) b { e with now:=t } dv (.slice p e.all.length cap)):=HR.set 7 _ _ rfl rfl rfl;have HT1:Hid (Touch F w (w.setCell (iA b 7) (iV t))):=(Touch.refl F w).set b 7 _ HR.own;have HI1:Hid (Eng.EInv { e with now:=t }):=⟨hI.mo0,hI.mo1,hI.mp0,hI.mp1,hI.mq0,hI.mq1,hI.ok,hI.ids,hI.apart,ht0,ht1,hI.live⟩;have HRM:Hid (Room 100 { e with now:=t }):=⟨hr.seq,hr.stm,hr.out,hr.len,hr.drw⟩;go_wp2_with fail;clear c7 f7;generalize w.setCell (iA b 7) (iV t)=W1 at *;have HLE:Hid (e.all.length≤1000000000):=hr.len;have HN:Hid (({ e with now:=t }:Eng).all.length=e.all.length):=rfl;generalize ({ e with now:=t }:Eng)=e1 at *;generalize hn:e.all.length=n at *;have HNN:Hid (e1.all.length=n):=HN.out;have HHN:=hid hn;clear hn HN hI hr HR
  go_loopg [4] n (fun k s wr=> ∃j:Nat,s=iV j∧j≤n∧k=n - j∧RefRep F base wr b (Eng.dueTo (fun o=>o.life == 3 && decide (o.time≤t)) 2 e1 j) dv (.slice p n cap)∧Touch F w wr)
  case atStart=>exact⟨0,rfl,Nat.zero_le _,by omega,HR1.out,HT1.out⟩
  case round=>
   obtain⟨j,rfl,hj,rfl,hR,hT⟩:=hrel;have HRr:=hid hR;have HTr:=hid hT;obtain⟨hIj,hSj⟩:=Eng.dueTo_inv HI1.out (fun o=>o.life == 3 && decide (o.time≤t)) 2 j;have HIj:=hid hIj;have HLj:Hid ((Eng.dueTo (fun o=>o.life == 3 && decide (o.time≤t)) 2 e1 j).all.length=n):=hSj.len.trans HNN.out;have HGj:=hid (Eng.dueTo_grew HI1.out (fun o=>o.life == 3 && decide (o.time≤t)) 2 j (by rw[HNN.out];exact hj));have HSj:=hid hSj;have HSC:=hid (Eng.dueTo_succ (fun o=>o.life == 3 && decide (o.time≤t)) 2 e1 j);have c5:wr.cell? (iA b 5)=some (.slice p n cap):=hR.cell 5;clear hR hT hIj hSj;by_cases hjn:j<n
   ·have hjI:(j:Int)<(n:Int):=by omega
    obtain⟨o,ho⟩: ∃o,(Eng.dueTo (fun o=>o.life == 3 && decide (o.time≤t)) 2 e1 j).all[j]? =some o:=⟨_,List.getElem?_eq_getElem (by rw[HLj.out];exact hjn)⟩;obtain⟨g,rfl⟩:=HRr.out.at_slice ho;have hO:=HRr.ords.1;have o8:=hO.cell j 8 o _ ho rfl;have o6:=hO.cell j 6 o _ ho rfl;have o7:=hO.cell j 7 o _ ho rfl;have HO:=hid ho;have hle:=HLE.out;clear hO ho;cases q8:(o.status == 1)
    ·have HE:Hid (Eng.dueTo (fun o=>o.life == 3 && decide (o.time≤t)) 2 e1 (j+1)=Eng.dueTo (fun o=>o.life == 3 && decide (o.time≤t)) 2 e1 j):=by
      show _=_;rw[HSC.out];unfold Eng.dueOne;rw[HO.out];simp only;rw[if_neg (fun hc=>by simp[hc.1]at q8)]
     go_wp2_with fail
     go_roundg (n - (j+1))
     case measure=>omega
     case rel=>exact⟨j+1,by go_num,by omega,rfl,by rw[HE.out];exact HRr.out,HTr.out⟩
    ·cases q6:(o.life == 3)
     ·have HE:Hid (Eng.dueTo (fun o=>o.life == 3 && decide (o.time≤t)) 2 e1 (j+1)=Eng.dueTo (fun o=>o.life == 3 && decide (o.time≤t)) 2 e1 j):=by
       show _=_;rw[HSC.out];unfold Eng.dueOne;rw[HO.out];simp only;rw[if_neg (fun hc=>by simp[q6]at hc)]
      go_wp2_with fail
      go_roundg (n - (j+1))
      case measure=>omega
      case rel=>exact⟨j+1,by go_num,by omega,rfl,by rw[HE.out];exact HRr.out,HTr.out⟩
     ·by_cases q7:o.time≤t
      ·have HE:Hid (Eng.dueTo (fun o=>o.life == 3 && decide (o.time≤t)) 2 e1 (j+1)=(Eng.dueTo (fun o=>o.life == 3 && decide (o.time≤t)) 2 e1 j).gone j 2):=by
        show _=_;rw[HSC.out];unfold Eng.dueOne;rw[HO.out];simp only;rw[if_pos ⟨by simpa using q8,by rw[q6];simpa using q7⟩]
       have hrm:Hid (Room 1 (Eng.dueTo (fun o=>o.life == 3 && decide (o.time≤t)) 2 e1 j)):=(HRM.grew HGj.out (HLj.trans HNN.symm) (by omega)).mono (by omega);have ko:=hid (HIj.ok j o HO.out);go_wp2_with fail;refine(zDp j 2 o (by rw[HLj.out];exact HRr.out) HO.out hrm.out (n63 _ (by have:=ko.out.id0;omega) (by have:=ko.out.id1;omega)) (n63 _ ko.out.opn0 (by have:=ko.out.sum;have:=ko.out.fil0;have:=ko.out.can0;have:=ko.out.qty1;omega)) (n63 2 (by omega) (by omega))).mono ?_;rintro en w3 ⟨rfl,hr3,ht3⟩;rw[HLj.out]at hr3;have HR3:=hid hr3;have HT3:=hid (HTr.trans ht3);clear hr3 ht3 c5 o8 o6 o7;go_wp2_with fail
       go_roundg (n - (j+1))
       case measure=>omega
       case rel=>exact⟨j+1,by go_num,by omega,rfl,by rw[HE.out];exact HR3.out,HT3.out⟩
      ·have HE:Hid (Eng.dueTo (fun o=>o.life == 3 && decide (o.time≤t)) 2 e1 (j+1)=Eng.dueTo (fun o=>o.life == 3 && decide (o.time≤t)) 2 e1 j):=by
        show _=_;rw[HSC.out];unfold Eng.dueOne;rw[HO.out];simp only;rw[if_neg (fun hc=>by(have h7:=hc.2);rw[q6]at h7;exact q7 (by simpa using h7))]
       go_wp2_with fail
       go_roundg (n - (j+1))
       case measure=>omega
       case rel=>exact⟨j+1,by go_num,by omega,rfl,by rw[HE.out];exact HRr.out,HTr.out⟩
   ·have hjN: ¬(j:Int)<(n:Int):=by omega
    obtain rfl:j=n:=by omega
    go_wp2;go_end0;refine⟨rfl,?_,HTr.out⟩;rw[HF.out];have q:=HRr.out;rw[show Eng.dueTo (fun o=>o.life == 3 && decide (o.time≤t)) 2 e1 j=e1.due (fun o=>o.life == 3 && decide (o.time≤t)) 2 from by rw[←Eng.dueTo_all,HNN.out],←HHN.out]at q;exact q
end Go.Proofs.YtilbfpnpkkkpgaaGreatDoor
