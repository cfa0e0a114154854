import Derived.Test.YtanfmhonjpjpoaaGreatDoorQ00
import Derived.Test.YtanfmhonjpjpoaaGreatDoorQ20
import Derived.Test.YtanfmhonjpjpoaaGreatDoorQ24
import Derived.Deep.LoopGhost
set_option linter.all false
set_option maxRecDepth 100000
set_option maxHeartbeats 8000000
namespace Go.Proofs.YtanfmhonjpjpoaaGreatDoor
variable{E:Eng}{x o:Ord}{wr w':World}{i:Nat}
section
open Go.Extern Go.RowKit
theorem zN2(ho:E.all[i]? =some o)(hf:E.first (3 - o.side)=none):E.mate i=none:=by
 unfold Eng.mate;rw[ho];simp only[hf];split<;>rfl
theorem zGb(ho:E.all[i]? =some o)(h0: ¬0<o.opn):E.mate i=none:=by
 unfold Eng.mate;rw[ho];simp only;rw[if_neg h0]
theorem zN3{k:Nat}{r:Ord}(ho:E.all[i]? =some o)(h0:0<o.opn)(hf:E.first (3 - o.side)=some k)(hk:E.all[k]? =some r):E.mate i=if Eng.meets o r.price then some k else none:=by
 unfold Eng.mate;rw[ho];simp only[hf,hk];rw[if_pos h0]
theorem zQn{F:Nat→Prop}{base:Nat}{w:World}{b:Nat}{e:Eng}{dv:Value}{g cap:Nat}(i:Nat)(o:Ord)(h:RefRep F base w b e dv (sL g e.all.length cap))(hI:Eng.EInv e)(ho:e.all[i]? =some o)(hos:o.status=1)(hsh:o.shown=0)(htp:o.typ≠3)(hr:Room 2001 e)(hsu:Sums 1000 e)(hd:Dr e):
 Cl 192 #[iP b,iV i] w fun en w'=>en=rV #[]∧RefRep F base w' b (e.sweep i) dv (sL g e.all.length cap)∧Touch F w w':=by
 have hi:i<e.all.length:=(List.getElem?_eq_some_iff.1 ho).1;have hiI:(i:Int)<(e.all.length:Int):=by omega
 have hle:=hr.len;have HSt:=hid (Sweeping.start hI ho hos hsh hr hsu hd);have HR:=hid h;generalize hn:e.all.length=n at *;go_enter Tryz.func192,Tryz.ntmps192;go_wp2_with fail
 go_loopg [4] o.opn.toNat (fun k _ wr=> ∃(E:Eng) (x:Ord),k=x.opn.toNat∧RefRep F base wr b E dv (sL g n cap)∧Touch F w wr∧Sweeping e i E x∧Eng.Kin o x)
 case atStart=>exact⟨e,o,rfl,HR,Touch.refl F w,HSt,Eng.Kin.refl o⟩
 case round=>
  obtain⟨E,x,rfl,hR,hT,hS,hK⟩:=hrel;have hlen:E.all.length=n:=hS.len.trans hn;obtain⟨hO,hF,hgb,-⟩:=hR.ords;have c5:wr.cell? (iA b 5)=some (sL g n cap):=hR.cell 5;have x10:=hO.cell i 10 x _ hS.at_ rfl;have HO:=hid hO;have HRr:=hid hR;have HTr:=hid hT;have HS:=hid hS;have HK:=hid hK;have kx:=hS.inv.ok i x hS.at_;have hsd:=kx.side;have hqs:x.opn≤1000:=by have:=kx.sum;have:=kx.fil0;have:=kx.can0;have:=kx.qty1;omega
  have HX:=hid kx;have HSD:=hid hsd;have HQS:=hid hqs;have HHN:=hid hn;by_cases hop:0<x.opn
  ·have x1:=HO.cell i 1 x _ HS.at_ rfl;have HFst:=hid (zKn HRr (3 - x.side) (by have:=HS.len.trans HHN;omega));have hsw:wrap64 (3 - x.side)=3 - x.side:=by have:=HSD;unfold wrap64;omega
   go_wp2_with fail;refine HFst.mono ?_;rintro en w1 ⟨rfl,hb1⟩;have HR1:=hid (HRr.below hb1);have HT1:=hid (HTr.below hb1);have c5:w1.cell? (iA b 5)=some (sL g n cap):=HR1.cell 5;have HO1:=hid HR1.ords.1;rcases hf:E.first (3 - x.side) with _|k
   ·have HM:Hid (E.mate i=none):=zN2 HS.at_ hf;have hix:idxV none= -1:=rfl;have hqs2:=HQS;go_wp2_with fail;go_quiet (fail);have HR2:=hid (HR1.drewN nq);have HT2:=hid (HT1.drewN nq);generalize w1.drewN nq=W2 at *;have HO2:=hid HR2.ords.1;have c5:W2.cell? (iA b 5)=some (sL g n cap):=HR2.cell 5;have x10:=HO2.cell i 10 x _ HS.at_ rfl;have x2:=HO2.cell i 2 x _ HS.at_ rfl;have x4:=HO2.cell i 4 x _ HS.at_ rfl;have h0:x.opn≠0:=by omega
    have h0b:(x.opn == 0)=false:=by simpa using h0
    have HD:=hid (HS.done HM);have HE:Hid (Eng.swept E i=E.lay i (Eng.atRest x)):=by
     show _=_;unfold Eng.swept;rw[HS.out.at_];simp only;rw[if_neg h0]
    have HSH:=hid (fun(m:Int) (hm:nat63 m)=>zBr (w:=W2) (F:=F) (base:=base) (b:=b) (e:=E) (dv:=dv) (g:=g) (cap:=cap) i m x (by have q:=HR2;rw[←HS.len.trans HHN.out]at q;exact q) HS.at_ HS.room.len (by have:=HS.room.seq;omega) (by have:=HS.room.stm;omega) (by have:=HS.room.out;omega) (n63 _ (by have:=HX.id0;omega) (by have:=HX.id1;omega)) (n63 _ HX.prc0 (by have:=HX.prc1;have:=HS.inv.mp1;omega)) hm);have HFIN:Hid (∀W3:World,RefRep F base W3 b (E.lay i (Eng.atRest x)) dv (sL g E.all.length cap)→RefRep F base W3 b (e.sweep i) dv (sL g n cap)):=fun W3 hW=>by
     rw[HD.out,HE.out];rw[HS.out.len.trans HHN.out]at hW;exact hW
    cases ht2:(x.typ == 2)
    ·have hat:Hid (Eng.atRest x=x.opn):=by
      show _=_;unfold Eng.atRest;rw[if_neg (fun hc=>by simp[hc.1]at ht2)]
     go_wp2_with fail;refine(HSH x.opn ⟨by omega,by omega⟩).mono ?_;rintro en w3 ⟨rfl,hr3,ht3⟩;rw[←hat.out]at hr3;have HR3:=hid (HFIN w3 hr3);have HT3:=hid (HT2.trans ht3);go_wp2;go_end0;exact⟨rfl,HR3,HT3⟩
    ·by_cases hpk:x.peak<x.opn
     ·have hat:Hid (Eng.atRest x=x.peak):=by
       show _=_;unfold Eng.atRest;rw[if_pos ⟨by simpa using ht2,hpk⟩]
      have hp0:=(HX.peak (by simpa using ht2)).1;go_wp2_with fail;refine(HSH x.peak ⟨by omega,by omega⟩).mono ?_;rintro en w3 ⟨rfl,hr3,ht3⟩;rw[←hat.out]at hr3;have HR3:=hid (HFIN w3 hr3);have HT3:=hid (HT2.trans ht3);go_wp2;go_end0;exact⟨rfl,HR3,HT3⟩
     ·have hat:Hid (Eng.atRest x=x.opn):=by
       show _=_;unfold Eng.atRest;rw[if_neg (fun hc=>hpk hc.2)]
      go_wp2_with fail;refine(HSH x.opn ⟨by omega,by omega⟩).mono ?_;rintro en w3 ⟨rfl,hr3,ht3⟩;rw[←hat.out]at hr3;have HR3:=hid (HFIN w3 hr3);have HT3:=hid (HT2.trans ht3);go_wp2;go_end0;exact⟨rfl,HR3,HT3⟩
   ·obtain⟨hklt,r,hk,hrr⟩:=Eng.firstTo_some hf;obtain⟨hrs1,hrs2⟩:=Eng.rests_shown hrr;have hix:idxV (some k)=(k:Int):=rfl;have hkn:k<n:=by have:=HS.len.trans HHN;omega
    have hkI:(k:Int)<(n:Int):=by omega
    have hk0: ¬(k:Int)<0:=by omega
    have HMA:=hid (zN3 HS.at_ hop hf hk);have HKK:=hid hk;have HRS:=hid (And.intro hrs1 hrs2);have x1:=HO1.cell i 1 x _ HS.at_ rfl;have x9:=HO1.cell i 9 x _ HS.at_ rfl;have r9:=HO1.cell k 9 r _ HKK rfl;have hqs2:=HQS;have HTR:Hid (Eng.meets x r.price=true→∀W:World,RefRep F base W b E dv (sL g n cap)→Touch F w W→Cl 230 #[iP b,iV i,iV k] W fun en w'=>en=rV #[]∧∃(E':Eng) (x':Ord),x'.opn.toNat<x.opn.toNat∧RefRep F base w' b E' dv (sL g n cap)∧Touch F w w'∧Sweeping e i E' x'∧Eng.Kin o x'):=fun hmt W hW hTW=>by
     have hm:E.mate i=some k:=by rw[HMA.out,if_pos hmt]
     obtain⟨r',hr',hne,hop',hr1,hst,hr2,hmt',i1,et,i2,hi',hlt',h0'⟩:=Eng.trade_step HS.out.inv HS.out.at_ HS.out.st HS.out.sh hm;obtain rfl:r'=r:=Option.some.inj (hr'.symm.trans HKK);have hl:=HS.len.trans HHN;have hsu:=HS.sums;have kx:=HX;refine(zKt i k x r' (by rw[hl];exact hW) HS.inv HS.at_ HKK hne HS.st HS.sh hop hr1 hst (HS.room.mono (by omega)) hsu.v0 (by have:=hsu.v1;omega) hsu.w0 (by have:=hsu.w1;omega) HS.dr.len HS.dr.bd).mono ?_;rintro en w' ⟨e1,h1,h2⟩;obtain⟨hst',hlt''⟩:=HS.out.step hm HKK;refine⟨e1,E.trade i k,Eng.tradeO x r',?_,by rw[hl]at h1;exact h1,hTW.trans h2,hst',HK.trans (Eng.tradeO_kin x r')⟩;omega
    cases hs1:(x.side == 1)
    ·have h1:x.side≠1:=by simpa using hs1
     have hsd2:=HSD;have hside:Hid (x.side=2):=by show _=_;omega
     have hs2:(x.side == 2)=true:=by simpa using hside.out
     by_cases hpr:r.price<x.price
     ·have HM:Hid (E.mate i=none):=by
       show _=_;rw[HMA.out,if_neg (by unfold Eng.meets;rw[hside.out,if_neg (by decide)];simp;omega)]
      have hk0b:decide ((k:Int)<0)=false:=by simp
      have hprb:decide (r.price<x.price)=true:=by simpa using hpr
      go_wp2_with fail;go_quiet (fail);have HR2:=hid (HR1.drewN nq);have HT2:=hid (HT1.drewN nq);generalize w1.drewN nq=W2 at *;have HO2:=hid HR2.ords.1;have c5:W2.cell? (iA b 5)=some (sL g n cap):=HR2.cell 5;have x10:=HO2.cell i 10 x _ HS.at_ rfl;have x2:=HO2.cell i 2 x _ HS.at_ rfl;have x4:=HO2.cell i 4 x _ HS.at_ rfl;have h0:x.opn≠0:=by omega
      have h0b:(x.opn == 0)=false:=by simpa using h0
      have HD:=hid (HS.done HM);have HE:Hid (Eng.swept E i=E.lay i (Eng.atRest x)):=by
       show _=_;unfold Eng.swept;rw[HS.out.at_];simp only;rw[if_neg h0]
      have HSH:=hid (fun(m:Int) (hm:nat63 m)=>zBr (w:=W2) (F:=F) (base:=base) (b:=b) (e:=E) (dv:=dv) (g:=g) (cap:=cap) i m x (by have q:=HR2;rw[←HS.len.trans HHN.out]at q;exact q) HS.at_ HS.room.len (by have:=HS.room.seq;omega) (by have:=HS.room.stm;omega) (by have:=HS.room.out;omega) (n63 _ (by have:=HX.id0;omega) (by have:=HX.id1;omega)) (n63 _ HX.prc0 (by have:=HX.prc1;have:=HS.inv.mp1;omega)) hm);have HFIN:Hid (∀W3:World,RefRep F base W3 b (E.lay i (Eng.atRest x)) dv (sL g E.all.length cap)→RefRep F base W3 b (e.sweep i) dv (sL g n cap)):=fun W3 hW=>by
       rw[HD.out,HE.out];rw[HS.out.len.trans HHN.out]at hW;exact hW
      cases ht2:(x.typ == 2)
      ·have hat:Hid (Eng.atRest x=x.opn):=by
        show _=_;unfold Eng.atRest;rw[if_neg (fun hc=>by simp[hc.1]at ht2)]
       go_wp2_with fail;refine(HSH x.opn ⟨by omega,by omega⟩).mono ?_;rintro en w3 ⟨rfl,hr3,ht3⟩;rw[←hat.out]at hr3;have HR3:=hid (HFIN w3 hr3);have HT3:=hid (HT2.trans ht3);go_wp2;go_end0;exact⟨rfl,HR3,HT3⟩
      ·by_cases hpk:x.peak<x.opn
       ·have hat:Hid (Eng.atRest x=x.peak):=by
         show _=_;unfold Eng.atRest;rw[if_pos ⟨by simpa using ht2,hpk⟩]
        have hp0:=(HX.peak (by simpa using ht2)).1;go_wp2_with fail;refine(HSH x.peak ⟨by omega,by omega⟩).mono ?_;rintro en w3 ⟨rfl,hr3,ht3⟩;rw[←hat.out]at hr3;have HR3:=hid (HFIN w3 hr3);have HT3:=hid (HT2.trans ht3);go_wp2;go_end0;exact⟨rfl,HR3,HT3⟩
       ·have hat:Hid (Eng.atRest x=x.opn):=by
         show _=_;unfold Eng.atRest;rw[if_neg (fun hc=>hpk hc.2)]
        go_wp2_with fail;refine(HSH x.opn ⟨by omega,by omega⟩).mono ?_;rintro en w3 ⟨rfl,hr3,ht3⟩;rw[←hat.out]at hr3;have HR3:=hid (HFIN w3 hr3);have HT3:=hid (HT2.trans ht3);go_wp2;go_end0;exact⟨rfl,HR3,HT3⟩
     ·have HMT:Hid (Eng.meets x r.price=true):=by
       show _=_;unfold Eng.meets;rw[hside.out,if_neg (by decide)];simp;omega
      have hk0b:decide ((k:Int)<0)=false:=by simp
      have hprb:decide (r.price<x.price)=false:=by simpa using hpr
      go_wp2_with fail;go_quiet (fail);have HR2:=hid (HR1.drewN nq);have HT2:=hid (HT1.drewN nq);generalize w1.drewN nq=W2 at *;go_wp2_with fail;refine(HTR HMT W2 HR2 HT2).mono ?_;rintro en w3 ⟨rfl,hex⟩;have HEX:=hid hex;go_wp2;obtain⟨E',x',hlt3,hR3,hT3,hS3,hK3⟩:=HEX
      go_roundg x'.opn.toNat
      case measure=>exact hlt3
      case rel=>exact⟨E',x',rfl,hR3,hT3,hS3,hK3⟩
    ·have hside:Hid (x.side=1):=by show _=_;simpa using hs1
     have hs2:(x.side == 2)=false:=by rw[hside.out];rfl
     by_cases hpr:x.price<r.price
     ·have HM:Hid (E.mate i=none):=by
       show _=_;rw[HMA.out,if_neg (by unfold Eng.meets;rw[hside.out,if_pos rfl];simp;omega)]
      have hk0b:decide ((k:Int)<0)=false:=by simp
      have hprb:decide (x.price<r.price)=true:=by simpa using hpr
      go_wp2_with fail;go_quiet (fail);have HR2:=hid (HR1.drewN nq);have HT2:=hid (HT1.drewN nq);generalize w1.drewN nq=W2 at *;have HO2:=hid HR2.ords.1;have c5:W2.cell? (iA b 5)=some (sL g n cap):=HR2.cell 5;have x10:=HO2.cell i 10 x _ HS.at_ rfl;have x2:=HO2.cell i 2 x _ HS.at_ rfl;have x4:=HO2.cell i 4 x _ HS.at_ rfl;have h0:x.opn≠0:=by omega
      have h0b:(x.opn == 0)=false:=by simpa using h0
      have HD:=hid (HS.done HM);have HE:Hid (Eng.swept E i=E.lay i (Eng.atRest x)):=by
       show _=_;unfold Eng.swept;rw[HS.out.at_];simp only;rw[if_neg h0]
      have HSH:=hid (fun(m:Int) (hm:nat63 m)=>zBr (w:=W2) (F:=F) (base:=base) (b:=b) (e:=E) (dv:=dv) (g:=g) (cap:=cap) i m x (by have q:=HR2;rw[←HS.len.trans HHN.out]at q;exact q) HS.at_ HS.room.len (by have:=HS.room.seq;omega) (by have:=HS.room.stm;omega) (by have:=HS.room.out;omega) (n63 _ (by have:=HX.id0;omega) (by have:=HX.id1;omega)) (n63 _ HX.prc0 (by have:=HX.prc1;have:=HS.inv.mp1;omega)) hm);have HFIN:Hid (∀W3:World,RefRep F base W3 b (E.lay i (Eng.atRest x)) dv (sL g E.all.length cap)→RefRep F base W3 b (e.sweep i) dv (sL g n cap)):=fun W3 hW=>by
       rw[HD.out,HE.out];rw[HS.out.len.trans HHN.out]at hW;exact hW
      cases ht2:(x.typ == 2)
      ·have hat:Hid (Eng.atRest x=x.opn):=by
        show _=_;unfold Eng.atRest;rw[if_neg (fun hc=>by simp[hc.1]at ht2)]
       go_wp2_with fail;refine(HSH x.opn ⟨by omega,by omega⟩).mono ?_;rintro en w3 ⟨rfl,hr3,ht3⟩;rw[←hat.out]at hr3;have HR3:=hid (HFIN w3 hr3);have HT3:=hid (HT2.trans ht3);go_wp2;go_end0;exact⟨rfl,HR3,HT3⟩
      ·by_cases hpk:x.peak<x.opn
       ·have hat:Hid (Eng.atRest x=x.peak):=by
         show _=_;unfold Eng.atRest;rw[if_pos ⟨by simpa using ht2,hpk⟩]
        have hp0:=(HX.peak (by simpa using ht2)).1;go_wp2_with fail;refine(HSH x.peak ⟨by omega,by omega⟩).mono ?_;rintro en w3 ⟨rfl,hr3,ht3⟩;rw[←hat.out]at hr3;have HR3:=hid (HFIN w3 hr3);have HT3:=hid (HT2.trans ht3);go_wp2;go_end0;exact⟨rfl,HR3,HT3⟩
       ·have hat:Hid (Eng.atRest x=x.opn):=by
         show _=_;unfold Eng.atRest;rw[if_neg (fun hc=>hpk hc.2)]
        go_wp2_with fail;refine(HSH x.opn ⟨by omega,by omega⟩).mono ?_;rintro en w3 ⟨rfl,hr3,ht3⟩;rw[←hat.out]at hr3;have HR3:=hid (HFIN w3 hr3);have HT3:=hid (HT2.trans ht3);go_wp2;go_end0;exact⟨rfl,HR3,HT3⟩
     ·have HMT:Hid (Eng.meets x r.price=true):=by
       show _=_;unfold Eng.meets;rw[hside.out,if_pos rfl];simp;omega
      have hk0b:decide ((k:Int)<0)=false:=by simp
      have hprb:decide (x.price<r.price)=false:=by simpa using hpr
      go_wp2_with fail;go_quiet (fail);have HR2:=hid (HR1.drewN nq);have HT2:=hid (HT1.drewN nq);generalize w1.drewN nq=W2 at *;go_wp2_with fail;refine(HTR HMT W2 HR2 HT2).mono ?_;rintro en w3 ⟨rfl,hex⟩;have HEX:=hid hex;go_wp2;obtain⟨E',x',hlt3,hR3,hT3,hS3,hK3⟩:=HEX
      go_roundg x'.opn.toNat
      case measure=>exact hlt3
      case rel=>exact⟨E',x',rfl,hR3,hT3,hS3,hK3⟩
  ·have HM:Hid (E.mate i=none):=zGb HS.at_ hop;have h0:x.opn=0:=by have:=HX.opn0;omega
   have HD:=hid (HS.done HM);have f8:=HO.froz (i*15+8);have x8:=HO.cell i 8 x _ HS.at_ rfl;have HE:Hid (Eng.swept E i=E.upd i fun _=>{ x with status:=2 }):=by
    show _=_;unfold Eng.swept;rw[HS.out.at_];simp only;rw[if_pos h0];exact Eng.upd_congr _ i _ _ (fun y hy=>by obtain rfl:x=y:=Option.some.inj (HS.at_.symm.trans hy);rfl)
   have HR2:Hid (RefRep F base (wr.setCell (iA g (i*15+8)) (iV 2)) b (E.upd i fun _=>{ x with status:=2 }) dv (sL g n cap)):=HRr.setO i 8 2 _ _ HS.at_ rfl (by omega);rw[h0]at x10;go_wp2;refine bodyPost_ret (v:=.tuple #[]) (by simp[results,Tryz.results192,go_sem]) rfl ⟨rfl,?_⟩;rw[HD.out,HE.out];exact⟨HR2,HTr.set g _ _ hF⟩
end
section
open Go.Extern Go.Maps Go.RowKit
section
variable {F:Nat→Prop} {base:Nat} {w:World} {b i k:Nat} {e:Eng} {g:Gh} {S:Sets} {o r:Ord}
def Csw(F:Nat→Prop)(base:Nat)(w:World)(b:Nat)(g:Gh)(e:Eng)(i:Nat)(o:Ord)(E:Eng)(x:Ord)(wr:World):Prop:= ∃t S',CRep F base wr b E { g with txt:=t } S'∧Holds E S' [] []∧Touch F w wr∧Sweeping e i E x∧Eng.Kin o x
theorem Csw.same(h:Csw F base w b g e i o E x wr)(hs:Same wr w'):Csw F base w b g e i o E x w':=by
 obtain⟨t,S',h1,h2,h3,h4,h5⟩:=h;exact⟨t,S',h1.same hs,h2,h3.trans hs.touch,h4,h5⟩
theorem Csw.below(h:Csw F base w b g e i o E x wr)(hs:Below wr.heap.size wr w'):Csw F base w b g e i o E x w':=by
 obtain⟨t,S',h1,h2,h3,h4,h5⟩:=h;exact⟨t,S',h1.below hs,h2,h3.trans (zAj h1.up hs),h4,h5⟩
theorem Csw.oa(h:Csw F base w b g e i o E x wr):OA wr (g.blk i) i x:=by
 obtain⟨t,S',h1,h2,h3,h4,h5⟩:=h;exact h1.oa h4.at_ h4.st
theorem Csw.ok(h:Csw F base w b g e i o E x wr):Eng.Ok E.mp E.stamp x∧x.status=1∧x.opn=x.qty - x.filled∧x.opn≤1000∧0≤x.opn∧x.typ=o.typ∧x.side=o.side∧E.mp≤1000000:=by
 obtain⟨t,S',h1,h2,h3,h4,h5⟩:=h;have k:=h4.inv.ok i x h4.at_;exact⟨k,h4.st,k.open_ h4.st,by have:=k.sum;have:=k.fil0;have:=k.can0;have:=k.qty1;omega,k.opn0,h5.typ,h5.side,h4.inv.mp1⟩
theorem Csw.open_(h:Csw F base w b g e i o E x wr)(W:World)(hW:Same wr W):Cl 124 #[iP (g.blk i)] W fun en w1=>en=.returned (iV x.opn)∧w1.cell? (iA (g.blk i) 3)=sI x.price∧Hid (Csw F base w b g e i o E x w1):=by
 obtain⟨k,hs,ho,h1,h0,_⟩:=h.ok;refine(zAp ((h.same hW).oa) (by rw[←ho];exact zA2 (by omega) (by omega))).mono ?_;rintro en w1 ⟨rfl,hs1⟩;exact⟨by rw[ho],((h.same (hW.trans hs1)).oa).cell 3,h.same (hW.trans hs1)⟩
theorem Csw.fill(h:Csw F base w b g e i o E x wr)(h0:x.opn=0):Cl 206 #[iP b,iP (g.blk i)] wr fun en w'=>en=rV #[]∧Hid (Cdone F base w b g (e.sweep i) w'):=by
 obtain⟨t,S',hC,hH,hT,hS,hK⟩:=h;have hk:=hS.at_;have kr:=hS.inv.ok i x hk;have hsm:=(hC.small hH).mono hS.room.len;have hc0:=kr.live hS.st;refine(zG (fun r=>{ r with status:=2 }) hC hk hS.st (hH.live hk hS.st) (zA2 (by have:=kr.id0;omega) (by have:=kr.id1;omega)) hsm (by simp[Ord.state,h0,hS.sh,hc0])).mono ?_;rintro en w' ⟨rfl,h1,h2⟩;have het:e.sweep i=E.upd i fun r=>{ r with status:=2 }:=by
  rw[hS.done (zGb hk (by omega))];unfold Eng.swept;rw[hk];exact if_pos h0
 refine⟨rfl,t,_,by rw[het];exact h1,?_,hT.trans h2⟩;rw[het];have hse:(E.upd i fun o=>{ o with shown:=0 })=E:=Eng.upd_self (fun y hy=>by
  obtain rfl:x=y:=Option.some.inj (hk.symm.trans hy);show{ x with shown:=0 }=x;rw[←hS.sh])
 exact(hH.leave hS.inv hk).gone hS.inv hk hS.st (List.mem_cons_self ..) (fun j hj=>by simp[hj]) (fun j hj=>by cases hj) (by simp) rfl rfl hS.sh (by rw[hse];exact hS.inv)
theorem Csw.show(h:Csw F base w b g e i o E x wr)(h0:0<x.opn)(hm:E.mate i=none):Cl 204 #[iP (g.blk i)] wr fun en w1=>en=.returned (iV (Eng.atRest x))∧Hid (Cl 203 #[iP b,iP (g.blk i),iV (Eng.atRest x)] w1 fun en w'=>en=rV #[]∧Hid (Cdone F base w b g (e.sweep i) w')):=by
 obtain⟨k,hst,hop,h1000,_⟩:=h.ok;refine(zFu h.oa (by rw[←hop];exact zA2 (by omega) (by omega)) hop).mono ?_;rintro en w1 ⟨rfl,hs1⟩;refine⟨rfl,?_⟩;obtain⟨t,S',hC,hH,hT,hS,hK⟩:=h.same hs1;have hk:=hS.at_;have hb:=Eng.atRest_bd k (by omega);have hsm:=(hC.small hH).mono hS.room.len;have hid63:r63 x.id:=zA2 (by have:=k.id0;omega) (by have:=k.id1;omega);have hp63:r63 x.price:=zA2 k.prc0 (by have:=k.prc1;have:=hS.inv.mp1;omega);refine(zDg _ hC hk hst (hH.live hk hst) hid63 hp63 (zA2 (by omega) (by omega)) (by have:=hS.room.stm;omega) hsm (by have:=hS.room.seq;omega) (by have:=hS.room.out;omega)).mono ?_;rintro en w2 ⟨rfl,t2,p1,p2⟩;have het:e.sweep i=E.lay i (Eng.atRest x):=by
  rw[hS.done hm];unfold Eng.swept;rw[hk];exact if_neg (by omega)
 refine⟨rfl,t2,_,by rw[het];exact p1,?_,hT.trans p2⟩;rw[het];have hL:=Holds.lay (f:=fun y=>{ y with stamp:=(E.stamp+1:Nat),shown:=Eng.atRest x }) hH hS.inv hk rfl rfl rfl (fun j hj=>by cases hj) (show¬Eng.atRest x=0 by omega);refine hL.cong ?_;unfold Eng.lay;rw[hk];rfl
theorem Csw.trade(h:Csw F base w b g e i o E x wr)(h0:0<x.opn)(hm:E.mate i=some k):Cl 205 #[iP b,iP (g.blk i),iP (g.blk k)] wr fun en w'=>en=rV #[]∧Hid (∃y,Csw F base w b g e i o (E.trade i k) y w'∧y.opn<x.opn):=by
 obtain⟨t,S',hC,hH,hT,hS,hK⟩:=h;obtain⟨r,hr,hne,hop,hr1,hst,hr2,hmt,i1,et,i2,hi,hlt,_⟩:=Eng.trade_step hS.inv hS.at_ hS.st hS.sh hm;refine(zM3 hC hS.inv hH hS.at_ hr hne hS.st hS.sh hop hr1 hst (hS.room.mono (by omega)) hS.sums hS.dr).mono ?_;rintro en w' ⟨rfl,hz⟩;obtain⟨t',S2,p1,p2,p3⟩:=hz.out;obtain⟨q1,q2⟩:=hS.step hm hr;exact⟨rfl,_,⟨t',S2,p1,p2,hT.trans p3,q1,hK.trans (Eng.tradeO_kin x r)⟩,q2⟩
theorem zN4(h:Value)(w:World):(Go.method 458 220 h "orderbook/orderbook.firstFor").run Tryz.prog w=.ok (270,h) w:=by kernel_rfl
theorem zN5(q:Nat)(w:World):(nilAhead 458 220 (iP q) "orderbook/orderbook.firstFor").run Tryz.prog w=.ok (some false) w:=by kernel_rfl
theorem Csw.first_sel(h:Csw F base w b g e i o E x wr)(h0:0<x.opn)(hs:o.side=1):Cl 270 #[iP g.selB,iV x.price] wr fun en w1=>en=.returned (optPtr g (E.mate i))∧Hid (Csw F base w b g e i o E x w1):=by
 have h':=h;obtain⟨t,S',hC,hH,hT,hS,hK⟩:=h;refine(zLm hC hS.inv hH hS.at_ h0 (by rw[hK.side];exact hs)).mono ?_;rintro en w1 ⟨rfl,hb⟩;exact⟨rfl,h'.below hb⟩
theorem zN6(h:CRep F base w b e g S)(inv:Eng.EInv e)(hH:Holds e S [] [])(ho:e.all[i]? =some o)(hos:o.status=1)(hsh:o.shown=0)(hro:Room 2001 e)(hsu:Sums 1000 e)(hd:Dr e)(hs:o.side=1):
 Cl 153 #[iP b,iP (g.blk i)] w fun en w'=>en=rV #[]∧Hid (Cdone F base w b g (e.sweep i) w'):=by
 have HSD:Hid (Cl 202 #[iP b,iP (g.blk i)] w fun en w'=>en=rV #[.iface 214 (iP g.buyB),.iface 220 (iP g.selB)]∧Hid (Csw F base w b g e i o e o w')):=by
  refine(zCf h (h.oa ho hos) hs).mono ?_;rintro en w' ⟨rfl,hsm⟩;exact⟨rfl,g.txt,S,h.same hsm,hH,hsm.touch,Sweeping.start inv ho hos hsh hro hsu hd,Eng.Kin.refl o⟩
 have HS:=hid hs;go_enter Tryz.func153,Tryz.ntmps153;go_wp2_with fail;refine HSD.mono ?_;rintro en w0 ⟨rfl,HZ⟩;go_wp2_with fail
 go_loopg [6] o.opn.toNat (fun k _ wr=> ∃(E:Eng) (x:Ord),k=x.opn.toNat∧Csw F base w b g e i o E x wr)
 case atStart=>exact⟨e,o,rfl,HZ⟩
 case round=>
  obtain⟨E,x,rfl,hsw⟩:=hrel;have HW:=hid hsw;go_wp2_with fail;refine(HW.open_ wr (Same.refl wr)).mono ?_;rintro en w1 ⟨rfl,c3,HW1⟩;by_cases h0:0<x.opn
  ·have HFF:Hid (∀W,Same w1 W→Cl 270 #[iP g.selB,iV x.price] W fun en w1=>en=.returned (optPtr g (E.mate i))∧Hid (Csw F base w b g e i o E x w1)):=fun W hW=>(HW1.same hW).first_sel h0 HS
   have hm:=zN4 (iP g.selB) w1.drew;have hnl:=zN5 g.selB w1.drew;go_wp2_with fail;go_region_with(first|(go_at_call 270;refine(HFF w1.drew ((Same.refl w1).drew)).mono ?_;rintro en w2 ⟨rfl,HW2⟩));all_goals(
    rcases hm:E.mate i with _|k
    ·have HSH:=hid (HW2.show h0 hm);unfold optPtr ptrOf;simp only[Option.map_none];go_wp2_with fail;refine HSH.mono ?_;rintro en w3 ⟨rfl,HSH2⟩;go_wp2_with fail;refine HSH2.mono ?_;rintro en w4 ⟨rfl,HD⟩;go_wp2
     (try simp only[Exit.inBlock,Exit.then])
     refine bodyPost_ret (results_none rfl _ _ _) rfl ?_;exact⟨rfl,HD⟩
    ·have HTR:=hid (HW2.trade h0 hm);unfold optPtr ptrOf;simp only[Option.map_some];go_wp2_with fail;refine HTR.mono ?_;rintro en w3 ⟨rfl,HY⟩;obtain⟨y,hy,hlt⟩:=HY;have HY2:=hid hy;have HLT:=hid hlt;go_wp2_with fail
     go_roundg y.opn.toNat
     case rel=>exact⟨_,y,rfl,HY2⟩
     case measure=>have:=HLT;omega)
  ·have HFL:=hid (HW1.fill (by have:=HW1.ok.2.2.2.2.1;omega));go_wp2_with fail;refine HFL.mono ?_;rintro en w2 ⟨rfl,HD⟩;go_wp2;go_end0;exact⟨rfl,HD⟩
theorem zN7(h:Value)(w:World):(Go.method 458 214 h "orderbook/orderbook.firstFor").run Tryz.prog w=.ok (264,h) w:=by kernel_rfl
theorem zN8(q:Nat)(w:World):(nilAhead 458 214 (iP q) "orderbook/orderbook.firstFor").run Tryz.prog w=.ok (some false) w:=by kernel_rfl
theorem Csw.first_buy(h:Csw F base w b g e i o E x wr)(h0:0<x.opn)(hs: ¬o.side=1):Cl 264 #[iP g.buyB,iV x.price] wr fun en w1=>en=.returned (optPtr g (E.mate i))∧Hid (Csw F base w b g e i o E x w1):=by
 have h':=h;obtain⟨t,S',hC,hH,hT,hS,hK⟩:=h;refine(zLn hC hS.inv hH hS.at_ h0 (by rw[hK.side];exact hs)).mono ?_;rintro en w1 ⟨rfl,hb⟩;exact⟨rfl,h'.below hb⟩
theorem zN9(h:CRep F base w b e g S)(inv:Eng.EInv e)(hH:Holds e S [] [])(ho:e.all[i]? =some o)(hos:o.status=1)(hsh:o.shown=0)(hro:Room 2001 e)(hsu:Sums 1000 e)(hd:Dr e)(hs: ¬o.side=1):
 Cl 153 #[iP b,iP (g.blk i)] w fun en w'=>en=rV #[]∧Hid (Cdone F base w b g (e.sweep i) w'):=by
 have HSD:Hid (Cl 202 #[iP b,iP (g.blk i)] w fun en w'=>en=rV #[.iface 220 (iP g.selB),.iface 214 (iP g.buyB)]∧Hid (Csw F base w b g e i o e o w')):=by
  refine(zCg h (h.oa ho hos) hs).mono ?_;rintro en w' ⟨rfl,hsm⟩;exact⟨rfl,g.txt,S,h.same hsm,hH,hsm.touch,Sweeping.start inv ho hos hsh hro hsu hd,Eng.Kin.refl o⟩
 have HS:=hid hs;go_enter Tryz.func153,Tryz.ntmps153;go_wp2_with fail;refine HSD.mono ?_;rintro en w0 ⟨rfl,HZ⟩;go_wp2_with fail
 go_loopg [6] o.opn.toNat (fun k _ wr=> ∃(E:Eng) (x:Ord),k=x.opn.toNat∧Csw F base w b g e i o E x wr)
 case atStart=>exact⟨e,o,rfl,HZ⟩
 case round=>
  obtain⟨E,x,rfl,hsw⟩:=hrel;have HW:=hid hsw;go_wp2_with fail;refine(HW.open_ wr (Same.refl wr)).mono ?_;rintro en w1 ⟨rfl,c3,HW1⟩;by_cases h0:0<x.opn
  ·have HFF:Hid (∀W,Same w1 W→Cl 264 #[iP g.buyB,iV x.price] W fun en w1=>en=.returned (optPtr g (E.mate i))∧Hid (Csw F base w b g e i o E x w1)):=fun W hW=>(HW1.same hW).first_buy h0 HS
   have hm:=zN7 (iP g.buyB) w1.drew;have hnl:=zN8 g.buyB w1.drew;go_wp2_with fail;go_region_with(first|(go_at_call 264;refine(HFF w1.drew ((Same.refl w1).drew)).mono ?_;rintro en w2 ⟨rfl,HW2⟩));all_goals(
    rcases hm:E.mate i with _|k
    ·have HSH:=hid (HW2.show h0 hm);unfold optPtr ptrOf;simp only[Option.map_none];go_wp2_with fail;refine HSH.mono ?_;rintro en w3 ⟨rfl,HSH2⟩;go_wp2_with fail;refine HSH2.mono ?_;rintro en w4 ⟨rfl,HD⟩;go_wp2
     (try simp only[Exit.inBlock,Exit.then])
     refine bodyPost_ret (results_none rfl _ _ _) rfl ?_;exact⟨rfl,HD⟩
    ·have HTR:=hid (HW2.trade h0 hm);unfold optPtr ptrOf;simp only[Option.map_some];go_wp2_with fail;refine HTR.mono ?_;rintro en w3 ⟨rfl,HY⟩;obtain⟨y,hy,hlt⟩:=HY;have HY2:=hid hy;have HLT:=hid hlt;go_wp2_with fail
     go_roundg y.opn.toNat
     case rel=>exact⟨_,y,rfl,HY2⟩
     case measure=>have:=HLT;omega)
  ·have HFL:=hid (HW1.fill (by have:=HW1.ok.2.2.2.2.1;omega));go_wp2_with fail;refine HFL.mono ?_;rintro en w2 ⟨rfl,HD⟩;go_wp2;go_end0;exact⟨rfl,HD⟩
theorem zGc(h:CRep F base w b e g S)(inv:Eng.EInv e)(hH:Holds e S [] [])(ho:e.all[i]? =some o)(hos:o.status=1)(hsh:o.shown=0)(hro:Room 2001 e)(hsu:Sums 1000 e)(hd:Dr e):
 Cl 153 #[iP b,iP (g.blk i)] w fun en w'=>en=rV #[]∧Hid (Cdone F base w b g (e.sweep i) w'):=by
 by_cases hs:o.side=1
 ·exact zN6 h inv hH ho hos hsh hro hsu hd hs
 ·exact zN9 h inv hH ho hos hsh hro hsu hd hs
end
end
end Go.Proofs.YtanfmhonjpjpoaaGreatDoor
