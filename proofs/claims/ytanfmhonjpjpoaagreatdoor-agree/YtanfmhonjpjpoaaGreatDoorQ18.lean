import Derived.Test.YtanfmhonjpjpoaaGreatDoorQ00
import Derived.Test.YtanfmhonjpjpoaaGreatDoorQ15
import Derived.Test.YtanfmhonjpjpoaaGreatDoorQ17
set_option linter.all false
set_option maxRecDepth 100000
set_option maxHeartbeats 8000000
namespace Go.Proofs.YtanfmhonjpjpoaaGreatDoor
variable{i:Nat}{o:Ord}
open Go.Extern Go.RowKit
def Eng.trade0(e:Eng)(i k:Nat)(o r:Ord):Eng:=(e.upd i fun _=>Eng.tradeO o r).upd k fun _=>Eng.tradeR o r
theorem zA8(x:Int)(h0: -9223372036854775808≤x)(h1:x≤9223372036854775807):IntKind.i64.wrap x=x:=by
 rw[IntKind.wrap_i64];omega
theorem zM4{F:Nat→Prop}{base:Nat}{w:World}{b:Nat}{e:Eng}{dv:Value}{g cap:Nat}(i k:Nat)(o r:Ord)(h:RefRep F base w b e dv (sL g e.all.length cap))(hI:Eng.EInv e)(ho:e.all[i]? =some o)(hk:e.all[k]? =some r)(hne:i≠k)(hos:o.status=1)(hsh:o.shown=0)(hop:0<o.opn)(hrs:r.shown≠0)(hrst:r.status=1)(hr:Room 2 e)
 (hv0:0≤e.volume) (hv1:e.volume≤1000000000000) (hw0:0≤e.worth) (hw1:e.worth≤1000000000000000000) (hd:e.draws.length≤1000000000) (hx: ∀x∈e.draws,-9223372036854775808≤x∧x≤9223372036854775807):
 Cl 230 #[iP b,iV i,iV k] w fun en w'=>en=rV #[]∧RefRep F base w' b (e.trade i k) dv (sL g e.all.length cap)∧Touch F w w':=by
 have hi:i<e.all.length:=(List.getElem?_eq_some_iff.1 ho).1;have hk':k<e.all.length:=(List.getElem?_eq_some_iff.1 hk).1;have hiI:(i:Int)<(e.all.length:Int):=by omega
 have hkI:(k:Int)<(e.all.length:Int):=by omega
 have hle:=hr.len;obtain⟨hO,hF,hgb,_⟩:=h.ords;have ko:=hI.ok i o ho;have kr:=hI.ok k r hk;obtain⟨q1,q2,q3⟩:=Eng.qty_bd kr hop hrs;have c5:w.cell? (iA b 5)=some (sL g e.all.length cap):=h.cell 5;have o10:=hO.cell i 10 o _ ho rfl;have o11:=hO.cell i 11 o _ ho rfl;have r10:=hO.cell k 10 r _ hk rfl;have r11:=hO.cell k 11 r _ hk rfl;have r13:=hO.cell k 13 r _ hk rfl;have f1:=hO.froz (i*15+10);have f2:=hO.froz (i*15+11);have f3:=hO.froz (k*15+10);have f4:=hO.froz (k*15+11);have f5:=hO.froz (k*15+13);have b1:=ko.qty1;have b2:=ko.fil0;have b3:=ko.sum;have b4:=ko.can0;have b5:=kr.qty1;have b6:=kr.fil0;have b7:=kr.sum;have b8:=kr.can0;have b9:=kr.shn1;have b10:=kr.opn0;have HR:=hid h;have e1:o.opn+o.filled≤1000:=by omega
 have e2:r.opn+r.filled≤1000:=by omega
 have HQ:Hid (Eng.qtyOf o r=if r.shown<o.opn then r.shown else o.opn):=rfl;generalize hq:Eng.qtyOf o r=q at *;go_enter Tryz.func230,Tryz.ntmps230;by_cases hc:r.shown<o.opn
 ·have hqv:q=r.shown:=by rw[HQ.out,if_pos hc]
  subst hqv;go_wp2_with fail;have HR1:Hid (RefRep F base (((((w.setCell (iA g (i*15+10)) (iV (o.opn - r.shown))).setCell (iA g (i*15+11)) (iV (o.filled+r.shown))).setCell (iA g (k*15+10)) (iV (r.opn - r.shown))).setCell (iA g (k*15+11)) (iV (r.filled+r.shown))).setCell (iA g (k*15+13)) (iV 0)) b (e.trade0 i k o r) dv (sL g e.all.length cap)):=by
   have h1:=HR.setO i 10 (o.opn - r.shown) o { o with opn:=o.opn - r.shown } ho rfl (by omega);have h2:=h1.setO i 11 (o.filled+r.shown) _ (Eng.tradeO o r) (Eng.updc_at _ _ _ _ ho) (by unfold Eng.tradeO;rw[hq];rfl) (by omega);rw[Eng.upd2]at h2;have hk1:(e.upd i fun _=>Eng.tradeO o r).all[k]? =some r:=by rw[Eng.upd_ne _ _ _ _ hne];exact hk
   have h3:=h2.setO k 10 (r.opn - r.shown) r { r with opn:=r.opn - r.shown } hk1 rfl (by omega);have h4:=h3.setO k 11 (r.filled+r.shown) _ { r with opn:=r.opn - r.shown,filled:=r.filled+r.shown } (Eng.updc_at _ _ _ _ hk1) rfl (by omega);rw[Eng.upd2]at h4;have h5:=h4.setO k 13 (r.shown - r.shown) _ (Eng.tradeR o r) (Eng.updc_at _ _ _ _ hk1) (by unfold Eng.tradeR;rw[hq];rfl) (by omega);rw[Eng.upd2]at h5;simp only[Int.sub_self]at h5;exact h5
  have HT1:Hid (Touch F w (((((w.setCell (iA g (i*15+10)) (iV (o.opn - r.shown))).setCell (iA g (i*15+11)) (iV (o.filled+r.shown))).setCell (iA g (k*15+10)) (iV (r.opn - r.shown))).setCell (iA g (k*15+11)) (iV (r.filled+r.shown))).setCell (iA g (k*15+13)) (iV 0))):=(((((Touch.refl F w).set g _ _ hF).set g _ _ hF).set g _ _ hF).set g _ _ hF).set g _ _ hF;generalize (((((w.setCell (iA g (i*15+10)) (iV (o.opn - r.shown))).setCell (iA g (i*15+11)) (iV (o.filled+r.shown))).setCell (iA g (k*15+10)) (iV (r.opn - r.shown))).setCell (iA g (k*15+11)) (iV (r.filled+r.shown))).setCell (iA g (k*15+13)) (iV 0))=W1 at *;have hi1:Hid ((e.trade0 i k o r).all[i]? =some (Eng.tradeO o r)):=by
   show(((e.upd i fun _=>Eng.tradeO o r).upd k fun _=>Eng.tradeR o r).all[i]?)=_;rw[Eng.upd_ne _ _ _ _ (fun e=>hne e.symm)];exact Eng.updc_at _ _ _ _ ho
  have hk1:Hid ((e.trade0 i k o r).all[k]? =some (Eng.tradeR o r)):=by
   show(((e.upd i fun _=>Eng.tradeO o r).upd k fun _=>Eng.tradeR o r).all[k]?)=_;exact Eng.updc_at _ _ _ r (by rw[Eng.upd_ne _ _ _ _ hne];exact hk)
  have c11:cI W1 b 11 e.worth:=HR1.cell 11;have f11:=HR1.froz 11;have r9:cI W1 g (k*15+9) r.price:=by have q:=HR1.ords.1.cell k 9 _ _ hk1.out rfl;exact q
  have m0:0≤r.shown*r.price:=Int.mul_nonneg (by omega) kr.prc0;have m1:r.shown*r.price≤1000000000:=by
   have p1:=kr.prc1;have p2:=hI.mp1;have:r.shown*r.price≤r.shown*1000000:=Int.mul_le_mul_of_nonneg_left (by omega) (by omega);omega
  apply merge
  ·intro hh;go_region_law(fail);all_goals exact hh
  rw[zA8 (r.shown*r.price) (by omega) (by omega),zA8 (e.worth+r.shown*r.price) (by omega) (by omega)];have HR2:Hid (RefRep F base (W1.setCell (iA b 11) (iV (e.worth+r.shown*r.price))).drew b { e.trade0 i k o r with worth:=e.worth+r.shown*r.price } dv (sL g e.all.length cap)):=(HR1.set 11 (iV (e.worth+r.shown*r.price)) { e.trade0 i k o r with worth:=e.worth+r.shown*r.price } rfl rfl rfl).drew;have HT2:Hid (Touch F w (W1.setCell (iA b 11) (iV (e.worth+r.shown*r.price))).drew):=(HT1.set b _ _ HR1.own).drew;generalize (W1.setCell (iA b 11) (iV (e.worth+r.shown*r.price))).drew=W2 at *;have c12:cI W2 b 12 e.volume:=HR2.cell 12;have f12:=HR2.froz 12;have HS:Hid (∀(W:World) (E:Eng),RefRep F base W b E dv (sL g e.all.length cap)→E.all=(e.trade0 i k o r).all→cI W g (i*15) o.id∧cI W g (k*15) r.id∧cI W g (k*15+9) r.price):=fun W E hW hE=>by
   have a0:=hW.ords.1.cell0 i _ (by rw[hE];exact hi1.out);have a1:=hW.ords.1.cell0 k _ (by rw[hE];exact hk1.out);have a2:=hW.ords.1.cell k 9 _ _ (by rw[hE];exact hk1.out) rfl;exact⟨a0,a1,a2⟩
  obtain⟨s0,s1,s2⟩:=HS W2 _ HR2 rfl;go_wp2_with fail;have HR3:Hid (RefRep F base (W2.setCell (iA b 12) (iV (e.volume+r.shown))) b { e.trade0 i k o r with worth:=e.worth+r.shown*r.price,volume:=e.volume+r.shown } dv (sL g e.all.length cap)):=HR2.set 12 (iV (e.volume+r.shown)) { e.trade0 i k o r with worth:=e.worth+r.shown*r.price,volume:=e.volume+r.shown } rfl rfl rfl;have HT3:Hid (Touch F w (W2.setCell (iA b 12) (iV (e.volume+r.shown)))):=HT2.set b _ _ HR2.own;generalize W2.setCell (iA b 12) (iV (e.volume+r.shown))=W3 at *
  have HCT:=hid (zCt HR3.out HT3 3 o.id r.id r.price r.shown 0 ⟨by have:=hr.seq;show e.seq+1≤_;omega,by have:=hr.stm;show e.stamp+1≤_;omega,by have:=hr.out;show e.out.length+22*1≤_;omega,by show(((e.upd i fun _=>Eng.tradeO o r).upd k fun _=>Eng.tradeR o r).all.length)≤_;rw[Eng.upd_len,Eng.upd_len];exact hr.len,by have:=hr.drw;show e.drawn+1≤_;omega⟩ (n63 3 (by omega) (by omega)) (n63 o.id (by have:=ko.id0;omega) (by have:=ko.id1;omega)) (n63 r.id (by have:=kr.id0;omega) (by have:=kr.id1;omega)) (n63 r.price kr.prc0 (by have:=kr.prc1;have:=hI.mp1;omega)) (n63 r.shown (by omega) (by omega)) (n63 0 (by omega) (by omega)));obtain⟨s0,s1,s2⟩:=HS W3 _ HR3 rfl
  go_region_held3(fun X=>X.cell? (iA g (i*15))=sI o.id∧X.cell? (iA g (k*15))=sI r.id∧X.cell? (iA g (k*15+9))=sI r.price) (first|exact⟨s0,s1,s2⟩|exact HS _ _ hr' rfl) ((go_at_call 138;refine(HCT W3.drew rfl rfl rfl rfl).mono ?_;rintro en w' ⟨rfl,hr',ht'⟩));have HR4:Hid (RefRep F base w' b (e.trade1 i k o r) dv (sL g e.all.length cap)):=by
   have e3:e.trade1 i k o r=({ e.trade0 i k o r with worth:=e.worth+r.shown*r.price,volume:=e.volume+r.shown }:Eng).tell 3 o.id r.id r.price r.shown 0:=by
    unfold Eng.trade1;rw[hq];rfl
   rw[e3];exact hr'
  have HT4:Hid (Touch F w w'):=ht';have hk4:Hid ((e.trade1 i k o r).all[k]? =some (Eng.tradeR o r)):=by show _=_;rw[Eng.trade1_at,if_pos rfl,hk];rfl
  have hI4:Hid (Eng.EInv (e.trade1 i k o r)):=hI.trade1 i k o r ho hk hne hos hsh hop hrs;have hL4:Hid ((e.trade1 i k o r).all.length=e.all.length):=Eng.trade1_len _ _ _ _ _;have hRm4:Hid (Room 1 (e.trade1 i k o r)):=by
   have hg:=Eng.Grew.trade1 (e:=e) i k o r (by omega) (kr.shp (by omega)) (by have:=kr.prc1;have:=hI.mp1;omega);exact(hr.grew hg hL4.out (by omega)).mono (by omega)
  have HE:Hid (e.trade i k=(e.trade1 i k o r).trade2 k (Eng.tradeR o r)):=Eng.trade_eq e i k o r ho hk hne;have t10:(Eng.tradeR o r).opn=r.opn - r.shown:=by unfold Eng.tradeR;rw[hq]
  have t13:(Eng.tradeR o r).shown=r.shown - r.shown:=by unfold Eng.tradeR;rw[hq]
  have t4:(Eng.tradeR o r).peak=r.peak:=rfl;have a10:cI w' g (k*15+10) (r.opn - r.shown):=by have q:=HR4.ords.1.cell k 10 _ _ hk4.out rfl;rw[t10]at q;exact q
  have a13:cI w' g (k*15+13) 0:=by have q:=HR4.ords.1.cell k 13 _ _ hk4.out rfl;rw[t13,Int.sub_self]at q;exact q
  have a8:cI w' g (k*15+8) r.status:=by have q:=HR4.ords.1.cell k 8 _ _ hk4.out rfl;exact q
  have g8:=HR4.ords.1.froz (k*15+8);cases hz:(r.opn - r.shown == 0)
  ·have hz':r.opn - r.shown≠0:=by simpa using hz
   by_cases hy:r.shown - r.shown≠0
   ·exact absurd (Int.sub_self _) hy
   ·have hy':r.shown - r.shown=0:=Int.sub_self _;have ht:r.typ=2:=Classical.byContradiction fun hn=>hz' (by rcases kr.whole hn with h1|h1<;>omega)
    have hpk:=kr.peak ht;have HD:=hid (zGu HR4 hRm4.out hd hx);go_wp2_with fail;refine HD.mono ?_;rintro en w5 ⟨rfl,hr5,ht5⟩;have HR5:=hid hr5;have HT5:Hid (Touch F w w5):=HT4.trans ht5;have hd0:0≤(e.trade1 i k o r).draw.1∧(e.trade1 i k o r).draw.1<4294967296:=by
     show 0≤(if e.draws.length=0 then 0 else(e.draws.getD (e.drawn % e.draws.length) 0) % 4294967296)∧(if e.draws.length=0 then 0 else(e.draws.getD (e.drawn % e.draws.length) 0) % 4294967296)<4294967296;split<;>omega
    have b10':cI w5 g (k*15+10) (r.opn - r.shown):=by have q:=HR5.ords.1.cell k 10 _ _ hk4.out rfl;rw[t10]at q;exact q
    have b4':cI w5 g (k*15+4) r.peak:=by have q:=HR5.ords.1.cell k 4 _ _ hk4.out rfl;exact q
    have HSH:=fun n hn=>hid (zC4 (w:=w5) (F:=F) (base:=base) (b:=b) (e:=(e.trade1 i k o r).draw.2) (dv:=dv) (g:=g) (cap:=cap) k n (Eng.tradeR o r) (by have q:=HR5;exact hL4.out▸q) hk4.out (by show(e.trade1 i k o r).all.length≤_;rw[hL4.out];omega) (by have:=hRm4.out.seq;show(e.trade1 i k o r).seq<_;omega) (by have:=hRm4.out.stm;show(e.trade1 i k o r).stamp<_;omega) (by have:=hRm4.out.out;show(e.trade1 i k o r).out.length≤_;omega) (n63 _ (by have:=kr.id0;show 0≤r.id;omega) (by have:=kr.id1;show r.id≤_;omega)) (n63 _ kr.prc0 (by have:=kr.prc1;have:=hI.mp1;show r.price≤_;omega)) hn)
    have HF:Hid (e.trade i k=(e.trade1 i k o r).draw.2.lay k (if r.opn - r.shown<1+(e.trade1 i k o r).draw.1 % r.peak then r.opn - r.shown else 1+(e.trade1 i k o r).draw.1 % r.peak)):=by
     show _=_;rw[HE.out];unfold Eng.trade2;rw[t10,t13,if_neg hz',if_pos hy'];rfl
    have HSH':=hid HSH;generalize (e.trade1 i k o r).draw.1=d at *;have htm:Int.tmod d r.peak=d % r.peak:=Int.tmod_eq_emod_of_nonneg (by omega);have hp0:(r.peak == 0)=false:=by simp;omega
    have hm0:=Int.emod_nonneg d (b:=r.peak) (by omega);have hm1:=Int.emod_lt_of_pos d (b:=r.peak) (by omega);generalize d % r.peak=m at *;by_cases hgt:r.opn - r.shown<1+m
    ·go_wp2_with fail;refine(HSH' (r.opn - r.shown) ⟨by omega,by omega⟩).out.mono ?_;rintro en w6 ⟨rfl,hr6,ht6⟩;rw[if_pos hgt]at HF;have HR6:Hid (RefRep F base w6 b (e.trade i k) dv (sL g e.all.length cap)):=by
      have q:=hr6;rw[←HF.out]at q;have q2:(e.trade1 i k o r).draw.2.all.length=e.all.length:=hL4.out;rw[q2]at q;exact q
     have HT6:Hid (Touch F w w6):=HT5.trans ht6;go_wp2;go_end0;exact⟨rfl,HR6,HT6⟩
    ·go_wp2_with fail;refine(HSH' (1+m) ⟨by omega,by omega⟩).out.mono ?_;rintro en w6 ⟨rfl,hr6,ht6⟩;rw[if_neg (by omega)]at HF;have HR6:Hid (RefRep F base w6 b (e.trade i k) dv (sL g e.all.length cap)):=by
      have q:=hr6;rw[←HF.out]at q;have q2:(e.trade1 i k o r).draw.2.all.length=e.all.length:=hL4.out;rw[q2]at q;exact q
     have HT6:Hid (Touch F w w6):=HT5.trans ht6;go_wp2;go_end0;exact⟨rfl,HR6,HT6⟩
  ·have hz':r.opn - r.shown=0:=by simpa using hz
   have HF:Hid (e.trade i k=(e.trade1 i k o r).upd k fun _=>{ Eng.tradeR o r with status:=2 }):=by
    show _=_;rw[HE.out];unfold Eng.trade2;rw[t10,if_pos hz'];exact Eng.upd_congr _ k _ _ (fun x hx=>by obtain rfl:Eng.tradeR o r=x:=Option.some.inj (hk4.out.symm.trans hx);rfl)
   have HR5:Hid (RefRep F base (w'.setCell (iA g (k*15+8)) (iV 2)) b ((e.trade1 i k o r).upd k fun _=>{ Eng.tradeR o r with status:=2 }) dv (sL g e.all.length cap)):=HR4.setO k 8 2 _ _ hk4.out rfl (by omega);go_wp2;go_end0;exact⟨rfl,HF.out▸HR5.out,HT4.set g _ _ hF⟩
 ·have hqv:q=o.opn:=by rw[HQ.out,if_neg hc]
  subst hqv;go_wp2_with fail;have HR1:Hid (RefRep F base (((((w.setCell (iA g (i*15+10)) (iV 0)).setCell (iA g (i*15+11)) (iV (o.filled+o.opn))).setCell (iA g (k*15+10)) (iV (r.opn - o.opn))).setCell (iA g (k*15+11)) (iV (r.filled+o.opn))).setCell (iA g (k*15+13)) (iV (r.shown - o.opn))) b (e.trade0 i k o r) dv (sL g e.all.length cap)):=by
   have h1:=HR.setO i 10 (o.opn - o.opn) o { o with opn:=o.opn - o.opn } ho rfl (by omega);have h2:=h1.setO i 11 (o.filled+o.opn) _ (Eng.tradeO o r) (Eng.updc_at _ _ _ _ ho) (by unfold Eng.tradeO;rw[hq];rfl) (by omega);rw[Eng.upd2]at h2;have hk1:(e.upd i fun _=>Eng.tradeO o r).all[k]? =some r:=by rw[Eng.upd_ne _ _ _ _ hne];exact hk
   have h3:=h2.setO k 10 (r.opn - o.opn) r { r with opn:=r.opn - o.opn } hk1 rfl (by omega);have h4:=h3.setO k 11 (r.filled+o.opn) _ { r with opn:=r.opn - o.opn,filled:=r.filled+o.opn } (Eng.updc_at _ _ _ _ hk1) rfl (by omega);rw[Eng.upd2]at h4;have h5:=h4.setO k 13 (r.shown - o.opn) _ (Eng.tradeR o r) (Eng.updc_at _ _ _ _ hk1) (by unfold Eng.tradeR;rw[hq];rfl) (by omega);rw[Eng.upd2]at h5;simp only[Int.sub_self]at h5;exact h5
  have HT1:Hid (Touch F w (((((w.setCell (iA g (i*15+10)) (iV 0)).setCell (iA g (i*15+11)) (iV (o.filled+o.opn))).setCell (iA g (k*15+10)) (iV (r.opn - o.opn))).setCell (iA g (k*15+11)) (iV (r.filled+o.opn))).setCell (iA g (k*15+13)) (iV (r.shown - o.opn)))):=(((((Touch.refl F w).set g _ _ hF).set g _ _ hF).set g _ _ hF).set g _ _ hF).set g _ _ hF;generalize (((((w.setCell (iA g (i*15+10)) (iV 0)).setCell (iA g (i*15+11)) (iV (o.filled+o.opn))).setCell (iA g (k*15+10)) (iV (r.opn - o.opn))).setCell (iA g (k*15+11)) (iV (r.filled+o.opn))).setCell (iA g (k*15+13)) (iV (r.shown - o.opn)))=W1 at *;have hi1:Hid ((e.trade0 i k o r).all[i]? =some (Eng.tradeO o r)):=by
   show(((e.upd i fun _=>Eng.tradeO o r).upd k fun _=>Eng.tradeR o r).all[i]?)=_;rw[Eng.upd_ne _ _ _ _ (fun e=>hne e.symm)];exact Eng.updc_at _ _ _ _ ho
  have hk1:Hid ((e.trade0 i k o r).all[k]? =some (Eng.tradeR o r)):=by
   show(((e.upd i fun _=>Eng.tradeO o r).upd k fun _=>Eng.tradeR o r).all[k]?)=_;exact Eng.updc_at _ _ _ r (by rw[Eng.upd_ne _ _ _ _ hne];exact hk)
  have c11:cI W1 b 11 e.worth:=HR1.cell 11;have f11:=HR1.froz 11;have r9:cI W1 g (k*15+9) r.price:=by have q:=HR1.ords.1.cell k 9 _ _ hk1.out rfl;exact q
  have m0:0≤o.opn*r.price:=Int.mul_nonneg (by omega) kr.prc0;have m1:o.opn*r.price≤1000000000:=by
   have p1:=kr.prc1;have p2:=hI.mp1;have:o.opn*r.price≤o.opn*1000000:=Int.mul_le_mul_of_nonneg_left (by omega) (by omega);omega
  apply merge
  ·intro hh;go_region_law(fail);all_goals exact hh
  rw[zA8 (o.opn*r.price) (by omega) (by omega),zA8 (e.worth+o.opn*r.price) (by omega) (by omega)];have HR2:Hid (RefRep F base (W1.setCell (iA b 11) (iV (e.worth+o.opn*r.price))).drew b { e.trade0 i k o r with worth:=e.worth+o.opn*r.price } dv (sL g e.all.length cap)):=(HR1.set 11 (iV (e.worth+o.opn*r.price)) { e.trade0 i k o r with worth:=e.worth+o.opn*r.price } rfl rfl rfl).drew;have HT2:Hid (Touch F w (W1.setCell (iA b 11) (iV (e.worth+o.opn*r.price))).drew):=(HT1.set b _ _ HR1.own).drew;generalize (W1.setCell (iA b 11) (iV (e.worth+o.opn*r.price))).drew=W2 at *;have c12:cI W2 b 12 e.volume:=HR2.cell 12;have f12:=HR2.froz 12;have HS:Hid (∀(W:World) (E:Eng),RefRep F base W b E dv (sL g e.all.length cap)→E.all=(e.trade0 i k o r).all→cI W g (i*15) o.id∧cI W g (k*15) r.id∧cI W g (k*15+9) r.price):=fun W E hW hE=>by
   have a0:=hW.ords.1.cell0 i _ (by rw[hE];exact hi1.out);have a1:=hW.ords.1.cell0 k _ (by rw[hE];exact hk1.out);have a2:=hW.ords.1.cell k 9 _ _ (by rw[hE];exact hk1.out) rfl;exact⟨a0,a1,a2⟩
  obtain⟨s0,s1,s2⟩:=HS W2 _ HR2 rfl;go_wp2_with fail;have HR3:Hid (RefRep F base (W2.setCell (iA b 12) (iV (e.volume+o.opn))) b { e.trade0 i k o r with worth:=e.worth+o.opn*r.price,volume:=e.volume+o.opn } dv (sL g e.all.length cap)):=HR2.set 12 (iV (e.volume+o.opn)) { e.trade0 i k o r with worth:=e.worth+o.opn*r.price,volume:=e.volume+o.opn } rfl rfl rfl;have HT3:Hid (Touch F w (W2.setCell (iA b 12) (iV (e.volume+o.opn)))):=HT2.set b _ _ HR2.own;generalize W2.setCell (iA b 12) (iV (e.volume+o.opn))=W3 at *
  have HCT:=hid (zCt HR3.out HT3 3 o.id r.id r.price o.opn 0 ⟨by have:=hr.seq;show e.seq+1≤_;omega,by have:=hr.stm;show e.stamp+1≤_;omega,by have:=hr.out;show e.out.length+22*1≤_;omega,by show(((e.upd i fun _=>Eng.tradeO o r).upd k fun _=>Eng.tradeR o r).all.length)≤_;rw[Eng.upd_len,Eng.upd_len];exact hr.len,by have:=hr.drw;show e.drawn+1≤_;omega⟩ (n63 3 (by omega) (by omega)) (n63 o.id (by have:=ko.id0;omega) (by have:=ko.id1;omega)) (n63 r.id (by have:=kr.id0;omega) (by have:=kr.id1;omega)) (n63 r.price kr.prc0 (by have:=kr.prc1;have:=hI.mp1;omega)) (n63 o.opn (by omega) (by omega)) (n63 0 (by omega) (by omega)));obtain⟨s0,s1,s2⟩:=HS W3 _ HR3 rfl
  go_region_held3(fun X=>X.cell? (iA g (i*15))=sI o.id∧X.cell? (iA g (k*15))=sI r.id∧X.cell? (iA g (k*15+9))=sI r.price) (first|exact⟨s0,s1,s2⟩|exact HS _ _ hr' rfl) ((go_at_call 138;refine(HCT W3.drew rfl rfl rfl rfl).mono ?_;rintro en w' ⟨rfl,hr',ht'⟩));have HR4:Hid (RefRep F base w' b (e.trade1 i k o r) dv (sL g e.all.length cap)):=by
   have e3:e.trade1 i k o r=({ e.trade0 i k o r with worth:=e.worth+o.opn*r.price,volume:=e.volume+o.opn }:Eng).tell 3 o.id r.id r.price o.opn 0:=by
    unfold Eng.trade1;rw[hq];rfl
   rw[e3];exact hr'
  have HT4:Hid (Touch F w w'):=ht';have hk4:Hid ((e.trade1 i k o r).all[k]? =some (Eng.tradeR o r)):=by show _=_;rw[Eng.trade1_at,if_pos rfl,hk];rfl
  have hI4:Hid (Eng.EInv (e.trade1 i k o r)):=hI.trade1 i k o r ho hk hne hos hsh hop hrs;have hL4:Hid ((e.trade1 i k o r).all.length=e.all.length):=Eng.trade1_len _ _ _ _ _;have hRm4:Hid (Room 1 (e.trade1 i k o r)):=by
   have hg:=Eng.Grew.trade1 (e:=e) i k o r (by omega) (kr.shp (by omega)) (by have:=kr.prc1;have:=hI.mp1;omega);exact(hr.grew hg hL4.out (by omega)).mono (by omega)
  have HE:Hid (e.trade i k=(e.trade1 i k o r).trade2 k (Eng.tradeR o r)):=Eng.trade_eq e i k o r ho hk hne;have t10:(Eng.tradeR o r).opn=r.opn - o.opn:=by unfold Eng.tradeR;rw[hq]
  have t13:(Eng.tradeR o r).shown=r.shown - o.opn:=by unfold Eng.tradeR;rw[hq]
  have t4:(Eng.tradeR o r).peak=r.peak:=rfl;have a10:cI w' g (k*15+10) (r.opn - o.opn):=by have q:=HR4.ords.1.cell k 10 _ _ hk4.out rfl;rw[t10]at q;exact q
  have a13:cI w' g (k*15+13) (r.shown - o.opn):=by have q:=HR4.ords.1.cell k 13 _ _ hk4.out rfl;rw[t13]at q;exact q
  have a8:cI w' g (k*15+8) r.status:=by have q:=HR4.ords.1.cell k 8 _ _ hk4.out rfl;exact q
  have g8:=HR4.ords.1.froz (k*15+8);cases hz:(r.opn - o.opn == 0)
  ·have hz':r.opn - o.opn≠0:=by simpa using hz
   cases hy:(r.shown - o.opn == 0)
   ·have hy':r.shown - o.opn≠0:=by simpa using hy
    have HF:Hid (e.trade i k=e.trade1 i k o r):=by
     show _=_;rw[HE.out];unfold Eng.trade2;rw[t10,t13,if_neg hz',if_neg hy']
    go_wp2;go_end0;exact⟨rfl,HF.out▸HR4.out,HT4⟩
   ·have hy':r.shown - o.opn=0:=by simpa using hy
    have ht:r.typ=2:=Classical.byContradiction fun hn=>hz' (by rcases kr.whole hn with h1|h1<;>omega)
    have hpk:=kr.peak ht;have HD:=hid (zGu HR4 hRm4.out hd hx);go_wp2_with fail;refine HD.mono ?_;rintro en w5 ⟨rfl,hr5,ht5⟩;have HR5:=hid hr5;have HT5:Hid (Touch F w w5):=HT4.trans ht5;have hd0:0≤(e.trade1 i k o r).draw.1∧(e.trade1 i k o r).draw.1<4294967296:=by
     show 0≤(if e.draws.length=0 then 0 else(e.draws.getD (e.drawn % e.draws.length) 0) % 4294967296)∧(if e.draws.length=0 then 0 else(e.draws.getD (e.drawn % e.draws.length) 0) % 4294967296)<4294967296;split<;>omega
    have b10':cI w5 g (k*15+10) (r.opn - o.opn):=by have q:=HR5.ords.1.cell k 10 _ _ hk4.out rfl;rw[t10]at q;exact q
    have b4':cI w5 g (k*15+4) r.peak:=by have q:=HR5.ords.1.cell k 4 _ _ hk4.out rfl;exact q
    have HSH:=fun n hn=>hid (zC4 (w:=w5) (F:=F) (base:=base) (b:=b) (e:=(e.trade1 i k o r).draw.2) (dv:=dv) (g:=g) (cap:=cap) k n (Eng.tradeR o r) (by have q:=HR5;exact hL4.out▸q) hk4.out (by show(e.trade1 i k o r).all.length≤_;rw[hL4.out];omega) (by have:=hRm4.out.seq;show(e.trade1 i k o r).seq<_;omega) (by have:=hRm4.out.stm;show(e.trade1 i k o r).stamp<_;omega) (by have:=hRm4.out.out;show(e.trade1 i k o r).out.length≤_;omega) (n63 _ (by have:=kr.id0;show 0≤r.id;omega) (by have:=kr.id1;show r.id≤_;omega)) (n63 _ kr.prc0 (by have:=kr.prc1;have:=hI.mp1;show r.price≤_;omega)) hn)
    have HF:Hid (e.trade i k=(e.trade1 i k o r).draw.2.lay k (if r.opn - o.opn<1+(e.trade1 i k o r).draw.1 % r.peak then r.opn - o.opn else 1+(e.trade1 i k o r).draw.1 % r.peak)):=by
     show _=_;rw[HE.out];unfold Eng.trade2;rw[t10,t13,if_neg hz',if_pos hy'];rfl
    have HSH':=hid HSH;generalize (e.trade1 i k o r).draw.1=d at *;have htm:Int.tmod d r.peak=d % r.peak:=Int.tmod_eq_emod_of_nonneg (by omega);have hp0:(r.peak == 0)=false:=by simp;omega
    have hm0:=Int.emod_nonneg d (b:=r.peak) (by omega);have hm1:=Int.emod_lt_of_pos d (b:=r.peak) (by omega);generalize d % r.peak=m at *;by_cases hgt:r.opn - o.opn<1+m
    ·go_wp2_with fail;refine(HSH' (r.opn - o.opn) ⟨by omega,by omega⟩).out.mono ?_;rintro en w6 ⟨rfl,hr6,ht6⟩;rw[if_pos hgt]at HF;have HR6:Hid (RefRep F base w6 b (e.trade i k) dv (sL g e.all.length cap)):=by
      have q:=hr6;rw[←HF.out]at q;have q2:(e.trade1 i k o r).draw.2.all.length=e.all.length:=hL4.out;rw[q2]at q;exact q
     have HT6:Hid (Touch F w w6):=HT5.trans ht6;go_wp2;go_end0;exact⟨rfl,HR6,HT6⟩
    ·go_wp2_with fail;refine(HSH' (1+m) ⟨by omega,by omega⟩).out.mono ?_;rintro en w6 ⟨rfl,hr6,ht6⟩;rw[if_neg (by omega)]at HF;have HR6:Hid (RefRep F base w6 b (e.trade i k) dv (sL g e.all.length cap)):=by
      have q:=hr6;rw[←HF.out]at q;have q2:(e.trade1 i k o r).draw.2.all.length=e.all.length:=hL4.out;rw[q2]at q;exact q
     have HT6:Hid (Touch F w w6):=HT5.trans ht6;go_wp2;go_end0;exact⟨rfl,HR6,HT6⟩
  ·have hz':r.opn - o.opn=0:=by simpa using hz
   have HF:Hid (e.trade i k=(e.trade1 i k o r).upd k fun _=>{ Eng.tradeR o r with status:=2 }):=by
    show _=_;rw[HE.out];unfold Eng.trade2;rw[t10,if_pos hz'];exact Eng.upd_congr _ k _ _ (fun x hx=>by obtain rfl:Eng.tradeR o r=x:=Option.some.inj (hk4.out.symm.trans hx);rfl)
   have HR5:Hid (RefRep F base (w'.setCell (iA g (k*15+8)) (iV 2)) b ((e.trade1 i k o r).upd k fun _=>{ Eng.tradeR o r with status:=2 }) dv (sL g e.all.length cap)):=HR4.setO k 8 2 _ _ hk4.out rfl (by omega);go_wp2;go_end0;exact⟨rfl,HF.out▸HR5.out,HT4.set g _ _ hF⟩
structure Sums(m:Int)(e:Eng):Prop where
 v0:0≤e.volume
 v1:e.volume+m≤1000000000000
 w0:0≤e.worth
 w1:e.worth+1000000*m≤1000000000000000000
theorem Sums.mono{m m':Int}{e:Eng}(h:Sums m e)(hm:m'≤m):Sums m' e:=⟨h.v0,by have:=h.v1;omega,h.w0,by have:=h.w1;omega⟩
theorem Sums.grew{n:Nat}{m k:Int}{e e':Eng}(h:Sums m e)(hg:Eng.Grew n k e e'):Sums (m - k) e':=by
 have h1:=h.v0;have h2:=h.v1;have h3:=h.w0;have h4:=h.w1;have g1:=hg.vol0;have g2:=hg.vol1;have g3:=hg.wor0;have g4:=hg.wor1;exact⟨by omega,by omega,by omega,by omega⟩
structure Dr(e:Eng):Prop where
 len:e.draws.length≤1000000000
 bd: ∀x∈e.draws,-9223372036854775808≤x∧x≤9223372036854775807
theorem Dr.stays{e e':Eng}(h:Dr e)(hs:Eng.Stays e e'):Dr e':=⟨by rw[hs.draws];exact h.len,by rw[hs.draws];exact h.bd⟩
structure Sweeping(e0:Eng)(i:Nat)(E:Eng)(o:Ord):Prop where
 inv:Eng.EInv E
 at_:E.all[i]? =some o
 st:o.status=1
 sh:o.shown=0
 room:Room (2*o.opn.toNat+1) E
 sums:Sums o.opn E
 dr:Dr E
 len:E.all.length=e0.all.length
 fuel: ∃f:Nat,o.opn≤(f:Int)∧Eng.trades f E i=Eng.trades (e0.opnOf i).toNat e0 i
theorem Sweeping.start{e:Eng}(h:Eng.EInv e)(ho:e.all[i]? =some o)(hs:o.status=1)(hsh:o.shown=0)(hr:Room 2001 e)(hsu:Sums 1000 e)(hd:Dr e):Sweeping e i e o:=by
 have k:=h.ok i o ho;have:=k.sum;have:=k.fil0;have:=k.can0;have:=k.qty1;have:=k.opn0;refine⟨h,ho,hs,hsh,hr.mono (by omega),hsu.mono (by omega),hd,rfl,⟨o.opn.toNat,by omega,?_⟩⟩;unfold Eng.opnOf;rw[ho]
theorem Sweeping.step{e0 E:Eng}{k:Nat}{r:Ord}(h:Sweeping e0 i E o)(hm:E.mate i=some k)(hk:E.all[k]? =some r):Sweeping e0 i (E.trade i k) (Eng.tradeO o r)∧(Eng.tradeO o r).opn<o.opn:=by
 obtain⟨r',hr,hne,hop,hr1,hst,hr2,hmt,i1,et,i2,hi,hlt,h0⟩:=Eng.trade_step h.inv h.at_ h.st h.sh hm;obtain rfl:r'=r:=Option.some.inj (hr.symm.trans hk);have hg:=Eng.trade_grew h.inv h.at_ hk hne hop hr1;have hs:=et▸(Eng.Stays.trade1 E i k o r').trans (Eng.Stays.trade2 _ k _);have e1:(Eng.tradeO o r').opn=o.opn - Eng.qtyOf o r':=rfl;obtain⟨f,hf1,hf2⟩:=h.fuel;obtain⟨f',rfl⟩: ∃f',f=f' +1:=⟨f - 1,by omega⟩;refine⟨⟨i2,hi,h.st,h.sh,?_,?_,h.dr.stays hs,hs.len.trans h.len,⟨f',by omega,?_⟩⟩,hlt⟩
 ·exact(h.room.grew hg hs.len (by omega)).mono (by omega)
 ·exact(h.sums.grew hg).mono (by omega)
 ·rw[←hf2];rw[Eng.trades,hm]
theorem Sweeping.done{e0 E:Eng}(h:Sweeping e0 i E o)(hm:E.mate i=none):e0.sweep i=Eng.swept E i:=by
 obtain⟨f,hf1,hf2⟩:=h.fuel;rw[Eng.sweep_eq,←hf2]
 congr 1
 cases f with
 |zero=>rfl
 |succ f=>rw[Eng.trades,hm]
def newEng(a b c:Int)(ds:List Int):Eng:={ mo:=a,mp:=b,mq:=c,draws:=ds,drawn:=0,all:=[],rest:=[],now:=0,seq:=0,stamp:=0,out:=[],worth:=0,volume:=0 }
def okCfg(a b c:Int):Bool:=decide (1≤a) && decide (a≤64) && decide (1≤b) && decide (b≤1000000) && decide (1≤c) && decide (c≤1000)
theorem zGv{a b c:Int}{ds:List Int}(h:okCfg a b c=true):Eng.EInv (newEng a b c ds):=by
 simp[okCfg]at h;obtain⟨⟨⟨⟨⟨h1,h2⟩,h3⟩,h4⟩,h5⟩,h6⟩:=h;have e0: ∀(i:Nat) (o:Ord),(newEng a b c ds).all[i]? =some o→False:=fun i o ho=>by
  have ho:([]:List Ord)[i]? =some o:=ho;simp at ho
 exact⟨h1,h2,h3,h4,h5,h6,fun i o ho=>(e0 i o ho).elim,fun i j x y hx=>(e0 i x hx).elim,fun i j x y hx=>(e0 i x hx).elim,by show(0:Int)≤0;omega,by show(0:Int)<4294967296;omega,by show((0:Nat):Int)≤a;omega⟩
theorem zT2(base:Nat)(a b c:Int)(ds:List Int)(dv:Value)(w:World)(hb:base≤w.heap.size)(hd:w.ownsRow base 3 1 dv ds.length (ds.map (iV))):
 Cl 59 #[.agg #[iV a,iV b,iV c],dv] w fun en w'=>(okCfg a b c=false∧en=rV #[.pointer none,.bool false]∧Below w.heap.size w w')∨(okCfg a b c=true∧∃nb,en=rV #[iP nb,.bool true]∧w.heap.size≤nb∧RefRep (fun k=>w.heap.size≤k) base w' nb (newEng a b c ds) dv (.slice none 0 0)∧Below w.heap.size w w'):=by
 obtain⟨p,l,cp,rfl⟩: ∃p l cp,dv=.slice p l cp:=by
  rcases hd.2 with⟨h1,_⟩|⟨g,cap,cur,h1,_⟩
  ·exact⟨_,_,_,h1⟩
  ·exact⟨_,_,_,h1⟩
 have HD:=hid hd;go_enter Tryz.func59,Tryz.ntmps59;cases hc:okCfg a b c
 ·have HN:=hid hc;by_cases k1:a<1∨64<a∨b<1∨1000000<b∨c<1∨1000<c;rotate_left
  ·have:okCfg a b c=true:=by simp[okCfg];omega
   rw[hc]at this;cases this
  have k2:(decide (a<1) || decide (64<a) || decide (b<1) || decide (1000000<b) || decide (c<1) || decide (1000<c))=true:=by
   rcases k1 with h|h|h|h|h|h<;>simp[h]
  go_wp2;all_goals
   go_ret2;exact⟨rfl,(Below.refl _ _).alloc (Nat.le_refl _) _⟩
 ·have HN:=hid hc;simp[okCfg]at hc;obtain⟨⟨⟨⟨⟨h1,h2⟩,h3⟩,h4⟩,h5⟩,h6⟩:=hc;go_wp2;go_ret2;have HB:Bw w ((w.alloc (.cells #[iV a,iV b,iV c] 145)).alloc (.cells (engCells (newEng a b c ds) (.slice p l cp) (.slice none 0 0)) 152)):=((Below.refl _ _).alloc (Nat.le_refl _) _).alloc (by simp) _;have hsz:(w.alloc (.cells #[iV a,iV b,iV c] 145)).heap.size=w.heap.size+1:=by simp
  refine⟨w.heap.size+1,rfl,by omega,⟨?_,by show w.heap.size≤w.heap.size+1;omega,fun k hk=>Nat.le_trans HB.size hk,Nat.le_trans hb HB.size,(HD.alloc _).alloc _,World.ownsRow_nil _ _ _ _,fun q hq=>by cases hq⟩,HB⟩;have:=heap_alloc_new (w.alloc (.cells #[iV a,iV b,iV c] 145)) (.cells (engCells (newEng a b c ds) (.slice p l cp) (.slice none 0 0)) 152);rw[hsz]at this;exact this
end Go.Proofs.YtanfmhonjpjpoaaGreatDoor
