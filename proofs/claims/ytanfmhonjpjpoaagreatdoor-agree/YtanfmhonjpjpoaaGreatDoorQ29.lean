import Derived.Test.YtanfmhonjpjpoaaGreatDoorQ00
import Derived.Test.YtanfmhonjpjpoaaGreatDoorQ22
import Derived.Test.YtanfmhonjpjpoaaGreatDoorQ27
import Derived.Test.YtanfmhonjpjpoaaGreatDoorQ28
import Derived.Deep.LoopGhost
set_option linter.all false
set_option maxRecDepth 100000
set_option maxHeartbeats 8000000
namespace Go.Proofs.YtanfmhonjpjpoaaGreatDoor
variable{x:Ord}{E e':Eng}{wr w1 w2 w':World}{S':Sets}
open Go.Extern Go.Maps Go.RowKit
section
variable {F:Nat→Prop} {base:Nat} {w:World} {b i k:Nat} {e:Eng} {g:Gh} {S:Sets} {o r:Ord}
def Csw(F:Nat→Prop)(base:Nat)(w:World)(b:Nat)(g:Gh)(e:Eng)(i:Nat)(o:Ord)(E:Eng)(x:Ord)(wr:World):Prop:= ∃t S',CRep F base wr b E { g with txt:=t } S'∧Holds E S' [] []∧Touch F w wr∧Sweeping e i E x∧Eng.Kin o x
theorem Csw.same(h:Csw F base w b g e i o E x wr)(hs:Same wr w'):Csw F base w b g e i o E x w':=by
 obtain⟨t,S',h1,h2,h3,h4,h5⟩:=h;exact⟨t,S',h1.same hs,h2,h3.trans hs.touch,h4,h5⟩
theorem Csw.below(h:Csw F base w b g e i o E x wr)(hs:Below wr.heap.size wr w'):Csw F base w b g e i o E x w':=by
 obtain⟨t,S',h1,h2,h3,h4,h5⟩:=h;exact⟨t,S',h1.below hs,h2,h3.trans (zAp h1.up hs),h4,h5⟩
theorem Csw.oa(h:Csw F base w b g e i o E x wr):OA wr (g.blk i) i x:=by
 obtain⟨t,S',h1,h2,h3,h4,h5⟩:=h;exact h1.oa h4.at_ h4.st
theorem Csw.ok(h:Csw F base w b g e i o E x wr):Eng.Ok E.mp E.stamp x∧x.status=1∧x.opn=x.qty - x.filled∧x.opn≤1000∧0≤x.opn∧x.typ=o.typ∧x.side=o.side∧E.mp≤1000000:=by
 obtain⟨t,S',h1,h2,h3,h4,h5⟩:=h;have k:=h4.inv.ok i x h4.at_;exact⟨k,h4.st,k.open_ h4.st,by have:=k.sum;have:=k.fil0;have:=k.can0;have:=k.qty1;omega,k.opn0,h5.typ,h5.side,h4.inv.mp1⟩
theorem Csw.open_(h:Csw F base w b g e i o E x wr)(W:World)(hW:Same wr W):Cl 124 #[iP (g.blk i)] W fun en w1=>en=.returned (iV x.opn)∧w1.cell? (iA (g.blk i) 3)=sI x.price∧Hid (Csw F base w b g e i o E x w1):=by
 obtain⟨k,hs,ho,h1,h0,_⟩:=h.ok;refine(zAi ((h.same hW).oa) (by rw[←ho];exact zA0 (by omega) (by omega))).mono ?_;rintro en w1 ⟨rfl,hs1⟩;exact⟨by rw[ho],((h.same (hW.trans hs1)).oa).cell 3,h.same (hW.trans hs1)⟩
theorem Csw.fill(h:Csw F base w b g e i o E x wr)(h0:x.opn=0):Cl 206 #[iP b,iP (g.blk i)] wr fun en w'=>en=rV #[]∧Hid (Cdone F base w b g (e.sweep i) w'):=by
 obtain⟨t,S',hC,hH,hT,hS,hK⟩:=h;have hk:=hS.at_;have kr:=hS.inv.ok i x hk;have hsm:=(hC.small hH).mono hS.room.len;have hc0:=kr.live hS.st;refine(zH9 (fun r=>{ r with status:=2 }) hC hk hS.st (hH.live hk hS.st) (zA0 (by have:=kr.id0;omega) (by have:=kr.id1;omega)) hsm (by simp[Ord.state,h0,hS.sh,hc0])).mono ?_;rintro en w' ⟨rfl,h1,h2⟩;have het:e.sweep i=E.upd i fun r=>{ r with status:=2 }:=by
  rw[hS.done (zHq hk (by omega))];unfold Eng.swept;rw[hk];exact if_pos h0
 refine⟨rfl,t,_,by rw[het];exact h1,?_,hT.trans h2⟩;rw[het];have hse:(E.upd i fun o=>{ o with shown:=0 })=E:=Eng.upd_self (fun y hy=>by
  obtain rfl:x=y:=Option.some.inj (hk.symm.trans hy);show{ x with shown:=0 }=x;rw[←hS.sh])
 exact(hH.leave hS.inv hk).gone hS.inv hk hS.st (List.mem_cons_self ..) (fun j hj=>by simp[hj]) (fun j hj=>by cases hj) (by simp) rfl rfl hS.sh (by rw[hse];exact hS.inv)
theorem Csw.show(h:Csw F base w b g e i o E x wr)(h0:0<x.opn)(hm:E.mate i=none):Cl 204 #[iP (g.blk i)] wr fun en w1=>en=.returned (iV (Eng.atRest x))∧Hid (Cl 203 #[iP b,iP (g.blk i),iV (Eng.atRest x)] w1 fun en w'=>en=rV #[]∧Hid (Cdone F base w b g (e.sweep i) w')):=by
 obtain⟨k,hst,hop,h1000,_⟩:=h.ok;refine(zGz h.oa (by rw[←hop];exact zA0 (by omega) (by omega)) hop).mono ?_;rintro en w1 ⟨rfl,hs1⟩;refine⟨rfl,?_⟩;obtain⟨t,S',hC,hH,hT,hS,hK⟩:=h.same hs1;have hk:=hS.at_;have hb:=Eng.atRest_bd k (by omega);have hsm:=(hC.small hH).mono hS.room.len;have hid63:r63 x.id:=zA0 (by have:=k.id0;omega) (by have:=k.id1;omega);have hp63:r63 x.price:=zA0 k.prc0 (by have:=k.prc1;have:=hS.inv.mp1;omega);refine(zE3 _ hC hk hst (hH.live hk hst) hid63 hp63 (zA0 (by omega) (by omega)) (by have:=hS.room.stm;omega) hsm (by have:=hS.room.seq;omega) (by have:=hS.room.out;omega)).mono ?_;rintro en w2 ⟨rfl,t2,p1,p2⟩;have het:e.sweep i=E.lay i (Eng.atRest x):=by
  rw[hS.done hm];unfold Eng.swept;rw[hk];exact if_neg (by omega)
 refine⟨rfl,t2,_,by rw[het];exact p1,?_,hT.trans p2⟩;rw[het];have hL:=Holds.lay (f:=fun y=>{ y with stamp:=(E.stamp+1:Nat),shown:=Eng.atRest x }) hH hS.inv hk rfl rfl rfl (fun j hj=>by cases hj) (show¬Eng.atRest x=0 by omega);refine hL.cong ?_;unfold Eng.lay;rw[hk];rfl
theorem Csw.trade(h:Csw F base w b g e i o E x wr)(h0:0<x.opn)(hm:E.mate i=some k):Cl 205 #[iP b,iP (g.blk i),iP (g.blk k)] wr fun en w'=>en=rV #[]∧Hid (∃y,Csw F base w b g e i o (E.trade i k) y w'∧y.opn<x.opn):=by
 obtain⟨t,S',hC,hH,hT,hS,hK⟩:=h;obtain⟨r,hr,hne,hop,hr1,hst,hr2,hmt,i1,et,i2,hi,hlt,_⟩:=Eng.trade_step hS.inv hS.at_ hS.st hS.sh hm;refine(zNa hC hS.inv hH hS.at_ hr hne hS.st hS.sh hop hr1 hst (hS.room.mono (by omega)) hS.sums hS.dr).mono ?_;rintro en w' ⟨rfl,hz⟩;obtain⟨t',S2,p1,p2,p3⟩:=hz.out;obtain⟨q1,q2⟩:=hS.step hm hr;exact⟨rfl,_,⟨t',S2,p1,p2,hT.trans p3,q1,hK.trans (Eng.tradeO_kin x r)⟩,q2⟩
theorem zPm(h:Value)(w:World):(Go.method 458 220 h "orderbook/orderbook.firstFor").run Tryz.prog w=.ok (270,h) w:=by kernel_rfl
theorem zPn(q:Nat)(w:World):(nilAhead 458 220 (iP q) "orderbook/orderbook.firstFor").run Tryz.prog w=.ok (some false) w:=by kernel_rfl
theorem Csw.first_sel(h:Csw F base w b g e i o E x wr)(h0:0<x.opn)(hs:o.side=1):Cl 270 #[iP g.selB,iV x.price] wr fun en w1=>en=.returned (optPtr g (E.mate i))∧Hid (Csw F base w b g e i o E x w1):=by
 have h':=h;obtain⟨t,S',hC,hH,hT,hS,hK⟩:=h;refine(zMv hC hS.inv hH hS.at_ h0 (by rw[hK.side];exact hs)).mono ?_;rintro en w1 ⟨rfl,hb⟩;exact⟨rfl,h'.below hb⟩
theorem zPo(h:CRep F base w b e g S)(inv:Eng.EInv e)(hH:Holds e S [] [])(ho:e.all[i]? =some o)(hos:o.status=1)(hsh:o.shown=0)(hro:Room 2001 e)(hsu:Sums 1000 e)(hd:Dr e)(hs:o.side=1):
 Cl 153 #[iP b,iP (g.blk i)] w fun en w'=>en=rV #[]∧Hid (Cdone F base w b g (e.sweep i) w'):=by
 have HSD:Hid (Cl 202 #[iP b,iP (g.blk i)] w fun en w'=>en=rV #[.iface 214 (iP g.buyB),.iface 220 (iP g.selB)]∧Hid (Csw F base w b g e i o e o w')):=by
  refine(zCw h (h.oa ho hos) hs).mono ?_;rintro en w' ⟨rfl,hsm⟩;exact⟨rfl,g.txt,S,h.same hsm,hH,hsm.touch,Sweeping.start inv ho hos hsh hro hsu hd,Eng.Kin.refl o⟩
 have HS:=hid hs;go_enter Tryz.func153,Tryz.ntmps153;go_wp2_with fail;refine HSD.mono ?_;rintro en w0 ⟨rfl,HZ⟩;go_wp2_with fail
 go_loopg [6] o.opn.toNat (fun k _ wr=> ∃(E:Eng) (x:Ord),k=x.opn.toNat∧Csw F base w b g e i o E x wr)
 case atStart=>exact⟨e,o,rfl,HZ⟩
 case round=>
  obtain⟨E,x,rfl,hsw⟩:=hrel;have HW:=hid hsw;go_wp2_with fail;refine(HW.open_ wr (Same.refl wr)).mono ?_;rintro en w1 ⟨rfl,c3,HW1⟩;by_cases h0:0<x.opn
  ·have HFF:Hid (∀W,Same w1 W→Cl 270 #[iP g.selB,iV x.price] W fun en w1=>en=.returned (optPtr g (E.mate i))∧Hid (Csw F base w b g e i o E x w1)):=fun W hW=>(HW1.same hW).first_sel h0 HS
   have hm:=zPm (iP g.selB) w1.drew;have hnl:=zPn g.selB w1.drew;go_wp2_with fail;go_region_with(first|(go_at_call 270;refine(HFF w1.drew ((Same.refl w1).drew)).mono ?_;rintro en w2 ⟨rfl,HW2⟩));all_goals(
    rcases hm:E.mate i with _|k
    ·have HSH:=hid (HW2.show h0 hm);unfold optPtr ptrOf;simp only[Option.map_none];go_wp2_with fail;refine HSH.mono ?_;rintro en w3 ⟨rfl,HSH2⟩;go_wp2_with fail;refine HSH2.mono ?_;rintro en w4 ⟨rfl,HD⟩;go_wp2
     (try simp only[Exit.inBlock,Exit.then])
     refine bodyPost_ret (results_none rfl _ _ _) rfl ?_;exact⟨rfl,HD⟩
    ·have HTR:=hid (HW2.trade h0 hm);unfold optPtr ptrOf;simp only[Option.map_some];go_wp2_with fail;refine HTR.mono ?_;rintro en w3 ⟨rfl,HY⟩;obtain⟨y,hy,hlt⟩:=HY;have HY2:=hid hy;have HLT:=hid hlt;go_wp2_with fail
     go_roundg y.opn.toNat
     case rel=>exact⟨_,y,rfl,HY2⟩
     case measure=>have:=HLT;omega)
  ·have HFL:=hid (HW1.fill (by have:=HW1.ok.2.2.2.2.1;omega));go_wp2_with fail;refine HFL.mono ?_;rintro en w2 ⟨rfl,HD⟩;go_wp2;go_end0;exact⟨rfl,HD⟩
theorem zPp(h:Value)(w:World):(Go.method 458 214 h "orderbook/orderbook.firstFor").run Tryz.prog w=.ok (264,h) w:=by kernel_rfl
theorem zPq(q:Nat)(w:World):(nilAhead 458 214 (iP q) "orderbook/orderbook.firstFor").run Tryz.prog w=.ok (some false) w:=by kernel_rfl
theorem Csw.first_buy(h:Csw F base w b g e i o E x wr)(h0:0<x.opn)(hs: ¬o.side=1):Cl 264 #[iP g.buyB,iV x.price] wr fun en w1=>en=.returned (optPtr g (E.mate i))∧Hid (Csw F base w b g e i o E x w1):=by
 have h':=h;obtain⟨t,S',hC,hH,hT,hS,hK⟩:=h;refine(zMw hC hS.inv hH hS.at_ h0 (by rw[hK.side];exact hs)).mono ?_;rintro en w1 ⟨rfl,hb⟩;exact⟨rfl,h'.below hb⟩
theorem zPr(h:CRep F base w b e g S)(inv:Eng.EInv e)(hH:Holds e S [] [])(ho:e.all[i]? =some o)(hos:o.status=1)(hsh:o.shown=0)(hro:Room 2001 e)(hsu:Sums 1000 e)(hd:Dr e)(hs: ¬o.side=1):
 Cl 153 #[iP b,iP (g.blk i)] w fun en w'=>en=rV #[]∧Hid (Cdone F base w b g (e.sweep i) w'):=by
 have HSD:Hid (Cl 202 #[iP b,iP (g.blk i)] w fun en w'=>en=rV #[.iface 220 (iP g.selB),.iface 214 (iP g.buyB)]∧Hid (Csw F base w b g e i o e o w')):=by
  refine(zCx h (h.oa ho hos) hs).mono ?_;rintro en w' ⟨rfl,hsm⟩;exact⟨rfl,g.txt,S,h.same hsm,hH,hsm.touch,Sweeping.start inv ho hos hsh hro hsu hd,Eng.Kin.refl o⟩
 have HS:=hid hs;go_enter Tryz.func153,Tryz.ntmps153;go_wp2_with fail;refine HSD.mono ?_;rintro en w0 ⟨rfl,HZ⟩;go_wp2_with fail
 go_loopg [6] o.opn.toNat (fun k _ wr=> ∃(E:Eng) (x:Ord),k=x.opn.toNat∧Csw F base w b g e i o E x wr)
 case atStart=>exact⟨e,o,rfl,HZ⟩
 case round=>
  obtain⟨E,x,rfl,hsw⟩:=hrel;have HW:=hid hsw;go_wp2_with fail;refine(HW.open_ wr (Same.refl wr)).mono ?_;rintro en w1 ⟨rfl,c3,HW1⟩;by_cases h0:0<x.opn
  ·have HFF:Hid (∀W,Same w1 W→Cl 264 #[iP g.buyB,iV x.price] W fun en w1=>en=.returned (optPtr g (E.mate i))∧Hid (Csw F base w b g e i o E x w1)):=fun W hW=>(HW1.same hW).first_buy h0 HS
   have hm:=zPp (iP g.buyB) w1.drew;have hnl:=zPq g.buyB w1.drew;go_wp2_with fail;go_region_with(first|(go_at_call 264;refine(HFF w1.drew ((Same.refl w1).drew)).mono ?_;rintro en w2 ⟨rfl,HW2⟩));all_goals(
    rcases hm:E.mate i with _|k
    ·have HSH:=hid (HW2.show h0 hm);unfold optPtr ptrOf;simp only[Option.map_none];go_wp2_with fail;refine HSH.mono ?_;rintro en w3 ⟨rfl,HSH2⟩;go_wp2_with fail;refine HSH2.mono ?_;rintro en w4 ⟨rfl,HD⟩;go_wp2
     (try simp only[Exit.inBlock,Exit.then])
     refine bodyPost_ret (results_none rfl _ _ _) rfl ?_;exact⟨rfl,HD⟩
    ·have HTR:=hid (HW2.trade h0 hm);unfold optPtr ptrOf;simp only[Option.map_some];go_wp2_with fail;refine HTR.mono ?_;rintro en w3 ⟨rfl,HY⟩;obtain⟨y,hy,hlt⟩:=HY;have HY2:=hid hy;have HLT:=hid hlt;go_wp2_with fail
     go_roundg y.opn.toNat
     case rel=>exact⟨_,y,rfl,HY2⟩
     case measure=>have:=HLT;omega)
  ·have HFL:=hid (HW1.fill (by have:=HW1.ok.2.2.2.2.1;omega));go_wp2_with fail;refine HFL.mono ?_;rintro en w2 ⟨rfl,HD⟩;go_wp2;go_end0;exact⟨rfl,HD⟩
theorem zHr(h:CRep F base w b e g S)(inv:Eng.EInv e)(hH:Holds e S [] [])(ho:e.all[i]? =some o)(hos:o.status=1)(hsh:o.shown=0)(hro:Room 2001 e)(hsu:Sums 1000 e)(hd:Dr e):
 Cl 153 #[iP b,iP (g.blk i)] w fun en w'=>en=rV #[]∧Hid (Cdone F base w b g (e.sweep i) w'):=by
 by_cases hs:o.side=1
 ·exact zPo h inv hH ho hos hsh hro hsu hd hs
 ·exact zPr h inv hH ho hos hsh hro hsu hd hs
end
section
variable {F:Nat→Prop} {base:Nat} {w:World} {b i:Nat} {e:Eng} {g:Gh} {S:Sets} {o:Ord} {v:Nat→Int}
def newC(v:Nat→Int)(n:Int):Array Value:=#[iV (v 0),iV (v 1),iV (v 2),iV (v 3),iV (v 4),iV (v 5),iV (v 6),iV (v 7),iV (v 8),iV n,iV 0,iV 0,iV 0]
theorem zPs(v:Nat→Int)(n:Nat):newC v n=(Eng.newOrd v).code n:=rfl
structure Five(w:World)(nb:Nat)(v:Nat→Int):Prop where
 c0:w.cell? (iA nb 0)=sI (v 0)
 c1:w.cell? (iA nb 1)=sI (v 1)
 c2:w.cell? (iA nb 2)=sI (v 2)
 c3:w.cell? (iA nb 3)=sI (v 3)
 c4:w.cell? (iA nb 4)=sI (v 4)
theorem zPt(inv:Eng.EInv e)(hH:Holds e S [] [])(hv:Eng.VOk v)(hvb: ∀j,0≤v j+2147483648∧v j≤4294967296)(hw:e.why v=0)(hro:Room 2100 e)(hsu:Sums 1000 e)(hd:Dr e)(hl:e.all.length+1≤1000000000)(w1:World)(h1:Look F base w b e g S v w1)(hup: ∀k,w.heap.size≤k→F k):
 Cl 152 #[.pointer (some (iA b 8)),iP w1.heap.size] (w1.alloc (.cells (newC v e.all.length) 234)) fun en w2=>en=rV #[]∧Five w2 w1.heap.size v∧Hid (∀W,Same w2 W→Cl 116 #[.pointer (some (iA b 6)),.agg #[iV 1,iV 0,iV (v 0),iV (v 1),iV (v 3),iV (v 4),iV (v 2)]] W fun en w3=>en=rV #[]∧Five w3 w1.heap.size v∧Hid ((v 2=3→Cend F base w b g (e.fresh v) w3)∧(¬v 2=3→Cl 153 #[iP b,iP w1.heap.size] w3 fun en w4=>en=rV #[]∧Hid (Cend F base w b g (e.fresh v) w4)))):=by
 obtain⟨hC,hTA,hB⟩:=h1;obtain⟨inv1,hat⟩:=Eng.enter_inv inv hv hw;have hr63: ∀j,r63 (v j):=fun j=>⟨by have:=(hvb j).1;omega,by have:=(hvb j).2;omega⟩
 let e1:Eng:={ e with all:=e.all++ [Eng.newOrd v] }
 let g1:Gh:=g.more e.all.length w1.heap.size
 have hbk:g1.blk e.all.length=w1.heap.size:=by show(if e.all.length=e.all.length then _ else _)=_;rw[if_pos rfl]
 have hBA:Bw w1 (w1.alloc (.cells (newC v e.all.length) 234)):=(Below.refl _ _).alloc (Nat.le_refl _) _;have hN:CRep F base (w1.alloc (.cells (newC v e.all.length) 234)) b e1 g1 S:=hC.newOrder (o:=Eng.newOrd v) hBA (Nat.le_refl _) (by simp) hH.into (by rw[←zPs];exact heap_alloc_new w1 _);have hHN:Holds e1 S [e.all.length] []:=hH.newOrder rfl rfl;have hat1:e1.all[e.all.length]? =some (Eng.newOrd v):=hat;have invN:Eng.EInv e1:=⟨inv1.mo0,inv1.mo1,inv1.mp0,inv1.mp1,inv1.mq0,inv1.mq1,inv1.ok,inv1.ids,inv1.apart,inv1.now0,inv1.now1,inv1.live⟩;have hlen1:e1.all.length=e.all.length+1:=by show(e.all++ [_]).length=_;simp
 have hsm:=(hN.small hHN).mono (m:=1000000000) (by omega);have hO:=hN.oa hat1 rfl;have hAd:=zMp hN hO (hr63 0) (by rw[zAe hat1]) hsm;rw[hbk]at hAd;refine hAd.mono ?_;rintro en w2 ⟨rfl,q1,q2,q3⟩;have hHJ:Holds e1 (S.join e1.all (Eng.newOrd v) e.all.length) [] []:=hHN.join invN hat1 rfl;refine⟨rfl,⟨q3.cell 0,q3.cell 1,q3.cell 2,q3.cell 3,q3.cell 4⟩,fun W hW=>?_⟩;refine(zB4 1 0 (v 0) (v 1) (v 3) (v 4) (v 2) (q1.same hW) (by have:=hro.seq;show e.seq<_;omega) (by have:=hro.out;show e.out.length≤_;omega) ⟨⟨by omega,by omega⟩,hr63 0,hr63 1,hr63 3,hr63 4,hr63 2⟩).mono ?_;rintro en w3 ⟨rfl,t,p1,p2⟩;have p1':CRep F base w3 b (e.enter v) { g1 with txt:=t } (S.join e1.all (Eng.newOrd v) e.all.length):=p1;have hO3:=p1'.oa (i:=e.all.length) hat rfl;have hO3':OA w3 w1.heap.size e.all.length (Eng.newOrd v):=by have:({ g1 with txt:=t }:Gh).blk e.all.length=w1.heap.size:=hbk;rw[this]at hO3;exact hO3
 have hT3:Touch F w w3:=(((zAp hup hB).trans ((Touch.refl F w1).alloc _)).trans q2).trans (hW.touch.trans p2);have hHE:Holds (e.enter v) (S.join e1.all (Eng.newOrd v) e.all.length) [] []:=hHJ.cong rfl;refine⟨rfl,⟨hO3'.cell 0,hO3'.cell 1,hO3'.cell 2,hO3'.cell 3,hO3'.cell 4⟩,fun h3=>?_,fun h3=>?_⟩
 ·have hf:e.fresh v=e.enter v:=by rw[Eng.fresh_eq,if_neg (by simp[hw]),if_pos h3]
  rw[hf];exact⟨_,_,p1',hHE,hT3,rfl,rfl⟩
 ·have hf:e.fresh v=(e.enter v).sweep e.all.length:=by rw[Eng.fresh_eq,if_neg (by simp[hw]),if_neg h3]
  have hgr:=Eng.enter_grew e v;have hroE:Room 2001 (e.enter v):=by
   have a1:=hro.seq;have a2:=hro.stm;have a3:=hro.out;have a4:=hro.drw;have b1:=hgr.seq1;have b2:=hgr.stm1;have b3:=hgr.out;have b4:=hgr.drw1;have b5:(e.enter v).all.length=e.all.length+1:=hlen1;exact⟨by omega,by omega,by omega,by omega,by omega⟩
  have hsuE:Sums 1000 (e.enter v):=⟨hsu.v0,hsu.v1,hsu.w0,hsu.w1⟩;have hdE:Dr (e.enter v):=⟨hd.len,hd.bd⟩;have hsw:=zHr p1' inv1 hHE hat rfl rfl hroE hsuE hdE;have hbk3:({ g1 with txt:=t }:Gh).blk e.all.length=w1.heap.size:=hbk;rw[hbk3]at hsw;refine hsw.mono ?_;rintro en w4 ⟨rfl,hz⟩;obtain⟨t4,S4,r1,r2,r3⟩:=hz.out;rw[←hf]at r1 r2;exact⟨rfl,_,S4,r1,r2,hT3.trans r3,rfl,rfl⟩
theorem zPu(h:CRep F base w b e g S)(inv:Eng.EInv e)(hH:Holds e S [] [])(hv:Eng.VOk v)(hvb: ∀j,0≤v j+2147483648∧v j≤4294967296)(hro:Room 2100 e)(hsu:Sums 1000 e)(hd:Dr e)(hl:e.all.length+1≤100000000):
 Cl 117 #[iP b,termsV v] w fun en w'=>en=rV #[]∧Hid (Cend F base w b g (e.fresh v) w'):=by
 have h63:r63 (v 0):=⟨by have:=(hvb 0).1;omega,by have:=(hvb 0).2;omega⟩;have HL0:Hid (Look F base w b e g S v (w.alloc (.cells (termsC v) 100))):=⟨h.alloc _,TA.new w v _,(Below.refl w.heap.size w).alloc (Nat.le_refl _) _⟩;have HRF:Hid (∀W,Look F base w b e g S v W→Cl 150 #[iP b,termsV v] W fun en w'=>en=.returned (iV (e.why v))∧Hid (Look F base w b e g S v w')):=fun W hW=>(zPg hW.1 inv hH ⟨hv.id0,hv.id1⟩ (by omega)).mono fun en w' ⟨h1,h2⟩=>⟨h1,hW.below h2⟩
 have hwb:r63 (e.why v):=by
  unfold Eng.why;split
  ·exact⟨by omega,by omega⟩
  split
  ·exact⟨by omega,by omega⟩
  by_cases h5:(if v 2=3 then v 3 == 0 else Eng.inn (v 3) 1 e.mp)=false
  ·rw[if_pos h5];exact⟨by omega,by omega⟩
  rw[if_neg h5];by_cases h6:Eng.inn (v 4) 1 e.mq=false∨(if v 2=2 then Eng.inn (v 5) 1 (v 4) else v 5 == 0)=false
  ·rw[if_pos h6];exact⟨by omega,by omega⟩
  rw[if_neg h6];by_cases h7:(if v 2=3 then(if v 1=1 then Eng.inn (v 6) (-e.mp) 0 else Eng.inn (v 6) 0 e.mp) else v 6 == 0)=false
  ·rw[if_pos h7];exact⟨by omega,by omega⟩
  rw[if_neg h7];by_cases h8:(if v 7=3 then decide (e.now<v 8) else v 8 == 0)=false
  ·rw[if_pos h8];exact⟨by omega,by omega⟩
  rw[if_neg h8];split
  ·exact⟨by omega,by omega⟩
  ·exact⟨by omega,by omega⟩
 have HRJ:Hid (¬e.why v=0→∀W,Look F base w b e g S v W→Cl 72 #[iP b,iV (v 0),iV (e.why v)] W fun en w'=>en=rV #[]∧Hid (Cend F base w b g (e.fresh v) w')):=by
  intro hn W hW;refine(zC9 (v 0) (e.why v) hW.1 hH (hro.mono (by omega)) h63 hwb).mono ?_;rintro en w' ⟨rfl,hz⟩;have hf:e.fresh v=e.reject (v 0) (e.why v):=by rw[Eng.fresh_eq,if_pos hn]
  rw[hf];exact⟨rfl,hz.out.cend.from (zAp h.up hW.2.2)⟩
 have hcnt:=hH.count h.nodups.1 h.nodups.2.1 h.nodups.2.2;have hsm:=h.small hH;have HCN:Hid (∀W,Look F base w b e g S v W→Cl 151 #[.pointer (some (iA b 8))] W fun en w'=>en=.returned (iV ((S.day.length+S.oth.length:Nat):Int))∧w'.cell? (iA b 10)=some (.map (some g.endM))∧TA w' w.heap.size v∧(∀ty,(Builtin.len_ #[113] ty #[.map (some g.endM)]).run Tryz.prog w'=.ok (iV (S.ended.length:Int)) w')∧Hid (Look F base w b e g S v w')):=fun W hW=>(zH1 hW.1 (by have:=hsm.day;have:=hsm.oth;omega)).mono fun en w' ⟨h1,h2⟩=>⟨h1,(hW.same h2).1.cell 10,(hW.same h2).2.1,fun ty=>by have:=(hW.same h2).1.body.ended.len Tryz.underlying113 ty;rw[List.length_map]at this;exact this,hW.same h2⟩
 have HLN:Hid (∀W,Look F base w b e g S v W→∀ty,(Builtin.len_ #[113] ty #[.map (some g.endM)]).run Tryz.prog W=.ok (iV (S.ended.length:Int)) W):=fun W hW ty=>by have:=hW.1.body.ended.len Tryz.underlying113 ty;rw[List.length_map]at this;exact this
 have hw1:IntKind.i64.wrap (((S.day.length+S.oth.length:Nat):Int)+(S.ended.length:Int))=(e.all.length:Int):=by rw[zA8 _ (by omega) (by omega)];omega
 have hw2:wrap64 (((S.day.length+S.oth.length:Nat):Int)+(S.ended.length:Int))=(e.all.length:Int):=by unfold wrap64;omega
 have HTL:Hid (e.why v=0→∀w1,Look F base w b e g S v w1→_):=fun hw w1 h1=>zPt inv hH hv hvb hw hro hsu hd (by omega) w1 h1 h.up
 generalize ((S.day.length+S.oth.length:Nat):Int)=A at *;generalize (S.ended.length:Int)=B at *;unfold termsV at *;unfold termsC at HL0;unfold newC at HTL;generalize (e.all.length:Int)=N at *;go_enter Tryz.func117,Tryz.ntmps117;go_wp2_with fail;refine(HRF _ HL0).mono ?_;rintro en w1 ⟨rfl,HL1⟩;have s0:cI w1 w.heap.size 0 (v 0):=HL1.2.1.cell 0;by_cases q0:e.why v=0
 ·have HT:=hid (HTL q0);rw[q0];have c10:w1.cell? (iA b 10)=some (.map (some g.endM)):=HL1.1.cell 10;have hln:=HLN w1.drew (HL1.same (Same.refl _).drew);have HST:Hid (∀W,TA W w.heap.size v→W.cell? (iA b 10)=some (.map (some g.endM))→(∀ty,(Builtin.len_ #[113] ty #[.map (some g.endM)]).run Tryz.prog W=.ok (iV B) W)→W.cell? (iA b 10)=some (.map (some g.endM))∧cI W w.heap.size 0 (v 0)∧cI W w.heap.size 1 (v 1)∧cI W w.heap.size 2 (v 2)∧cI W w.heap.size 3 (v 3)∧cI W w.heap.size 4 (v 4)∧cI W w.heap.size 5 (v 5)∧cI W w.heap.size 6 (v 6)∧cI W w.heap.size 7 (v 7)∧cI W w.heap.size 8 (v 8)∧(∀ty,(Builtin.len_ #[113] ty #[.map (some g.endM)]).run Tryz.prog W=.ok (iV B) W)):=fun W hT hc hl=>⟨hc,hT.cell 0,hT.cell 1,hT.cell 2,hT.cell 3,hT.cell 4,hT.cell 5,hT.cell 6,hT.cell 7,hT.cell 8,hl⟩
  have HSA:Hid (∀W X,Look F base w b e g S v W→(W.alloc X).cell? (iA b 10)=some (.map (some g.endM))∧(W.alloc X).cell? (iA w.heap.size 0)=sI (v 0)∧(W.alloc X).cell? (iA w.heap.size 1)=sI (v 1)∧(W.alloc X).cell? (iA w.heap.size 2)=sI (v 2)∧(W.alloc X).cell? (iA w.heap.size 3)=sI (v 3)∧(W.alloc X).cell? (iA w.heap.size 4)=sI (v 4)∧(W.alloc X).cell? (iA w.heap.size 5)=sI (v 5)∧(W.alloc X).cell? (iA w.heap.size 6)=sI (v 6)∧(W.alloc X).cell? (iA w.heap.size 7)=sI (v 7)∧(W.alloc X).cell? (iA w.heap.size 8)=sI (v 8)∧(∀ty,(Builtin.len_ #[113] ty #[.map (some g.endM)]).run Tryz.prog (W.alloc X)=.ok (iV B) (W.alloc X))):=fun W X hW=>HST _ (hW.2.1.below ((Below.refl _ _).alloc (Nat.le_refl _) X)) ((hW.1.alloc X).cell 10) (HLN _ (hW.below ((Below.refl _ _).alloc (Nat.le_refl _) X)))
  go_wp2_with fail;go_region_held3(fun X=>X.cell? (iA b 10)=some (.map (some g.endM))∧X.cell? (iA w.heap.size 0)=sI (v 0)∧X.cell? (iA w.heap.size 1)=sI (v 1)∧X.cell? (iA w.heap.size 2)=sI (v 2)∧X.cell? (iA w.heap.size 3)=sI (v 3)∧X.cell? (iA w.heap.size 4)=sI (v 4)∧X.cell? (iA w.heap.size 5)=sI (v 5)∧X.cell? (iA w.heap.size 6)=sI (v 6)∧X.cell? (iA w.heap.size 7)=sI (v 7)∧X.cell? (iA w.heap.size 8)=sI (v 8)∧(∀ty,(Builtin.len_ #[113] ty #[.map (some g.endM)]).run Tryz.prog X=.ok (iV B) X)) (first|exact HST w1.drew (HL1.2.1.same (Same.refl _).drew) c10 hln|exact HST w2 ta1 c10' hln' |exact HSA w2 _ HL2) ((go_at_call 151;refine(HCN _ (HL1.same (Same.refl _).drew)).mono ?_;rintro en w2 ⟨rfl,c10',ta1,hln',HL2⟩));go_wp2_with fail;refine(HT w2 HL2).mono ?_;rintro en w3 ⟨rfl,h5,HTE⟩;obtain⟨d0,d1,d2,d3,d4⟩:=h5;generalize w2.heap.size=nb at *
  have HFV:Hid (∀W,Five W nb v→cI W nb 0 (v 0)∧cI W nb 1 (v 1)∧cI W nb 2 (v 2)∧cI W nb 3 (v 3)∧cI W nb 4 (v 4)):=fun W h=>⟨h.c0,h.c1,h.c2,h.c3,h.c4⟩
  go_wp2_with fail;go_region_held3(fun X=>X.cell? (iA nb 0)=sI (v 0)∧X.cell? (iA nb 1)=sI (v 1)∧X.cell? (iA nb 2)=sI (v 2)∧X.cell? (iA nb 3)=sI (v 3)∧X.cell? (iA nb 4)=sI (v 4)) (first|exact⟨d0,d1,d2,d3,d4⟩|exact HFV w4 h6) ((go_at_call 116;refine(HTE _ (Same.refl _).drew).mono ?_;rintro en w4 ⟨rfl,h6,HSW⟩));by_cases q2:v 2=3
  ·have HZ:=hid (HSW.1 q2);have c2:cI w4 nb 2 (v 2):=h6.c2;go_wp2;go_end0;exact⟨rfl,HZ⟩
  ·have HZ:=hid (HSW.2 q2);have c2:cI w4 nb 2 (v 2):=h6.c2;go_wp2_with fail;refine HZ.mono ?_;rintro en w5 ⟨rfl,HD⟩;go_wp2;go_end0;exact⟨rfl,HD⟩
 ·have HG:=hid (HRJ q0 w1 HL1);go_wp2_with fail;refine HG.mono ?_;rintro en w2 ⟨rfl,HZ⟩;go_wp2
  (try simp only[Exit.inBlock,Exit.then])
  refine bodyPost_ret (results_none rfl _ _ _) rfl ?_;exact⟨rfl,HZ⟩
end
section
variable {F:Nat→Prop} {base:Nat} {w:World} {b i:Nat} {e:Eng} {g:Gh} {S:Sets} {o:Ord} {v:Nat→Int}
def chR(e:Eng)(o:Ord)(v:Nat→Int):Int:=if priceB e.mp o.typ (v 3)=false then 5 else if Eng.inn (v 4) (o.filled+1) e.mq=false then 6 else 0
def Look2(F:Nat→Prop)(base:Nat)(w:World)(b:Nat)(e:Eng)(g:Gh)(S:Sets)(i:Nat)(o:Ord)(v:Nat→Int)(wr:World):Prop:=CRep F base wr b e g S∧OA wr (g.blk i) i o∧TA wr w.heap.size v∧Below w.heap.size w wr
theorem Look2.same(h:Look2 F base w b e g S i o v w1)(hb:Same w1 w2):Look2 F base w b e g S i o v w2:=⟨h.1.same hb,h.2.1.same hb,h.2.2.1.same hb,zBl h.2.2.2 hb⟩
theorem zPv(h:CRep F base w b e g S)(ho:OA w (g.blk i) i o)(hf:0≤o.filled∧o.filled≤1000):
 Cl 157 #[iP b,iP (g.blk i),termsV v] w fun en w'=>en=.returned (iV (chR e o v))∧Below w.heap.size w w':=by
 have HL0:Hid (Look2 F base w b e g S i o v (w.alloc (.cells (termsC v) 100))):=⟨h.alloc _,ho.alloc _,TA.new w v _,(Below.refl w.heap.size w).alloc (Nat.le_refl _) _⟩;have HPR:Hid (∀W,Look2 F base w b e g S i o v W→Cl 197 #[iP b,iV o.typ,iV (v 3)] W fun en w'=>en=.returned (.bool (priceB e.mp o.typ (v 3)))∧cI w' (g.blk i) 2 o.typ∧cI w' w.heap.size 3 (v 3)∧Hid (Look2 F base w b e g S i o v w')):=fun W hW=>(zHd o.typ (v 3) hW.1).mono fun en w' ⟨h1,h2⟩=>⟨h1,(hW.same h2).2.1.cell 2,(hW.same h2).2.2.1.cell 3,hW.same h2⟩
 have HWI:Hid (∀W,Cl 145 #[iV (v 4),iV (o.filled+1),iV e.mq] W fun en w'=>en=.returned (.bool (Eng.inn (v 4) (o.filled+1) e.mq))∧w'=W):=fun W=>zCy _ _ _
 have hw1:IntKind.i64.wrap (o.filled+1)=o.filled+1:=zA8 _ (by omega) (by omega);have hw2:wrap64 (o.filled+1)=o.filled+1:=by unfold wrap64;omega
 unfold termsV at *;unfold termsC at HL0;go_enter Tryz.func157,Tryz.ntmps157;go_wp2_with fail;generalize w.alloc (.cells #[iV (v 0),iV (v 1),iV (v 2),iV (v 3),iV (v 4),iV (v 5),iV (v 6),iV (v 7),iV (v 8)] 100)=W at *;have o2:cI W (g.blk i) 2 o.typ:=HL0.2.1.cell 2;have t3:cI W w.heap.size 3 (v 3):=HL0.2.2.1.cell 3;go_region_held3(fun X=>X.cell? (iA (g.blk i) 2)=sI o.typ∧X.cell? (iA w.heap.size 3)=sI (v 3)) (first|exact⟨o2,t3⟩|exact⟨o2',t3'⟩) ((go_at_call 197;refine(HPR.out _ (HL0.same (Same.refl _).drew)).mono ?_;rintro en w1 ⟨rfl,o2',t3',HL1⟩));cases q1:priceB e.mp o.typ (v 3)
 ·have HR:Hid (chR e o v=5):=if_pos q1;go_wp2;go_ret;exact⟨by rw[HR.out];rfl,HL1.2.2.2⟩
 have t4:cI w1 w.heap.size 4 (v 4):=HL1.2.2.1.cell 4;have o10:cI w1 (g.blk i) 10 o.filled:=HL1.2.1.cell 10;have b2:cI w1 b 2 e.mq:=HL1.1.cell 2;cases q2:Eng.inn (v 4) (o.filled+1) e.mq
 ·have HR:Hid (chR e o v=6):=(if_neg (by simp[q1])).trans (if_pos q2);simp only[q2]at HWI;go_wp2_with fail;go_quiet (exact Calls.quiet_of_same (HWI.out _));go_wp2;go_ret;exact⟨by rw[HR.out];rfl,⟨HL1.2.2.2.os,HL1.2.2.2.tape,HL1.2.2.2.output,HL1.2.2.2.size,HL1.2.2.2.block⟩⟩
 ·have HR:Hid (chR e o v=0):=(if_neg (by simp[q1])).trans (if_neg (by simp[q2]));simp only[q2]at HWI;go_wp2_with fail;go_quiet (exact Calls.quiet_of_same (HWI.out _));go_wp2;go_ret;exact⟨by rw[HR.out];rfl,⟨HL1.2.2.2.os,HL1.2.2.2.tape,HL1.2.2.2.output,HL1.2.2.2.size,HL1.2.2.2.block⟩⟩
theorem zPw(reason:Int)(hr:r63 reason)(h:CRep F base w b e g S)(hro:Room 1 e)(hr63: ∀j,r63 (v j)):
 Cl 159 #[iP b,termsV v,iV reason] w fun en w'=>en=rV #[]∧Hid (∃t,CRep F base w' b (e.tell 5 (v 0) 0 (v 3) (v 4) reason) { g with txt:=t } S∧Touch F w w'):=by
 have hT:=TA.new w v 100;have hA:=h.alloc (.cells (termsC v) 100);have hbl:w.heap.size<(w.alloc (.cells (termsC v) 100)).heap.size:=by simp
 have HTL:Hid (∀W,Same (w.alloc (.cells (termsC v) 100)) W→Cl 116 #[.pointer (some (iA b 6)),.agg #[iV 5,iV 0,iV (v 0),iV 0,iV (v 3),iV (v 4),iV reason]] W fun en w'=>en=rV #[]∧TA w' w.heap.size v∧Hid (∃t,CRep F base w' b (e.tell 5 (v 0) 0 (v 3) (v 4) reason) { g with txt:=t } S∧Touch F w w')):=by
  intro W hW;have hS:=(h.shrink (vb:=w.heap.size) ((Below.refl w.heap.size w).alloc (Nat.le_refl _) (.cells (termsC v) 100)) (Nat.le_refl _) hbl).same hW;refine(zB4 5 0 (v 0) 0 (v 3) (v 4) reason hS (by have:=hro.seq;omega) (by have:=hro.out;omega) ⟨⟨by omega,by omega⟩,hr63 0,⟨by omega,by omega⟩,hr63 3,hr63 4,hr⟩).mono ?_;rintro en w' ⟨rfl,t,q1,q2⟩;refine⟨rfl,⟨?_⟩,t,q1.widen,((Touch.refl F w).alloc _).trans (hW.touch.trans q2.wide)⟩;obtain⟨ty,f,hb⟩:=(hT.same hW).blk;refine⟨ty,f,?_⟩;rw[q2.block w.heap.size (by rw[hW.heap];exact hbl) (fun hc=>hc.2 rfl)];exact hb
 have t0:(w.alloc (.cells (termsC v) 100)).cell? (iA w.heap.size 0)=sI (v 0):=hT.cell 0;have t3:(w.alloc (.cells (termsC v) 100)).cell? (iA w.heap.size 3)=sI (v 3):=hT.cell 3;have t4:(w.alloc (.cells (termsC v) 100)).cell? (iA w.heap.size 4)=sI (v 4):=hT.cell 4;unfold termsV at *;unfold termsC at HTL t0 t3 t4;go_enter Tryz.func159,Tryz.ntmps159;go_wp2_with fail;generalize w.alloc (.cells #[iV (v 0),iV (v 1),iV (v 2),iV (v 3),iV (v 4),iV (v 5),iV (v 6),iV (v 7),iV (v 8)] 100)=W at *;go_region_held3(fun X=>X.cell? (iA w.heap.size 0)=sI (v 0)∧X.cell? (iA w.heap.size 3)=sI (v 3)∧X.cell? (iA w.heap.size 4)=sI (v 4)) (first|exact⟨t0,t3,t4⟩|exact⟨ta.cell 0,ta.cell 3,ta.cell 4⟩) ((go_at_call 116;refine(HTL _ (Same.refl _).drew).mono ?_;rintro en w1 ⟨rfl,ta,HZ⟩));go_end0;exact⟨rfl,HZ⟩
def anew(e:Eng)(i:Nat)(x:Ord)(p:Int):Eng:=if x.typ≠3 then(e.upd i fun o=>{ o with price:=p,shown:=0 }).sweep i else if 0<x.shown then e.lay i x.opn else e
theorem zPx(p:Int)(hp:0≤p∧p≤1000000)(h:CRep F base w b e g S)(hH:Holds e S [] [])(hid63:r63 x.id)(hopn:x.opn=x.qty - x.filled)(hb:x.opn≤1000)(hpr63:r63 x.price)(hth:x.typ=3→x.isThere=decide (0<x.shown))(hHl:x.typ=3→Holds (e.lay i x.opn) (S.lay e.all x i) [] [])(hHo:x.typ≠3→Holds (e.upd i fun o=>{ o with price:=p,shown:=0 }) (S.off e.all x) [] [])(hx:e.all[i]? =some x)(hs:x.status=1)(hp0:0<x.opn)(inv2:x.typ≠3→Eng.EInv (e.upd i fun o=>{ o with price:=p,shown:=0 }))(hro:Room 2001 e)(hsu:Sums 1000 e)(hd:Dr e):
 Cl 161 #[iP b,iP (g.blk i),iV p] w fun en w'=>en=rV #[]∧Hid (Cdone F base w b g (anew e i x p) w'):=by
 have hO:=h.oa hx hs;have x2:cI w (g.blk i) 2 x.typ:=hO.cell 2;by_cases ht:x.typ=3
 ·have hth:=hth ht;have HRS:Hid (Cl 208 #[iP (g.blk i)] w fun en w1=>en=.returned (.bool (decide (0<x.shown)))∧Hid ((0<x.shown→Cl 204 #[iP (g.blk i)] w1 fun en w2=>en=.returned (iV x.opn)∧Hid (Cl 203 #[iP b,iP (g.blk i),iV x.opn] w2 fun en w'=>en=rV #[]∧Hid (Cdone F base w b g (anew e i x p) w')))∧(¬0<x.shown→Cdone F base w b g (anew e i x p) w1))):=by
   refine(zGw hO).mono ?_;rintro en w1 ⟨rfl,s1⟩;have h1:=h.same s1;refine⟨by rw[hth],fun hsh=>?_,fun hsh=>?_⟩
   ·refine(zGz (hO.same s1) (by rw[←hopn];exact zA0 (by omega) (by omega)) hopn).mono ?_;rintro en w2 ⟨rfl,s2⟩;have har:Eng.atRest x=x.opn:=by unfold Eng.atRest;rw[if_neg (fun hc=>by omega)]
    refine⟨by rw[har],?_⟩;have hsm:=((h1.same s2).small hH).mono hro.len;refine(zE3 x.opn (h1.same s2) hx hs (hH.live hx hs) hid63 hpr63 (zA0 (by omega) (by omega)) (by have:=hro.stm;omega) hsm (by have:=hro.seq;omega) (by have:=hro.out;omega)).mono ?_;rintro en w3 ⟨rfl,t,q1,q2⟩;have he:anew e i x p=e.lay i x.opn:=by unfold anew;rw[if_neg (by simp[ht]),if_pos hsh]
    rw[he];exact⟨rfl,t,_,q1,hHl ht,(s1.touch.trans s2.touch).trans q2⟩
   ·have he:anew e i x p=e:=by unfold anew;rw[if_neg (by simp[ht]),if_neg hsh]
    rw[he];exact⟨g.txt,S,h1,hH,s1.touch⟩
  clear h hH hpr63 hHl hHo hx hs hp0 inv2 hro hsu hd hO hid63 hopn hb hth hp;rw[ht]at x2;clear ht;go_enter Tryz.func161,Tryz.ntmps161;go_wp2_with fail;refine HRS.mono ?_;rintro en w1 ⟨rfl,HX⟩;clear HRS;by_cases hsh:0<x.shown
  ·have HA:=hid (HX.1 hsh);clear HX;go_wp2_with fail;refine HA.mono ?_;rintro en w2 ⟨rfl,HB⟩;go_wp2_with fail;refine HB.mono ?_;rintro en w3 ⟨rfl,HZ⟩;go_wp2;go_end0;exact⟨rfl,HZ⟩
  ·have HZ:=hid (HX.2 (by omega));clear HX;go_wp2;go_end0;exact⟨rfl,HZ⟩
 ·have HTB:Hid (Cl 209 #[iP b,iP (g.blk i)] w fun en w1=>en=rV #[]∧cI w1 (g.blk i) 3 x.price∧w1.frozen? (iA (g.blk i) 3)=false∧Hid (Cl 153 #[iP b,iP (g.blk i)] (w1.setCell (iA (g.blk i) 3) (iV p)) fun en w'=>en=rV #[]∧Hid (Cdone F base w b g (anew e i x p) w'))):=by
   refine(zE1 h hx hs (hH.live hx hs) hid63).mono ?_;rintro en w1 ⟨rfl,h1,h2⟩;have hat:(e.upd i fun o=>{ o with shown:=0 }).all[i]? =some { x with shown:=0 }:=Eng.upd_same e i _ x hx;have hO1:=h1.oa hat hs;have hne:i∉(S.off e.all x).ended:=by rw[Sets.off_ended];exact hH.live hx hs
   obtain⟨h3,h4⟩:=h1.wr (i:=i) hat hs hne 3 (iV p) (fun o=>{ o with price:=p }) rfl (by simp[Ord.code]);rw[Eng.upd_upd]at h3;have h3':CRep F base (w1.setCell (iA (g.blk i) 3) (iV p)) b (e.upd i fun o=>{ o with price:=p,shown:=0 }) g (S.off e.all x):=h3;have hat2:(e.upd i fun o=>{ o with price:=p,shown:=0 }).all[i]? =some { x with price:=p,shown:=0 }:=Eng.upd_same e i _ x hx;have hHo:=hHo ht;refine⟨rfl,hO1.cell 3,hO1.froz 3,?_⟩;have hro2:Room 2001 (e.upd i fun o=>{ o with price:=p,shown:=0 }):=⟨hro.seq,hro.stm,hro.out,by rw[Eng.upd_len];exact hro.len,hro.drw⟩;refine(zHr h3' (inv2 ht) hHo hat2 hs rfl hro2 ⟨hsu.v0,hsu.v1,hsu.w0,hsu.w1⟩ ⟨hd.len,hd.bd⟩).mono ?_;rintro en w' ⟨rfl,hz⟩;obtain⟨t,S',r1,r2,r3⟩:=hz.out;have he:anew e i x p=(e.upd i fun o=>{ o with price:=p,shown:=0 }).sweep i:=if_pos ht;rw[he];exact⟨rfl,t,S',r1,r2,(h2.trans h4).trans r3⟩
  clear h hH hpr63 hth hHl hHo hx hs hp0 inv2 hro hsu hd hO hid63 hopn hb hp;go_enter Tryz.func161,Tryz.ntmps161;go_wp2_with fail;refine HTB.mono ?_;rintro en w1 ⟨rfl,c3,f3,HSW⟩;clear HTB x2;go_wp2_with fail;refine HSW.mono ?_;rintro en w2 ⟨rfl,HZ⟩;go_wp2;go_end0;exact⟨rfl,HZ⟩
end
section
variable {F:Nat→Prop} {base:Nat} {w:World} {b i:Nat} {e:Eng} {g:Gh} {S:Sets} {o:Ord} {v:Nat→Int}
def Chg(F:Nat→Prop)(base:Nat)(w:World)(b:Nat)(g:Gh)(v:Nat→Int)(e':Eng)(S':Sets)(wr:World):Prop:= ∃t,CRep (fun k=>F k∧k≠w.heap.size) base wr b e' { g with txt:=t } S'∧TA wr w.heap.size v∧Touch (fun k=>F k∧k≠w.heap.size) (w.alloc (.cells (termsC v) 100)) wr
theorem Chg.same(h:Chg F base w b g v e' S' w1)(hs:Same w1 w2):Chg F base w b g v e' S' w2:=by
 obtain⟨t,h1,h2,h3⟩:=h;exact⟨t,h1.same hs,h2.same hs,h3.trans hs.touch⟩
theorem Chg.below(h:Chg F base w b g v e' S' w1)(hs:Below w1.heap.size w1 w2):Chg F base w b g v e' S' w2:=by
 obtain⟨t,h1,h2,h3⟩:=h;exact⟨t,h1.below hs,h2.below hs,h3.trans (zAp h1.up hs)⟩
theorem TA.touch{G:Nat→Prop}{q:Nat}(h:TA w1 q v)(hT:Touch G w1 w2)(hq: ¬G q):TA w2 q v:=by
 obtain⟨t,f,hb⟩:=h.blk;exact⟨t,f,(hT.block q h.lt hq).trans hb⟩
theorem Chg.done(h:Chg F base w b g v e S' w1)(hup: ∀k,w.heap.size≤k→F k)(t:Value)(h2:Cdone (fun k=>F k∧k≠w.heap.size) base w1 b { g with txt:=t } e' w2):Cdone F base w b g e' w2:=by
 obtain⟨t1,h3,h4,h5⟩:=h;obtain⟨t2,S2,r1,r2,r3⟩:=h2;exact⟨t2,S2,r1.widen,r2,((Touch.refl F w).alloc _).trans (h5.trans r3).wide⟩
theorem zT4:priceB e.mp o.typ (v 3)=(if o.typ=3 then v 3 == 0 else Eng.inn (v 3) 1 e.mp):=rfl
theorem left_eq(inv:Eng.EInv e)(hpg:Eng.Pegs e)(ho:e.all[i]? =some o)(hs:o.status=1)(hk:Eng.keepsPl o v=true)(h6:Eng.inn (v 4) (o.filled+1) e.mq=true):(Eng.repO o (v 4)).left=if v 4 - o.filled<o.shown then v 4 - o.filled else o.shown:=by
 have k:=inv.ok i o ho;have hsum:=k.sum;have hc0:=k.live hs;have hs0:=k.shn0;have hs1:=k.shn1;rw[Eng.inn_iff]at h6;unfold Eng.keepsPl at hk;simp only[Bool.and_eq_true,decide_eq_true_eq]at hk;unfold Ord.left;show(if o.typ=2 then(if v 4 - o.filled<o.shown then v 4 - o.filled else o.shown) else if(Eng.repO o (v 4)).isThere=true then v 4 - o.filled else o.shown)=_;by_cases h2:o.typ=2
 ·rw[if_pos h2]
 ·rw[if_neg h2];have hth:(Eng.repO o (v 4)).isThere=decide (0<o.shown):=by
   unfold Ord.isThere;show(if o.typ=3 then !(o.price == 0) else decide (0<o.shown))=_;by_cases h3:o.typ=3
   ·rw[if_pos h3];by_cases hpr:o.price=0
    ·have: ¬0<o.shown:=fun hc=>by have:=k.shp hc;omega
     simp[hpr,this]
    ·have:=(hpg i o ho hs h3).2 hpr;simp[hpr,this]
   ·rw[if_neg h3]
  rw[hth];rcases k.whole h2 with hw|hw
  ·rw[hw];simp;omega
  ·by_cases hz:0<o.shown
   ·simp only[hz,decide_true,if_true];split<;>omega
   ·simp[hz];omega
theorem zPy(h:CRep F base w b e g S)(inv:Eng.EInv e)(hH:Holds e S [] [])(hpg:Eng.Pegs e)(hvb: ∀j,0≤v j+2147483648∧v j≤4294967296)(hro:Room 2100 e)(hsu:Sums 1000 e)(hd:Dr e):
 Cl 119 #[iP b,termsV v] w fun en w'=>en=rV #[]∧Hid (Cdone F base w b g (e.replace v) w'):=by
 have hr63: ∀j,r63 (v j):=fun j=>⟨by have:=(hvb j).1;omega,by have:=(hvb j).2;omega⟩
 have hbl:w.heap.size<(w.alloc (.cells (termsC v) 100)).heap.size:=by simp
 have HC0:Hid (Chg F base w b g v e S (w.alloc (.cells (termsC v) 100))):=⟨g.txt,h.shrink ((Below.refl w.heap.size w).alloc (Nat.le_refl _) _) (Nat.le_refl _) hbl,TA.new w v _,Touch.refl _ _⟩;have HFD:Hid (∀W,Chg F base w b g v e S W→Cl 154 #[.pointer (some (iA b 8)),iV (v 0)] W fun en w1=>en=rV #[optPtr g (e.liveAt (v 0)),.bool (e.liveAt (v 0)).isSome]∧cI w1 w.heap.size 0 (v 0)∧Hid (Chg F base w b g v e S w1)):=by
  intro W hW;obtain⟨t,q1,q2,q3⟩:=hW;refine(zC8 (v 0) (hr63 0) q1 inv hH).mono ?_;rintro en w1 ⟨rfl,hs⟩;exact⟨rfl,(q2.same hs).cell 0,t,q1.same hs,q2.same hs,q3.trans hs.touch⟩
 have HRJ:Hid (∀reason,0≤reason∧reason≤255→e.replace v=e.reject (v 0) reason→∀W,Chg F base w b g v e S W→Cl 72 #[iP b,iV (v 0),iV reason] W fun en w'=>en=rV #[]∧Hid (Cdone F base w b g (e.replace v) w')):=by
  intro reason hr he W hW;have hW':=hW;obtain⟨t,q1,q2,q3⟩:=hW;refine(zC9 (v 0) reason q1 hH (hro.mono (by omega)) (hr63 0) ⟨by omega,by omega⟩).mono ?_;rintro en w' ⟨rfl,hz⟩;rw[he];exact⟨rfl,hW'.done h.up t hz.out⟩
 have hrep:=Eng.replace_eq e v;rcases hL:e.liveAt (v 0) with _|i
 ·have he:e.replace v=e.reject (v 0) 3:=by rw[hrep,hL]
  have HG:=hid (HRJ 3 ⟨by omega,by omega⟩ he);rw[hL]at HFD;have t0:(w.alloc (.cells (termsC v) 100)).cell? (iA w.heap.size 0)=sI (v 0):=(TA.new w v _).cell 0;unfold termsV;unfold termsC at HC0 t0;go_enter Tryz.func119,Tryz.ntmps119;go_wp2_with fail;generalize w.alloc (.cells #[iV (v 0),iV (v 1),iV (v 2),iV (v 3),iV (v 4),iV (v 5),iV (v 6),iV (v 7),iV (v 8)] 100)=W at *;go_region_held3(fun X=>X.cell? (iA w.heap.size 0)=sI (v 0)) (first|exact t0|exact t0') ((go_at_call 154;refine(HFD _ (HC0.same (Same.refl _).drew)).mono ?_;rintro en w1 ⟨rfl,t0',HC1⟩));have HG1:=hid (HG w1 HC1);try simp only[Option.isSome_none]
  go_wp2_with fail;refine HG1.mono ?_;rintro en w2 ⟨rfl,HZ⟩;go_wp2
  (try simp only[Exit.inBlock,Exit.then])
  refine bodyPost_ret (results_none rfl _ _ _) rfl ?_;exact⟨rfl,HZ⟩
 ·obtain⟨o,ho,hid',hs⟩:=Eng.liveAt_some hL;have k:=inv.ok i o ho;have hre:e.replace v=if priceB e.mp o.typ (v 3)=false then e.reject (v 0) 5 else if Eng.inn (v 4) (o.filled+1) e.mq=false then e.reject (v 0) 6 else e.repEnd i o v:=by
   rw[hrep,hL];simp only[ho];rfl
  have hfb:0≤o.filled∧o.filled≤1000:=by have:=k.sum;have:=k.fil0;have:=k.can0;have:=k.qty1;have:=k.opn0;omega
  have HCR:Hid (∀W,Chg F base w b g v e S W→Cl 157 #[iP b,iP (g.blk i),termsV v] W fun en w1=>en=.returned (iV (chR e o v))∧Hid (Chg F base w b g v e S w1)):=by
   intro W hW;have hW':=hW;obtain⟨t,q1,q2,q3⟩:=hW;refine(zPv (i:=i) q1 (q1.oa ho hs) hfb).mono ?_;rintro en w1 ⟨rfl,hb⟩;exact⟨rfl,hW'.below hb⟩
  have HKP:Hid (∀W,Chg F base w b g v e S W→Cl 158 #[iP (g.blk i),termsV v] W fun en w1=>en=.returned (.bool (Eng.keepsPl o v))∧cI w1 (g.blk i) 4 o.qty∧w1.frozen? (iA (g.blk i) 4)=false∧TA w1 w.heap.size v∧Hid (Chg F base w b g v e S w1)):=by
   intro W hW;have hW':=hW;obtain⟨t,q1,q2,q3⟩:=hW;refine(zH v (q1.oa ho hs)).mono ?_;rintro en w1 ⟨rfl,hb⟩;have q1':=q1.below hb;exact⟨rfl,(q1'.oa ho hs).cell 4,(q1'.oa ho hs).froz 4,q2.below hb,hW'.below hb⟩
  have hat:(e.upd i fun _=>Eng.repO o (v 4)).all[i]? =some (Eng.repO o (v 4)):=Eng.upd_same e i _ o ho;have hHr:Holds (e.upd i fun _=>Eng.repO o (v 4)) S [] []:=hH.upd (f:=fun _=>Eng.repO o (v 4)) (odd':=[]) ho rfl rfl rfl (fun _ _=>Iff.rfl) (.inr ⟨by simp,Iff.rfl⟩);have HTR:Hid (∀W reason,r63 reason→Chg F base w b g v e S W→Cl 159 #[iP b,termsV v,iV reason] (W.setCell (iA (g.blk i) 4) (iV (v 4))) fun en w1=>en=rV #[]∧TA w1 w.heap.size v∧Hid (Chg F base w b g v ((e.upd i fun _=>Eng.repO o (v 4)).tell 5 (v 0) 0 (v 3) (v 4) reason) S w1)):=by
   intro W reason hr hW;obtain⟨t,q1,q2,q3⟩:=hW;obtain⟨r1,r2⟩:=q1.wr (i:=i) ho hs (hH.live ho hs) 4 (iV (v 4)) (fun _=>Eng.repO o (v 4)) rfl (by simp[Ord.code,Eng.repO]);have hro1:Room 1 (e.upd i fun _=>Eng.repO o (v 4)):=⟨by have:=hro.seq;show e.seq+_≤_;omega,by have:=hro.stm;show e.stamp+_≤_;omega,by have:=hro.out;show e.out.length+_≤_;omega,by rw[Eng.upd_len];exact hro.len,by have:=hro.drw;show e.drawn+_≤_;omega⟩;refine(zPw reason hr r1 hro1 hr63).mono ?_;rintro en w1 ⟨rfl,hz⟩;obtain⟨t2,p1,p2⟩:=hz.out;have q2':TA w1 w.heap.size v:=(q2.touch r2 (fun hc=>hc.2 rfl)).touch p2 (fun hc=>hc.2 rfl);exact⟨rfl,q2',t2,p1,q2',(q3.trans r2).trans p2⟩
  have HSW:Hid (Eng.keepsPl o v=true→Eng.inn (v 4) (o.filled+1) e.mq=true→priceB e.mp o.typ (v 3)=true→∀W,Chg F base w b g v ((e.upd i fun _=>Eng.repO o (v 4)).tell 5 (v 0) 0 (v 3) (v 4) 1) S W→Cl 160 #[iP (g.blk i)] W fun en w'=>en=rV #[]∧Hid (Cdone F base w b g (e.replace v) w')):=by
   intro hk h6 h5 W hW;obtain⟨t,q1,q2,q3⟩:=hW;have hle:=left_eq inv hpg ho hs hk h6;rw[Eng.inn_iff]at h6;have hmq:=inv.mq1;refine(zH0 (q1.oa (i:=i) hat hs) (zA0 (by show 0≤v 4 - o.filled;omega) (by show v 4 - o.filled≤_;omega))).mono ?_;rintro en w' ⟨rfl,W1,s1,hcase⟩;have hE:e.replace v=(e.repTell i o v).upd i fun x=>{ x with shown:=if x.opn<x.shown then x.opn else x.shown }:=by
    rw[hre,if_neg (by simp[h5]),if_neg (by rw[Eng.inn_iff'];exact h6)];unfold Eng.repEnd;rw[if_pos hk]
   have hT:e.repTell i o v=(e.upd i fun _=>Eng.repO o (v 4)).tell 5 (v 0) 0 (v 3) (v 4) 1:=by unfold Eng.repTell;rw[if_pos hk]
   have hHt:Holds ((e.upd i fun _=>Eng.repO o (v 4)).tell 5 (v 0) 0 (v 3) (v 4) 1) S [] []:=hHr.cong rfl;have hupd:((e.upd i fun _=>Eng.repO o (v 4)).tell 5 (v 0) 0 (v 3) (v 4) 1).upd i (fun x=>{ x with shown:=if x.opn<x.shown then x.opn else x.shown })=((e.upd i fun _=>Eng.repO o (v 4)).tell 5 (v 0) 0 (v 3) (v 4) 1).upd i (fun x=>{ x with shown:=(Eng.repO o (v 4)).left }):=Eng.upd_congr _ i _ _ (fun x hx=>by
    obtain rfl:Eng.repO o (v 4)=x:=Option.some.inj (hat.symm.trans hx);rw[hle];rfl)
   have k0:=k.shn0;have hshn:((Eng.repO o (v 4)).left=0↔o.shown=0):=by rw[hle];split<;>omega
   have hHf:Holds (((e.upd i fun _=>Eng.repO o (v 4)).tell 5 (v 0) 0 (v 3) (v 4) 1).upd i (fun x=>{ x with shown:=(Eng.repO o (v 4)).left })) S [] []:=hHt.upd (f:=fun x=>{ x with shown:=(Eng.repO o (v 4)).left }) (odd':=[]) hat rfl rfl rfl (fun _ _=>Iff.rfl) (.inr ⟨by simp,hshn⟩);rw[hE,hT,hupd];rcases hcase with rfl|⟨hsame,rfl⟩
   ·obtain⟨r1,r2⟩:=(q1.same s1).wr (i:=i) hat hs (hH.live ho hs) 11 (iV (Eng.repO o (v 4)).left) (fun x=>{ x with shown:=(Eng.repO o (v 4)).left }) rfl (by simp[Ord.code]);exact⟨rfl,t,S,r1.widen,hHf,((Touch.refl F w).alloc _).trans ((q3.trans s1.touch).trans r2).wide⟩
   ·have hid2:((e.upd i fun _=>Eng.repO o (v 4)).tell 5 (v 0) 0 (v 3) (v 4) 1).upd i (fun x=>{ x with shown:=(Eng.repO o (v 4)).left })=(e.upd i fun _=>Eng.repO o (v 4)).tell 5 (v 0) 0 (v 3) (v 4) 1:=Eng.upd_self (fun x hx=>by
     obtain rfl:Eng.repO o (v 4)=x:=Option.some.inj (hat.symm.trans hx);rw[hsame])
    rw[hid2];exact⟨rfl,t,S,(q1.same s1).widen,hHt,((Touch.refl F w).alloc _).trans (q3.trans s1.touch).wide⟩
  have HPA:Hid (Eng.keepsPl o v=false→Eng.inn (v 4) (o.filled+1) e.mq=true→priceB e.mp o.typ (v 3)=true→∀W,Chg F base w b g v ((e.upd i fun _=>Eng.repO o (v 4)).tell 5 (v 0) 0 (v 3) (v 4) 0) S W→Cl 161 #[iP b,iP (g.blk i),iV (v 3)] W fun en w'=>en=rV #[]∧Hid (Cdone F base w b g (e.replace v) w')):=by
   intro hk h6 h5 W hW;have hW':=hW;obtain⟨t,q1,q2,q3⟩:=hW;have hT:e.repTell i o v=(e.upd i fun _=>Eng.repO o (v 4)).tell 5 (v 0) 0 (v 3) (v 4) 0:=by unfold Eng.repTell;rw[if_neg (by simp[hk])]
   have hE:e.replace v=anew ((e.upd i fun _=>Eng.repO o (v 4)).tell 5 (v 0) 0 (v 3) (v 4) 0) i (Eng.repO o (v 4)) (v 3):=by
    rw[hre,if_neg (by simp[h5]),if_neg (by simp[h6])];unfold Eng.repEnd anew;rw[if_neg (by simp[hk]),hT];rfl
   have h6':=h6;rw[Eng.inn_iff]at h6;have hmq:=inv.mq1;have hpb:0≤v 3∧v 3≤1000000:=by
    unfold priceB at h5;by_cases ht:o.typ=3
    ·rw[if_pos ht]at h5;have:v 3=0:=by simpa using h5
     omega
    ·rw[if_neg ht,Eng.inn_iff]at h5;have:=inv.mp1;omega
   have inv2:(Eng.repO o (v 4)).typ≠3→Eng.EInv (((e.upd i fun _=>Eng.repO o (v 4)).tell 5 (v 0) 0 (v 3) (v 4) 0).upd i fun o=>{ o with price:=v 3,shown:=0 }):=by
    rw[←hT];exact fun ht=>Eng.rep_sw_inv inv ho hs v ht h5 h6'
   have hS1:S.off ((e.upd i fun _=>Eng.repO o (v 4)).tell 5 (v 0) 0 (v 3) (v 4) 0).all (Eng.repO o (v 4))=S.off e.all o:=by
    unfold Sets.off;show(if o.side=1 then _ else _)=(if o.side=1 then _ else _);show(if o.side=1 then{ S with buy:=less (e.upd i fun _=>Eng.repO o (v 4)).all S.buy o.id } else{ S with sel:=less (e.upd i fun _=>Eng.repO o (v 4)).all S.sel o.id })=_;rw[zAu e i (fun _=>Eng.repO o (v 4)) (fun x hx=>by obtain rfl:o=x:=Option.some.inj (ho.symm.trans hx);rfl),zAu e i (fun _=>Eng.repO o (v 4)) (fun x hx=>by obtain rfl:o=x:=Option.some.inj (ho.symm.trans hx);rfl)]
   have hS2:S.lay ((e.upd i fun _=>Eng.repO o (v 4)).tell 5 (v 0) 0 (v 3) (v 4) 0).all (Eng.repO o (v 4)) i=S.lay e.all o i:=by
    unfold Sets.lay;show(if o.side=1 then{ S with buy:=less (e.upd i fun _=>Eng.repO o (v 4)).all S.buy o.id++ [i] } else{ S with sel:=less (e.upd i fun _=>Eng.repO o (v 4)).all S.sel o.id++ [i] })=_;rw[zAu e i (fun _=>Eng.repO o (v 4)) (fun x hx=>by obtain rfl:o=x:=Option.some.inj (ho.symm.trans hx);rfl),zAu e i (fun _=>Eng.repO o (v 4)) (fun x hx=>by obtain rfl:o=x:=Option.some.inj (ho.symm.trans hx);rfl)]
   have hHo:Holds (((e.upd i fun _=>Eng.repO o (v 4)).tell 5 (v 0) 0 (v 3) (v 4) 0).upd i fun o=>{ o with price:=v 3,shown:=0 }) (S.off ((e.upd i fun _=>Eng.repO o (v 4)).tell 5 (v 0) 0 (v 3) (v 4) 0).all (Eng.repO o (v 4))) [] []:=by
    rw[hS1];refine(Holds.off (f:=fun _=>{ Eng.repO o (v 4) with price:=v 3,shown:=0 }) hH inv ho rfl rfl rfl (fun j hj=>by cases hj) rfl).cong ?_;show((e.upd i fun _=>Eng.repO o (v 4)).upd i fun o=>{ o with price:=v 3,shown:=0 }).all=_;rw[Eng.upd_upd]
   have hHl:Holds (((e.upd i fun _=>Eng.repO o (v 4)).tell 5 (v 0) 0 (v 3) (v 4) 0).lay i (Eng.repO o (v 4)).opn) (S.lay ((e.upd i fun _=>Eng.repO o (v 4)).tell 5 (v 0) 0 (v 3) (v 4) 0).all (Eng.repO o (v 4)) i) [] []:=by
    rw[hS2];refine(Holds.lay (f:=fun _=>{ Eng.repO o (v 4) with stamp:=(e.stamp+1:Nat),shown:=v 4 - o.filled }) hH inv ho rfl rfl rfl (fun j hj=>by cases hj) (show¬v 4 - o.filled=0 by omega)).cong ?_;unfold Eng.lay;have hat':((e.upd i fun _=>Eng.repO o (v 4)).tell 5 (v 0) 0 (v 3) (v 4) 0).all[i]? =some (Eng.repO o (v 4)):=hat;rw[hat'];show((e.upd i fun _=>Eng.repO o (v 4)).upd i fun x=>{ x with stamp:=(e.stamp+1:Nat),shown:=v 4 - o.filled }).all=_;rw[Eng.upd_upd]
   have hth:(Eng.repO o (v 4)).typ=3→(Eng.repO o (v 4)).isThere=decide (0<(Eng.repO o (v 4)).shown):=by
    intro ht;have ht':o.typ=3:=ht;unfold Ord.isThere;show(if o.typ=3 then !(o.price == 0) else decide (0<o.shown))=decide (0<o.shown);rw[if_pos ht'];by_cases hpr:o.price=0
    ·have: ¬0<o.shown:=fun hc=>by have:=k.shp hc;omega
     simp[hpr,this]
    ·have:=(hpg i o ho hs ht').2 hpr;simp[hpr,this]
   have hro1:Room 2001 ((e.upd i fun _=>Eng.repO o (v 4)).tell 5 (v 0) 0 (v 3) (v 4) 0):=by
    have hg:=Eng.Grew.tell (e.upd i fun _=>Eng.repO o (v 4)) 5 (v 0) 0 (v 3) (v 4) 0;have a1:=hro.seq;have a2:=hro.stm;have a3:=hro.out;have a4:=hro.drw;have a5:=hro.len;have b1:=hg.seq1;have b2:=hg.stm1;have b3:=hg.out;have b4:=hg.drw1;have c1:(e.upd i fun _=>Eng.repO o (v 4)).seq=e.seq:=rfl;have c2:(e.upd i fun _=>Eng.repO o (v 4)).stamp=e.stamp:=rfl;have c3:(e.upd i fun _=>Eng.repO o (v 4)).out=e.out:=rfl;have c4:(e.upd i fun _=>Eng.repO o (v 4)).drawn=e.drawn:=rfl;have c5:((e.upd i fun _=>Eng.repO o (v 4)).tell 5 (v 0) 0 (v 3) (v 4) 0).all.length=e.all.length:=Eng.upd_len _ _ _;rw[c1]at b1 b3;rw[c2]at b2;rw[c3]at b3;rw[c4]at b4;exact⟨by omega,by omega,by omega,by omega,by omega⟩
   refine(zPx (i:=i) (x:=Eng.repO o (v 4)) (v 3) hpb q1 (hHr.cong rfl) (zA0 (by have:=k.id0;show 0≤o.id;omega) (by have:=k.id1;show o.id≤_;omega)) rfl (by show v 4 - o.filled≤1000;omega) (zA0 k.prc0 (by have:=k.prc1;have:=inv.mp1;show o.price≤_;omega)) hth (fun _=>hHl) (fun _=>hHo) hat hs (by show 0<v 4 - o.filled;omega) inv2 hro1 ⟨hsu.v0,hsu.v1,hsu.w0,hsu.w1⟩ ⟨hd.len,hd.bd⟩).mono ?_;rintro en w' ⟨rfl,hz⟩;rw[hE];exact⟨rfl,hW'.done h.up t hz.out⟩
  have HR5:Hid (priceB e.mp o.typ (v 3)=false→e.replace v=e.reject (v 0) 5∧chR e o v=5):=fun h5=>⟨by rw[hre,if_pos h5],if_pos h5⟩
  have HR6:Hid (priceB e.mp o.typ (v 3)=true→Eng.inn (v 4) (o.filled+1) e.mq=false→e.replace v=e.reject (v 0) 6∧chR e o v=6):=fun h5 h6=>⟨by rw[hre,if_neg (by simp[h5]),if_pos h6],(if_neg (by simp[h5])).trans (if_pos h6)⟩
  have HR0:Hid (priceB e.mp o.typ (v 3)=true→Eng.inn (v 4) (o.filled+1) e.mq=true→chR e o v=0):=fun h5 h6=>(if_neg (by simp[h5])).trans (if_neg (by simp[h6]))
  have t0:(w.alloc (.cells (termsC v) 100)).cell? (iA w.heap.size 0)=sI (v 0):=(TA.new w v _).cell 0;have HTA:Hid (∀W,Chg F base w b g v e S W→TA W w.heap.size v):=fun W hW=>by obtain⟨t,q1,q2,q3⟩:=hW;exact q2
  have HBI:Hid (g.blk i≠w.heap.size):=by have:=h.old i (List.getElem?_eq_some_iff.1 ho).1;exact Nat.ne_of_lt this
  rw[hL]at HFD;unfold termsV at *;unfold termsC at HC0 t0;go_enter Tryz.func119,Tryz.ntmps119;go_wp2_with fail;generalize w.alloc (.cells #[iV (v 0),iV (v 1),iV (v 2),iV (v 3),iV (v 4),iV (v 5),iV (v 6),iV (v 7),iV (v 8)] 100)=W at *;go_region_held3(fun X=>X.cell? (iA w.heap.size 0)=sI (v 0)) (first|exact t0|exact t0') ((go_at_call 154;refine(HFD _ (HC0.same (Same.refl _).drew)).mono ?_;rintro en w1 ⟨rfl,t0',HC1⟩));unfold optPtr ptrOf;try simp only[Option.isSome_some,Option.map_some]
  have ta1:=HTA w1 HC1;have s0:cI w1 w.heap.size 0 (v 0):=ta1.cell 0;have s1:cI w1 w.heap.size 1 (v 1):=ta1.cell 1;have s2:cI w1 w.heap.size 2 (v 2):=ta1.cell 2;have s3:cI w1 w.heap.size 3 (v 3):=ta1.cell 3;have s4:cI w1 w.heap.size 4 (v 4):=ta1.cell 4;have s5:cI w1 w.heap.size 5 (v 5):=ta1.cell 5;have s6:cI w1 w.heap.size 6 (v 6):=ta1.cell 6;have s7:cI w1 w.heap.size 7 (v 7):=ta1.cell 7;have s8:cI w1 w.heap.size 8 (v 8):=ta1.cell 8;go_wp2_with fail;refine(HCR w1 HC1).mono ?_;rintro en w2 ⟨rfl,HC2⟩;have ta2:=HTA w2 HC2;have s0:cI w2 w.heap.size 0 (v 0):=ta2.cell 0;have s1:cI w2 w.heap.size 1 (v 1):=ta2.cell 1;have s2:cI w2 w.heap.size 2 (v 2):=ta2.cell 2;have s3:cI w2 w.heap.size 3 (v 3):=ta2.cell 3;have s4:cI w2 w.heap.size 4 (v 4):=ta2.cell 4;have s5:cI w2 w.heap.size 5 (v 5):=ta2.cell 5;have s6:cI w2 w.heap.size 6 (v 6):=ta2.cell 6;have s7:cI w2 w.heap.size 7 (v 7):=ta2.cell 7
  have s8:cI w2 w.heap.size 8 (v 8):=ta2.cell 8;cases q5:priceB e.mp o.typ (v 3)
  ·have hc:=(HR5 q5).2;have HG1:=hid (HRJ 5 ⟨by omega,by omega⟩ (HR5 q5).1 w2 HC2);rw[hc];go_wp2_with fail;refine HG1.mono ?_;rintro en w3 ⟨rfl,HZ⟩;go_wp2
   (try simp only[Exit.inBlock,Exit.then])
   refine bodyPost_ret (results_none rfl _ _ _) rfl ?_;exact⟨rfl,HZ⟩
  cases q6:Eng.inn (v 4) (o.filled+1) e.mq
  ·have hc:=(HR6 q5 q6).2;have HG1:=hid (HRJ 6 ⟨by omega,by omega⟩ (HR6 q5 q6).1 w2 HC2);rw[hc];go_wp2_with fail;refine HG1.mono ?_;rintro en w3 ⟨rfl,HZ⟩;go_wp2
   (try simp only[Exit.inBlock,Exit.then])
   refine bodyPost_ret (results_none rfl _ _ _) rfl ?_;exact⟨rfl,HZ⟩
  have hc:=HR0 q5 q6;rw[hc];have HK2:=hid (HKP w2 HC2);go_wp2_with fail;refine HK2.mono ?_;rintro en w3 ⟨rfl,k4,fk4,ta3,HC3⟩;have HT3:=hid ta3;have hbq:=HBI;have hbq':=hbq.symm;have s0:cI w3 w.heap.size 0 (v 0):=ta3.cell 0;have s1:cI w3 w.heap.size 1 (v 1):=ta3.cell 1;have s2:cI w3 w.heap.size 2 (v 2):=ta3.cell 2;have s3:cI w3 w.heap.size 3 (v 3):=ta3.cell 3;have s4:cI w3 w.heap.size 4 (v 4):=ta3.cell 4;have s5:cI w3 w.heap.size 5 (v 5):=ta3.cell 5;have s6:cI w3 w.heap.size 6 (v 6):=ta3.cell 6;have s7:cI w3 w.heap.size 7 (v 7):=ta3.cell 7;have s8:cI w3 w.heap.size 8 (v 8):=ta3.cell 8;cases qk:Eng.keepsPl o v
  ·have HP:=hid (HPA qk q6 q5);have HTQ:=hid (HTR w3 0 ⟨by omega,by omega⟩ HC3);go_wp2_with fail;refine HTQ.mono ?_;rintro en w4 ⟨rfl,ta4,HC4⟩;have s3:cI w4 w.heap.size 3 (v 3):=ta4.cell 3;have HP2:=hid (HP w4 HC4);go_wp2_with fail;refine HP2.mono ?_;rintro en w5 ⟨rfl,HZ⟩;go_wp2;go_end0;exact⟨rfl,HZ⟩
  ·have HP:=hid (HSW qk q6 q5);have HTQ:=hid (HTR w3 1 ⟨by omega,by omega⟩ HC3);go_wp2_with fail;refine HTQ.mono ?_;rintro en w4 ⟨rfl,ta4,HC4⟩;have HP2:=hid (HP w4 HC4);go_wp2_with fail;refine HP2.mono ?_;rintro en w5 ⟨rfl,HZ⟩;go_wp2
   (try simp only[Exit.inBlock,Exit.then])
   refine bodyPost_ret (results_none rfl _ _ _) rfl ?_;exact⟨rfl,HZ⟩
end
end Go.Proofs.YtanfmhonjpjpoaaGreatDoor
