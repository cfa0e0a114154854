import Derived.Test.YtanfmhonjpjpoaaGreatDoorQ00
import Derived.Test.YtanfmhonjpjpoaaGreatDoorQ22
import Derived.Test.YtanfmhonjpjpoaaGreatDoorQ24
set_option linter.all false
set_option maxRecDepth 100000
set_option maxHeartbeats 8000000
namespace Go.Proofs.YtanfmhonjpjpoaaGreatDoor
variable{w' w1:World}{vv:Value}{L:List Nat}
open Go.Extern Go.Maps Go.RowKit
section
variable {F:Nat→Prop} {base:Nat} {w:World} {b:Nat} {e:Eng} {g:Gh} {S:Sets} {v:Nat→Int}
def Cend(F:Nat→Prop)(base:Nat)(w:World)(b:Nat)(g:Gh)(e':Eng)(w':World):Prop:= ∃g' S',CRep F base w' b e' g' S'∧Holds e' S' [] []∧Touch F w w'∧g'.drwB=g.drwB∧g'.dls=g.dls
theorem Cdone.cend{e':Eng}(h:Cdone F base w b g e' w'):Cend F base w b g e' w':=by
 obtain⟨t,S',h1,h2,h3⟩:=h;exact⟨_,S',h1,h2,h3,rfl,rfl⟩
theorem Cend.from{w0:World}{e':Eng}(h:Cend F base w b g e' w')(h0:Touch F w0 w):Cend F base w0 b g e' w':=by
 obtain⟨g',S',h1,h2,h3,h4⟩:=h;exact⟨g',S',h1,h2,h0.trans h3,h4⟩
theorem zC9(id reason:Int)(h:CRep F base w b e g S)(hH:Holds e S [] [])(hr:Room 1 e)(h1:r63 id)(h2:r63 reason):
 Cl 72 #[iP b,iV id,iV reason] w fun en w'=>en=rV #[]∧Hid (Cdone F base w b g (e.reject id reason) w'):=by
 refine(zM5 id reason h (by have:=hr.seq;omega) (by have:=hr.out;omega) h1 h2).mono ?_;rintro en w' ⟨rfl,t,q1,q2⟩;exact⟨rfl,t,S,q1,hH.cong rfl,q2⟩
theorem InOrder.apart{G:Nat→Prop}(h:InOrder w.heap.size w1 g vv L)(hG: ∀k,w.heap.size≤k→k<w1.heap.size→¬G k):Apart G w1 g vv L:=by
 rcases h.row.2 with⟨h1,h2⟩|⟨d,cap,cur,h1,h2,h3,h4⟩
 ·refine⟨none,0,by rw[h1,h2],.inl (List.length_eq_zero_iff.1 h2)⟩
 ·have hd:d<w1.heap.size:=(Array.getElem?_eq_some_iff.1 h3).1;refine⟨_,cap,h1,.inr ⟨d,rfl,hG d h2 hd,hd,fun n j hn=>?_⟩⟩;have hr:=h.row;rw[h1]at hr;have hlt:n<L.length:=(List.getElem?_eq_some_iff.1 hn).1;rw[hr.cellAt n (by omega),List.getElem?_map,hn];rfl
theorem zEb{e1:Eng}{S1:Sets}(reason:Int)(hr0:0≤reason∧reason≤255)(h:CRep F base w b e g S)(h1:CRep F base w1 b e1 g S1)(hlen:e1.all.length=e.all.length)(hH:Holds e1 S1 L [])(hT:Touch F w w1)(inv:Eng.EInv e1)(hro:Room 70 e1)(hL:InOrder w.heap.size w1 g vv L)(hlv: ∀j∈L,∃o,e1.all[j]? =some o∧o.status=1):
 Cl 156 #[iP b,iV reason,vv] w1 fun en w'=>en=rV #[]∧Hid (Cdone F base w b g (Eng.goneAll reason e1 L) w'):=by
 have hnd:L.Nodup:=hL.up.imp (fun h=>Nat.ne_of_lt h);have hL64:L.length≤64:=by
  have h2:L.length≤((List.range e1.all.length).filter (Eng.lives e1)).length:=zC7 hnd (fun j hj=>by
   obtain⟨o,q1,q2⟩:=hlv j hj;rw[List.mem_filter,List.mem_range];exact⟨(List.getElem?_eq_some_iff.1 q1).1,by unfold Eng.lives;rw[q1];simp[q2]⟩)
  rw[←List.countP_eq_length_filter,Eng.count_range]at h2;have:=inv.live;have:=inv.mo1;omega
 have hC:=h.foot h1 hlen;have hA:Apart (Foot F w w1) w1 g vv L:=hL.apart (fun k h2 h3 hc=>hc.elim (fun h=>by omega) (fun h=>by omega));have hco:Coff (Foot F w w1) base w1 b g (Eng.goneAll reason e1 L) reason L w1:=⟨g.txt,S1,e1,hC,hH,Touch.refl _ _,inv,hro.mono (by omega),hnd,hlv,rfl⟩;refine(zNi reason hr0 hco hA (by omega)).mono ?_;rintro en w' ⟨rfl,hz⟩;exact⟨rfl,Cdone.foots h.up hT hz.out.done⟩
theorem zNn(h:CRep F base w b e g S)(inv:Eng.EInv e)(hH:Holds e S [] [])(hro:Room 100 e)(hl:e.all.length≤100000000):
 Cl 121 #[iP b,termsV v] w fun en w'=>en=rV #[]∧Hid (Cdone F base w b g e.close w'):=by
 have HTD:Hid (Cl 163 #[.pointer (some (iA b 8))] (w.alloc (.cells (termsC v) 100)) fun en w1=> ∃vv,en=.returned vv∧Hid (Cl 156 #[iP b,iV 3,vv] w1 fun en w'=>en=rV #[]∧Hid (Cdone F base w b g e.close w'))):=by
  have hA:=h.alloc (.cells (termsC v) 100);refine(zNl hA hH hl).mono ?_;rintro en w1 ⟨vv,L,rfl,h1,h2,h3,h4⟩;refine⟨vv,rfl,?_⟩;have hT0:Touch F w (w.alloc (.cells (termsC v) 100)):=(Touch.refl F w).alloc _;have hH2:Holds e { S with day:=[] } L []:=by
   refine⟨fun j=>?_,fun j=>?_,hH.ended,hH.buy1,hH.buy2,hH.sel1,hH.sel2⟩
   ·constructor
    ·intro hc;cases hc
    ·rintro⟨o,q1,q2,q3,q4⟩;exact absurd ((h2 j).2 ⟨o,q1,q2,q3⟩) q4
   ·show j∈S.oth↔_;rw[hH.oth];constructor
    ·rintro⟨o,q1,q2,q3,_⟩;refine⟨o,q1,q2,q3,fun hc=>?_⟩;obtain⟨o',r1,_,r2⟩:=(h2 j).1 hc;obtain rfl:o=o':=Option.some.inj (q1.symm.trans r1);exact q3 r2
    ·rintro⟨o,q1,q2,q3,_⟩;exact⟨o,q1,q2,q3,by simp⟩
  refine(zEb 3 ⟨by omega,by omega⟩ hA h3 rfl hH2 h4 inv (hro.mono (by omega)) h1 (fun j hj=>by obtain⟨o,q1,q2,_⟩:=(h2 j).1 hj;exact⟨o,q1,q2⟩)).mono ?_;rintro en w' ⟨rfl,hz⟩;have he:e.close=Eng.goneAll 3 e L:=Eng.due_list _ 3 h1.up (fun j=>by rw[h2];simp);rw[←he]at hz;obtain⟨t,S',r1,r2,r3⟩:=hz.out;exact⟨rfl,t,S',r1,r2,hT0.trans r3⟩
 unfold termsV;unfold termsC at HTD;go_enter Tryz.func121,Tryz.ntmps121;go_wp2_with fail;refine HTD.mono ?_;rintro en w1 ⟨vv,rfl,HCO⟩;go_wp2_with fail;refine HCO.mono ?_;rintro en w2 ⟨rfl,HZ⟩;go_wp2;go_end0;exact⟨rfl,HZ⟩
theorem zNo(h:CRep F base w b e g S)(inv:Eng.EInv e)(hH:Holds e S [] [])(hro:Room 100 e)(hl:e.all.length≤100000000)(ht:0≤v 8∧v 8<4294967296):
 Cl 120 #[iP b,termsV v] w fun en w'=>en=rV #[]∧Hid (Cdone F base w b g (e.tick (v 8)) w'):=by
 have c4:(w.alloc (.cells (termsC v) 100)).cell? (iA b 4)=sI e.now:=(h.alloc _).cell 4;have f4:(w.alloc (.cells (termsC v) 100)).frozen? (iA b 4)=false:=(h.alloc _).froz 4;have t8:(w.alloc (.cells (termsC v) 100)).cell? (iA w.heap.size 8)=sI (v 8):=(TA.new w v _).cell 8;have hbn:b≠w.heap.size:=Nat.ne_of_lt h.lt;have hT0:Touch F w (w.alloc (.cells (termsC v) 100)):=(Touch.refl F w).alloc _;have HTA:=hid (h.alloc (.cells (termsC v) 100));have HT0:=hid hT0;have HRJ:Hid (v 8<e.now→∀W,Same (w.alloc (.cells (termsC v) 100)) W→Cl 72 #[iP b,iV 0,iV 10] W fun en w'=>en=rV #[]∧Hid (Cdone F base w b g (e.tick (v 8)) w')):=by
  intro hlt W hW;refine(zC9 0 10 (HTA.same hW) hH (hro.mono (by omega)) ⟨by omega,by omega⟩ ⟨by omega,by omega⟩).mono ?_;rintro en w' ⟨rfl,hz⟩;obtain⟨t,S',r1,r2,r3⟩:=hz.out;have he:e.tick (v 8)=e.reject 0 10:=if_pos hlt;rw[he];exact⟨rfl,t,S',r1,r2,(hT0.trans hW.touch).trans r3⟩
 have HGO:Hid (¬v 8<e.now→∀W0,Same (w.alloc (.cells (termsC v) 100)) W0→∀W,Same (W0.setCell (iA b 4) (iV (v 8))) W→Cl 162 #[.pointer (some (iA b 8)),iV (v 8)] W fun en w1=> ∃vv,en=.returned vv∧w1.cell? (iA b 4)=sI (v 8)∧Hid (Cl 156 #[iP b,iV 2,vv] w1 fun en w'=>en=rV #[]∧w'.cell? (iA b 4)=sI (v 8)∧Hid (Cdone F base w b g (e.tick (v 8)) w'))):=by
  intro hlt W0 hW0 W hW;have h1:CRep F base W b { e with now:=v 8 } g S:=((HTA.same hW0).set 4 _ { e with now:=v 8 } (by simp[codCells]) rfl rfl rfl rfl).same hW;have hT1:Touch F w W:=((hT0.trans hW0.touch).set b 4 _ h.own).trans hW.touch;have inv1:Eng.EInv { e with now:=v 8 }:=⟨inv.mo0,inv.mo1,inv.mp0,inv.mp1,inv.mq0,inv.mq1,inv.ok,inv.ids,inv.apart,ht.1,ht.2,inv.live⟩;refine(zNm (v 8) h1 inv1 (hH.cong rfl) hl).mono ?_;rintro en w1 ⟨vv,L,rfl,q1,q2,⟨S1,q3,q4⟩,q5⟩;refine⟨vv,rfl,q3.cell 4,?_⟩;refine(zEb 2 ⟨by omega,by omega⟩ h1 q3 rfl q4 q5 inv1 ⟨by have:=hro.seq;show e.seq+_≤_;omega,by have:=hro.stm;show e.stamp+_≤_;omega,by have:=hro.out;show e.out.length+_≤_;omega,hro.len,by have:=hro.drw;show e.drawn+_≤_;omega⟩ q1 (fun j hj=>by obtain⟨o,r1,r2,_⟩:=(q2 j).1 hj;exact⟨o,r1,r2⟩)).mono ?_;rintro en w' ⟨rfl,hz⟩;have he:e.tick (v 8)=Eng.goneAll 2 { e with now:=v 8 } L:=by
   unfold Eng.tick;rw[if_neg hlt];exact Eng.due_list _ 2 q1.up (fun j=>by rw[q2];rfl)
  obtain⟨t,S',r1,r2,r3⟩:=hz.out;rw[←he]at r1 r2;have hnow:(e.tick (v 8)).now=v 8:=by
   unfold Eng.tick;rw[if_neg hlt];exact(Eng.due_inv inv1 _ 2).2.now
  refine⟨rfl,by have:=r1.cell 4;rw[this];show some (iV (e.tick (v 8)).now)=_;rw[hnow],t,S',r1,r2,hT1.trans r3⟩
 clear h inv hH hro hl ht hT0;unfold termsV;unfold termsC at c4 f4 t8 HRJ HGO HTA HT0;go_enter Tryz.func120,Tryz.ntmps120;go_wp2_with fail;generalize w.alloc (.cells #[iV (v 0),iV (v 1),iV (v 2),iV (v 3),iV (v 4),iV (v 5),iV (v 6),iV (v 7),iV (v 8)] 100)=W at *;cases q:decide (v 8<e.now)
 ·have HG:=hid (HGO.out (by simpa using q));clear HGO HRJ;have b3:(W.setCell (iA b 4) (iV (v 8))).cell? (iA b 4)=sI (v 8):=World.cell?_setCell_same _ _ _ c4;go_quiet (fail);go_wp2_with fail;go_region_held3(fun X=>X.cell? (iA b 4)=sI (v 8)) (first|exact b3|exact b4|exact b5) (first|(go_at_call 162;refine(HG.out W (Same.refl W) _ (((Same.refl _).drewN nq).drew)).mono ?_;rintro en w1 ⟨vv,rfl,b4,HCO⟩)|(go_at_call 156;refine HCO.mono ?_;rintro en w2 ⟨rfl,b5,HZ⟩));go_end0;exact⟨rfl,HZ⟩
 ·have HG:=hid (HRJ.out (by simpa using q));clear HGO HRJ;go_quiet (fail);go_wp2_with fail;refine(HG.out (W.drewN nq) ((Same.refl W).drewN nq)).mono ?_;rintro en w1 ⟨rfl,HZ⟩;go_wp2
  (try simp only[Exit.inBlock,Exit.then])
  refine bodyPost_ret (results_none rfl _ _ _) rfl ?_;exact⟨rfl,HZ⟩
theorem zNp(h:CRep F base w b e g S)(inv:Eng.EInv e)(hH:Holds e S [] [])(hro:Room 100 e)(hv:0≤v 0∧v 0<4294967296):
 Cl 118 #[iP b,termsV v] w fun en w'=>en=rV #[]∧Hid (Cdone F base w b g (e.cancel (v 0)) w'):=by
 have h63:r63 (v 0):=zA0 hv.1 (by omega);have t0:(w.alloc (.cells (termsC v) 100)).cell? (iA w.heap.size 0)=sI (v 0):=(TA.new w v _).cell 0;have hA:=h.alloc (.cells (termsC v) 100);have hT0:Touch F w (w.alloc (.cells (termsC v) 100)):=(Touch.refl F w).alloc _;have HFD:Hid (∀W,Same (w.alloc (.cells (termsC v) 100)) W→Cl 154 #[.pointer (some (iA b 8)),iV (v 0)] W fun en w1=>en=rV #[optPtr g (e.liveAt (v 0)),.bool (e.liveAt (v 0)).isSome]∧cI w1 w.heap.size 0 (v 0)∧Hid (Same (w.alloc (.cells (termsC v) 100)) w1)):=by
  intro W hW;refine(zC8 (v 0) h63 (hA.same hW) inv hH).mono ?_;rintro en w1 ⟨rfl,hs⟩;exact⟨rfl,((TA.new w v _).same (hW.trans hs)).cell 0,hW.trans hs⟩
 have HRJ:Hid (e.liveAt (v 0)=none→∀W,Same (w.alloc (.cells (termsC v) 100)) W→Cl 72 #[iP b,iV (v 0),iV 3] W fun en w'=>en=rV #[]∧Hid (Cdone F base w b g (e.cancel (v 0)) w')):=by
  intro hn W hW;refine(zC9 (v 0) 3 (hA.same hW) hH (hro.mono (by omega)) h63 ⟨by omega,by omega⟩).mono ?_;rintro en w' ⟨rfl,hz⟩;obtain⟨t,S',r1,r2,r3⟩:=hz.out;have he:e.cancel (v 0)=e.reject (v 0) 3:=by unfold Eng.cancel;rw[hn]
  rw[he];exact⟨rfl,t,S',r1,r2,(hT0.trans hW.touch).trans r3⟩
 have HGO:Hid (∀i,e.liveAt (v 0)=some i→∀W,Same (w.alloc (.cells (termsC v) 100)) W→Cl 155 #[.pointer (some (iA b 8)),iP (g.blk i)] W fun en w1=>en=rV #[]∧Hid (Cl 156 #[iP b,iV 1,sL w1.heap.size 1 1] (w1.alloc (.cells #[iP (g.blk i)] 158)) fun en w'=>en=rV #[]∧Hid (Cdone F base w b g (e.cancel (v 0)) w'))):=by
  intro i hi W hW;obtain⟨o,ho,hid',hs⟩:=Eng.liveAt_some hi;have hok:=inv.ok i o ho;have hAW:=hA.same hW;refine(zE2 hAW (hAW.oa ho hs) (zA0 (by have:=hok.id0;omega) (by have:=hok.id1;omega))).mono ?_;rintro en w1 ⟨rfl,q1,q2,_⟩;refine⟨rfl,?_⟩;have q3:=q1.alloc (.cells #[iP (g.blk i)] 158);have hrow:InOrder w1.heap.size (w1.alloc (.cells #[iP (g.blk i)] 158)) g (sL w1.heap.size 1 1) [i]:=⟨⟨rfl,.inr ⟨w1.heap.size,1,#[iP (g.blk i)],rfl,Nat.le_refl _,heap_alloc_new w1 _,Nat.le_refl _,by unfold maxLen;omega,rfl,rfl⟩⟩,List.pairwise_singleton _ _⟩;have hHl:Holds e (S.leave e.all o) [i] []:=hH.leave inv ho;have hlv1: ∀j∈[i],∃o,e.all[j]? =some o∧o.status=1:=fun j hj=>by
   obtain rfl:j=i:=by simpa using hj
   exact⟨o,ho,hs⟩
  refine(zEb 1 ⟨by omega,by omega⟩ q1 q3 rfl hHl ((Touch.refl F w1).alloc _) inv (hro.mono (by omega)) hrow hlv1).mono ?_;rintro en w' ⟨rfl,hz⟩;have he:e.cancel (v 0)=Eng.goneAll 1 e [i]:=by unfold Eng.cancel;rw[hi];rfl
  rw[←he]at hz;obtain⟨t,S',r1,r2,r3⟩:=hz.out;exact⟨rfl,t,S',r1,r2,((hT0.trans hW.touch).trans q2).trans r3⟩
 unfold termsV;unfold termsC at t0 HFD HRJ HGO;go_enter Tryz.func118,Tryz.ntmps118;go_wp2_with fail;generalize w.alloc (.cells #[iV (v 0),iV (v 1),iV (v 2),iV (v 3),iV (v 4),iV (v 5),iV (v 6),iV (v 7),iV (v 8)] 100)=W at *;go_region_held3(fun X=>X.cell? (iA w.heap.size 0)=sI (v 0)) (first|exact t0|exact t0') ((go_at_call 154;refine(HFD _ (Same.refl _).drew).mono ?_;rintro en w1 ⟨rfl,t0',HS1⟩));rcases hL:e.liveAt (v 0) with _|i
 ·have HG:=hid (HRJ hL w1 HS1);simp only[Option.isSome_none];go_wp2_with fail;refine HG.mono ?_;rintro en w2 ⟨rfl,HZ⟩;go_wp2
  (try simp only[Exit.inBlock,Exit.then])
  refine bodyPost_ret (results_none rfl _ _ _) rfl ?_;exact⟨rfl,HZ⟩
 ·have HG:=hid (HGO i hL w1 HS1);unfold optPtr ptrOf;simp only[Option.isSome_some,Option.map_some];go_wp2_with fail;refine HG.mono ?_;rintro en w2 ⟨rfl,HCO⟩;go_wp2_with fail;refine HCO.mono ?_;rintro en w3 ⟨rfl,HZ⟩;go_wp2;go_end0;exact⟨rfl,HZ⟩
end
section
variable {F:Nat→Prop} {base:Nat} {w:World} {b i:Nat} {e:Eng} {g:Gh} {S:Sets} {o:Ord}
def parkO(o:Ord):Ord:={ o with price:=0,shown:=0 }
theorem zNq(h:CRep F base w b e g S)(inv:Eng.EInv e)(hH:Holds e S [] [])(ho:e.all[i]? =some o)(hs:o.status=1)(hro:Room 1 e):
 Cl 165 #[iP b,iP (g.blk i)] w fun en w'=>en=rV #[]∧Hid (Cdone F base w b g (e.park i o) w'):=by
 have k:=inv.ok i o ho;have hid63:r63 o.id:=zA0 (by have:=k.id0;omega) (by have:=k.id1;omega);have z:r63 0:=⟨by omega,by omega⟩;have HTB:Hid (Cl 209 #[iP b,iP (g.blk i)] w fun en w1=>en=rV #[]∧cI w1 (g.blk i) 3 o.price∧w1.frozen? (iA (g.blk i) 3)=false∧(w1.setCell (iA (g.blk i) 3) (iV 0)).cell? (iA (g.blk i) 0)=sI o.id∧Hid (∀W,Same (w1.setCell (iA (g.blk i) 3) (iV 0)) W→Cl 116 #[.pointer (some (iA b 6)),.agg #[iV 8,iV 0,iV o.id,iV 0,iV 0,iV 0,iV 0]] W fun en w'=>en=rV #[]∧cI w' (g.blk i) 0 o.id∧Hid (Cdone F base w b g (e.park i o) w'))):=by
  refine(zE1 h ho hs (hH.live ho hs) hid63).mono ?_;rintro en w1 ⟨rfl,h1,h2⟩;have hat:(e.upd i fun o=>{ o with shown:=0 }).all[i]? =some { o with shown:=0 }:=Eng.upd_same e i _ o ho;have hO1:=h1.oa hat hs;have hne:i∉(S.off e.all o).ended:=by rw[Sets.off_ended];exact hH.live ho hs
  obtain⟨h3,h4⟩:=h1.wr (i:=i) hat hs hne 3 (iV 0) (fun o=>{ o with price:=0 }) rfl (by simp[Ord.code]);rw[Eng.upd_upd]at h3;have h3':CRep F base (w1.setCell (iA (g.blk i) 3) (iV 0)) b (e.upd i parkO) g (S.off e.all o):=h3;have hat2:(e.upd i parkO).all[i]? =some (parkO o):=Eng.upd_same e i _ o ho;have hO3:=h3'.oa hat2 hs;refine⟨rfl,hO1.cell 3,hO1.froz 3,hO3.cell 0,fun W hW=>?_⟩;refine(zB4 8 0 o.id 0 0 0 0 (h3'.same hW) (by have:=hro.seq;show e.seq<_;omega) (by have:=hro.out;show e.out.length≤_;omega) ⟨⟨by omega,by omega⟩,hid63,z,z,z,z⟩).mono ?_;rintro en w' ⟨rfl,t,q1,q2⟩;have hat3:((e.upd i parkO).tell 8 o.id 0 0 0 0).all[i]? =some (parkO o):=hat2;refine⟨rfl,(q1.oa (i:=i) hat3 hs).cell 0,t,S.off e.all o,q1,?_,((h2.trans h4).trans hW.touch).trans q2⟩;exact(Holds.off (f:=parkO) hH inv ho rfl rfl rfl (fun j hj=>by cases hj) rfl).cong rfl
 go_enter Tryz.func165,Tryz.ntmps165;go_wp2_with fail;refine HTB.mono ?_;rintro en w1 ⟨rfl,c3,f3,c0,HT⟩;go_wp2_with fail;go_region_held3(fun X=>X.cell? (iA (g.blk i) 0)=sI o.id) (first|exact c0|exact c0') ((go_at_call 116;refine(HT _ (Same.refl _).drew).mono ?_;rintro en w2 ⟨rfl,c0',HZ⟩));go_end0;exact⟨rfl,HZ⟩
def moveO(p:Int)(st:Nat)(o:Ord):Ord:={ o with price:=p,stamp:=(st+1:Nat),shown:=o.opn }
theorem zNr(p:Int)(hp:0≤p∧p≤1000000)(h:CRep F base w b e g S)(inv:Eng.EInv e)(hH:Holds e S [] [])(ho:e.all[i]? =some o)(hs:o.status=1)(hop:0<o.opn)(hro:Room 1 e):
 Cl 166 #[iP b,iP (g.blk i),iV p] w fun en w'=>en=rV #[]∧Hid (Cdone F base w b g (e.move i o p) w'):=by
 have k:=inv.ok i o ho;have hid63:r63 o.id:=zA0 (by have:=k.id0;omega) (by have:=k.id1;omega);have hp63:r63 p:=zA0 hp.1 (by omega);have z:r63 0:=⟨by omega,by omega⟩;have hopn:=k.open_ hs;have hb:o.opn≤1000:=by have:=k.sum;have:=k.fil0;have:=k.can0;have:=k.qty1;omega
 have hO:=h.oa ho hs;have c3:cI w (g.blk i) 3 o.price:=hO.cell 3;have f3:=hO.froz 3;obtain⟨h1,t1⟩:=h.wr ho hs (hH.live ho hs) 3 (iV p) (fun o=>{ o with price:=p }) rfl (by simp[Ord.code]);have hat:(e.upd i fun o=>{ o with price:=p }).all[i]? =some { o with price:=p }:=Eng.upd_same e i _ o ho;have HOP:Hid (Cl 124 #[iP (g.blk i)] (w.setCell (iA (g.blk i) 3) (iV p)) fun en w1=>en=.returned (iV o.opn)∧Hid (Cl 210 #[iP b,iP (g.blk i),iV o.opn] w1 fun en w2=>en=rV #[]∧cI w2 (g.blk i) 0 o.id∧cI w2 (g.blk i) 3 p∧cI w2 (g.blk i) 11 o.opn∧Hid (∀W,Same w2 W→Cl 116 #[.pointer (some (iA b 6)),.agg #[iV 7,iV 0,iV o.id,iV 0,iV p,iV o.opn,iV 0]] W fun en w'=>en=rV #[]∧cI w' (g.blk i) 0 o.id∧cI w' (g.blk i) 3 p∧cI w' (g.blk i) 11 o.opn∧Hid (Cdone F base w b g (e.move i o p) w')))):=by
  refine(zAi (h1.oa hat hs) (by show r63 (o.qty - o.filled);rw[←hopn];exact zA0 (by omega) (by omega))).mono ?_;rintro en w1 ⟨rfl,s1⟩;refine⟨by show _=Ending.returned (iV o.opn);rw[hopn],?_⟩;have h1':=h1.same s1;have hsm:=(h1'.small ((hH.upd (f:=fun o=>{ o with price:=p }) (odd':=[]) ho rfl rfl rfl (fun _ _=>Iff.rfl) (.inr ⟨by simp,Iff.rfl⟩)))).mono (m:=1000000000) (by rw[Eng.upd_len];exact hro.len);refine(zH4 (o:={ o with price:=p }) o.opn h1' hat hs (hH.live ho hs) hid63 (by have:=hro.stm;show e.stamp<_;omega) hsm).mono ?_;rintro en w2 ⟨rfl,q1,q2⟩;have hE:({ (e.upd i fun o=>{ o with price:=p }) with stamp:=(e.upd i fun o=>{ o with price:=p }).stamp+1 }.upd i fun x=>{ x with stamp:=((e.upd i fun o=>{ o with price:=p }).stamp+1:Nat),shown:=o.opn })={ e with stamp:=e.stamp+1 }.upd i (moveO p e.stamp):=by
   have h5:({ (e.upd i fun o=>{ o with price:=p }) with stamp:=(e.upd i fun o=>{ o with price:=p }).stamp+1 }:Eng)=({ e with stamp:=e.stamp+1 }:Eng).upd i fun o=>{ o with price:=p }:=rfl
   rw[h5,Eng.upd_upd];refine Eng.upd_congr _ i _ _ (fun x hx=>?_);obtain rfl:o=x:=Option.some.inj (ho.symm.trans hx);rfl
  have hS:S.lay (e.upd i fun o=>{ o with price:=p }).all { o with price:=p } i=S.lay e.all o i:=by
   unfold Sets.lay;show(if o.side=1 then _ else _)=(if o.side=1 then _ else _);rw[zAu e i (fun o=>{ o with price:=p }) (fun _ _=>rfl),zAu e i (fun o=>{ o with price:=p }) (fun _ _=>rfl)]
  rw[hE,hS]at q1;have hat2:({ e with stamp:=e.stamp+1 }.upd i (moveO p e.stamp)).all[i]? =some (moveO p e.stamp o):=Eng.upd_same { e with stamp:=e.stamp+1 } i _ o ho;have hO2:=q1.oa hat2 hs;refine⟨rfl,hO2.cell 0,hO2.cell 3,hO2.cell 11,fun W hW=>?_⟩;refine(zB4 7 0 o.id 0 p o.opn 0 (q1.same hW) (by have:=hro.seq;show e.seq<_;omega) (by have:=hro.out;show e.out.length≤_;omega) ⟨⟨by omega,by omega⟩,hid63,z,hp63,zA0 (by omega) (by omega),z⟩).mono ?_;rintro en w' ⟨rfl,t,r1,r2⟩;have hO3:=r1.oa (i:=i) hat2 hs;refine⟨rfl,hO3.cell 0,hO3.cell 3,hO3.cell 11,t,S.lay e.all o i,?_,?_,(((t1.trans s1.touch).trans q2).trans hW.touch).trans r2⟩
  ·have hM:e.move i o p=({ e with stamp:=e.stamp+1 }.upd i (moveO p e.stamp)).tell 7 o.id 0 p o.opn 0:=rfl;rw[hM];exact r1
  ·have hL:=Holds.lay (f:=moveO p e.stamp) (e:={ e with stamp:=e.stamp+1 }) (hH.cong rfl) inv.stamped ho rfl rfl rfl (fun j hj=>by cases hj) (show¬o.opn=0 by omega);exact hL.cong rfl
 clear h inv hH ho hs hro k hid63 z hopn hb hO h1 t1 hat hp hp63;go_enter Tryz.func166,Tryz.ntmps166;go_wp2_with fail;refine HOP.mono ?_;rintro en w1 ⟨rfl,HRS⟩;clear HOP c3 f3;go_wp2_with fail;refine HRS.mono ?_;rintro en w2 ⟨rfl,d0,d3,d11,HT⟩;clear HRS;go_wp2_with fail;go_region_held3(fun X=>X.cell? (iA (g.blk i) 0)=sI o.id∧X.cell? (iA (g.blk i) 3)=sI p∧X.cell? (iA (g.blk i) 11)=sI o.opn) (first|exact⟨d0,d3,d11⟩|exact⟨d0',d3',d11'⟩) ((go_at_call 116;refine(HT.out _ (Same.refl _).drew).mono ?_;rintro en w3 ⟨rfl,d0',d3',d11',HZ⟩));go_end0;exact⟨rfl,HZ⟩
theorem zNs(h:CRep F base w b e g S)(inv:Eng.EInv e)(hH:Holds e S [] [])(ho:e.all[i]? =some o)(hs:o.status=1)(hsd:o.side=1):
 Cl 164 #[iP b,iP (g.blk i)] w fun en w'=>en=.returned (iV (e.target o))∧Below w.heap.size w w':=by
 have k:=inv.ok i o ho;have hside:o.side=1:=hsd;have hbd:=Eng.bestOf_bd (mp:=e.mp) (st:=e.stamp) 1 e.all (fun x hx=>by obtain⟨j,hj⟩:=List.mem_iff_getElem?.1 hx;exact inv.ok j x hj);have hmp:=inv.mp1;have hmp0:=inv.mp0;have ho0:=k.off0;have ho1:=k.off1;have HSD:Hid (Cl 202 #[iP b,iP (g.blk i)] w fun en w1=>en=rV #[.iface 214 (iP g.buyB),.iface 220 (iP g.selB)]∧Hid (Cl 263 #[iP g.buyB] w1 fun en w2=>en=rV #[iV (Eng.bestOf 1 e.all),found (Eng.bestOf 1 e.all)]∧cI w2 (g.blk i) 6 o.off∧cI w2 b 1 e.mp∧Hid (Bw w w2))):=by
  refine(zCw h (h.oa ho hs) hsd).mono ?_;rintro en w1 ⟨rfl,hsm⟩;refine⟨rfl,?_⟩;refine(zN7 (h.same hsm) inv hH).mono ?_;rintro en w2 ⟨rfl,hb⟩;have h2:=(h.same hsm).below hb;exact⟨rfl,(h2.oa ho hs).cell 6,h2.cell 1,zAa (zBl (Below.refl _ _) hsm) hb⟩
 have HTG:Hid (e.target o=if 0<Eng.bestOf 1 e.all then Eng.clamp (Eng.bestOf 1 e.all+o.off) 1 e.mp else Eng.bestOf 1 e.all):=by
  show _=_;unfold Eng.target;rw[hside]
 generalize Eng.bestOf 1 e.all=p at *;go_enter Tryz.func164,Tryz.ntmps164;go_wp2_with fail;refine HSD.mono ?_;rintro en w1 ⟨rfl,HBF⟩;go_wp2_with fail;refine HBF.mono ?_;rintro en w2 ⟨rfl,c6,c1,HB⟩;unfold found;cases q:(p == 0)
 ·have hp0:p≠0:=by simpa using q
  have hpp:0<p:=by rcases hbd with h1|h1<;>omega
  have hpm:p≤e.mp:=by rcases hbd with h1|h1<;>omega
  have HE:=hid (HTG.trans (if_pos hpp));have hw1:wrap64 (p+o.off)=p+o.off:=by unfold wrap64;omega
  have hw2:IntKind.i64.wrap (p+o.off)=p+o.off:=zA8 _ (by omega) (by omega);simp only[Bool.not_false];have HR:Hid (e.target o=min (max (p+o.off) 1) e.mp):=by
   show _=_;rw[HE.out];unfold Eng.clamp;by_cases q1:p+o.off<1
   ·have e1:max (p+o.off) 1=1:=by omega
    rw[e1];simp only[q1,if_true];have e2:min 1 e.mp=1:=by omega
    rw[e2,if_neg (by omega)]
   ·have e1:max (p+o.off) 1=p+o.off:=by omega
    rw[e1];simp only[q1,if_false];by_cases q2:e.mp<p+o.off
    ·rw[if_pos q2];omega
    ·rw[if_neg q2];omega
  go_wp2_with fail;go_region_law(fail);all_goals(go_wp2;go_ret;exact⟨by rw[HR.out];rfl,⟨HB.os,HB.tape,HB.output,HB.size,HB.block⟩⟩)
 ·have hp0:p=0:=by simpa using q
  have HE:Hid (e.target o=0):=by show _=_;rw[HTG.out,hp0];rfl
  simp only[Bool.not_true];go_wp2;go_ret;exact⟨by rw[HE.out];rfl,HB⟩
theorem zNt(h:CRep F base w b e g S)(inv:Eng.EInv e)(hH:Holds e S [] [])(ho:e.all[i]? =some o)(hs:o.status=1)(hsd: ¬o.side=1):
 Cl 164 #[iP b,iP (g.blk i)] w fun en w'=>en=.returned (iV (e.target o))∧Below w.heap.size w w':=by
 have k:=inv.ok i o ho;have hside:o.side=2:=k.side.resolve_left hsd;have hbd:=Eng.bestOf_bd (mp:=e.mp) (st:=e.stamp) 2 e.all (fun x hx=>by obtain⟨j,hj⟩:=List.mem_iff_getElem?.1 hx;exact inv.ok j x hj);have hmp:=inv.mp1;have hmp0:=inv.mp0;have ho0:=k.off0;have ho1:=k.off1;have HSD:Hid (Cl 202 #[iP b,iP (g.blk i)] w fun en w1=>en=rV #[.iface 220 (iP g.selB),.iface 214 (iP g.buyB)]∧Hid (Cl 269 #[iP g.selB] w1 fun en w2=>en=rV #[iV (Eng.bestOf 2 e.all),found (Eng.bestOf 2 e.all)]∧cI w2 (g.blk i) 6 o.off∧cI w2 b 1 e.mp∧Hid (Bw w w2))):=by
  refine(zCx h (h.oa ho hs) hsd).mono ?_;rintro en w1 ⟨rfl,hsm⟩;refine⟨rfl,?_⟩;refine(zN9 (h.same hsm) inv hH).mono ?_;rintro en w2 ⟨rfl,hb⟩;have h2:=(h.same hsm).below hb;exact⟨rfl,(h2.oa ho hs).cell 6,h2.cell 1,zAa (zBl (Below.refl _ _) hsm) hb⟩
 have HTG:Hid (e.target o=if 0<Eng.bestOf 2 e.all then Eng.clamp (Eng.bestOf 2 e.all+o.off) 1 e.mp else Eng.bestOf 2 e.all):=by
  show _=_;unfold Eng.target;rw[hside]
 generalize Eng.bestOf 2 e.all=p at *;go_enter Tryz.func164,Tryz.ntmps164;go_wp2_with fail;refine HSD.mono ?_;rintro en w1 ⟨rfl,HBF⟩;go_wp2_with fail;refine HBF.mono ?_;rintro en w2 ⟨rfl,c6,c1,HB⟩;unfold found;cases q:(p == 0)
 ·have hp0:p≠0:=by simpa using q
  have hpp:0<p:=by rcases hbd with h1|h1<;>omega
  have hpm:p≤e.mp:=by rcases hbd with h1|h1<;>omega
  have HE:=hid (HTG.trans (if_pos hpp));have hw1:wrap64 (p+o.off)=p+o.off:=by unfold wrap64;omega
  have hw2:IntKind.i64.wrap (p+o.off)=p+o.off:=zA8 _ (by omega) (by omega);simp only[Bool.not_false];have HR:Hid (e.target o=min (max (p+o.off) 1) e.mp):=by
   show _=_;rw[HE.out];unfold Eng.clamp;by_cases q1:p+o.off<1
   ·have e1:max (p+o.off) 1=1:=by omega
    rw[e1];simp only[q1,if_true];have e2:min 1 e.mp=1:=by omega
    rw[e2,if_neg (by omega)]
   ·have e1:max (p+o.off) 1=p+o.off:=by omega
    rw[e1];simp only[q1,if_false];by_cases q2:e.mp<p+o.off
    ·rw[if_pos q2];omega
    ·rw[if_neg q2];omega
  go_wp2_with fail;go_region_law(fail);all_goals(go_wp2;go_ret;exact⟨by rw[HR.out];rfl,⟨HB.os,HB.tape,HB.output,HB.size,HB.block⟩⟩)
 ·have hp0:p=0:=by simpa using q
  have HE:Hid (e.target o=0):=by show _=_;rw[HTG.out,hp0];rfl
  simp only[Bool.not_true];go_wp2;go_ret;exact⟨by rw[HE.out];rfl,HB⟩
theorem zNu(h:CRep F base w b e g S)(inv:Eng.EInv e)(hH:Holds e S [] [])(ho:e.all[i]? =some o)(hs:o.status=1):
 Cl 164 #[iP b,iP (g.blk i)] w fun en w'=>en=.returned (iV (e.target o))∧Below w.heap.size w w':=by
 by_cases hsd:o.side=1
 ·exact zNs h inv hH ho hs hsd
 ·exact zNt h inv hH ho hs hsd
end
end Go.Proofs.YtanfmhonjpjpoaaGreatDoor
