import Derived.Test.YtanfmhonjpjpoaaGreatDoorQ00
import Derived.Test.YtanfmhonjpjpoaaGreatDoorQ10
import Derived.Test.YtanfmhonjpjpoaaGreatDoorQ27
set_option linter.all false
set_option maxRecDepth 100000
set_option maxHeartbeats 8000000
namespace Go.Proofs.YtanfmhonjpjpoaaGreatDoor
variable{w1 w2:World}
open Go.Extern Go.Maps Go.RowKit
section
variable {F:Nat→Prop} {base:Nat} {w:World} {b i:Nat} {e:Eng} {g:Gh} {S:Sets} {o:Ord}
theorem zMo(ho:e.all[i]? =some o)(h:e.target o=o.price):e.followOne i=e:=by
 unfold Eng.followOne;rw[ho];simp only;by_cases hc:o.status=1∧o.typ=3
 ·rw[if_pos hc,if_pos h]
 ·rw[if_neg hc]
theorem zMp(ho:e.all[i]? =some o)(h: ¬o.typ=3):e.followOne i=e:=by
 unfold Eng.followOne;rw[ho];simp only;rw[if_neg (fun hc=>h hc.2)]
theorem zMq(ho:e.all[i]? =some o)(hs:o.status=1)(ht:o.typ=3)(h: ¬e.target o=o.price)(h0:e.target o=0):e.followOne i=e.park i o:=by
 unfold Eng.followOne;rw[ho];simp only;rw[if_pos ⟨hs,ht⟩,if_neg h,if_pos h0];rfl
theorem zMr(ho:e.all[i]? =some o)(hs:o.status=1)(ht:o.typ=3)(h: ¬e.target o=o.price)(h0: ¬e.target o=0):e.followOne i=e.move i o (e.target o):=by
 unfold Eng.followOne;rw[ho];simp only;rw[if_pos ⟨hs,ht⟩,if_neg h,if_neg h0];rfl
theorem zMs(h:CRep F base w b e g S)(inv:Eng.EInv e)(hH:Holds e S [] [])(ho:e.all[i]? =some o)(hs:o.status=1)(ht:o.typ=3)(hop:0<o.opn)(hro:Room 1 e):
 Cl 122 #[iP b,iP (g.blk i)] w fun en w'=>en=rV #[]∧Hid (Cdone F base w b g (e.followOne i) w'):=by
 have htb:=Eng.target_bd inv o;have hmp:=inv.mp1;have HPP:Hid (Cl 164 #[iP b,iP (g.blk i)] w fun en w1=>en=.returned (iV (e.target o))∧cI w1 (g.blk i) 3 o.price∧Hid (CRep F base w1 b e g S∧Touch F w w1)):=by
  refine(zMl h inv hH ho hs).mono ?_;rintro en w1 ⟨rfl,hb⟩;have h1:=h.below hb;exact⟨rfl,(h1.oa ho hs).cell 3,h1,zAj h.up hb⟩
 by_cases q1:e.target o=o.price
 ·have HE:=hid (zMo ho q1);have HH:=hid hH;rw[q1]at HPP;go_enter Tryz.func122,Tryz.ntmps122;go_wp2_with fail;refine HPP.mono ?_;rintro en w1 ⟨rfl,c3,HZ⟩;go_wp2
  (try simp only[Exit.inBlock,Exit.then])
  refine bodyPost_ret (results_none rfl _ _ _) rfl ?_;exact⟨rfl,by rw[HE.out];exact⟨g.txt,S,HZ.1,HH,HZ.2⟩⟩
 ·by_cases q2:e.target o=0
  ·have HPK:Hid (∀W,CRep F base W b e g S∧Touch F w W→Cl 165 #[iP b,iP (g.blk i)] W fun en w'=>en=rV #[]∧Hid (Cdone F base w b g (e.followOne i) w')):=by
    rintro W ⟨hW,hT⟩;refine(zMh hW inv hH ho hs hro).mono ?_;rintro en w' ⟨rfl,hz⟩;obtain⟨t,S',r1,r2,r3⟩:=hz.out;rw[zMq ho hs ht q1 q2];exact⟨rfl,t,S',r1,r2,hT.trans r3⟩
   have q3: ¬(0:Int)=o.price:=by rw[←q2];exact q1
   rw[q2]at HPP;go_enter Tryz.func122,Tryz.ntmps122;go_wp2_with fail;refine HPP.mono ?_;rintro en w1 ⟨rfl,c3,HZ⟩;have HP:=hid (HPK w1 HZ);go_wp2_with fail;refine HP.mono ?_;rintro en w2 ⟨rfl,HD⟩;go_wp2;go_end0;exact⟨rfl,HD⟩
  ·have HPK:Hid (∀W,CRep F base W b e g S∧Touch F w W→Cl 166 #[iP b,iP (g.blk i),iV (e.target o)] W fun en w'=>en=rV #[]∧Hid (Cdone F base w b g (e.followOne i) w')):=by
    rintro W ⟨hW,hT⟩;refine(zMi (e.target o) ⟨htb.1,by omega⟩ hW inv hH ho hs hop hro).mono ?_;rintro en w' ⟨rfl,hz⟩;obtain⟨t,S',r1,r2,r3⟩:=hz.out;rw[zMr ho hs ht q1 q2];exact⟨rfl,t,S',r1,r2,hT.trans r3⟩
   generalize e.target o=p at *;go_enter Tryz.func122,Tryz.ntmps122;go_wp2_with fail;refine HPP.mono ?_;rintro en w1 ⟨rfl,c3,HZ⟩;have HP:=hid (HPK w1 HZ);go_wp2_with fail;refine HP.mono ?_;rintro en w2 ⟨rfl,HD⟩;go_wp2;go_end0;exact⟨rfl,HD⟩
structure Laying(G:Nat→Prop)(base:Nat)(w1:World)(b:Nat)(g:Gh)(e:Eng)(L:List Nat)(k:Nat)(E:Eng)(wr:World):Prop where
 rep: ∃t S',CRep G base wr b E { g with txt:=t } S'∧Holds E S' [] []
 touch:Touch G w1 wr
 inv:Eng.EInv E
 pegs:Eng.Pegs E
 is:E=(L.take k).foldl Eng.followOne e
 rest: ∀j,j∈L.drop k→E.all[j]? =e.all[j]?
 grew:Eng.Grew k 0 e E
 len:E.all.length=e.all.length
theorem zMt(e:Eng)(i:Nat):Eng.Grew 1 0 e (e.followOne i):=by
 rcases Eng.followOne_at e i with h|⟨o,_,_,_,_,⟨_,h⟩|⟨_,h⟩⟩
 ·rw[h];exact(Eng.Grew.refl e).mono (by omega) (by omega)
 ·rw[h];exact Eng.Grew.park e i o
 ·rw[h];exact Eng.Grew.move e i o _
theorem zMu(p:Eng.Pegs e)(i:Nat):Eng.Pegs (e.followOne i):=by
 rcases Eng.followOne_at e i with h|⟨o,ho,hs,ht,_,⟨h0,h⟩|⟨h0,h⟩⟩
 ·rw[h];exact p
 ·rw[h];refine Eng.Pegs.cong (e:=e.upd i fun o=>{ o with price:=0,shown:=0 }) (p.upd i _ fun x hx h1 h2=>?_) rfl;exact⟨(p i x hx h1 h2).1,fun hc=>absurd rfl hc⟩
 ·rw[h];refine Eng.Pegs.cong (e:=({ e with stamp:=e.stamp+1 }:Eng).upd i fun x=>{ x with price:=e.target o,stamp:=(e.stamp+1:Nat),shown:=x.opn }) (Eng.Pegs.upd (e:={ e with stamp:=e.stamp+1 }) (p.cong rfl) i _ fun x hx h1 h2=>?_) rfl;have:=(p i x hx h1 h2).1;exact⟨this,fun _=>this⟩
theorem zMv(h:CRep F base w b e g S)(inv:Eng.EInv e)(hH:Holds e S [] [])(hpg:Eng.Pegs e)(hro:Room 100 e)(hl:e.all.length≤100000000):
 Cl 74 #[iP b] w fun en w'=>en=rV #[]∧Hid (Cdone F base w b g e.follow w'):=by
 have HAL:Hid (Cl 49 #[.pointer (some (iA b 8))] w fun en w1=> ∃(p:Option Addr) (cap:Nat) (L:List Nat),en=.returned (.slice p L.length cap)∧Hid (L.length≤64∧L.Pairwise (· < ·)∧(∀j,j∈L↔∃o,e.all[j]? =some o∧o.status=1)∧Apart (Foot F w w1) w1 g (.slice p L.length cap) L∧Laying (Foot F w w1) base w1 b g e L 0 e w1∧Touch F w w1)):=by
  refine(zG8 h hH hl).mono ?_;rintro en w1 ⟨v,L,rfl,h1,h2,h3⟩;obtain⟨p,cap,rfl⟩: ∃p cap,v=.slice p L.length cap:=by
   rcases h1.row.2 with⟨h5,h6⟩|⟨d,cap,cur,h5,_⟩
   ·exact⟨none,0,by rw[h5,h6]⟩
   ·exact⟨_,_,h5⟩
  have hnd:L.Nodup:=h1.up.imp (fun h=>Nat.ne_of_lt h);have hL64:L.length≤64:=by
   have h2:L.length≤((List.range e.all.length).filter (Eng.lives e)).length:=zBu hnd (fun j hj=>by
    obtain⟨o,q1,q2⟩:=(h2 j).1 hj;rw[List.mem_filter,List.mem_range];exact⟨(List.getElem?_eq_some_iff.1 q1).1,by unfold Eng.lives;rw[q1];simp[q2]⟩)
   rw[←List.countP_eq_length_filter,Eng.count_range]at h2;have:=inv.live;have:=inv.mo1;omega
  have hC:=h.foot (h.below h3) rfl;refine⟨p,cap,L,rfl,hL64,h1.up,h2,h1.apart (fun k h2 h3 hc=>hc.elim (fun h=>by omega) (fun h=>by omega)),⟨⟨g.txt,S,hC,hH⟩,Touch.refl _ _,inv,hpg,rfl,fun _ _=>rfl,Eng.Grew.refl e,rfl⟩,zAj h.up h3⟩
 have HRO:=hid hro;have HUP:=hid h.up;go_enter Tryz.func74,Tryz.ntmps74;go_wp2_with fail;refine HAL.mono ?_;rintro en w1 ⟨p,cap,L,rfl,HZ⟩;have hL64:=HZ.1;go_wp2_with fail;go_loopw [9] (fun iv wr=> ∃(k:Nat) (E:Eng),iv=iV k∧k≤L.length∧Laying (Foot F w w1) base w1 b g e L k E wr) (fun iv _=>L.length - (intOf iv).toNat)
 case atStart=>exact⟨0,e,rfl,Nat.zero_le _,HZ.2.2.2.2.1⟩
 case round=>
  obtain⟨k,E,rfl,hk,hE⟩:=hrel;have HE:=hid hE;by_cases hlt:k<L.length
  ·have hkI:(k:Int)<(L.length:Int):=by omega
   have hw1:wrap64 ((k:Int)+1)=(k:Int)+1:=by unfold wrap64;omega
   have hj:L[k]? =some L[k]:=List.getElem?_eq_getElem hlt;have hd:L.drop k=L[k]::L.drop (k+1):=List.drop_eq_getElem_cons hlt;obtain⟨p',cap',hpe,hap⟩:=HZ.out.2.2.2.1;injection hpe with hpe1 _ hpe2;subst hpe1 hpe2;obtain⟨vb,rfl,hvF,hvl,hcell⟩:=hap.resolve_left (fun hc=>by rw[hc]at hlt;simp at hlt);have ck:wr.cell? (iA vb k)=some (iP (g.blk L[k])):=by
    have:=hcell k _ hj;unfold World.cell? at this⊢;rw[HE.out.touch.block vb hvl hvF];exact this
   obtain⟨o,ho0,hs⟩:=(HZ.out.2.2.1 L[k]).1 (List.getElem_mem hlt);have ho:E.all[L[k]]? =some o:=(HE.rest L[k] (by rw[hd];exact List.mem_cons_self ..)).trans ho0;obtain⟨t,S',hC,hH⟩:=HE.out.rep;have hO:=hC.oa ho hs;have o2:cI wr (g.blk L[k]) 2 o.typ:=hO.cell 2;have hnk:L[k]∉L.drop (k+1):=fun hc=>by
    have h2:=HZ.2.1;rw[←List.take_append_drop k L,hd,List.pairwise_append]at h2;have:=(List.pairwise_cons.1 h2.2.1).1 _ hc;omega
   have hst:=Eng.followOne_stays E L[k];have hgr:=zMt E L[k];have HNX:Hid (∀W,(∃t S',CRep (Foot F w w1) base W b (E.followOne L[k]) { g with txt:=t } S'∧Holds (E.followOne L[k]) S' [] [])→Touch (Foot F w w1) wr W→Laying (Foot F w w1) base w1 b g e L (k+1) (E.followOne L[k]) W):=fun W hW hT=>by
    refine⟨hW,HE.touch.trans hT,Eng.followOne_inv HE.inv L[k],zMu HE.pegs L[k],?_,fun j hjd=>?_,?_,hst.len.trans HE.len⟩
    ·rw[List.take_add_one,hj,List.foldl_append,←HE.out.is];rfl
    ·rw[Eng.follow_ne E L[k] j (fun e1=>hnk (e1▸hjd))];exact HE.rest j (by rw[hd];exact List.mem_cons_of_mem _ hjd)
    ·exact(HE.grew.trans hgr).mono (by omega) (by omega)
   by_cases ht:o.typ=3
   ·have hop:=(HE.pegs _ _ ho hs ht).1;have hroom:Room 1 E:=((HRO).grew HE.grew HE.len (by omega)).mono (by omega);have HLP:Hid (Cl 122 #[iP b,iP (g.blk L[k])] wr fun en w'=>en=rV #[]∧Hid (Laying (Foot F w w1) base w1 b g e L (k+1) (E.followOne L[k]) w')):=by
     refine(zMs hC HE.inv hH ho hs ht hop hroom).mono ?_;rintro en w' ⟨rfl,hz⟩;obtain⟨t',S2,r1,r2,r3⟩:=hz.out;exact⟨rfl,HNX w' ⟨t',S2,r1,r2⟩ r3⟩
    have HTT:=hid ht;generalize L[k]=j at *;rw[ht]at o2;go_wp2_with fail;refine HLP.mono ?_;rintro en w2 ⟨rfl,HD⟩;go_wp2;go_roundw
    case rel=>exact⟨k+1,_,by go_num,hlt,HD⟩
    case measure=>simp[intOf];omega
   ·have HD:=hid (HNX wr (by rw[zMp ho ht];exact HE.rep) (Touch.refl _ _));generalize L[k]=j at *;go_wp2;go_roundw
    case rel=>exact⟨k+1,_,by go_num,hlt,HD⟩
    case measure=>simp[intOf];omega
  ·have hke:k=L.length:=by omega
   subst hke;go_wp2;go_end0;obtain⟨_,hup,hmem,_,_,hT⟩:=HZ;have hfl:=Eng.follow_list hup hmem;have his:=HE.is;rw[List.take_length,←hfl]at his;obtain⟨t,S',r1,r2⟩:=HE.out.rep;rw[his]at r1 r2;exact⟨rfl,Cdone.foots HUP hT ⟨t,S',r1,r2,HE.touch⟩⟩
end
theorem zeroStC(w:World):(zeroValue 48).run Tryz.prog w=.ok (aggElem.val [0,0,0,0,0,0,0]) w:=by kernel_rfl
theorem zMw{e:Eng}{id:Int}(h:e.find id=none):e.liveAt id=none:=by unfold Eng.liveAt;rw[h]
theorem zMx{e:Eng}{id:Int}{i:Nat}{o:Ord}(h:e.find id=some i)(ho:e.all[i]? =some o):e.liveAt id=if o.status=1 then some i else none:=by
 unfold Eng.liveAt;rw[h];simp only[ho]
section
variable {F:Nat→Prop} {base:Nat} {w:World} {b i:Nat} {e:Eng} {g:Gh} {S:Sets} {o:Ord} {v:Nat→Int}
theorem zGa(id:Int)(h63:r63 id)(h:CRep F base w b e g S)(hn: ∀j∈S.ended,idAt e.all j≠id):
 (Instr.lookup 113 (.map (some g.endM)) (iV id) true).run Tryz.prog w=.ok (.tuple #[.agg #[iV 0,iV 0,iV 0,iV 0,iV 0,iV 0,iV 0],.bool false]) w:=
 h.body.ended.miss keyedInt Tryz.underlying3 Tryz.underlying113 (zeroStC w) (fun p hp=>by obtain⟨j,hj,rfl⟩:=List.mem_map.1 hp;exact hn j hj) (wf63 h63)
theorem zMy(id:Int)(h63:r63 id)(h:CRep F base w b e g S)(hi:i∈S.ended)(ho:e.all[i]? =some o)(hid':o.id=id):
 (Instr.lookup 113 (.map (some g.endM)) (iV id) true).run Tryz.prog w=.ok (.tuple #[.agg #[iV o.id,iV o.status,iV o.price,iV o.opn,iV o.filled,iV o.cancelled,iV o.shown],.bool true]) w:=by
 have hm:(id,o.state)∈S.ended.map fun i=>(idAt e.all i,stAt e.all i):=List.mem_map.2 ⟨i,hi,by rw[zAc ho,hid'];unfold stAt;rw[ho]⟩
 exact h.body.ended.hit keyedInt Tryz.underlying3 Tryz.underlying113 (zeroStC w) hm (wf63 h63)
theorem zMz(id:Int)(h63:r63 id)(h:CRep F base w b e g S)(inv:Eng.EInv e)(hH:Holds e S [] []):
 Cl 196 #[iP b,iV id] w fun en w'=>en=.returned (.bool (e.find id).isSome)∧Below w.heap.size w w':=by
 rcases hf:e.find id with _|i
 ·have hL:=zMw hf;have hno:=Eng.find_none hf;have HFD:Hid (Cl 154 #[.pointer (some (iA b 8)),iV id] w fun en w1=>en=rV #[.pointer none,.bool false]∧w1.cell? (iA b 10)=some (.map (some g.endM))∧(Instr.lookup 113 (.map (some g.endM)) (iV id) true).run Tryz.prog w1=.ok (.tuple #[.agg #[iV 0,iV 0,iV 0,iV 0,iV 0,iV 0,iV 0],.bool false]) w1∧Hid (Bw w w1)):=by
   refine(zBv id h63 h inv hH).mono ?_;rintro en w1 ⟨rfl,hs⟩;have h1:=h.same hs;refine⟨by rw[hL];rfl,h1.cell 10,zGa id h63 h1 (fun j hj=>?_),zBg (Below.refl _ _) hs⟩;obtain⟨o,q1,_⟩:=(hH.ended j).1 hj;rw[zAc q1];exact hno j o q1
  go_enter Tryz.func196,Tryz.ntmps196;go_wp2_with fail;refine HFD.mono ?_;rintro en w1 ⟨rfl,c10,l10,HB⟩;go_wp2;go_ret;exact⟨rfl,HB.alloc HB.size _⟩
 ·obtain⟨o,ho,hid'⟩:=Eng.find_some hf;by_cases hs:o.status=1
  ·have hL:=zG9 inv ho hs hid';have HFD:Hid (Cl 154 #[.pointer (some (iA b 8)),iV id] w fun en w1=>en=rV #[iP (g.blk i),.bool true]∧w1.cell? (iA b 10)=some (.map (some g.endM))∧(Instr.lookup 113 (.map (some g.endM)) (iV id) true).run Tryz.prog w1=.ok (.tuple #[.agg #[iV 0,iV 0,iV 0,iV 0,iV 0,iV 0,iV 0],.bool false]) w1∧Hid (Bw w w1)):=by
    refine(zBv id h63 h inv hH).mono ?_;rintro en w1 ⟨rfl,hsm⟩;have h1:=h.same hsm;refine⟨by rw[hL];rfl,h1.cell 10,zGa id h63 h1 (fun j hj hc=>?_),zBg (Below.refl _ _) hsm⟩;obtain⟨x,q1,q2⟩:=(hH.ended j).1 hj;rw[zAc q1]at hc;have:=inv.ids j i x o q1 ho (hc.trans hid'.symm);subst this;obtain rfl:x=o:=Option.some.inj (q1.symm.trans ho);exact q2 hs
   go_enter Tryz.func196,Tryz.ntmps196;go_wp2_with fail;refine HFD.mono ?_;rintro en w1 ⟨rfl,c10,l10,HB⟩;go_wp2;go_ret;exact⟨rfl,HB.alloc HB.size _⟩
  ·have hL:=(zMx hf ho).trans (if_neg hs);have HFD:Hid (Cl 154 #[.pointer (some (iA b 8)),iV id] w fun en w1=>en=rV #[.pointer none,.bool false]∧w1.cell? (iA b 10)=some (.map (some g.endM))∧(Instr.lookup 113 (.map (some g.endM)) (iV id) true).run Tryz.prog w1=.ok (.tuple #[.agg #[iV o.id,iV o.status,iV o.price,iV o.opn,iV o.filled,iV o.cancelled,iV o.shown],.bool true]) w1∧Hid (Bw w w1)):=by
    refine(zBv id h63 h inv hH).mono ?_;rintro en w1 ⟨rfl,hsm⟩;have h1:=h.same hsm;exact⟨by rw[hL];rfl,h1.cell 10,zMy id h63 h1 ((hH.ended i).2 ⟨o,ho,hs⟩) ho hid',zBg (Below.refl _ _) hsm⟩
   go_enter Tryz.func196,Tryz.ntmps196;go_wp2_with fail;refine HFD.mono ?_;rintro en w1 ⟨rfl,c10,l10,HB⟩;go_wp2;go_ret;exact⟨rfl,HB.alloc HB.size _⟩
def Look(F:Nat→Prop)(base:Nat)(w:World)(b:Nat)(e:Eng)(g:Gh)(S:Sets)(v:Nat→Int)(wr:World):Prop:=CRep F base wr b e g S∧TA wr w.heap.size v∧Below w.heap.size w wr
theorem Look.below(h:Look F base w b e g S v w1)(hb:Below w1.heap.size w1 w2):Look F base w b e g S v w2:=⟨h.1.below hb,h.2.1.below hb,zAk h.2.2 hb⟩
theorem Look.same(h:Look F base w b e g S v w1)(hb:Same w1 w2):Look F base w b e g S v w2:=⟨h.1.same hb,h.2.1.same hb,zBg h.2.2 hb⟩
theorem zN(hf:wordsB v=true):e.why v=if(e.find (v 0)).isSome then 2 else if priceB e.mp (v 2) (v 3)=false then 5 else if qtyB e.mq v=false then 6 else if offB e.mp v=false then 7 else if timeB e.now v=false then 8 else if e.mo≤e.alive then 9 else 0:=by
 unfold Eng.why;unfold wordsB at hf;have h1: ¬(v 0=0∨Eng.inn (v 1) 1 2=false∨Eng.inn (v 2) 1 3=false∨Eng.inn (v 7) 1 3=false):=by
  simp only[Bool.and_eq_true,Bool.not_eq_true',beq_eq_false_iff_ne]at hf;rintro(hc|hc|hc|hc)
  ·exact hf.1.1.1 hc
  ·rw[hf.1.1.2]at hc;cases hc
  ·rw[hf.1.2]at hc;cases hc
  ·rw[hf.2]at hc;cases hc
 rw[if_neg h1];have h2:(Eng.inn (v 4) 1 e.mq=false∨(if v 2=2 then Eng.inn (v 5) 1 (v 4) else v 5 == 0)=false)↔qtyB e.mq v=false:=by
  unfold qtyB;rw[Bool.and_eq_false_iff]
 unfold priceB offB timeB;by_cases hc:qtyB e.mq v=false
 ·simp only[h2,hc,if_true]
 ·simp only[h2,hc,if_false]
theorem zN0(hf:wordsB v=false):e.why v=4:=by
 unfold Eng.why;refine if_pos ?_;unfold wordsB at hf;simp only[Bool.and_eq_false_iff,Bool.not_eq_false',beq_iff_eq]at hf;rcases hf with((hf|hf)|hf)|hf
 ·exact .inl hf
 ·exact .inr (.inl hf)
 ·exact .inr (.inr (.inl hf))
 ·exact .inr (.inr (.inr hf))
end
section
variable {F:Nat→Prop} {base:Nat} {w:World} {b i:Nat} {e:Eng} {g:Gh} {S:Sets} {o:Ord} {v:Nat→Int}
theorem zN1(h:CRep F base w b e g S)(inv:Eng.EInv e)(hH:Holds e S [] [])(hv:0≤v 0∧v 0<4294967296)(hl:e.all.length≤100000000):
 Cl 150 #[iP b,termsV v] w fun en w'=>en=.returned (iV (e.why v))∧Below w.heap.size w w':=by
 have h63:=zA2 hv.1 (by omega);have HL0:Hid (Look F base w b e g S v (w.alloc (.cells (termsC v) 100))):=⟨h.alloc _,TA.new w v _,(Below.refl w.heap.size w).alloc (Nat.le_refl _) _⟩;have HWD:Hid (∀W,Look F base w b e g S v W→Cl 195 #[termsV v] W fun en w'=>en=.returned (.bool (wordsB v))∧Hid (Look F base w b e g S v w')):=fun W hW=>(zLt).mono fun en w' ⟨h1,h2⟩=>⟨h1,hW.below h2⟩
 have HWA:Hid (∀W,Look F base w b e g S v W→Cl 196 #[iP b,iV (v 0)] W fun en w'=>en=.returned (.bool (e.find (v 0)).isSome)∧Hid (Look F base w b e g S v w')):=fun W hW=>(zMz (v 0) h63 hW.1 inv hH).mono fun en w' ⟨h1,h2⟩=>⟨h1,hW.below h2⟩
 have HPR:Hid (∀W,Look F base w b e g S v W→Cl 197 #[iP b,iV (v 2),iV (v 3)] W fun en w'=>en=.returned (.bool (priceB e.mp (v 2) (v 3)))∧Hid (Look F base w b e g S v w')):=fun W hW=>(zG3 (v 2) (v 3) hW.1).mono fun en w' ⟨h1,h2⟩=>⟨h1,hW.same h2⟩
 have HQT:Hid (∀W,Look F base w b e g S v W→Cl 198 #[iP b,termsV v] W fun en w'=>en=.returned (.bool (qtyB e.mq v))∧Hid (Look F base w b e g S v w')):=fun W hW=>(zLu hW.1).mono fun en w' ⟨h1,h2⟩=>⟨h1,hW.below h2⟩
 have HOF:Hid (∀W,Look F base w b e g S v W→Cl 199 #[iP b,termsV v] W fun en w'=>en=.returned (.bool (offB e.mp v))∧Hid (Look F base w b e g S v w')):=fun W hW=>(zLv hW.1 ⟨inv.mp0,inv.mp1⟩).mono fun en w' ⟨h1,h2⟩=>⟨h1,hW.below h2⟩
 have HTM:Hid (∀W,Look F base w b e g S v W→Cl 200 #[iP b,termsV v] W fun en w'=>en=.returned (.bool (timeB e.now v))∧Hid (Look F base w b e g S v w')):=fun W hW=>(zLw hW.1).mono fun en w' ⟨h1,h2⟩=>⟨h1,hW.below h2⟩
 have hal:=hH.alive h.nodups.1 h.nodups.2.1;have hsm:=h.small hH;have HCN:Hid (∀W,Look F base w b e g S v W→Cl 151 #[.pointer (some (iA b 8))] W fun en w'=>en=.returned (iV (e.alive:Int))∧cI w' b 0 e.mo∧Hid (Look F base w b e g S v w')):=fun W hW=>(zFv hW.1 (by have:=hsm.day;have:=hsm.oth;omega)).mono fun en w' ⟨h1,h2⟩=>⟨by rw[h1,hal],(hW.same h2).1.cell 0,hW.same h2⟩
 unfold termsV at *;unfold termsC at HL0;cases q0:wordsB v
 ·have HR:=hid (zN0 (e:=e) q0);simp only[q0]at HWD;go_enter Tryz.func150,Tryz.ntmps150;go_wp2_with fail;refine(HWD _ HL0).mono ?_;rintro en w1 ⟨rfl,HL1⟩;go_wp2;go_ret;exact⟨by rw[HR.out];rfl,HL1.2.2⟩
 have HWY:=hid (zN (e:=e) q0);simp only[q0]at HWD;go_enter Tryz.func150,Tryz.ntmps150;go_wp2_with fail;refine(HWD _ HL0).mono ?_;rintro en w1 ⟨rfl,HL1⟩;have r0:cI w1 w.heap.size 0 (v 0):=HL1.2.1.cell 0;go_wp2_with fail;refine(HWA _ HL1).mono ?_;rintro en w2 ⟨rfl,HL2⟩;cases q1:(e.find (v 0)).isSome
 case true=>
  have HR:Hid (e.why v=2):=by show _=_;rw[HWY.out,q1];rfl
  go_wp2;go_ret;exact⟨by rw[HR.out];rfl,HL2.2.2⟩
 have r2:cI w2 w.heap.size 2 (v 2):=HL2.2.1.cell 2;have r3:cI w2 w.heap.size 3 (v 3):=HL2.2.1.cell 3;go_wp2_with fail;refine(HPR _ HL2).mono ?_;rintro en w3 ⟨rfl,HL3⟩;cases q2:priceB e.mp (v 2) (v 3)
 case false=>
  have HR:Hid (e.why v=5):=by show _=_;rw[HWY.out,q1,q2];rfl
  go_wp2;go_ret;exact⟨by rw[HR.out];rfl,HL3.2.2⟩
 have s0:cI w3 w.heap.size 0 (v 0):=HL3.2.1.cell 0;have s1:cI w3 w.heap.size 1 (v 1):=HL3.2.1.cell 1;have s2:cI w3 w.heap.size 2 (v 2):=HL3.2.1.cell 2;have s3:cI w3 w.heap.size 3 (v 3):=HL3.2.1.cell 3;have s4:cI w3 w.heap.size 4 (v 4):=HL3.2.1.cell 4;have s5:cI w3 w.heap.size 5 (v 5):=HL3.2.1.cell 5;have s6:cI w3 w.heap.size 6 (v 6):=HL3.2.1.cell 6;have s7:cI w3 w.heap.size 7 (v 7):=HL3.2.1.cell 7;have s8:cI w3 w.heap.size 8 (v 8):=HL3.2.1.cell 8;go_wp2_with fail;refine(HQT _ HL3).mono ?_;rintro en w4 ⟨rfl,HL4⟩;cases q3:qtyB e.mq v
 case false=>
  have HR:Hid (e.why v=6):=by show _=_;rw[HWY.out,q1,q2,q3];rfl
  go_wp2;go_ret;exact⟨by rw[HR.out];rfl,HL4.2.2⟩
 have s0:cI w4 w.heap.size 0 (v 0):=HL4.2.1.cell 0;have s1:cI w4 w.heap.size 1 (v 1):=HL4.2.1.cell 1;have s2:cI w4 w.heap.size 2 (v 2):=HL4.2.1.cell 2;have s3:cI w4 w.heap.size 3 (v 3):=HL4.2.1.cell 3;have s4:cI w4 w.heap.size 4 (v 4):=HL4.2.1.cell 4;have s5:cI w4 w.heap.size 5 (v 5):=HL4.2.1.cell 5;have s6:cI w4 w.heap.size 6 (v 6):=HL4.2.1.cell 6;have s7:cI w4 w.heap.size 7 (v 7):=HL4.2.1.cell 7;have s8:cI w4 w.heap.size 8 (v 8):=HL4.2.1.cell 8;go_wp2_with fail;refine(HOF _ HL4).mono ?_;rintro en w5 ⟨rfl,HL5⟩;cases q4:offB e.mp v
 case false=>
  have HR:Hid (e.why v=7):=by show _=_;rw[HWY.out,q1,q2,q3,q4];rfl
  go_wp2;go_ret;exact⟨by rw[HR.out];rfl,HL5.2.2⟩
 have s0:cI w5 w.heap.size 0 (v 0):=HL5.2.1.cell 0;have s1:cI w5 w.heap.size 1 (v 1):=HL5.2.1.cell 1;have s2:cI w5 w.heap.size 2 (v 2):=HL5.2.1.cell 2;have s3:cI w5 w.heap.size 3 (v 3):=HL5.2.1.cell 3;have s4:cI w5 w.heap.size 4 (v 4):=HL5.2.1.cell 4;have s5:cI w5 w.heap.size 5 (v 5):=HL5.2.1.cell 5;have s6:cI w5 w.heap.size 6 (v 6):=HL5.2.1.cell 6;have s7:cI w5 w.heap.size 7 (v 7):=HL5.2.1.cell 7;have s8:cI w5 w.heap.size 8 (v 8):=HL5.2.1.cell 8;go_wp2_with fail;refine(HTM _ HL5).mono ?_;rintro en w6 ⟨rfl,HL6⟩;cases q5:timeB e.now v
 case false=>
  have HR:Hid (e.why v=8):=by show _=_;rw[HWY.out,q1,q2,q3,q4,q5];rfl
  go_wp2;go_ret;exact⟨by rw[HR.out];rfl,HL6.2.2⟩
 have c0:cI w6 b 0 e.mo:=HL6.1.cell 0;go_wp2_with fail;go_region_held3(fun X=>X.cell? (iA b 0)=sI e.mo) (first|exact c0|exact c0') ((go_at_call 151;refine(HCN _ (HL6.same (Same.refl _).drew)).mono ?_;rintro en w7 ⟨rfl,c0',HL7⟩));by_cases q6:e.mo≤(e.alive:Int)
 ·have HR:Hid (e.why v=9):=by show _=_;rw[HWY.out,q1,q2,q3,q4,q5];simp[q6]
  go_wp2;go_ret;exact⟨by rw[HR.out];rfl,HL7.2.2⟩
 ·have HR:Hid (e.why v=0):=by show _=_;rw[HWY.out,q1,q2,q3,q4,q5];simp[q6]
  go_wp2;go_ret;exact⟨by rw[HR.out];rfl,HL7.2.2⟩
end
end Go.Proofs.YtanfmhonjpjpoaaGreatDoor
