import Derived.Test.YtanfmhonjpjpoaaGreatDoorQ00
import Derived.Test.YtanfmhonjpjpoaaGreatDoorQ24
import Derived.Test.YtanfmhonjpjpoaaGreatDoorQ26
set_option linter.all false
set_option maxRecDepth 100000
set_option maxHeartbeats 8000000
namespace Go.Proofs.YtanfmhonjpjpoaaGreatDoor
section
open Go.Extern Go.Maps Go.RowKit
section
variable {F:Nat→Prop} {base:Nat} {w:World} {b i:Nat} {e:Eng} {g:Gh} {S:Sets} {o:Ord}
def parkO(o:Ord):Ord:={ o with price:=0,shown:=0 }
theorem zMh(h:CRep F base w b e g S)(inv:Eng.EInv e)(hH:Holds e S [] [])(ho:e.all[i]? =some o)(hs:o.status=1)(hro:Room 1 e):
 Cl 165 #[iP b,iP (g.blk i)] w fun en w'=>en=rV #[]∧Hid (Cdone F base w b g (e.park i o) w'):=by
 have k:=inv.ok i o ho;have hid63:r63 o.id:=zA2 (by have:=k.id0;omega) (by have:=k.id1;omega);have z:r63 0:=⟨by omega,by omega⟩;have HTB:Hid (Cl 209 #[iP b,iP (g.blk i)] w fun en w1=>en=rV #[]∧cI w1 (g.blk i) 3 o.price∧w1.frozen? (iA (g.blk i) 3)=false∧(w1.setCell (iA (g.blk i) 3) (iV 0)).cell? (iA (g.blk i) 0)=sI o.id∧Hid (∀W,Same (w1.setCell (iA (g.blk i) 3) (iV 0)) W→Cl 116 #[.pointer (some (iA b 6)),.agg #[iV 8,iV 0,iV o.id,iV 0,iV 0,iV 0,iV 0]] W fun en w'=>en=rV #[]∧cI w' (g.blk i) 0 o.id∧Hid (Cdone F base w b g (e.park i o) w'))):=by
  refine(zDe h ho hs (hH.live ho hs) hid63).mono ?_;rintro en w1 ⟨rfl,h1,h2⟩;have hat:(e.upd i fun o=>{ o with shown:=0 }).all[i]? =some { o with shown:=0 }:=Eng.upd_same e i _ o ho;have hO1:=h1.oa hat hs;have hne:i∉(S.off e.all o).ended:=by rw[Sets.off_ended];exact hH.live ho hs
  obtain⟨h3,h4⟩:=h1.wr (i:=i) hat hs hne 3 (iV 0) (fun o=>{ o with price:=0 }) rfl (by simp[Ord.code]);rw[Eng.upd_upd]at h3;have h3':CRep F base (w1.setCell (iA (g.blk i) 3) (iV 0)) b (e.upd i parkO) g (S.off e.all o):=h3;have hat2:(e.upd i parkO).all[i]? =some (parkO o):=Eng.upd_same e i _ o ho;have hO3:=h3'.oa hat2 hs;refine⟨rfl,hO1.cell 3,hO1.froz 3,hO3.cell 0,fun W hW=>?_⟩;refine(zB1 8 0 o.id 0 0 0 0 (h3'.same hW) (by have:=hro.seq;show e.seq<_;omega) (by have:=hro.out;show e.out.length≤_;omega) ⟨⟨by omega,by omega⟩,hid63,z,z,z,z⟩).mono ?_;rintro en w' ⟨rfl,t,q1,q2⟩;have hat3:((e.upd i parkO).tell 8 o.id 0 0 0 0).all[i]? =some (parkO o):=hat2;refine⟨rfl,(q1.oa (i:=i) hat3 hs).cell 0,t,S.off e.all o,q1,?_,((h2.trans h4).trans hW.touch).trans q2⟩;exact(Holds.off (f:=parkO) hH inv ho rfl rfl rfl (fun j hj=>by cases hj) rfl).cong rfl
 go_enter Tryz.func165,Tryz.ntmps165;go_wp2_with fail;refine HTB.mono ?_;rintro en w1 ⟨rfl,c3,f3,c0,HT⟩;go_wp2_with fail;go_region_held3(fun X=>X.cell? (iA (g.blk i) 0)=sI o.id) (first|exact c0|exact c0') ((go_at_call 116;refine(HT _ (Same.refl _).drew).mono ?_;rintro en w2 ⟨rfl,c0',HZ⟩));go_end0;exact⟨rfl,HZ⟩
def moveO(p:Int)(st:Nat)(o:Ord):Ord:={ o with price:=p,stamp:=(st+1:Nat),shown:=o.opn }
theorem zMi(p:Int)(hp:0≤p∧p≤1000000)(h:CRep F base w b e g S)(inv:Eng.EInv e)(hH:Holds e S [] [])(ho:e.all[i]? =some o)(hs:o.status=1)(hop:0<o.opn)(hro:Room 1 e):
 Cl 166 #[iP b,iP (g.blk i),iV p] w fun en w'=>en=rV #[]∧Hid (Cdone F base w b g (e.move i o p) w'):=by
 have k:=inv.ok i o ho;have hid63:r63 o.id:=zA2 (by have:=k.id0;omega) (by have:=k.id1;omega);have hp63:r63 p:=zA2 hp.1 (by omega);have z:r63 0:=⟨by omega,by omega⟩;have hopn:=k.open_ hs;have hb:o.opn≤1000:=by have:=k.sum;have:=k.fil0;have:=k.can0;have:=k.qty1;omega
 have hO:=h.oa ho hs;have c3:cI w (g.blk i) 3 o.price:=hO.cell 3;have f3:=hO.froz 3;obtain⟨h1,t1⟩:=h.wr ho hs (hH.live ho hs) 3 (iV p) (fun o=>{ o with price:=p }) rfl (by simp[Ord.code]);have hat:(e.upd i fun o=>{ o with price:=p }).all[i]? =some { o with price:=p }:=Eng.upd_same e i _ o ho;have HOP:Hid (Cl 124 #[iP (g.blk i)] (w.setCell (iA (g.blk i) 3) (iV p)) fun en w1=>en=.returned (iV o.opn)∧Hid (Cl 210 #[iP b,iP (g.blk i),iV o.opn] w1 fun en w2=>en=rV #[]∧cI w2 (g.blk i) 0 o.id∧cI w2 (g.blk i) 3 p∧cI w2 (g.blk i) 11 o.opn∧Hid (∀W,Same w2 W→Cl 116 #[.pointer (some (iA b 6)),.agg #[iV 7,iV 0,iV o.id,iV 0,iV p,iV o.opn,iV 0]] W fun en w'=>en=rV #[]∧cI w' (g.blk i) 0 o.id∧cI w' (g.blk i) 3 p∧cI w' (g.blk i) 11 o.opn∧Hid (Cdone F base w b g (e.move i o p) w')))):=by
  refine(zAp (h1.oa hat hs) (by show r63 (o.qty - o.filled);rw[←hopn];exact zA2 (by omega) (by omega))).mono ?_;rintro en w1 ⟨rfl,s1⟩;refine⟨by show _=Ending.returned (iV o.opn);rw[hopn],?_⟩;have h1':=h1.same s1;have hsm:=(h1'.small ((hH.upd (f:=fun o=>{ o with price:=p }) (odd':=[]) ho rfl rfl rfl (fun _ _=>Iff.rfl) (.inr ⟨by simp,Iff.rfl⟩)))).mono (m:=1000000000) (by rw[Eng.upd_len];exact hro.len);refine(zFx (o:={ o with price:=p }) o.opn h1' hat hs (hH.live ho hs) hid63 (by have:=hro.stm;show e.stamp<_;omega) hsm).mono ?_;rintro en w2 ⟨rfl,q1,q2⟩;have hE:({ (e.upd i fun o=>{ o with price:=p }) with stamp:=(e.upd i fun o=>{ o with price:=p }).stamp+1 }.upd i fun x=>{ x with stamp:=((e.upd i fun o=>{ o with price:=p }).stamp+1:Nat),shown:=o.opn })={ e with stamp:=e.stamp+1 }.upd i (moveO p e.stamp):=by
   have h5:({ (e.upd i fun o=>{ o with price:=p }) with stamp:=(e.upd i fun o=>{ o with price:=p }).stamp+1 }:Eng)=({ e with stamp:=e.stamp+1 }:Eng).upd i fun o=>{ o with price:=p }:=rfl
   rw[h5,Eng.upd_upd];refine Eng.upd_congr _ i _ _ (fun x hx=>?_);obtain rfl:o=x:=Option.some.inj (ho.symm.trans hx);rfl
  have hS:S.lay (e.upd i fun o=>{ o with price:=p }).all { o with price:=p } i=S.lay e.all o i:=by
   unfold Sets.lay;show(if o.side=1 then _ else _)=(if o.side=1 then _ else _);rw[zAq e i (fun o=>{ o with price:=p }) (fun _ _=>rfl),zAq e i (fun o=>{ o with price:=p }) (fun _ _=>rfl)]
  rw[hE,hS]at q1;have hat2:({ e with stamp:=e.stamp+1 }.upd i (moveO p e.stamp)).all[i]? =some (moveO p e.stamp o):=Eng.upd_same { e with stamp:=e.stamp+1 } i _ o ho;have hO2:=q1.oa hat2 hs;refine⟨rfl,hO2.cell 0,hO2.cell 3,hO2.cell 11,fun W hW=>?_⟩;refine(zB1 7 0 o.id 0 p o.opn 0 (q1.same hW) (by have:=hro.seq;show e.seq<_;omega) (by have:=hro.out;show e.out.length≤_;omega) ⟨⟨by omega,by omega⟩,hid63,z,hp63,zA2 (by omega) (by omega),z⟩).mono ?_;rintro en w' ⟨rfl,t,r1,r2⟩;have hO3:=r1.oa (i:=i) hat2 hs;refine⟨rfl,hO3.cell 0,hO3.cell 3,hO3.cell 11,t,S.lay e.all o i,?_,?_,(((t1.trans s1.touch).trans q2).trans hW.touch).trans r2⟩
  ·have hM:e.move i o p=({ e with stamp:=e.stamp+1 }.upd i (moveO p e.stamp)).tell 7 o.id 0 p o.opn 0:=rfl;rw[hM];exact r1
  ·have hL:=Holds.lay (f:=moveO p e.stamp) (e:={ e with stamp:=e.stamp+1 }) (hH.cong rfl) inv.stamped ho rfl rfl rfl (fun j hj=>by cases hj) (show¬o.opn=0 by omega);exact hL.cong rfl
 clear h inv hH ho hs hro k hid63 z hopn hb hO h1 t1 hat hp hp63;go_enter Tryz.func166,Tryz.ntmps166;go_wp2_with fail;refine HOP.mono ?_;rintro en w1 ⟨rfl,HRS⟩;clear HOP c3 f3;go_wp2_with fail;refine HRS.mono ?_;rintro en w2 ⟨rfl,d0,d3,d11,HT⟩;clear HRS;go_wp2_with fail;go_region_held3(fun X=>X.cell? (iA (g.blk i) 0)=sI o.id∧X.cell? (iA (g.blk i) 3)=sI p∧X.cell? (iA (g.blk i) 11)=sI o.opn) (first|exact⟨d0,d3,d11⟩|exact⟨d0',d3',d11'⟩) ((go_at_call 116;refine(HT.out _ (Same.refl _).drew).mono ?_;rintro en w3 ⟨rfl,d0',d3',d11',HZ⟩));go_end0;exact⟨rfl,HZ⟩
theorem zMj(h:CRep F base w b e g S)(inv:Eng.EInv e)(hH:Holds e S [] [])(ho:e.all[i]? =some o)(hs:o.status=1)(hsd:o.side=1):
 Cl 164 #[iP b,iP (g.blk i)] w fun en w'=>en=.returned (iV (e.target o))∧Below w.heap.size w w':=by
 have k:=inv.ok i o ho;have hside:o.side=1:=hsd;have hbd:=Eng.bestOf_bd (mp:=e.mp) (st:=e.stamp) 1 e.all (fun x hx=>by obtain⟨j,hj⟩:=List.mem_iff_getElem?.1 hx;exact inv.ok j x hj);have hmp:=inv.mp1;have hmp0:=inv.mp0;have ho0:=k.off0;have ho1:=k.off1;have HSD:Hid (Cl 202 #[iP b,iP (g.blk i)] w fun en w1=>en=rV #[.iface 214 (iP g.buyB),.iface 220 (iP g.selB)]∧Hid (Cl 263 #[iP g.buyB] w1 fun en w2=>en=rV #[iV (Eng.bestOf 1 e.all),found (Eng.bestOf 1 e.all)]∧cI w2 (g.blk i) 6 o.off∧cI w2 b 1 e.mp∧Hid (Bw w w2))):=by
  refine(zCf h (h.oa ho hs) hsd).mono ?_;rintro en w1 ⟨rfl,hsm⟩;refine⟨rfl,?_⟩;refine(zM0 (h.same hsm) inv hH).mono ?_;rintro en w2 ⟨rfl,hb⟩;have h2:=(h.same hsm).below hb;exact⟨rfl,(h2.oa ho hs).cell 6,h2.cell 1,zAk (zBg (Below.refl _ _) hsm) hb⟩
 have HTG:Hid (e.target o=if 0<Eng.bestOf 1 e.all then Eng.clamp (Eng.bestOf 1 e.all+o.off) 1 e.mp else Eng.bestOf 1 e.all):=by
  show _=_;unfold Eng.target;rw[hside]
 generalize Eng.bestOf 1 e.all=p at *;go_enter Tryz.func164,Tryz.ntmps164;go_wp2_with fail;refine HSD.mono ?_;rintro en w1 ⟨rfl,HBF⟩;go_wp2_with fail;refine HBF.mono ?_;rintro en w2 ⟨rfl,c6,c1,HB⟩;unfold found;cases q:(p == 0)
 ·have hp0:p≠0:=by simpa using q
  have hpp:0<p:=by rcases hbd with h1|h1<;>omega
  have hpm:p≤e.mp:=by rcases hbd with h1|h1<;>omega
  have HE:=hid (HTG.trans (if_pos hpp));have hw1:wrap64 (p+o.off)=p+o.off:=by unfold wrap64;omega
  have hw2:IntKind.i64.wrap (p+o.off)=p+o.off:=zAa _ (by omega) (by omega);simp only[Bool.not_false];have HR:Hid (e.target o=min (max (p+o.off) 1) e.mp):=by
   show _=_;rw[HE.out];unfold Eng.clamp;by_cases q1:p+o.off<1
   ·have e1:max (p+o.off) 1=1:=by omega
    rw[e1];simp only[q1,if_true];have e2:min 1 e.mp=1:=by omega
    rw[e2,if_neg (by omega)]
   ·have e1:max (p+o.off) 1=p+o.off:=by omega
    rw[e1];simp only[q1,if_false];by_cases q2:e.mp<p+o.off
    ·rw[if_pos q2];omega
    ·rw[if_neg q2];omega
  go_wp2_with fail;go_region_law(fail);all_goals(go_wp2;go_ret;exact⟨by rw[HR.out];rfl,⟨HB.os,HB.tape,HB.output,HB.size,HB.block⟩⟩)
 ·have hp0:p=0:=by simpa using q
  have HE:Hid (e.target o=0):=by show _=_;rw[HTG.out,hp0];rfl
  simp only[Bool.not_true];go_wp2;go_ret;exact⟨by rw[HE.out];rfl,HB⟩
theorem zMk(h:CRep F base w b e g S)(inv:Eng.EInv e)(hH:Holds e S [] [])(ho:e.all[i]? =some o)(hs:o.status=1)(hsd: ¬o.side=1):
 Cl 164 #[iP b,iP (g.blk i)] w fun en w'=>en=.returned (iV (e.target o))∧Below w.heap.size w w':=by
 have k:=inv.ok i o ho;have hside:o.side=2:=k.side.resolve_left hsd;have hbd:=Eng.bestOf_bd (mp:=e.mp) (st:=e.stamp) 2 e.all (fun x hx=>by obtain⟨j,hj⟩:=List.mem_iff_getElem?.1 hx;exact inv.ok j x hj);have hmp:=inv.mp1;have hmp0:=inv.mp0;have ho0:=k.off0;have ho1:=k.off1;have HSD:Hid (Cl 202 #[iP b,iP (g.blk i)] w fun en w1=>en=rV #[.iface 220 (iP g.selB),.iface 214 (iP g.buyB)]∧Hid (Cl 269 #[iP g.selB] w1 fun en w2=>en=rV #[iV (Eng.bestOf 2 e.all),found (Eng.bestOf 2 e.all)]∧cI w2 (g.blk i) 6 o.off∧cI w2 b 1 e.mp∧Hid (Bw w w2))):=by
  refine(zCg h (h.oa ho hs) hsd).mono ?_;rintro en w1 ⟨rfl,hsm⟩;refine⟨rfl,?_⟩;refine(zM2 (h.same hsm) inv hH).mono ?_;rintro en w2 ⟨rfl,hb⟩;have h2:=(h.same hsm).below hb;exact⟨rfl,(h2.oa ho hs).cell 6,h2.cell 1,zAk (zBg (Below.refl _ _) hsm) hb⟩
 have HTG:Hid (e.target o=if 0<Eng.bestOf 2 e.all then Eng.clamp (Eng.bestOf 2 e.all+o.off) 1 e.mp else Eng.bestOf 2 e.all):=by
  show _=_;unfold Eng.target;rw[hside]
 generalize Eng.bestOf 2 e.all=p at *;go_enter Tryz.func164,Tryz.ntmps164;go_wp2_with fail;refine HSD.mono ?_;rintro en w1 ⟨rfl,HBF⟩;go_wp2_with fail;refine HBF.mono ?_;rintro en w2 ⟨rfl,c6,c1,HB⟩;unfold found;cases q:(p == 0)
 ·have hp0:p≠0:=by simpa using q
  have hpp:0<p:=by rcases hbd with h1|h1<;>omega
  have hpm:p≤e.mp:=by rcases hbd with h1|h1<;>omega
  have HE:=hid (HTG.trans (if_pos hpp));have hw1:wrap64 (p+o.off)=p+o.off:=by unfold wrap64;omega
  have hw2:IntKind.i64.wrap (p+o.off)=p+o.off:=zAa _ (by omega) (by omega);simp only[Bool.not_false];have HR:Hid (e.target o=min (max (p+o.off) 1) e.mp):=by
   show _=_;rw[HE.out];unfold Eng.clamp;by_cases q1:p+o.off<1
   ·have e1:max (p+o.off) 1=1:=by omega
    rw[e1];simp only[q1,if_true];have e2:min 1 e.mp=1:=by omega
    rw[e2,if_neg (by omega)]
   ·have e1:max (p+o.off) 1=p+o.off:=by omega
    rw[e1];simp only[q1,if_false];by_cases q2:e.mp<p+o.off
    ·rw[if_pos q2];omega
    ·rw[if_neg q2];omega
  go_wp2_with fail;go_region_law(fail);all_goals(go_wp2;go_ret;exact⟨by rw[HR.out];rfl,⟨HB.os,HB.tape,HB.output,HB.size,HB.block⟩⟩)
 ·have hp0:p=0:=by simpa using q
  have HE:Hid (e.target o=0):=by show _=_;rw[HTG.out,hp0];rfl
  simp only[Bool.not_true];go_wp2;go_ret;exact⟨by rw[HE.out];rfl,HB⟩
theorem zMl(h:CRep F base w b e g S)(inv:Eng.EInv e)(hH:Holds e S [] [])(ho:e.all[i]? =some o)(hs:o.status=1):
 Cl 164 #[iP b,iP (g.blk i)] w fun en w'=>en=.returned (iV (e.target o))∧Below w.heap.size w w':=by
 by_cases hsd:o.side=1
 ·exact zMj h inv hH ho hs hsd
 ·exact zMk h inv hH ho hs hsd
end
end
section
open Go.Extern Go.RowKit
def ord0:Ord:=⟨0,0,0,0,0,0,0,0,0,0,0,0,0,0,0⟩
def encS(o:Ord):List Value:=[iV o.id,iV o.status,iV o.price,iV o.opn,iV o.filled,iV o.cancelled,iV o.shown]
theorem zDm{α:Type}[Inhabited α](enc:α→List Value)(k:Nat)(hk: ∀x,(enc x).length=k)(hk0:0<k): ∀(L:List α) (t:Nat),t<L.length*k→(L.flatMap enc)[t]? =(enc (L[t / k]!))[t % k]?
 | [],t,h=>by simp at h
 |x::r,t,h=>by
  rw[List.flatMap_cons];by_cases ht:t<k
  ·rw[List.getElem?_append_left (by rw[hk];exact ht),Nat.div_eq_of_lt ht,Nat.mod_eq_of_lt ht];rfl
  ·have h2:t - k<r.length*k:=by
    have:(x::r).length*k=r.length*k+k:=by rw[List.length_cons,Nat.add_mul,Nat.one_mul]
    omega
   rw[List.getElem?_append_right (by rw[hk];omega),hk,zDm enc k hk hk0 r (t - k) h2];have e1:t / k=(t - k) / k+1:=by
    conv=>lhs;rw[show t=(t - k)+k by omega]
    rw[Nat.add_div_right _ hk0]
   have e2:t % k=(t - k) % k:=by
    conv=>lhs;rw[show t=(t - k)+k by omega]
    rw[Nat.add_mod_right]
   rw[e1,e2];rfl
theorem zDn{α:Type}(enc:α→List Value)(k:Nat)(hk: ∀x,(enc x).length=k): ∀(L:List α),(L.flatMap enc).length=L.length*k
 | []=>by simp
 |x::r=>by rw[List.flatMap_cons,List.length_append,hk,zDn enc k hk r,List.length_cons,Nat.add_mul,Nat.one_mul,Nat.add_comm]
theorem zMm(x y:Ord)(W:World):Cl 79 #[.agg #[iV x.id,iV x.status,iV x.price,iV x.opn,iV x.filled,iV x.cancelled,iV x.shown],.agg #[iV y.id,iV y.status,iV y.price,iV y.opn,iV y.filled,iV y.cancelled,iV y.shown]] W fun en w'=>en=.returned (iV (cmp3 x.id y.id))∧∃q os',w'=Go.Sort.grow (W.drewN q) os':=by
 have HC:Hid (∀W:World,Cl 80 #[iV x.id,iV y.id] W fun en w'=>en=.returned (iV (cmp3 x.id y.id))∧w'=W):=fun W=>zG5 x.id y.id W
 generalize cmp3 x.id y.id=r at *;go_enter Tryz.func79,Tryz.ntmps79;go_wp2_with(go_at_call 80;refine(HC _).mono ?_;rintro en w' ⟨rfl,rfl⟩);go_ret;exact⟨rfl,0,_,by rw[Go.Sort.alloc_eq_grow,Go.Sort.alloc_eq_grow,Go.Sort.grow_grow];rfl⟩
theorem Tryz.aggSt(w:World):(isAgg 48).run Tryz.prog w=.ok true w:=by kernel_rfl
theorem Tryz.sizeSt(w:World):(Go.sizeOf 48).run Tryz.prog w=.ok 7 w:=by kernel_rfl
theorem zMn{w:World}{B:Nat}(M:List Ord)(v:Value)(hv:w.ownsRow B 48 7 v M.length (M.flatMap encS))(hB:B≤w.heap.size)(hl:M.length≤1000000000):
 Cl 78 #[v,.func (.func 79) #[] #[]] w fun en w'=>en=rV #[]∧∃M':List Ord,M'.Perm M∧M'.Pairwise (fun x y=>x.id≤y.id)∧w'.ownsRow B 48 7 v M.length (M'.flatMap encS)∧Below B w w':=by
 have hin:Inhabited Ord:=⟨ord0⟩;by_cases hL:M.length=0
 ·have hM:M= []:=List.length_eq_zero_iff.1 hL;subst hM;have: ∃p cap,v=.slice p 0 cap:=by
   rcases hv.2 with⟨h1,_⟩|⟨d,cap,cur,h1,_⟩
   ·exact⟨_,_,h1⟩
   ·exact⟨_,_,h1⟩
  obtain⟨p,cap,rfl⟩:=this;have h:=AnyF.slices_SortFunc_none (P:=Tryz.prog) (ρ:=Tryz.sortSt_ren) Tryz.sortSt p cap (.func (.func 79) #[] #[]) w;refine Calls.mono h ?_;rintro en w' ⟨rfl,rfl⟩;exact⟨rfl,[],List.Perm.refl _,List.Pairwise.nil,hv,Below.refl B w'⟩
 ·rcases hv.2 with⟨_,h1⟩|⟨blk,cap,cur,rfl,hblk,hcur,hcap,hmax,hsz,htake⟩
  ·exact absurd h1 hL
  have hlt:blk<w.heap.size:=(Array.getElem?_eq_some_iff.1 hcur).1
  let d:Array Ord:=M.toArray
  have hds:d.size=M.length:=by simp[d]
  have hk: ∀x:Ord,(encS x).length=7:=fun _=>rfl
  have hcell: ∀t,t<M.length*7→cur[t]? =some ((Go.Sort.flatK encS 7 d)[t]!):=by
   intro t ht;have h1:(cur.toList.take (M.length*7))[t]? =(M.flatMap encS)[t]? :=by rw[htake]
   rw[List.getElem?_take_of_lt ht,Array.getElem?_toList,zDm encS 7 hk (by omega) M t ht]at h1;rw[h1,Go.Sort.get_flatK _ _ _ t (by rw[hds];exact ht)];have h2:t % 7<(encS (M[t / 7]!)).length:=by rw[hk];exact Nat.mod_lt _ (by omega)
   have h3:d[t / 7]! =M[t / 7]! :=by simp[d]
   rw[h3,List.getElem?_eq_getElem h2,getElem!_pos (encS (M[t / 7]!)) (t % 7) h2]
  have hfs:(Go.Sort.flatK encS 7 d).size=M.length*7:=by simp[hds]
  have hH:Go.Sort.HoldsK encS 7 w blk 0 d:=fun j hj=>by
   rw[hfs]at hj;refine⟨?_,by simp[World.frozen?,hcur]⟩;simp only[World.cell?,hcur,Nat.zero_add];exact hcell j hj
  have hcf: ∀x y:Ord,ltOf (fun x y:Ord=>cmp3 x.id y.id) x y=decide (x.id<y.id):=fun x y=>by
   unfold ltOf;by_cases h:x.id<y.id
   ·simp[h,zCi]
   ·simp[h,zCi]
  have hO:Go.Sort.SWO (ltOf fun x y:Ord=>cmp3 x.id y.id):=⟨fun x=>by rw[hcf];simp,fun x y z h1 h2=>by rw[hcf]at *;simp at *;omega,fun x y z h1 h2=>by rw[hcf]at *;simp at *;omega⟩;have eg:=enters_of Tryz.func79 (by kernel_rfl) rfl;have h1c: ∀x:Ord,∀u∈encS x,u.oneCell'=true:=fun x u hu=>by
   simp[encS]at hu;rcases hu with rfl|rfl|rfl|rfl|rfl|rfl|rfl<;>rfl
  have hcmp:CmpLays Tryz.prog 79 #[] encS 7 (fun x y=>cmp3 x.id y.id) blk 0 d.size w:=fun _ _ _ _ x y=>zMm x y _
  have h:=AnyQ.slices_SortFunc (P:=Tryz.prog) (ρ:=Tryz.sortSt_ren) Tryz.sortSt 7 Tryz.aggSt Tryz.sizeSt encS hk h1c (fun x y=>cmp3 x.id y.id) hO 79 #[] blk 0 cap d w eg hcmp hH hlt (by omega);rw[hds]at h;refine Calls.mono h ?_;rintro en w' ⟨rfl,d',n,os,hp,hs,rfl⟩;have hd':=hp.1.trans hds;have hpl:d'.toList.Perm d.toList:=by
   have:=hp.2.2;rw[Array.toList_extract,Array.toList_extract]at this;simpa [List.extract,List.take_of_length_le,hd',hds] using this
  have hfs':(Go.Sort.flatK encS 7 d').size=M.length*7:=by simp[hd']
  have hW:Go.Proofs.sortWorldK encS 7 w blk 0 n d' os=Go.Proofs.sortWorld id w blk 0 n (Go.Sort.flatK encS 7 d') os:=rfl;rw[hW];refine⟨rfl,d'.toList,by simpa [d] using hpl,?_,⟨by rw[zDn encS 7 hk];simp[hd'],.inr ⟨blk,cap,_,rfl,hblk,zG6 id w blk n _ os hcur,hcap,hmax,by simp[Go.Sort.putCells,hsz],?_⟩⟩,rfl,rfl,rfl,zG7 id w blk n _ os,fun k hk=>zDi id w blk n _ os (by omega) (by omega)⟩
  ·rw[List.pairwise_iff_getElem];intro i j hi hj hij;have hi':i<d'.size:=by simpa using hi
   have hj':j<d'.size:=by simpa using hj
   have:=hs i j (Nat.zero_le _) hij (by omega);rw[hcf,getElem!_pos d' i hi',getElem!_pos d' j hj']at this;simp at this;simpa using this
  ·apply List.ext_getElem?;intro t;by_cases ht:t<M.length*7
   ·rw[List.getElem?_take_of_lt ht,Array.getElem?_toList,zDm encS 7 hk (by omega) _ t (by simpa [hd'] using ht)];simp only[Go.Sort.putCells,Array.getElem?_mapIdx];have htc:t<cur.size:=by have:cap*7≥M.length*7:=Nat.mul_le_mul_right 7 hcap;omega
    rw[Array.getElem?_eq_getElem htc];have h2:t % 7<(encS (d'.toList[t / 7]!)).length:=by rw[hk];exact Nat.mod_lt _ (by omega)
    have h4:t / 7<d'.size:=by rw[hd'];exact Nat.div_lt_of_lt_mul (by omega)
    have h3:d'.toList[t / 7]! =d'[t / 7]! :=by rw[getElem!_pos d' (t / 7) h4,getElem!_pos d'.toList (t / 7) (by simpa using h4)];simp
    rw[Option.map_some,if_pos ⟨Nat.zero_le _,by rw[hfs'];omega⟩,Nat.sub_zero,Go.Sort.get_flatK _ _ _ t (by rw[hd'];exact ht),h3];rw[h3]at h2;rw[List.getElem?_eq_getElem h2,getElem!_pos (encS (d'[t / 7]!)) (t % 7) h2];rfl
   ·rw[List.getElem?_eq_none (by simp;omega),List.getElem?_eq_none (by rw[zDn encS 7 hk];simp[hd'];omega)]
end
end Go.Proofs.YtanfmhonjpjpoaaGreatDoor
