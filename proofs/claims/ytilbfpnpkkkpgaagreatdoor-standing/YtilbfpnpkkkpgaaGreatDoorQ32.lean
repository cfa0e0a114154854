import Derived.Test.YtilbfpnpkkkpgaaGreatDoorQ00
import Derived.Test.YtilbfpnpkkkpgaaGreatDoorQ12
import Derived.Test.YtilbfpnpkkkpgaaGreatDoorQ23
import Derived.Test.YtilbfpnpkkkpgaaGreatDoorQ28
import Derived.Test.YtilbfpnpkkkpgaaGreatDoorQ29
import Derived.Test.YtilbfpnpkkkpgaaGreatDoorQ31
import Derived.Deep.LoopGhost
set_option linter.all false
set_option maxRecDepth 100000
set_option maxHeartbeats 8000000
namespace Go.Proofs.YtilbfpnpkkkpgaaGreatDoor
variable{F:Nat→Prop}{w:World}{base b vb:Nat}{e:Eng}{dv av:Value}
open Go.Extern Go.RowKit
theorem RefRep.shrink(h:RefRep F base w b e dv av)(h1:vb<w.heap.size)(h2:vb≠b)(h3:av.ownBlock≠some vb):RefRep (fun k=>F k∧k≠vb) base w b e dv av:=
 ⟨h.blk,⟨h.own,fun e=>h2 e.symm⟩,fun k hk=>⟨h.up k hk,by omega⟩,h.low,h.dr,h.al,fun q hq=>⟨h.alF q hq,fun e=>h3 (e▸hq)⟩⟩
theorem RefRep.own_lt(h:RefRep F base w b e dv av): ∀q,av.ownBlock=some q→q<w.heap.size:=by
 intro q hq;rcases h.al.2 with h2|⟨g,cap,cur,hv,hg,hh,r⟩
 ·rw[h2.1]at hq;exact absurd hq (by simp[Value.ownBlock])
 ·rw[hv]at hq;have:g=q:=by simpa [Value.ownBlock] using hq
  subst this;exact(Array.getElem?_eq_some_iff.1 hh).1
theorem RefRep.widen(h:RefRep (fun k=>F k∧k≠vb) base w b e dv av):RefRep F base w b e dv av:=
 ⟨h.blk,h.own.1,fun k hk=>(h.up k hk).1,h.low,h.dr,h.al,fun q hq=>(h.alF q hq).1⟩
theorem Touch.widen{w':World}(h:Touch (fun k=>F k∧k≠vb) w w'):Touch F w w':=⟨h.os,h.tape,h.output,h.size,fun k hk hf=>h.block k hk (fun hc=>hf hc.1)⟩
theorem zMw(l:List UInt8)(m:Nat)(w:World)(h:m≤l.length):
 (Instr.slice 9 (.string (ba l)) (some (.int .i64 (m:Int))) none none).run Tryz.prog w=.ok (.string ⟨(l.drop m).toArray⟩) w:=by
 have hs:m≤(ba l).size:=by rw[zA5];exact h
 rw[run_slice_string_from_if w 9 (ba l) .i64 (m:Int) Tryz.underlying9,if_pos (by omega)]
 congr 2
 apply ByteArray.ext;rw[ByteArray.data_extract];apply Array.toList_inj.1;rw[Array.toList_extract,List.extract_eq_take_drop,Int.toNat_natCast];refine(List.take_of_length_le ?_).trans ?_
 ·rw[zA5];simp[ba]
 ·simp[ba]
def FollowSaid:Prop:= ∀(F:Nat→Prop) (base:Nat) (w:World) (b:Nat) (e:Eng) (dv av:Value),RefRep F base w b e dv av→Eng.EInv e→Room 100 e→
 Calls Tryz.prog 120 #[.pointer (some ⟨b,0,none⟩)] w fun en w'=>en=.returned (.tuple #[])∧RefRep F base w' b e.follow dv av∧Touch F w w'
theorem zMx(HFO:FollowSaid)(t:List UInt8)(h:RefRep F base w b e dv av)(hT:Taking (e.begin_ t) (e.begin_ t)):
 Calls Tryz.prog 74 #[.pointer (some ⟨b,0,none⟩),.string (ba t)] w fun en w'=>en=.returned (.string (ba (e.apply t).out))∧(∃av',RefRep F base w' b (e.apply t) dv av')∧Touch F w w':=by
 have c6:w.cell? ⟨b,6,none⟩=some (.string ⟨e.rest.toArray⟩):=h.cell 6;have c10:w.cell? ⟨b,10,none⟩=some (.string ⟨e.out.toArray⟩):=h.cell 10;have f6:=h.froz 6;have f10:=h.froz 10;have hsz:e.rest.length+t.length≤1000000000:=by
  have:=hT.sz;have e1:(e.begin_ t).rest.length=e.rest.length+t.length:=by(show(e.rest++t).length=_);simp
  omega
 have HAP:Hid (e.apply t=Eng.steps (e.begin_ t).rest.length (e.begin_ t)):=by
  show _=_;unfold Eng.apply;have e1:(e.begin_ t).rest.length=e.rest.length+t.length:=by show(e.rest++t).length=_;simp
  rw[e1]
 have HR1:Hid (RefRep F base ((w.setCell ⟨b,6,none⟩ (.string ⟨(e.rest++t).toArray⟩)).setCell ⟨b,10,none⟩ (.string ⟨#[]⟩)) b (e.begin_ t) dv av):=
  (h.set 6 (.string ⟨(e.rest++t).toArray⟩) { e with rest:=e.rest++t } rfl rfl rfl).set 10 (.string ⟨#[]⟩) (e.begin_ t) rfl rfl rfl
 have HT1:Hid (Touch F w ((w.setCell ⟨b,6,none⟩ (.string ⟨(e.rest++t).toArray⟩)).setCell ⟨b,10,none⟩ (.string ⟨#[]⟩))):=((Touch.refl F w).set b _ _ h.own).set b _ _ h.own;have HTK:=hid hT;have hba:(⟨e.rest.toArray⟩:ByteArray)++ba t=⟨(e.rest++t).toArray⟩:=zAl e.rest t;have hs1:(ba t).size≤1000000000:=by rw[zA5];omega
 have hs2:(⟨e.rest.toArray⟩:ByteArray).size≤1000000000:=by have:=zA5 e.rest;unfold ba at this;omega
 clear h hT;go_enter Tryz.func74,Tryz.ntmps74;go_wp2_with fail;clear c6 c10 f6 f10 hba hs1 hs2;generalize (w.setCell ⟨b,6,none⟩ (.string ⟨(e.rest++t).toArray⟩)).setCell ⟨b,10,none⟩ (.string ⟨#[]⟩)=W1 at *;have HFU:Hid (∀E:Eng,Taking (e.begin_ t) E→nextE (ba E.rest)=4→e.apply t=E):=fun E hE hn=>by rw[HAP.out];exact hE.done hn
 generalize e.begin_ t=e0 at *
 go_loopg [5,6,7] e0.rest.length (fun k _ _ _ wr=> ∃(E:Eng) (av':Value),k=E.rest.length∧RefRep F base wr b E dv av'∧Touch F w wr∧Taking e0 E)
 case atStart=>exact⟨e0,av,rfl,HR1.out,HT1.out,HTK.out⟩
 case round=>
  obtain⟨E,av',rfl,hR,hT,hK⟩:=hrel;have HRr:=hid hR;have HTr:=hid hT;have HK:=hid hK;have c6:wr.cell? ⟨b,6,none⟩=some (.string (ba E.rest)):=hR.cell 6;have f6:=hR.froz 6;have hbl:=hR.lt;have hsz:(ba E.rest).size≤1000000000:=by rw[zA5];exact hK.sz
  have HNX:Hid (∀W,Calls Tryz.prog 70 #[.string (ba E.rest)] W fun e w'=>e=.returned (.tuple #[cmdV (nextK (ba E.rest)) (nextV (ba E.rest)),.int .i64 (nextM (ba E.rest)),.int .i64 (nextE (ba E.rest))])∧Below W.heap.size W w'):=fun W=>zF9 (ba E.rest) W hsz
  have c10:wr.cell? ⟨b,10,none⟩=some (.string ⟨E.out.toArray⟩):=hR.cell 10;have HUP:=hid hR.up;have HOW:=hid hR.own;clear hR hT hK;go_wp2_with fail;refine(HNX.out wr).mono ?_;rintro en w3 ⟨rfl,hb3⟩;have HR3:=hid (HRr.out.below hb3);have HT3:=hid (HTr.out.below hb3);have HSZ:Hid (wr.heap.size≤w3.heap.size):=hb3.size;clear hb3 c6 f6 c10 hbl HNX;have c6:w3.cell? ⟨b,6,none⟩=some (.string (ba E.rest)):=HR3.out.cell 6;have f6:=HR3.out.froz 6;have hbl:=HR3.out.lt;cases q4:(nextE (ba E.rest) == 4);rotate_left
  ·have HX:=hid (HFU.out E HK.out (by simpa using q4));have c10:w3.cell? ⟨b,10,none⟩=some (.string ⟨E.out.toArray⟩):=HR3.out.cell 10;have f10:=HR3.out.froz 10;go_wp2_with fail;refine bodyPost_ret (v:=.string ⟨E.out.toArray⟩) (by simp[results,Tryz.results74,go_sem]) rfl ?_;exact⟨by rw[HX.out];rfl,⟨av',by rw[HX.out];exact HR3.out.alloc _⟩,HT3.out.alloc _⟩
  have HN4:Hid (nextE (ba E.rest)≠4):=by show _≠_;simpa using q4
  obtain⟨m1,m2⟩:=zCp (ba E.rest) HN4.out;rw[zA5]at m2;have HCU:Hid (E.cut={ E with rest:=E.rest.drop (nextM (ba E.rest)).toNat }):=rfl;have HNX1:=hid (HK.out.step HN4.out);have HV0:=hid (zBf (ba E.rest));have HV3:=hid (zBe (ba E.rest) 3 (by decide));have HV4:=hid (zBe (ba E.rest) 4 (by decide));have HFR:Hid (E.frame=if nextE (ba E.rest)=5 then E.cut.reject 0 1 else E.cut.run (nextK (ba E.rest)) (nextV (ba E.rest))):=rfl;have HMD:=hid (HK.out.mid HN4.out);obtain⟨m,hm⟩: ∃m:Nat,nextM (ba E.rest)=(m:Int):=⟨_,(Int.toNat_of_nonneg (by omega)).symm⟩;rw[hm]at HCU m2;have hcut:=fun W=>zMw E.rest m W (by omega)
  generalize nextM (ba E.rest)=M at *;subst hm;generalize nextE (ba E.rest)=EE at *;generalize nextK (ba E.rest)=KK at *;generalize nextV (ba E.rest)=V at *;clear m1 m2;cases q5:(EE == 5)
  ·have HF5:Hid (E.frame=E.cut.run KK V):=by show _=_;rw[HFR.out,if_neg (by simpa using q5)]
   clear HFR;go_wp2_with fail;have hC:RefRep F base (w3.setCell ⟨b,6,none⟩ (.string ⟨(E.rest.drop m).toArray⟩)) b E.cut dv av':=HR3.out.set 6 _ E.cut (by rw[HCU.out];rfl) (by rw[HCU.out]) (by rw[HCU.out]);have hT4:Touch F w (w3.setCell ⟨b,6,none⟩ (.string ⟨(E.rest.drop m).toArray⟩)):=HT3.out.set b _ _ HOW.out;have hsz4:(w3.setCell ⟨b,6,none⟩ (.string ⟨(E.rest.drop m).toArray⟩)).heap.size=w3.heap.size:=by simp
   generalize w3.setCell ⟨b,6,none⟩ (.string ⟨(E.rest.drop m).toArray⟩)=W4 at *;have HC:=hid hC;have HT4:=hid hT4;have HS4:=hid hsz4;clear hC hT4 hsz4 c6 f6 hcut;have hvb: ∀o:Obj,(W4.alloc o).heap[w3.heap.size]? =some o:=fun o=>by rw[←HS4.out];exact heap_alloc_new W4 o
   have hlt: ∀o:Obj,w3.heap.size<(W4.alloc o).heap.size:=fun o=>by rw[←HS4.out];simp
   have hne:w3.heap.size≠b:=by omega
   refine(zMp KK ((HC.out.alloc _).shrink (vb:=w3.heap.size) (hlt _) hne (fun hq=>absurd (HC.out.own_lt _ hq) (by rw[HS4.out];omega))) (by simp[World.cell?,hvb]) (v:=V) ⟨by simp[World.cell?,hvb],by simp[World.cell?,hvb],by simp[World.cell?,hvb],by simp[World.cell?,hvb],by simp[World.cell?,hvb],by simp[World.cell?,hvb],by simp[World.cell?,hvb],by simp[World.cell?,hvb],by simp[World.cell?,hvb]⟩ (fun hc=>hc.2 rfl) (hlt _) HMD.out.2.2.2.2.1 HV0.out ⟨HV3.out.1,by have:=HV3.out.2;omega⟩ ⟨HV4.out.1,by have:=HV4.out.2;omega⟩ HMD.out.1 HMD.out.2.1 HMD.out.2.2.1 HMD.out.2.2.2.1).mono ?_;rintro en w5 ⟨rfl,⟨av5,hr5⟩,ht5⟩;have HR5:Hid (RefRep F base w5 b E.frame dv av5):=by show RefRep _ _ _ _ _ _ _;rw[HF5.out];exact hr5.widen
   have HT5:Hid (Touch F w w5):=(HT4.out.alloc _).trans ht5.widen;clear hr5 ht5 hvb hlt hne HT4 HC HS4 HT3 HR3;go_wp2_with fail;refine(HFO F base w5 b E.frame dv av5 HR5.out HMD.out.2.2.2.2.2.1 HMD.out.2.2.2.2.2.2).mono ?_;rintro en w6 ⟨rfl,hr6,ht6⟩;have HR6:=hid hr6;have HT6:=hid (HT5.out.trans ht6);clear hr6 ht6;go_wp2
   go_roundg E.frame.follow.rest.length
   case measure=>exact HNX1.out.2
   case rel=>exact⟨_,av5,rfl,HR6.out,HT6.out,HNX1.out.1⟩
  ·have HF5:Hid (E.frame=E.cut.reject 0 1):=by show _=_;rw[HFR.out,if_pos (by simpa using q5)]
   clear HFR;go_wp2_with fail;have hC:RefRep F base (w3.setCell ⟨b,6,none⟩ (.string ⟨(E.rest.drop m).toArray⟩)) b E.cut dv av':=HR3.out.set 6 _ E.cut (by rw[HCU.out];rfl) (by rw[HCU.out]) (by rw[HCU.out]);have hT4:Touch F w (w3.setCell ⟨b,6,none⟩ (.string ⟨(E.rest.drop m).toArray⟩)):=HT3.out.set b _ _ HOW.out;generalize w3.setCell ⟨b,6,none⟩ (.string ⟨(E.rest.drop m).toArray⟩)=W4 at *;have HC:=hid hC;have HT4:=hid hT4;clear hC hT4 c6 f6 hcut;refine(zBu (HC.out.alloc _) 0 1 (HMD.out.1.mono (by omega)) (n63 _ (by omega) (by omega)) (n63 _ (by omega) (by omega))).mono ?_;rintro en w5 ⟨rfl,hr5,ht5⟩;have HR5:Hid (RefRep F base w5 b E.frame dv av'):=by show RefRep _ _ _ _ _ _ _;rw[HF5.out];exact hr5
   have HT5:Hid (Touch F w w5):=(HT4.out.alloc _).trans ht5;clear hr5 ht5 HT4 HC HT3 HR3;go_wp2_with fail;refine(HFO F base w5 b E.frame dv av' HR5.out HMD.out.2.2.2.2.2.1 HMD.out.2.2.2.2.2.2).mono ?_;rintro en w6 ⟨rfl,hr6,ht6⟩;have HR6:=hid hr6;have HT6:=hid (HT5.out.trans ht6);clear hr6 ht6;go_wp2
   go_roundg E.frame.follow.rest.length
   case measure=>exact HNX1.out.2
   case rel=>exact⟨_,av',rfl,HR6.out,HT6.out,HNX1.out.1⟩
theorem zMy(t:List UInt8)(h:RefRep F base w b e dv av)(hT:Taking (e.begin_ t) (e.begin_ t)):
 Cl 74 #[iP b,.string (ba t)] w fun en w'=>en=.returned (.string (ba (e.apply t).out))∧(∃av',RefRep F base w' b (e.apply t) dv av')∧Touch F w w':=
 zMx (fun _ _ _ _ _ _ _ h1 h2 h3=>zMi h1 h2 h3) t h hT
theorem zMz(h:RefRep F base w b e dv av)(hm:e.all.length≤1000000000):
 Cl 77 #[iP b] w fun en w'=> ∃v' l,en=.returned v'∧OR w.heap.size w' v' l∧l.Perm e.all∧Sorted l∧Below w.heap.size w w':=by
 obtain⟨i0,hi,hz0,hz1,hz2⟩:=zAa Tryz.infoSt Tryz.zeroSt;have HINF:Hid (Tryz.prog.info? 229=some i0∧i0.zero=some (.agg #[iV 0,iV 0,iV 0,iV 0,iV 0,iV 0,iV 0,iV 0,iV 0,iV 0,iV 0,iV 0,iV 0,iV 0,iV 0])∧i0.size=15∧i0.bytes=120):=⟨hi,hz0,hz1,hz2⟩;obtain⟨p,cap,rfl⟩:=h.slice;have HR:=hid h;have hc:w.cell? (iA b 5)=some (.slice p e.all.length cap):=h.cell 5;have hB:=h.lt;generalize hl:e.all=al at *;generalize hme:al.length=m at *;have HL:=hid hl;have HME:=hid hme;go_enter Tryz.func77,Tryz.ntmps77;go_wp2;go_loopw [3,4] (fun l i wr=> ∃(k:Nat) (L:List Ord),i=iV k∧k≤m∧OR w.heap.size wr l L∧L.Perm (al.take k)∧Sorted L∧Bw w wr) (fun _ i _=>m - (intOf i).toNat)
 case atStart=>exact⟨0,[],rfl,Nat.zero_le _,OR.nil _ _,by simp,List.Pairwise.nil,Below.refl _ _⟩
 case round=>
  obtain⟨k,L,rfl,hk,hor,hpm,hso,hbw⟩:=hrel;have hcr:wr.cell? (iA b 5)=some (.slice p m cap):=(hbw.cell (p:=(iA b 5)) hB).trans hc;have HBW:Hid (Bw w wr):=hbw;have HOR:=hid hor;have HPM:=hid hpm;have HSO:=hid hso;have hbs:=hbw.size;have HLL:Hid (L.length=k):=by show _=_;rw[hpm.length_eq,List.length_take,HME.out];omega
  by_cases hlt:k<m
  ·have hkI:(k:Int)<(m:Int):=by omega
   have hk0: ¬(k:Int)<0:=by omega
   obtain⟨o,ho⟩: ∃o,al[k]? =some o:=⟨al[k]'(by rw[HME.out];exact hlt),List.getElem?_eq_getElem _⟩;have hoe:e.all[k]? =some o:=by rw[HL.out];exact ho
   obtain⟨g,rfl⟩: ∃g,p=some (iA g 0):=by
    rcases HR.out.shape with⟨h1,h2⟩|⟨g,cp,h1,_⟩
    ·rw[h2]at hoe;simp at hoe
    ·injection h1 with h1 _ _;exact⟨g,h1⟩
   have HTK:Hid (al.take (k+1)=al.take k++ [o]):=by show _=_;rw[List.take_add_one,ho];rfl
   have hgl:g<w.heap.size:=by
    rcases HR.out.shape with⟨h1,h2⟩|⟨g2,cp,h1,_,_,_,h5⟩
    ·cases h1
    ·injection h1 with h1 _ _;injection h1 with h1;injection h1 with h1;subst h1;exact h5
   obtain⟨c0,c1,c2,c3,c4,c5,c6,c7,c8,c9,c10,c11,c12,c13,c14⟩:=(HR.out.ords.1.below HBW.out hgl).c15 k o hoe;have HW2:Hid (∀ob,(wr.alloc ob).ownsRow w.heap.size 229 15 u3 k (rows L)):=fun ob=>by have q:=HOR.alloc ob;unfold OR at q;rw[HLL.out]at q;exact q
   have HC1:Hid (∀(j:Nat) (u:Value),[iV o.id,iV o.side,iV o.typ,iV o.qty,iV o.peak,iV o.off,iV o.life,iV o.time,iV o.status,iV o.price,iV o.opn,iV o.filled,iV o.cancelled,iV o.shown,iV o.stamp][j]? =some u→(wr.alloc (.cells #[iV o.id,iV o.side,iV o.typ,iV o.qty,iV o.peak,iV o.off,iV o.life,iV o.time,iV o.status,iV o.price,iV o.opn,iV o.filled,iV o.cancelled,iV o.shown,iV o.stamp] 229)).cell? (Addr.add (iA wr.heap.size 0) j)=some u):=fun j u hj=>by
    rw[Addr.add_lit,Nat.zero_add];exact cellNew wr #[iV o.id,iV o.side,iV o.typ,iV o.qty,iV o.peak,iV o.off,iV o.life,iV o.time,iV o.status,iV o.price,iV o.opn,iV o.filled,iV o.cancelled,iV o.shown,iV o.stamp] 229 j u (by rw[←hj];simp)
   have HC2:Hid (∀u∈([iV o.id,iV o.side,iV o.typ,iV o.qty,iV o.peak,iV o.off,iV o.life,iV o.time,iV o.status,iV o.price,iV o.opn,iV o.filled,iV o.cancelled,iV o.shown,iV o.stamp]:List Value),u.oneCell'=true):=fun u hu=>by
    simp at hu;rcases hu with rfl|rfl|rfl|rfl|rfl|rfl|rfl|rfl|rfl|rfl|rfl|rfl|rfl|rfl|rfl<;>rfl
   have HC3:Hid (k+1≤maxLen∧(k+1)* 120≤140737488355328):=⟨by unfold maxLen;omega,by omega⟩;have HC5:Hid (∀ob,w.heap.size≤(wr.alloc ob).heap.size):=fun ob=>by simp;omega
   have hltr:=hid HOR.lt;go_wp2_with(at_builtin;refine wpList_append_own _ rfl _ _ 169 rfl w.heap.size 229 i0 _ 15 120 Tryz.underlying169 HINF.1 HINF.2.1 HINF.2.2.1 HINF.2.2.2 rfl (by decide) _ _ _ rfl (HW2.out _) (iA wr.heap.size 0) 1 1 [iV o.id,iV o.side,iV o.typ,iV o.qty,iV o.peak,iV o.off,iV o.life,iV o.time,iV o.status,iV o.price,iV o.opn,iV o.filled,iV o.cancelled,iV o.shown,iV o.stamp] rfl rfl HC1.out HC2.out HC3.1 HC3.2 (HC5.out _) ?_);intro v' w3 hown3 hgrow3 _;have hB3:Bw w w3:=(zA2 HBW.out _).grown hgrow3 (by simp;omega) (fun q hq=>(hltr.out q hq).1);have hS3:OR w.heap.size w3 v' (L++o::[]):=by
    unfold OR;rw[zGb,List.length_append,HLL.out];exact hown3
   obtain⟨g',cap',rfl⟩: ∃g' cap',v'=sL g' (k+1) cap':=by
    rcases hown3.2 with⟨_,h⟩|⟨g,cap,cur,h,_⟩
    ·omega
    ·exact⟨g,cap,h⟩
   have HS3:=hid hS3;have HB3:=hid hB3;have HMV:Hid (Moving (al.take (k+1)) k L [] o):=⟨HLL.out,by rw[List.append_nil];exact HSO.out,fun _ hc=>absurd hc List.not_mem_nil,by rw[HTK.out];exact HPM.append_right _⟩;have hw1:wrap64 ((k:Int)+1 - 1)=(k:Int):=by unfold wrap64;omega
   go_wp2_with fail;go_loopw [5] (fun i wr2=> ∃(q:Nat) (A B:List Ord) (x:Ord),i=iV q∧q≤k∧Moving (al.take (k+1)) q A B x∧OR w.heap.size wr2 (sL g' (k+1) cap') (A++x::B)∧Bw w wr2) (fun i _=>(intOf i).toNat)
   case atStart=>exact⟨k,L,[],o,rfl,Nat.le_refl _,HMV.out,HS3.out,HB3.out⟩
   case round=>
    obtain⟨q,A,B,x,rfl,hq,hmv,hs2,hb2⟩:=hrel;have HM:=hid hmv;have HO:=hid hs2;have HB:=hid hb2;have hg':w.heap.size≤g':=(hs2.lt g' rfl).1;rcases q with _|q
    ·have HA:Hid (A= []):=List.length_eq_zero_iff.1 HM.len;go_wp2_with fail;go_quiet (fail);go_wp2;go_roundw
     case rel=>exact⟨k+1,A++x::B,by go_num,by omega,HO.drewN nq,HM.prm,by have q1:=HM.srt;have q2:=HM.top;rw[HA.out]at q1⊢;exact zMk q1 q2,⟨HB.os,HB.tape,HB.output,HB.size,HB.block⟩⟩
     case measure=>simp[intOf];omega
    ·have hq1:(q:Int)+1<(k:Int)+1:=by omega
     have hq2:(q:Int)<(k:Int)+1:=by omega
     have hq0:(0:Int)<(q:Int)+1:=by omega
     have hw2:IntKind.i64.wrap ((q:Int)+1 - 1)=(q:Int):=by simp only[IntKind.wrap,IntKind.bits,IntKind.signed];simp;omega
     have hw3:wrap64 ((q:Int)+1 - 1)=(q:Int):=by unfold wrap64;omega
     obtain⟨A',y,rfl⟩: ∃A' y,A=A' ++ [y]:=by
      rcases List.eq_nil_or_concat A with h0|⟨A',y,h0⟩
      ·have:=HM.len;rw[h0]at this;simp at this
      ·exact⟨A',y,by simpa using h0⟩
     have hA':A'.length=q:=by have:=HM.len;simpa using this
     have HXQ:Hid ((A' ++ [y] ++x::B)[q+1]? =some x):=by show _=_;rw[List.getElem?_append_right (by simp[hA'])];simp[hA']
     have HYQ:Hid ((A' ++ [y] ++x::B)[q]? =some y):=by show _=_;rw[List.append_assoc,List.getElem?_append_right (by simp[hA'])];simp[hA']
     have HLA:=hid hA';have ca0:=HO.ords.1.cell0 (q+1) x HXQ.out;have fa0:=HO.ords.1.froz ((q+1)* 15);have cb0:=HO.ords.1.cell0 q y HYQ.out;have fb0:=HO.ords.1.froz (q*15);by_cases hlt2:x.id<y.id
     ·go_wp2_with fail;go_quiet (fail);replace HO:Hid (OR w.heap.size (wr.drewN nq) (sL g' (k+1) cap') (A' ++ [y] ++x::B)):=HO.drewN nq;replace HB:Hid (Bw w (wr.drewN nq)):=⟨HB.os,HB.tape,HB.output,HB.size,HB.block⟩;generalize wr.drewN nq=W at *;obtain⟨a0,a1,a2,a3,a4,a5,a6,a7,a8,a9,a10,a11,a12,a13,a14⟩:=HO.out.ords.1.c15 (q+1) x HXQ.out;obtain⟨y0,y1,y2,y3,y4,y5,y6,y7,y8,y9,y10,y11,y12,y13,y14⟩:=HO.out.ords.1.c15 q y HYQ.out;have fa0:=HO.ords.1.froz ((q+1)* 15);have fb0:=HO.ords.1.froz (q*15);have fa1:=HO.ords.1.froz ((q+1)* 15+1);have fb1:=HO.ords.1.froz (q*15+1);have fa2:=HO.ords.1.froz ((q+1)* 15+2);have fb2:=HO.ords.1.froz (q*15+2);have fa3:=HO.ords.1.froz ((q+1)* 15+3);have fb3:=HO.ords.1.froz (q*15+3);have fa4:=HO.ords.1.froz ((q+1)* 15+4);have fb4:=HO.ords.1.froz (q*15+4);have fa5:=HO.ords.1.froz ((q+1)* 15+5);have fb5:=HO.ords.1.froz (q*15+5);have fa6:=HO.ords.1.froz ((q+1)* 15+6)
      have fb6:=HO.ords.1.froz (q*15+6);have fa7:=HO.ords.1.froz ((q+1)* 15+7);have fb7:=HO.ords.1.froz (q*15+7);have fa8:=HO.ords.1.froz ((q+1)* 15+8);have fb8:=HO.ords.1.froz (q*15+8);have fa9:=HO.ords.1.froz ((q+1)* 15+9);have fb9:=HO.ords.1.froz (q*15+9);have fa10:=HO.ords.1.froz ((q+1)* 15+10);have fb10:=HO.ords.1.froz (q*15+10);have fa11:=HO.ords.1.froz ((q+1)* 15+11);have fb11:=HO.ords.1.froz (q*15+11);have fa12:=HO.ords.1.froz ((q+1)* 15+12);have fb12:=HO.ords.1.froz (q*15+12);have fa13:=HO.ords.1.froz ((q+1)* 15+13);have fb13:=HO.ords.1.froz (q*15+13);have fa14:=HO.ords.1.froz ((q+1)* 15+14);have fb14:=HO.ords.1.froz (q*15+14);have hgl:g' < W.heap.size:=(HO.lt g' rfl).2;have hgn:g'≠W.heap.size:=Nat.ne_of_lt hgl;have hold: ∀o j,(W.alloc o).cell? (iA g' j)=W.cell? (iA g' j):=fun o j=>World.cell?_alloc_lt _ _ _ hgl
      have holf: ∀o j,(W.alloc o).frozen? (iA g' j)=W.frozen? (iA g' j):=fun o j=>World.frozen?_alloc_old _ _ _ hgn
      have HP1:=hid (OR.put (A' ++ [y]) B x y (q+1) (by simp[HLA.out]) HO.out);have HO2:=HP1.out;rw[List.append_assoc]at HO2;have HP2:=hid (OR.put A' ([] ++y::B) y x q HLA.out HO2);go_wp2;go_roundw
      case rel=>
       refine⟨q,A',y::B,x,by go_num,by omega,HM.down hlt2,?_,?_⟩
       ·refine OR.alloc ?_ _;exact HP2.out
       ·refine zA2 ?_ _;iterate 30 (refine Below.setCell ?_ hg' _)
        exact HB.out
      case measure=>simp[intOf]
     ·have hge:y.id≤x.id:=by omega
      go_wp2_with fail;go_quiet (fail);go_wp2;go_roundw
      case rel=>exact⟨k+1,_,by go_num,by omega,HO.drewN nq,HM.prm,zMl HM.srt HM.top hge,⟨HB.os,HB.tape,HB.output,HB.size,HB.block⟩⟩
      case measure=>simp[intOf];omega
  ·have hkM: ¬(k:Int)<(m:Int):=by omega
   have hkm:k=m:=by omega
   subst hkm;have HF:Hid (L.Perm al):=by
    have q:=HPM.out;rw[List.take_of_length_le (by rw[HME.out];exact Nat.le_refl _)]at q;exact q
   go_wp2;go_ret;exact⟨_,rfl,L,HOR.out,HF.out,HSO.out,HBW.out⟩
end Go.Proofs.YtilbfpnpkkkpgaaGreatDoor
