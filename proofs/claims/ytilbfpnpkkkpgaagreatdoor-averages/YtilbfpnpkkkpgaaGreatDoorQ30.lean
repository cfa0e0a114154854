import Derived.Test.YtilbfpnpkkkpgaaGreatDoorQ00
import Derived.Test.YtilbfpnpkkkpgaaGreatDoorQ29
set_option linter.all false
set_option maxRecDepth 100000
set_option maxHeartbeats 8000000
namespace Go.Proofs.YtilbfpnpkkkpgaaGreatDoor
variable{e:Eng}{F:Nat→Prop}{base b i:Nat}{dv av:Value}{o:Ord}
open Go.Extern Go.RowKit
theorem RefRep.slice_of{w:World}(h:RefRep F base w b e dv av)(ho:e.all[i]? =some o): ∃g cap,av=.slice (some ⟨g,0,none⟩) e.all.length cap:=by
 rcases h.shape with⟨_,h2⟩|⟨g,cap,h1,_⟩
 ·rw[h2]at ho;cases ho
 ·exact⟨g,cap,h1⟩
theorem zGc{id:Int}(h:e.find id=none):e.liveAt id=none:=by unfold Eng.liveAt;rw[h]
theorem zGd{id:Int}(h:e.find id=some i)(ho:e.all[i]? =some o):e.liveAt id=if o.status=1 then some i else none:=by
 unfold Eng.liveAt;rw[h];simp only[ho]
theorem RefRep.far{W:World}{rb:Nat}{cur:Array Value}{ty:TypeId}{fr:Nat×Nat}(h:RefRep F base W b e dv av)(hb:W.heap[rb]? =some (.cells cur ty fr))(t1:ty≠175)(t2:ty≠229)(t3:ty≠3)(j:Nat)(u:Value):RefRep F base (W.setCell ⟨rb,j,none⟩ u) b e dv av:=by
 have oth: ∀{t:TypeId} {s:Nat} {v:Value} {n:Nat} {xs:List Value},t≠ty→W.ownsRow base t s v n xs→(W.setCell ⟨rb,j,none⟩ u).ownsRow base t s v n xs:=by
  intro t s v n xs ht ho;refine⟨ho.1,?_⟩;rcases ho.2 with h2|⟨g,cap,cur',hv,hg,hh,r⟩
  ·exact .inl h2
  ·refine .inr ⟨g,cap,cur',hv,hg,?_,r⟩;rw[Below.heap_setCell _ _ _ _ (fun e1=>?_)]
   ·exact hh
   ·have e1:g=rb:=e1;rw[e1,hb]at hh;injection hh with hh;injection hh with _ hh _;exact ht hh.symm
 refine⟨?_,h.own,fun k hk=>h.up k (by simpa using hk),by simpa using h.low,oth (fun e1=>t3 e1.symm) h.dr,oth (fun e1=>t2 e1.symm) h.al,h.alF⟩;rw[Below.heap_setCell _ _ _ _ (fun e1=>?_)]
 ·exact h.blk
 ·have e1:b=rb:=e1;have hh:=h.blk;rw[e1,hb]at hh;injection hh with hh;injection hh with _ hh _;exact t1 hh
theorem Eng.rep_sweep_inv(h:Eng.EInv e)(ho:e.all[i]? =some o)(hs:o.status=1)(v:Nat→Int)(ht:o.typ≠3)(h5:(if o.typ=3 then v 3 == 0 else Eng.inn (v 3) 1 e.mp)=true)(h6:Eng.inn (v 4) (o.filled+1) e.mq=true):Eng.EInv ((e.repTell i o v).upd i fun o=>{ o with price:=v 3,shown:=0 }):=by
 have k:=h.ok i o ho;rw[Eng.inn_iff]at h6;rw[if_neg ht,Eng.inn_iff]at h5;have hq:=h.mq1;have hl:=k.live hs;have hf:=k.fil0;have hsm:=k.sum;show Eng.EInv (((e.upd i fun _=>Eng.repO o (v 4)).upd i fun o=>{ o with price:=v 3,shown:=0 }).tell _ _ _ _ _ _);rw[Eng.upd_upd];refine Eng.EInv.tell (?_:Eng.EInv (e.upd i fun _=>{ Eng.repO o (v 4) with price:=v 3,shown:=0 })) _ _ _ _ _ _;rw[Eng.upd_congr e i _ (fun x=>{ x with qty:=v 4,opn:=v 4 - x.filled,price:=v 3,shown:=0 }) (fun x hx=>by obtain rfl:o=x:=Option.some.inj (ho.symm.trans hx);rfl)];refine h.upd i _ (fun x hx=>?_) (fun _=>rfl) (fun x hx hx2=>absurd rfl hx2) (fun _ hl=>hl);obtain rfl:o=x:=Option.some.inj (ho.symm.trans hx)
 exact{ k with qty1:=by show v 4≤1000;omega,opn0:=by show 0≤v 4 - o.filled;omega,sum:=by show v 4 - o.filled+o.filled+o.cancelled=v 4;omega,shn0:=by show(0:Int)≤0;omega,shn1:=by show 0≤v 4 - o.filled;omega,whole:=fun _=>.inl rfl,dead:=fun _=>rfl,prc0:=by show 0≤v 3;omega,prc1:=h5.2,shp:=fun hl=>absurd hl (by show¬(0:Int)<0;omega),own:=fun _=>h5.1 }
theorem zMo{w:World}{vb:Nat}{v:Nat→Int}(h:RefRep F base w b e dv av)(hv:VAt w vb v)(hvF: ¬F vb)(hvl:vb<w.heap.size)(hI:Eng.EInv e)(hv0:Eng.VOk v)(hv3:0≤v 3∧v 3≤4294967296)(hv4:0≤v 4∧v 4≤4294967296)(hr:Room 2100 e)(hsu:Sums 1000 e)(hd:Dr e):
 Calls Tryz.prog 152 #[.pointer (some ⟨b,0,none⟩),.pointer (some ⟨vb,1,none⟩)] w fun en w'=>en=.returned (.tuple #[])∧RefRep F base w' b (e.replace v) dv av∧Touch F w w':=by
 have HR:=hid h;have HV:=hid hv;have HVT:Hid (∀W:World,Touch F w W→VAt W vb v):=fun W hT=>hv.block (hT.block vb hvl hvF)
 have HFD:=hid (zDm h (v 0) hr.len);have HUP:=hid h.up;have v0:=hv.c0;have HRJ:Hid (∀(reason:Int) (W:World),0≤reason∧reason≤100→Same w W→Calls Tryz.prog 118 #[.pointer (some ⟨b,0,none⟩),.int .i64 (v 0),.int .i64 reason] W fun en w'=>en=.returned (.tuple #[])∧RefRep F base w' b (e.reject (v 0) reason) dv av∧Touch F w w'):=fun reason W hre hS=>by
  refine(zBu (h.same hS) (v 0) reason (hr.mono (by omega)) (n63 _ hv0.id0 (by have:=hv0.id1;omega)) (n63 _ hre.1 (by omega))).mono ?_;rintro en w' ⟨e1,h1,h2⟩;exact⟨e1,h1,(hS.touch (F:=F)).trans h2⟩
 clear h hv;go_enter Tryz.func152,Tryz.ntmps152;go_wp2_with fail;refine HFD.out.mono ?_;rintro en w1 ⟨rfl,hw1⟩;cases hw1;have c5:w.cell? ⟨b,5,none⟩=some av:=HR.out.cell 5;rcases hf:e.find (v 0) with _|i
 ·have hix:idxV none= -1:=rfl;have HF:Hid (e.replace v=e.reject (v 0) 3):=by
   show _=_;rw[Eng.replace_eq,zGc hf]
  clear hf;go_wp2_with fail;refine(HRJ.out 3 _ ⟨by omega,by omega⟩ (Same.refl w)).mono ?_;rintro en w9 ⟨rfl,hr9,ht9⟩;have HR9:=hid hr9;have HT9:=hid ht9;clear hr9 ht9 v0 c5;go_wp2;refine bodyPost_ret (v:=.tuple #[]) (by simp[results,Tryz.results152,go_sem]) rfl ⟨rfl,?_,HT9.out⟩;rw[HF.out];exact HR9.out
 ·have hix:idxV (some i)=(i:Int):=rfl;obtain⟨o,ho,hoid⟩:=Eng.find_some hf;obtain⟨g,cap,rfl⟩:=HR.out.slice_of ho;have hi:i<e.all.length:=(List.getElem?_eq_some_iff.1 ho).1;have hiI:(i:Int)<(e.all.length:Int):=by omega
  have hi0: ¬(i:Int)<0:=by omega
  have hle:=hr.len;obtain⟨hO,hF,hgb,-⟩:=HR.out.ords;have HO:=hid hO;have o8:=hO.cell i 8 o _ ho rfl;have HLV:=hid (zGd hf ho);have HAT:=hid ho;have ko:=hI.ok i o ho;have HK:=hid ko;clear hO hf ho hoid ko;cases q8:(o.status != 1);rotate_left
  ·have hs:Hid (¬o.status=1):=by show¬_=_;simpa using q8
   have HF:Hid (e.replace v=e.reject (v 0) 3):=by
    show _=_;rw[Eng.replace_eq,HLV.out,if_neg hs.out]
   go_wp2_with fail;refine(HRJ.out 3 _ ⟨by omega,by omega⟩ (Same.refl w)).mono ?_;rintro en w9 ⟨rfl,hr9,ht9⟩;have HR9:=hid hr9;have HT9:=hid ht9;clear hr9 ht9 v0 c5 o8;go_wp2;refine bodyPost_ret (v:=.tuple #[]) (by simp[results,Tryz.results152,go_sem]) rfl ⟨rfl,?_,HT9.out⟩;rw[HF.out];exact HR9.out
  have hs:Hid (o.status=1):=by show _=_;simpa using q8
  have HRP:Hid (e.replace v=if(if o.typ=3 then v 3 == 0 else Eng.inn (v 3) 1 e.mp)=false then e.reject (v 0) 5 else if Eng.inn (v 4) (o.filled+1) e.mq=false then e.reject (v 0) 6 else e.repEnd i o v):=by
   show _=_;rw[Eng.replace_eq,HLV.out,if_pos hs.out];simp only[HAT.out]
  have hgs:g<w.heap.size:=by
   rcases HR.out.shape with⟨h1,_⟩|⟨g',cap',h1,_,_,_,h6⟩
   ·cases h1
   ·injection h1 with h1 _ _;injection h1 with h1;injection h1 with h1;rw[h1];exact h6
  have HSm:=hid (Same.refl w);have hmq1:=hI.mq1;have kf0:=HK.out.fil0;have kf1:o.filled≤1000:=by have:=HK.out.sum;have:=HK.out.opn0;have:=HK.out.can0;have:=HK.out.qty1;omega
  clear v0 c5 o8;have v0:=HV.out.c0;have v3:=HV.out.c3;have v4:=HV.out.c4;have o2:w.cell? ⟨g,i*15+2,none⟩=some (.int .i64 o.typ):=HO.out.cell i 2 o _ HAT.out rfl;have o3:w.cell? ⟨g,i*15+3,none⟩=some (.int .i64 o.qty):=HO.out.cell i 3 o _ HAT.out rfl;have o9:w.cell? ⟨g,i*15+9,none⟩=some (.int .i64 o.price):=HO.out.cell i 9 o _ HAT.out rfl;have o11:w.cell? ⟨g,i*15+11,none⟩=some (.int .i64 o.filled):=HO.out.cell i 11 o _ HAT.out rfl;have c1:w.cell? ⟨b,1,none⟩=some (.int .i64 e.mp):=HR.out.cell 1;have c2:w.cell? ⟨b,2,none⟩=some (.int .i64 e.mq):=HR.out.cell 2;have c5:w.cell? ⟨b,5,none⟩=some (.slice (some ⟨g,0,none⟩) e.all.length cap):=HR.out.cell 5;have o8:w.cell? ⟨g,i*15+8,none⟩=some (.int .i64 o.status):=HO.out.cell i 8 o _ HAT.out rfl;have hi0b:decide ((i:Int)<0)=false:=by simp
  cases q3:(o.typ == 3)
  focus
   have ht:Hid (¬o.typ=3):=by show¬_=_;simpa using q3
   go_wp2_with fail;go_quiet ((go_at_call 169;exact Calls.quiet_of_same (zA7 _ _ _ _)));replace HR:=hid (HR.out.drewN nq);replace HV:=hid (HV.out.drewN nq);replace HSm:=hid (HSm.out.drewN nq);replace HO:=hid HR.out.ords.1;clear v0 v3 v4 o2 o3 o9 o11 c1 c2 c5 o8;generalize w.drewN nq=W1 at *;have v0:=HV.out.c0;have v3:=HV.out.c3;have v4:=HV.out.c4;have o2:W1.cell? ⟨g,i*15+2,none⟩=some (.int .i64 o.typ):=HO.out.cell i 2 o _ HAT.out rfl;have o3:W1.cell? ⟨g,i*15+3,none⟩=some (.int .i64 o.qty):=HO.out.cell i 3 o _ HAT.out rfl;have o9:W1.cell? ⟨g,i*15+9,none⟩=some (.int .i64 o.price):=HO.out.cell i 9 o _ HAT.out rfl;have o11:W1.cell? ⟨g,i*15+11,none⟩=some (.int .i64 o.filled):=HO.out.cell i 11 o _ HAT.out rfl;have c1:W1.cell? ⟨b,1,none⟩=some (.int .i64 e.mp):=HR.out.cell 1;have c2:W1.cell? ⟨b,2,none⟩=some (.int .i64 e.mq):=HR.out.cell 2;cases q5:Eng.inn (v 3) 1 e.mp
   ·have HF:Hid (e.replace v=e.reject (v 0) 5):=by
     show _=_;rw[HRP.out,if_pos (by rw[if_neg ht.out];exact q5)]
    go_wp2_with fail;refine(HRJ.out 5 _ ⟨by omega,by omega⟩ HSm.out).mono ?_;rintro en w9 ⟨rfl,hr9,ht9⟩;have HR9:=hid hr9;have HT9:=hid ht9;clear hr9 ht9 v0 v3 v4 o2 o3 o9 o11 c1 c2;go_wp2;refine bodyPost_ret (v:=.tuple #[]) (by simp[results,Tryz.results152,go_sem]) rfl ⟨rfl,?_,HT9.out⟩;rw[HF.out];exact HR9.out
   have H5:Hid ((if o.typ=3 then v 3 == 0 else Eng.inn (v 3) 1 e.mp)=true):=by show _=_;rw[if_neg ht.out];exact q5
   have hwf:=zBv (o.filled+1) (by omega) (by omega);go_wp2_with fail;go_quiet ((go_at_call 169;exact Calls.quiet_of_same (zA7 _ _ _ _)));replace HR:=hid (HR.out.drewN nq);replace HV:=hid (HV.out.drewN nq);replace HSm:=hid (HSm.out.drewN nq);replace HO:=hid HR.out.ords.1;clear v0 v3 v4 o2 o3 o9 o11 c1 c2;generalize W1.drewN nq=W2 at *;have v0:=HV.out.c0;have v3:=HV.out.c3;have v4:=HV.out.c4;have o2:W2.cell? ⟨g,i*15+2,none⟩=some (.int .i64 o.typ):=HO.out.cell i 2 o _ HAT.out rfl;have o3:W2.cell? ⟨g,i*15+3,none⟩=some (.int .i64 o.qty):=HO.out.cell i 3 o _ HAT.out rfl;have o9:W2.cell? ⟨g,i*15+9,none⟩=some (.int .i64 o.price):=HO.out.cell i 9 o _ HAT.out rfl;have o11:W2.cell? ⟨g,i*15+11,none⟩=some (.int .i64 o.filled):=HO.out.cell i 11 o _ HAT.out rfl;have c1:W2.cell? ⟨b,1,none⟩=some (.int .i64 e.mp):=HR.out.cell 1;have c2:W2.cell? ⟨b,2,none⟩=some (.int .i64 e.mq):=HR.out.cell 2
   cases q6:Eng.inn (v 4) (o.filled+1) e.mq
   ·have HF:Hid (e.replace v=e.reject (v 0) 6):=by
     show _=_;rw[HRP.out,if_neg (by rw[H5.out];simp),if_pos q6]
    go_wp2_with fail;refine(HRJ.out 6 _ ⟨by omega,by omega⟩ HSm.out).mono ?_;rintro en w9 ⟨rfl,hr9,ht9⟩;have HR9:=hid hr9;have HT9:=hid ht9;clear hr9 ht9 v0 v3 v4 o2 o3 o9 o11 c1 c2;go_wp2;refine bodyPost_ret (v:=.tuple #[]) (by simp[results,Tryz.results152,go_sem]) rfl ⟨rfl,?_,HT9.out⟩;rw[HF.out];exact HR9.out
   have HEND:Hid (e.replace v=e.repEnd i o v):=by
    show _=_;rw[HRP.out,if_neg (by rw[H5.out];simp),if_neg (by rw[q6];simp)]
   have h6:=(Eng.inn_iff _ _ _).1 q6;by_cases hmo:o.qty<v 4
   focus
    have hmob:decide (o.qty<v 4)=true:=by simpa using hmo
    go_wp2_with fail;go_quiet (fail);replace HR:=hid (HR.out.drewN nq);replace HV:=hid (HV.out.drewN nq);replace HSm:=hid (HSm.out.drewN nq);replace HO:=hid HR.out.ords.1;clear v0 v3 v4 o2 o3 o9 o11 c1 c2;generalize W2.drewN nq=W3 at *;have v0:=HV.out.c0;have v3:=HV.out.c3;have v4:=HV.out.c4;have o2:W3.cell? ⟨g,i*15+2,none⟩=some (.int .i64 o.typ):=HO.out.cell i 2 o _ HAT.out rfl;have o3:W3.cell? ⟨g,i*15+3,none⟩=some (.int .i64 o.qty):=HO.out.cell i 3 o _ HAT.out rfl;have o9:W3.cell? ⟨g,i*15+9,none⟩=some (.int .i64 o.price):=HO.out.cell i 9 o _ HAT.out rfl;have o11:W3.cell? ⟨g,i*15+11,none⟩=some (.int .i64 o.filled):=HO.out.cell i 11 o _ HAT.out rfl;have c1:W3.cell? ⟨b,1,none⟩=some (.int .i64 e.mp):=HR.out.cell 1;have c2:W3.cell? ⟨b,2,none⟩=some (.int .i64 e.mq):=HR.out.cell 2;have KP:Hid (Eng.keepsPl o v=false):=by show _=_;unfold Eng.keepsPl;simp;omega
    go_wp2_with fail;go_quiet (fail);replace HR:=hid (HR.out.drewN nq);replace HV:=hid (HV.out.drewN nq);replace HSm:=hid (HSm.out.drewN nq);replace HO:=hid HR.out.ords.1;clear v0 v3 v4 o2 o3 o9 o11 c1 c2;generalize W3.drewN nq=W4 at *;have v0:=HV.out.c0;have v3:=HV.out.c3;have v4:=HV.out.c4;have o2:W4.cell? ⟨g,i*15+2,none⟩=some (.int .i64 o.typ):=HO.out.cell i 2 o _ HAT.out rfl;have o3:W4.cell? ⟨g,i*15+3,none⟩=some (.int .i64 o.qty):=HO.out.cell i 3 o _ HAT.out rfl;have o9:W4.cell? ⟨g,i*15+9,none⟩=some (.int .i64 o.price):=HO.out.cell i 9 o _ HAT.out rfl;have o11:W4.cell? ⟨g,i*15+11,none⟩=some (.int .i64 o.filled):=HO.out.cell i 11 o _ HAT.out rfl;have c1:W4.cell? ⟨b,1,none⟩=some (.int .i64 e.mp):=HR.out.cell 1;have c2:W4.cell? ⟨b,2,none⟩=some (.int .i64 e.mq):=HR.out.cell 2
   rotate_left
   focus
    have hmob:decide (o.qty<v 4)=false:=by simpa using hmo
    go_wp2_with fail;go_quiet (fail);replace HR:=hid (HR.out.drewN nq);replace HV:=hid (HV.out.drewN nq);replace HSm:=hid (HSm.out.drewN nq);replace HO:=hid HR.out.ords.1;clear v0 v3 v4 o2 o3 o9 o11 c1 c2;generalize W2.drewN nq=W5 at *;have v0:=HV.out.c0;have v3:=HV.out.c3;have v4:=HV.out.c4;have o2:W5.cell? ⟨g,i*15+2,none⟩=some (.int .i64 o.typ):=HO.out.cell i 2 o _ HAT.out rfl;have o3:W5.cell? ⟨g,i*15+3,none⟩=some (.int .i64 o.qty):=HO.out.cell i 3 o _ HAT.out rfl;have o9:W5.cell? ⟨g,i*15+9,none⟩=some (.int .i64 o.price):=HO.out.cell i 9 o _ HAT.out rfl;have o11:W5.cell? ⟨g,i*15+11,none⟩=some (.int .i64 o.filled):=HO.out.cell i 11 o _ HAT.out rfl;have c1:W5.cell? ⟨b,1,none⟩=some (.int .i64 e.mp):=HR.out.cell 1;have c2:W5.cell? ⟨b,2,none⟩=some (.int .i64 e.mq):=HR.out.cell 2;cases q9:(v 3 == o.price)
    focus
     have KP:Hid (Eng.keepsPl o v=false):=by show _=_;unfold Eng.keepsPl;rw[q9];simp[ht.out]
     go_wp2_with fail;go_quiet (fail);replace HR:=hid (HR.out.drewN nq);replace HV:=hid (HV.out.drewN nq);replace HSm:=hid (HSm.out.drewN nq);replace HO:=hid HR.out.ords.1;clear v0 v3 v4 o2 o3 o9 o11 c1 c2;generalize W5.drewN nq=W4 at *;have v0:=HV.out.c0;have v3:=HV.out.c3;have v4:=HV.out.c4;have o2:W4.cell? ⟨g,i*15+2,none⟩=some (.int .i64 o.typ):=HO.out.cell i 2 o _ HAT.out rfl;have o3:W4.cell? ⟨g,i*15+3,none⟩=some (.int .i64 o.qty):=HO.out.cell i 3 o _ HAT.out rfl;have o9:W4.cell? ⟨g,i*15+9,none⟩=some (.int .i64 o.price):=HO.out.cell i 9 o _ HAT.out rfl;have o11:W4.cell? ⟨g,i*15+11,none⟩=some (.int .i64 o.filled):=HO.out.cell i 11 o _ HAT.out rfl;have c1:W4.cell? ⟨b,1,none⟩=some (.int .i64 e.mp):=HR.out.cell 1;have c2:W4.cell? ⟨b,2,none⟩=some (.int .i64 e.mq):=HR.out.cell 2
    rotate_left
    focus
     have KP:Hid (Eng.keepsPl o v=true):=by show _=_;unfold Eng.keepsPl;rw[q9];simp;omega
     go_wp2_with fail;go_quiet (fail);replace HR:=hid (HR.out.drewN nq);replace HV:=hid (HV.out.drewN nq);replace HSm:=hid (HSm.out.drewN nq);replace HO:=hid HR.out.ords.1;clear v0 v3 v4 o2 o3 o9 o11 c1 c2;generalize W5.drewN nq=W4 at *;have v0:=HV.out.c0;have v3:=HV.out.c3;have v4:=HV.out.c4;have o2:W4.cell? ⟨g,i*15+2,none⟩=some (.int .i64 o.typ):=HO.out.cell i 2 o _ HAT.out rfl;have o3:W4.cell? ⟨g,i*15+3,none⟩=some (.int .i64 o.qty):=HO.out.cell i 3 o _ HAT.out rfl;have o9:W4.cell? ⟨g,i*15+9,none⟩=some (.int .i64 o.price):=HO.out.cell i 9 o _ HAT.out rfl;have o11:W4.cell? ⟨g,i*15+11,none⟩=some (.int .i64 o.filled):=HO.out.cell i 11 o _ HAT.out rfl;have c1:W4.cell? ⟨b,1,none⟩=some (.int .i64 e.mp):=HR.out.cell 1;have c2:W4.cell? ⟨b,2,none⟩=some (.int .i64 e.mq):=HR.out.cell 2
   rotate_left
  rotate_left 3
  focus
   have ht:Hid (o.typ=3):=by show _=_;simpa using q3
   go_wp2_with fail;go_quiet ((go_at_call 169;exact Calls.quiet_of_same (zA7 _ _ _ _)));replace HR:=hid (HR.out.drewN nq);replace HV:=hid (HV.out.drewN nq);replace HSm:=hid (HSm.out.drewN nq);replace HO:=hid HR.out.ords.1;clear v0 v3 v4 o2 o3 o9 o11 c1 c2 c5 o8;generalize w.drewN nq=W51 at *;have v0:=HV.out.c0;have v3:=HV.out.c3;have v4:=HV.out.c4;have o2:W51.cell? ⟨g,i*15+2,none⟩=some (.int .i64 o.typ):=HO.out.cell i 2 o _ HAT.out rfl;have o3:W51.cell? ⟨g,i*15+3,none⟩=some (.int .i64 o.qty):=HO.out.cell i 3 o _ HAT.out rfl;have o9:W51.cell? ⟨g,i*15+9,none⟩=some (.int .i64 o.price):=HO.out.cell i 9 o _ HAT.out rfl;have o11:W51.cell? ⟨g,i*15+11,none⟩=some (.int .i64 o.filled):=HO.out.cell i 11 o _ HAT.out rfl;have c1:W51.cell? ⟨b,1,none⟩=some (.int .i64 e.mp):=HR.out.cell 1;have c2:W51.cell? ⟨b,2,none⟩=some (.int .i64 e.mq):=HR.out.cell 2;cases q5:(v 3 != 0);rotate_left
   ·have HF:Hid (e.replace v=e.reject (v 0) 5):=by
     show _=_;rw[HRP.out,if_pos (by rw[if_pos ht.out];simpa using q5)]
    go_wp2_with fail;refine(HRJ.out 5 _ ⟨by omega,by omega⟩ HSm.out).mono ?_;rintro en w9 ⟨rfl,hr9,ht9⟩;have HR9:=hid hr9;have HT9:=hid ht9;clear hr9 ht9 v0 v3 v4 o2 o3 o9 o11 c1 c2;go_wp2;refine bodyPost_ret (v:=.tuple #[]) (by simp[results,Tryz.results152,go_sem]) rfl ⟨rfl,?_,HT9.out⟩;rw[HF.out];exact HR9.out
   have H5:Hid ((if o.typ=3 then v 3 == 0 else Eng.inn (v 3) 1 e.mp)=true):=by show _=_;rw[if_pos ht.out];simpa using q5
   have hwf:=zBv (o.filled+1) (by omega) (by omega);go_wp2_with fail;go_quiet ((go_at_call 169;exact Calls.quiet_of_same (zA7 _ _ _ _)));replace HR:=hid (HR.out.drewN nq);replace HV:=hid (HV.out.drewN nq);replace HSm:=hid (HSm.out.drewN nq);replace HO:=hid HR.out.ords.1;clear v0 v3 v4 o2 o3 o9 o11 c1 c2;generalize W51.drewN nq=W52 at *;have v0:=HV.out.c0;have v3:=HV.out.c3;have v4:=HV.out.c4;have o2:W52.cell? ⟨g,i*15+2,none⟩=some (.int .i64 o.typ):=HO.out.cell i 2 o _ HAT.out rfl;have o3:W52.cell? ⟨g,i*15+3,none⟩=some (.int .i64 o.qty):=HO.out.cell i 3 o _ HAT.out rfl;have o9:W52.cell? ⟨g,i*15+9,none⟩=some (.int .i64 o.price):=HO.out.cell i 9 o _ HAT.out rfl;have o11:W52.cell? ⟨g,i*15+11,none⟩=some (.int .i64 o.filled):=HO.out.cell i 11 o _ HAT.out rfl;have c1:W52.cell? ⟨b,1,none⟩=some (.int .i64 e.mp):=HR.out.cell 1;have c2:W52.cell? ⟨b,2,none⟩=some (.int .i64 e.mq):=HR.out.cell 2
   cases q6:Eng.inn (v 4) (o.filled+1) e.mq
   ·have HF:Hid (e.replace v=e.reject (v 0) 6):=by
     show _=_;rw[HRP.out,if_neg (by rw[H5.out];simp),if_pos q6]
    go_wp2_with fail;refine(HRJ.out 6 _ ⟨by omega,by omega⟩ HSm.out).mono ?_;rintro en w9 ⟨rfl,hr9,ht9⟩;have HR9:=hid hr9;have HT9:=hid ht9;clear hr9 ht9 v0 v3 v4 o2 o3 o9 o11 c1 c2;go_wp2;refine bodyPost_ret (v:=.tuple #[]) (by simp[results,Tryz.results152,go_sem]) rfl ⟨rfl,?_,HT9.out⟩;rw[HF.out];exact HR9.out
   have HEND:Hid (e.replace v=e.repEnd i o v):=by
    show _=_;rw[HRP.out,if_neg (by rw[H5.out];simp),if_neg (by rw[q6];simp)]
   have h6:=(Eng.inn_iff _ _ _).1 q6;by_cases hmo:o.qty<v 4
   ·have hmob:decide (o.qty<v 4)=true:=by simpa using hmo
    go_wp2_with fail;go_quiet (fail);replace HR:=hid (HR.out.drewN nq);replace HV:=hid (HV.out.drewN nq);replace HSm:=hid (HSm.out.drewN nq);replace HO:=hid HR.out.ords.1;clear v0 v3 v4 o2 o3 o9 o11 c1 c2;generalize W52.drewN nq=W53 at *;have v0:=HV.out.c0;have v3:=HV.out.c3;have v4:=HV.out.c4;have o2:W53.cell? ⟨g,i*15+2,none⟩=some (.int .i64 o.typ):=HO.out.cell i 2 o _ HAT.out rfl;have o3:W53.cell? ⟨g,i*15+3,none⟩=some (.int .i64 o.qty):=HO.out.cell i 3 o _ HAT.out rfl;have o9:W53.cell? ⟨g,i*15+9,none⟩=some (.int .i64 o.price):=HO.out.cell i 9 o _ HAT.out rfl;have o11:W53.cell? ⟨g,i*15+11,none⟩=some (.int .i64 o.filled):=HO.out.cell i 11 o _ HAT.out rfl;have c1:W53.cell? ⟨b,1,none⟩=some (.int .i64 e.mp):=HR.out.cell 1;have c2:W53.cell? ⟨b,2,none⟩=some (.int .i64 e.mq):=HR.out.cell 2;have KP:Hid (Eng.keepsPl o v=false):=by show _=_;unfold Eng.keepsPl;simp;omega
    go_wp2_with fail;go_quiet (fail);replace HR:=hid (HR.out.drewN nq);replace HV:=hid (HV.out.drewN nq);replace HSm:=hid (HSm.out.drewN nq);replace HO:=hid HR.out.ords.1;clear v0 v3 v4 o2 o3 o9 o11 c1 c2;generalize W53.drewN nq=W54 at *;have v0:=HV.out.c0;have v3:=HV.out.c3;have v4:=HV.out.c4;have o2:W54.cell? ⟨g,i*15+2,none⟩=some (.int .i64 o.typ):=HO.out.cell i 2 o _ HAT.out rfl;have o3:W54.cell? ⟨g,i*15+3,none⟩=some (.int .i64 o.qty):=HO.out.cell i 3 o _ HAT.out rfl;have o9:W54.cell? ⟨g,i*15+9,none⟩=some (.int .i64 o.price):=HO.out.cell i 9 o _ HAT.out rfl;have o11:W54.cell? ⟨g,i*15+11,none⟩=some (.int .i64 o.filled):=HO.out.cell i 11 o _ HAT.out rfl;have c1:W54.cell? ⟨b,1,none⟩=some (.int .i64 e.mp):=HR.out.cell 1;have c2:W54.cell? ⟨b,2,none⟩=some (.int .i64 e.mq):=HR.out.cell 2;have f3:=HO.out.froz (i*15+3);go_wp2_with fail
    have HRa:Hid (RefRep F base (W54.setCell ⟨g,i*15+3,none⟩ (.int .i64 (v 4))) b (e.upd i fun _=>{ o with qty:=v 4 }) dv (.slice (some ⟨g,0,none⟩) e.all.length cap)):=HR.out.setO i 3 (v 4) o _ HAT.out rfl (by omega);have HTa:Hid (Touch F w (W54.setCell ⟨g,i*15+3,none⟩ (.int .i64 (v 4)))):=(HSm.out.touch (F:=F)).set g _ _ hF;have HVa:=hid (HVT.out _ HTa.out);clear v0 v3 v4 o2 o3 o9 o11 c1 c2 f3 HR HO HV HSm;generalize W54.setCell ⟨g,i*15+3,none⟩ (.int .i64 (v 4))=Y1 at *;have v4:=HVa.out.c4;have HA1:Hid ((e.upd i fun _=>{ o with qty:=v 4 }).all[i]? =some { o with qty:=v 4 }):=Eng.updc_at _ _ _ _ HAT.out;have o11:Y1.cell? ⟨g,i*15+11,none⟩=some (.int .i64 o.filled):=by have q:=HRa.out.ords.1.cell i 11 _ _ HA1.out rfl;exact q
    have o10:Y1.cell? ⟨g,i*15+10,none⟩=some (.int .i64 o.opn):=by have q:=HRa.out.ords.1.cell i 10 _ _ HA1.out rfl;exact q
    have f10:=HRa.out.ords.1.froz (i*15+10);apply merge
    ·intro hh;go_region_law(fail);all_goals exact hh
    rw[zBv (v 4 - o.filled) (by omega) (by omega)];have HRb:Hid (RefRep F base (Y1.setCell ⟨g,i*15+10,none⟩ (.int .i64 (v 4 - o.filled))).drew b (e.upd i fun _=>Eng.repO o (v 4)) dv (.slice (some ⟨g,0,none⟩) e.all.length cap)):=by
     have h1:=HRa.out.setO i 10 (v 4 - o.filled) _ (Eng.repO o (v 4)) HA1.out rfl (by omega);rw[Eng.upd2]at h1;exact h1.drew
    have HTb:Hid (Touch F w (Y1.setCell ⟨g,i*15+10,none⟩ (.int .i64 (v 4 - o.filled))).drew):=(HTa.out.set g _ _ hF).drew;clear v4 o11 o10 f10 HRa HTa HVa HA1;generalize (Y1.setCell ⟨g,i*15+10,none⟩ (.int .i64 (v 4 - o.filled))).drew=Y2 at *;have HVb:=hid (HVT.out _ HTb.out);have HAb:Hid ((e.upd i fun _=>Eng.repO o (v 4)).all[i]? =some (Eng.repO o (v 4))):=Eng.updc_at _ _ _ _ HAT.out;have v0:=HVb.out.c0;have v3:=HVb.out.c3;have v4:=HVb.out.c4;have hvY:vb<Y2.heap.size:=Nat.lt_of_lt_of_le hvl HTb.out.size;have hnY:Y2.heap.size≠vb:=by omega
    go_wp2_with fail;go_region_held3(fun X=>X.cell? ⟨vb,1,none⟩=some (.int .i64 (v 0))∧X.cell? ⟨vb,4,none⟩=some (.int .i64 (v 3))∧X.cell? ⟨vb,5,none⟩=some (.int .i64 (v 4))) (first|exact⟨v0,v3,v4⟩|exact⟨(World.cell?_alloc_lt _ _ ⟨vb,1,none⟩ hvY).trans v0,(World.cell?_alloc_lt _ _ ⟨vb,4,none⟩ hvY).trans v3,(World.cell?_alloc_lt _ _ ⟨vb,5,none⟩ hvY).trans v4⟩|go_keep) (fail);have HRc:=hid ((HRb.out.alloc (.cells (recCells 5 0 (v 0) 0 (v 3) (v 4) 0) 220)).drew);have HTc:=hid ((HTb.out.alloc (.cells (recCells 5 0 (v 0) 0 (v 3) (v 4) 0) 220)).drew);have HBr:Hid ((Y2.alloc (.cells (recCells 5 0 (v 0) 0 (v 3) (v 4) 0) 220)).drew.heap[Y2.heap.size]? =some (.cells (recCells 5 0 (v 0) 0 (v 3) (v 4) 0) 220 (0,0))):=heap_alloc_new Y2 _;have hrw:Hid (w.heap.size≤Y2.heap.size):=HTb.out.size;have hgr:g≠Y2.heap.size:=by have:=HTb.out.size;omega
    clear v0 v3 v4 HVb HRb HTb hvY hnY;generalize (Y2.alloc (.cells (recCells 5 0 (v 0) 0 (v 3) (v 4) 0) 220)).drew=Y3 at *;generalize Y2.heap.size=rb at *;have HVc:=hid (HVT.out _ HTc.out);have v3:=HVc.out.c3;have o10:Y3.cell? ⟨g,i*15+10,none⟩=some (.int .i64 (v 4 - o.filled)):=by have q:=HRc.out.ords.1.cell i 10 _ _ HAb.out rfl;exact q
    have o13:Y3.cell? ⟨g,i*15+13,none⟩=some (.int .i64 o.shown):=by have q:=HRc.out.ords.1.cell i 13 _ _ HAb.out rfl;exact q
    have o2:Y3.cell? ⟨g,i*15+2,none⟩=some (.int .i64 o.typ):=by have q:=HRc.out.ords.1.cell i 2 _ _ HAb.out rfl;exact q
    have f13:=HRc.out.ords.1.froz (i*15+13);have r0:Y3.cell? ⟨rb,0,none⟩=some (.int .i64 5):=by simp[World.cell?,HBr.out]
    have r1:Y3.cell? ⟨rb,1,none⟩=some (.int .i64 0):=by simp[World.cell?,HBr.out]
    have r2:Y3.cell? ⟨rb,2,none⟩=some (.int .i64 (v 0)):=by simp[World.cell?,HBr.out]
    have r3:Y3.cell? ⟨rb,3,none⟩=some (.int .i64 0):=by simp[World.cell?,HBr.out]
    have r4:Y3.cell? ⟨rb,4,none⟩=some (.int .i64 (v 3)):=by simp[World.cell?,HBr.out]
    have r5:Y3.cell? ⟨rb,5,none⟩=some (.int .i64 (v 4)):=by simp[World.cell?,HBr.out]
    have r6:Y3.cell? ⟨rb,6,none⟩=some (.int .i64 0):=by simp[World.cell?,HBr.out]
    have fr6:Y3.frozen? ⟨rb,6,none⟩=false:=by simp[World.frozen?,HBr.out]
    have HRM:Hid (Room 1 (e.upd i fun _=>Eng.repO o (v 4))):=⟨by have:=hr.seq;show e.seq+1≤_;omega,by have:=hr.stm;show e.stamp+1≤_;omega,by have:=hr.out;show e.out.length+22*1≤_;omega,by rw[Eng.upd_len];exact hr.len,by have:=hr.drw;show e.drawn+1≤_;omega⟩;have HID:Hid (nat63 (v 0)):=n63 _ hv0.id0 (by have:=hv0.id1;omega);go_wp2_with fail;refine(zAd HRc.out HTc.out 5 (v 0) 0 (v 3) (v 4) 0 HRM.out (n63 5 (by omega) (by omega)) HID.out (n63 0 (by omega) (by omega)) (n63 _ hv3.1 hv3.2) (n63 _ hv4.1 hv4.2) (n63 0 (by omega) (by omega)) _ rfl rfl rfl rfl).mono ?_;rintro en w4 ⟨rfl,hr4,ht4⟩;have HR4:Hid (RefRep F base w4 b (e.repTell i o v) dv (.slice (some ⟨g,0,none⟩) e.all.length cap)):=by
     have q:=hr4;have e1:e.repTell i o v=(e.upd i fun _=>Eng.repO o (v 4)).tell 5 (v 0) 0 (v 3) (v 4) 0:=by unfold Eng.repTell;rw[KP.out];rfl
     rw[e1];exact q
    have HT4:=hid ht4;clear hr4 ht4 HRc HTc HVc HBr v3 o10 o13 o2 f13 r0 r1 r2 r3 r4 r5 r6 fr6;have HA4:Hid ((e.repTell i o v).all[i]? =some (Eng.repO o (v 4))):=HAb.out;have HV4:=hid (HVT.out _ HT4.out);have v3:=HV4.out.c3;have p9:w4.cell? ⟨g,i*15+9,none⟩=some (.int .i64 o.price):=by have q:=HR4.out.ords.1.cell i 9 _ _ HA4.out rfl;exact q
    have p10:w4.cell? ⟨g,i*15+10,none⟩=some (.int .i64 (v 4 - o.filled)):=by have q:=HR4.out.ords.1.cell i 10 _ _ HA4.out rfl;exact q
    have p13:w4.cell? ⟨g,i*15+13,none⟩=some (.int .i64 o.shown):=by have q:=HR4.out.ords.1.cell i 13 _ _ HA4.out rfl;exact q
    have g9:=HR4.out.ords.1.froz (i*15+9);have g13:=HR4.out.ords.1.froz (i*15+13);have HGR:Hid (Eng.Grew 1 0 e (e.repTell i o v)):=((Eng.Grew.upd e i _).trans (Eng.Grew.tell _ _ _ _ _ _ _)).mono (by omega) (by omega);have HLN:Hid ((e.repTell i o v).all.length=e.all.length):=Eng.upd_len _ _ _;by_cases hsh:0<o.shown
    ·have HE:Hid (e.repEnd i o v=(e.repTell i o v).lay i (v 4 - o.filled)):=by
      show _=_;unfold Eng.repEnd;rw[KP.out,if_neg (by simp),if_neg (by simp[ht.out]),if_pos hsh]
     go_wp2_with fail;refine(zBt i (v 4 - o.filled) (Eng.repO o (v 4)) (by rw[HLN.out];exact HR4.out) HA4.out (by rw[HLN.out];exact hr.len) (by have:=HGR.out.seq1;have:=hr.seq;omega) (by have:=HGR.out.stm1;have:=hr.stm;omega) (by have:=HGR.out.out;have:=HGR.out.seq1;have:=hr.out;omega) (n63 _ (by have:=HK.out.id0;show 0≤o.id;omega) (by have:=HK.out.id1;show o.id≤_;omega)) (n63 _ HK.out.prc0 (by have:=HK.out.prc1;have:=hI.mp1;show o.price≤_;omega)) (n63 _ (by omega) (by omega))).mono ?_;rintro en w6 ⟨rfl,hr6,ht6⟩;have HR6:=hid hr6;have HT6:=hid (HT4.out.trans ht6);clear hr6 ht6 v3 p9 p10 p13 g9 g13;go_wp2;go_end0;have q:=HR6.out;rw[HLN.out,←HE.out,←HEND.out]at q;exact⟨rfl,q,HT6.out⟩
    ·have HE:Hid (e.repEnd i o v=e.repTell i o v):=by
      show _=_;unfold Eng.repEnd;rw[KP.out,if_neg (by simp),if_neg (by simp[ht.out]),if_neg hsh]
     go_wp2;go_end0;have q:=HR4.out;rw[←HE.out,←HEND.out]at q;exact⟨rfl,q,HT4.out⟩
   have hmob:decide (o.qty<v 4)=false:=by simpa using hmo
   go_wp2_with fail;go_quiet (fail);replace HR:=hid (HR.out.drewN nq);replace HV:=hid (HV.out.drewN nq);replace HSm:=hid (HSm.out.drewN nq);replace HO:=hid HR.out.ords.1;clear v0 v3 v4 o2 o3 o9 o11 c1 c2;generalize W52.drewN nq=W55 at *;have v0:=HV.out.c0;have v3:=HV.out.c3;have v4:=HV.out.c4;have o2:W55.cell? ⟨g,i*15+2,none⟩=some (.int .i64 o.typ):=HO.out.cell i 2 o _ HAT.out rfl;have o3:W55.cell? ⟨g,i*15+3,none⟩=some (.int .i64 o.qty):=HO.out.cell i 3 o _ HAT.out rfl;have o9:W55.cell? ⟨g,i*15+9,none⟩=some (.int .i64 o.price):=HO.out.cell i 9 o _ HAT.out rfl;have o11:W55.cell? ⟨g,i*15+11,none⟩=some (.int .i64 o.filled):=HO.out.cell i 11 o _ HAT.out rfl;have c1:W55.cell? ⟨b,1,none⟩=some (.int .i64 e.mp):=HR.out.cell 1;have c2:W55.cell? ⟨b,2,none⟩=some (.int .i64 e.mq):=HR.out.cell 2;have KP:Hid (Eng.keepsPl o v=true):=by show _=_;unfold Eng.keepsPl;rw[ht.out];simp;omega
   go_wp2_with fail;go_quiet (fail);replace HR:=hid (HR.out.drewN nq);replace HV:=hid (HV.out.drewN nq);replace HSm:=hid (HSm.out.drewN nq);replace HO:=hid HR.out.ords.1;clear v0 v3 v4 o2 o3 o9 o11 c1 c2;generalize W55.drewN nq=W4 at *;have v0:=HV.out.c0;have v3:=HV.out.c3;have v4:=HV.out.c4;have o2:W4.cell? ⟨g,i*15+2,none⟩=some (.int .i64 o.typ):=HO.out.cell i 2 o _ HAT.out rfl;have o3:W4.cell? ⟨g,i*15+3,none⟩=some (.int .i64 o.qty):=HO.out.cell i 3 o _ HAT.out rfl;have o9:W4.cell? ⟨g,i*15+9,none⟩=some (.int .i64 o.price):=HO.out.cell i 9 o _ HAT.out rfl;have o11:W4.cell? ⟨g,i*15+11,none⟩=some (.int .i64 o.filled):=HO.out.cell i 11 o _ HAT.out rfl;have c1:W4.cell? ⟨b,1,none⟩=some (.int .i64 e.mp):=HR.out.cell 1;have c2:W4.cell? ⟨b,2,none⟩=some (.int .i64 e.mq):=HR.out.cell 2
  rotate_left;iterate 2
   focus
    have f3:=HO.out.froz (i*15+3);go_wp2_with fail;have HRa:Hid (RefRep F base (W4.setCell ⟨g,i*15+3,none⟩ (.int .i64 (v 4))) b (e.upd i fun _=>{ o with qty:=v 4 }) dv (.slice (some ⟨g,0,none⟩) e.all.length cap)):=HR.out.setO i 3 (v 4) o _ HAT.out rfl (by omega);have HTa:Hid (Touch F w (W4.setCell ⟨g,i*15+3,none⟩ (.int .i64 (v 4)))):=(HSm.out.touch (F:=F)).set g _ _ hF;have HVa:=hid (HVT.out _ HTa.out);clear v0 v3 v4 o2 o3 o9 o11 c1 c2 f3 HR HO HV HSm;generalize W4.setCell ⟨g,i*15+3,none⟩ (.int .i64 (v 4))=Y1 at *;have v4:=HVa.out.c4;have HA1:Hid ((e.upd i fun _=>{ o with qty:=v 4 }).all[i]? =some { o with qty:=v 4 }):=Eng.updc_at _ _ _ _ HAT.out;have o11:Y1.cell? ⟨g,i*15+11,none⟩=some (.int .i64 o.filled):=by have q:=HRa.out.ords.1.cell i 11 _ _ HA1.out rfl;exact q
    have o10:Y1.cell? ⟨g,i*15+10,none⟩=some (.int .i64 o.opn):=by have q:=HRa.out.ords.1.cell i 10 _ _ HA1.out rfl;exact q
    have f10:=HRa.out.ords.1.froz (i*15+10);apply merge
    ·intro hh;go_region_law(fail);all_goals exact hh
    rw[zBv (v 4 - o.filled) (by omega) (by omega)];have HRb:Hid (RefRep F base (Y1.setCell ⟨g,i*15+10,none⟩ (.int .i64 (v 4 - o.filled))).drew b (e.upd i fun _=>Eng.repO o (v 4)) dv (.slice (some ⟨g,0,none⟩) e.all.length cap)):=by
     have h1:=HRa.out.setO i 10 (v 4 - o.filled) _ (Eng.repO o (v 4)) HA1.out rfl (by omega);rw[Eng.upd2]at h1;exact h1.drew
    have HTb:Hid (Touch F w (Y1.setCell ⟨g,i*15+10,none⟩ (.int .i64 (v 4 - o.filled))).drew):=(HTa.out.set g _ _ hF).drew;clear v4 o11 o10 f10 HRa HTa HVa HA1;generalize (Y1.setCell ⟨g,i*15+10,none⟩ (.int .i64 (v 4 - o.filled))).drew=Y2 at *;have HVb:=hid (HVT.out _ HTb.out);have HAb:Hid ((e.upd i fun _=>Eng.repO o (v 4)).all[i]? =some (Eng.repO o (v 4))):=Eng.updc_at _ _ _ _ HAT.out;have v0:=HVb.out.c0;have v3:=HVb.out.c3;have v4:=HVb.out.c4;have hvY:vb<Y2.heap.size:=Nat.lt_of_lt_of_le hvl HTb.out.size;have hnY:Y2.heap.size≠vb:=by omega
    go_wp2_with fail;go_region_held3(fun X=>X.cell? ⟨vb,1,none⟩=some (.int .i64 (v 0))∧X.cell? ⟨vb,4,none⟩=some (.int .i64 (v 3))∧X.cell? ⟨vb,5,none⟩=some (.int .i64 (v 4))) (first|exact⟨v0,v3,v4⟩|exact⟨(World.cell?_alloc_lt _ _ ⟨vb,1,none⟩ hvY).trans v0,(World.cell?_alloc_lt _ _ ⟨vb,4,none⟩ hvY).trans v3,(World.cell?_alloc_lt _ _ ⟨vb,5,none⟩ hvY).trans v4⟩|go_keep) (fail);have HRc:=hid ((HRb.out.alloc (.cells (recCells 5 0 (v 0) 0 (v 3) (v 4) 0) 220)).drew);have HTc:=hid ((HTb.out.alloc (.cells (recCells 5 0 (v 0) 0 (v 3) (v 4) 0) 220)).drew);have HBr:Hid ((Y2.alloc (.cells (recCells 5 0 (v 0) 0 (v 3) (v 4) 0) 220)).drew.heap[Y2.heap.size]? =some (.cells (recCells 5 0 (v 0) 0 (v 3) (v 4) 0) 220 (0,0))):=heap_alloc_new Y2 _;have hrw:Hid (w.heap.size≤Y2.heap.size):=HTb.out.size;have hgr:g≠Y2.heap.size:=by have:=HTb.out.size;omega
    clear v0 v3 v4 HVb HRb HTb hvY hnY;generalize (Y2.alloc (.cells (recCells 5 0 (v 0) 0 (v 3) (v 4) 0) 220)).drew=Y3 at *;generalize Y2.heap.size=rb at *;have HVc:=hid (HVT.out _ HTc.out);have v3:=HVc.out.c3;have o10:Y3.cell? ⟨g,i*15+10,none⟩=some (.int .i64 (v 4 - o.filled)):=by have q:=HRc.out.ords.1.cell i 10 _ _ HAb.out rfl;exact q
    have o13:Y3.cell? ⟨g,i*15+13,none⟩=some (.int .i64 o.shown):=by have q:=HRc.out.ords.1.cell i 13 _ _ HAb.out rfl;exact q
    have o2:Y3.cell? ⟨g,i*15+2,none⟩=some (.int .i64 o.typ):=by have q:=HRc.out.ords.1.cell i 2 _ _ HAb.out rfl;exact q
    have f13:=HRc.out.ords.1.froz (i*15+13);have r0:Y3.cell? ⟨rb,0,none⟩=some (.int .i64 5):=by simp[World.cell?,HBr.out]
    have r1:Y3.cell? ⟨rb,1,none⟩=some (.int .i64 0):=by simp[World.cell?,HBr.out]
    have r2:Y3.cell? ⟨rb,2,none⟩=some (.int .i64 (v 0)):=by simp[World.cell?,HBr.out]
    have r3:Y3.cell? ⟨rb,3,none⟩=some (.int .i64 0):=by simp[World.cell?,HBr.out]
    have r4:Y3.cell? ⟨rb,4,none⟩=some (.int .i64 (v 3)):=by simp[World.cell?,HBr.out]
    have r5:Y3.cell? ⟨rb,5,none⟩=some (.int .i64 (v 4)):=by simp[World.cell?,HBr.out]
    have r6:Y3.cell? ⟨rb,6,none⟩=some (.int .i64 0):=by simp[World.cell?,HBr.out]
    have fr6:Y3.frozen? ⟨rb,6,none⟩=false:=by simp[World.frozen?,HBr.out]
    have HRM:Hid (Room 1 (e.upd i fun _=>Eng.repO o (v 4))):=⟨by have:=hr.seq;show e.seq+1≤_;omega,by have:=hr.stm;show e.stamp+1≤_;omega,by have:=hr.out;show e.out.length+22*1≤_;omega,by rw[Eng.upd_len];exact hr.len,by have:=hr.drw;show e.drawn+1≤_;omega⟩;have HID:Hid (nat63 (v 0)):=n63 _ hv0.id0 (by have:=hv0.id1;omega);go_wp2_with fail;refine(zAd HRc.out HTc.out 5 (v 0) 0 (v 3) (v 4) 0 HRM.out (n63 5 (by omega) (by omega)) HID.out (n63 0 (by omega) (by omega)) (n63 _ hv3.1 hv3.2) (n63 _ hv4.1 hv4.2) (n63 0 (by omega) (by omega)) _ rfl rfl rfl rfl).mono ?_;rintro en w4 ⟨rfl,hr4,ht4⟩;have HR4:Hid (RefRep F base w4 b (e.repTell i o v) dv (.slice (some ⟨g,0,none⟩) e.all.length cap)):=by
     have q:=hr4;have e1:e.repTell i o v=(e.upd i fun _=>Eng.repO o (v 4)).tell 5 (v 0) 0 (v 3) (v 4) 0:=by unfold Eng.repTell;rw[KP.out];rfl
     rw[e1];exact q
    have HT4:=hid ht4;clear hr4 ht4 HRc HTc HVc HBr v3 o10 o13 o2 f13 r0 r1 r2 r3 r4 r5 r6 fr6;have HA4:Hid ((e.repTell i o v).all[i]? =some (Eng.repO o (v 4))):=HAb.out;have HV4:=hid (HVT.out _ HT4.out);have v3:=HV4.out.c3;have p9:w4.cell? ⟨g,i*15+9,none⟩=some (.int .i64 o.price):=by have q:=HR4.out.ords.1.cell i 9 _ _ HA4.out rfl;exact q
    have p10:w4.cell? ⟨g,i*15+10,none⟩=some (.int .i64 (v 4 - o.filled)):=by have q:=HR4.out.ords.1.cell i 10 _ _ HA4.out rfl;exact q
    have p13:w4.cell? ⟨g,i*15+13,none⟩=some (.int .i64 o.shown):=by have q:=HR4.out.ords.1.cell i 13 _ _ HA4.out rfl;exact q
    have g9:=HR4.out.ords.1.froz (i*15+9);have g13:=HR4.out.ords.1.froz (i*15+13);have HGR:Hid (Eng.Grew 1 0 e (e.repTell i o v)):=((Eng.Grew.upd e i _).trans (Eng.Grew.tell _ _ _ _ _ _ _)).mono (by omega) (by omega);have HLN:Hid ((e.repTell i o v).all.length=e.all.length):=Eng.upd_len _ _ _;have HE:Hid (e.repEnd i o v=((e.repTell i o v).upd i fun _=>{ Eng.repO o (v 4) with price:=v 3,shown:=0 }).sweep i):=by
     show _=_;unfold Eng.repEnd;rw[KP.out,if_neg (by simp),if_pos ht.out];rw[Eng.upd_congr (e.repTell i o v) i (fun o=>{ o with price:=v 3,shown:=0 }) (fun _=>{ Eng.repO o (v 4) with price:=v 3,shown:=0 }) (fun x hx=>by obtain rfl:Eng.repO o (v 4)=x:=Option.some.inj (HA4.out.symm.trans hx);rfl)]
    have HR5:Hid (RefRep F base ((w4.setCell ⟨g,i*15+9,none⟩ (.int .i64 (v 3))).setCell ⟨g,i*15+13,none⟩ (.int .i64 0)) b ((e.repTell i o v).upd i fun _=>{ Eng.repO o (v 4) with price:=v 3,shown:=0 }) dv (.slice (some ⟨g,0,none⟩) e.all.length cap)):=by
     have h1:=HR4.out.setO i 9 (v 3) _ { Eng.repO o (v 4) with price:=v 3 } HA4.out rfl (by omega);have h2:=h1.setO i 13 0 _ { Eng.repO o (v 4) with price:=v 3,shown:=0 } (Eng.updc_at _ _ _ _ HA4.out) rfl (by omega);rw[Eng.upd2]at h2;exact h2
    have HT5:=hid ((HT4.out.set g (i*15+9) (.int .i64 (v 3)) hF).set g (i*15+13) (.int .i64 0) hF);have HI5:Hid (Eng.EInv ((e.repTell i o v).upd i fun _=>{ Eng.repO o (v 4) with price:=v 3,shown:=0 })):=by
     have q:=Eng.rep_sweep_inv hI HAT.out hs.out v ht.out H5.out q6;rw[Eng.upd_congr (e.repTell i o v) i (fun o=>{ o with price:=v 3,shown:=0 }) (fun _=>{ Eng.repO o (v 4) with price:=v 3,shown:=0 }) (fun x hx=>by obtain rfl:Eng.repO o (v 4)=x:=Option.some.inj (HA4.out.symm.trans hx);rfl)]at q;exact q
    have HA5:Hid (((e.repTell i o v).upd i fun _=>{ Eng.repO o (v 4) with price:=v 3,shown:=0 }).all[i]? =some { Eng.repO o (v 4) with price:=v 3,shown:=0 }):=Eng.updc_at _ _ _ _ HA4.out;have HL5:Hid (((e.repTell i o v).upd i fun _=>{ Eng.repO o (v 4) with price:=v 3,shown:=0 }).all.length=e.all.length):=by show _=_;rw[Eng.upd_len];exact HLN.out
    have HRM5:Hid (Room 2001 ((e.repTell i o v).upd i fun _=>{ Eng.repO o (v 4) with price:=v 3,shown:=0 })):=((hr.grew HGR.out HLN.out (by omega)).mono (m:=2001) (by omega)).grew (Eng.Grew.upd _ i _) (Eng.upd_len _ _ _) (by omega);go_wp2_with fail;refine(zGa i { Eng.repO o (v 4) with price:=v 3,shown:=0 } (by rw[HL5.out];exact HR5.out) HI5.out HA5.out hs.out rfl ht.out HRM5.out ⟨hsu.v0,hsu.v1,hsu.w0,hsu.w1⟩ ⟨hd.len,hd.bd⟩).mono ?_;rintro en w6 ⟨rfl,hr6,ht6⟩;have HR6:=hid hr6;have HT6:=hid (HT5.out.trans ht6);clear hr6 ht6 v3 p9 p10 p13 g9 g13;go_wp2;refine bodyPost_ret (v:=.tuple #[]) (by simp[results,Tryz.results152,go_sem]) rfl ⟨rfl,?_,HT6.out⟩;have q:=HR6.out;rw[HL5.out,←HE.out,←HEND.out]at q;exact q
  all_goals
   have f3:=HO.out.froz (i*15+3);go_wp2_with fail;have HRa:Hid (RefRep F base (W4.setCell ⟨g,i*15+3,none⟩ (.int .i64 (v 4))) b (e.upd i fun _=>{ o with qty:=v 4 }) dv (.slice (some ⟨g,0,none⟩) e.all.length cap)):=HR.out.setO i 3 (v 4) o _ HAT.out rfl (by omega);have HTa:Hid (Touch F w (W4.setCell ⟨g,i*15+3,none⟩ (.int .i64 (v 4)))):=(HSm.out.touch (F:=F)).set g _ _ hF;have HVa:=hid (HVT.out _ HTa.out);clear v0 v3 v4 o2 o3 o9 o11 c1 c2 f3 HR HO HV HSm;generalize W4.setCell ⟨g,i*15+3,none⟩ (.int .i64 (v 4))=Y1 at *;have v4:=HVa.out.c4;have HA1:Hid ((e.upd i fun _=>{ o with qty:=v 4 }).all[i]? =some { o with qty:=v 4 }):=Eng.updc_at _ _ _ _ HAT.out;have o11:Y1.cell? ⟨g,i*15+11,none⟩=some (.int .i64 o.filled):=by have q:=HRa.out.ords.1.cell i 11 _ _ HA1.out rfl;exact q
   have o10:Y1.cell? ⟨g,i*15+10,none⟩=some (.int .i64 o.opn):=by have q:=HRa.out.ords.1.cell i 10 _ _ HA1.out rfl;exact q
   have f10:=HRa.out.ords.1.froz (i*15+10);apply merge
   ·intro hh;go_region_law(fail);all_goals exact hh
   rw[zBv (v 4 - o.filled) (by omega) (by omega)];have HRb:Hid (RefRep F base (Y1.setCell ⟨g,i*15+10,none⟩ (.int .i64 (v 4 - o.filled))).drew b (e.upd i fun _=>Eng.repO o (v 4)) dv (.slice (some ⟨g,0,none⟩) e.all.length cap)):=by
    have h1:=HRa.out.setO i 10 (v 4 - o.filled) _ (Eng.repO o (v 4)) HA1.out rfl (by omega);rw[Eng.upd2]at h1;exact h1.drew
   have HTb:Hid (Touch F w (Y1.setCell ⟨g,i*15+10,none⟩ (.int .i64 (v 4 - o.filled))).drew):=(HTa.out.set g _ _ hF).drew;clear v4 o11 o10 f10 HRa HTa HVa HA1;generalize (Y1.setCell ⟨g,i*15+10,none⟩ (.int .i64 (v 4 - o.filled))).drew=Y2 at *;have HVb:=hid (HVT.out _ HTb.out);have HAb:Hid ((e.upd i fun _=>Eng.repO o (v 4)).all[i]? =some (Eng.repO o (v 4))):=Eng.updc_at _ _ _ _ HAT.out;have v0:=HVb.out.c0;have v3:=HVb.out.c3;have v4:=HVb.out.c4;have hvY:vb<Y2.heap.size:=Nat.lt_of_lt_of_le hvl HTb.out.size;have hnY:Y2.heap.size≠vb:=by omega
   go_wp2_with fail;go_region_held3(fun X=>X.cell? ⟨vb,1,none⟩=some (.int .i64 (v 0))∧X.cell? ⟨vb,4,none⟩=some (.int .i64 (v 3))∧X.cell? ⟨vb,5,none⟩=some (.int .i64 (v 4))) (first|exact⟨v0,v3,v4⟩|exact⟨(World.cell?_alloc_lt _ _ ⟨vb,1,none⟩ hvY).trans v0,(World.cell?_alloc_lt _ _ ⟨vb,4,none⟩ hvY).trans v3,(World.cell?_alloc_lt _ _ ⟨vb,5,none⟩ hvY).trans v4⟩|go_keep) (fail);have HRc:=hid ((HRb.out.alloc (.cells (recCells 5 0 (v 0) 0 (v 3) (v 4) 0) 220)).drew);have HTc:=hid ((HTb.out.alloc (.cells (recCells 5 0 (v 0) 0 (v 3) (v 4) 0) 220)).drew);have HBr:Hid ((Y2.alloc (.cells (recCells 5 0 (v 0) 0 (v 3) (v 4) 0) 220)).drew.heap[Y2.heap.size]? =some (.cells (recCells 5 0 (v 0) 0 (v 3) (v 4) 0) 220 (0,0))):=heap_alloc_new Y2 _;have hrw:Hid (w.heap.size≤Y2.heap.size):=HTb.out.size;have hgr:g≠Y2.heap.size:=by have:=HTb.out.size;omega
   clear v0 v3 v4 HVb HRb HTb hvY hnY;generalize (Y2.alloc (.cells (recCells 5 0 (v 0) 0 (v 3) (v 4) 0) 220)).drew=Y3 at *;generalize Y2.heap.size=rb at *;have HVc:=hid (HVT.out _ HTc.out);have v3:=HVc.out.c3;have o10:Y3.cell? ⟨g,i*15+10,none⟩=some (.int .i64 (v 4 - o.filled)):=by have q:=HRc.out.ords.1.cell i 10 _ _ HAb.out rfl;exact q
   have o13:Y3.cell? ⟨g,i*15+13,none⟩=some (.int .i64 o.shown):=by have q:=HRc.out.ords.1.cell i 13 _ _ HAb.out rfl;exact q
   have o2:Y3.cell? ⟨g,i*15+2,none⟩=some (.int .i64 o.typ):=by have q:=HRc.out.ords.1.cell i 2 _ _ HAb.out rfl;exact q
   have f13:=HRc.out.ords.1.froz (i*15+13);have r0:Y3.cell? ⟨rb,0,none⟩=some (.int .i64 5):=by simp[World.cell?,HBr.out]
   have r1:Y3.cell? ⟨rb,1,none⟩=some (.int .i64 0):=by simp[World.cell?,HBr.out]
   have r2:Y3.cell? ⟨rb,2,none⟩=some (.int .i64 (v 0)):=by simp[World.cell?,HBr.out]
   have r3:Y3.cell? ⟨rb,3,none⟩=some (.int .i64 0):=by simp[World.cell?,HBr.out]
   have r4:Y3.cell? ⟨rb,4,none⟩=some (.int .i64 (v 3)):=by simp[World.cell?,HBr.out]
   have r5:Y3.cell? ⟨rb,5,none⟩=some (.int .i64 (v 4)):=by simp[World.cell?,HBr.out]
   have r6:Y3.cell? ⟨rb,6,none⟩=some (.int .i64 0):=by simp[World.cell?,HBr.out]
   have fr6:Y3.frozen? ⟨rb,6,none⟩=false:=by simp[World.frozen?,HBr.out]
   have HRM:Hid (Room 1 (e.upd i fun _=>Eng.repO o (v 4))):=⟨by have:=hr.seq;show e.seq+1≤_;omega,by have:=hr.stm;show e.stamp+1≤_;omega,by have:=hr.out;show e.out.length+22*1≤_;omega,by rw[Eng.upd_len];exact hr.len,by have:=hr.drw;show e.drawn+1≤_;omega⟩;have HID:Hid (nat63 (v 0)):=n63 _ hv0.id0 (by have:=hv0.id1;omega);have HRd:Hid (RefRep F base (Y3.setCell ⟨rb,6,none⟩ (.int .i64 1)) b (e.upd i fun _=>Eng.repO o (v 4)) dv (.slice (some ⟨g,0,none⟩) e.all.length cap)):=HRc.out.far HBr.out (by decide) (by decide) (by decide) 6 _;have HTd:Hid (Touch F w (Y3.setCell ⟨rb,6,none⟩ (.int .i64 1))):=HTc.out.set rb 6 _ (HUP.out rb hrw.out);have HBd:Hid ((Y3.setCell ⟨rb,6,none⟩ (.int .i64 1)).heap[rb]? =some (.cells (recCells 5 0 (v 0) 0 (v 3) (v 4) 1) 220 (0,0))):=zA8 _ _ _ _ _ _ _ HBr.out;have HDO:Hid ((e.upd i fun _=>Eng.repO o (v 4)).all[i]? =some (Eng.repO o (v 4))):=HAb.out
   have HPR:Hid (nat63 (v 3)∧nat63 (v 4)):=⟨n63 _ hv3.1 hv3.2,n63 _ hv4.1 hv4.2⟩;have kk1:=HK.out.whole;have kk2:=HK.out.sum;have kk3:=HK.out.live hs.out;have kk4:=HK.out.shn0;have kk5:v 4≤o.qty:=by omega
   have kk6:=HK.out.shn1;have HKK:=hid (And.intro kk1 (And.intro kk2 (And.intro kk3 (And.intro kk4 (And.intro kk5 kk6)))));have HEK:Hid (∀n:Int,n=(if v 4 - o.filled<o.shown then v 4 - o.filled else o.shown)→e.replace v=((e.upd i fun _=>{ Eng.repO o (v 4) with shown:=n }).tell 5 (v 0) 0 (v 3) (v 4) 1)):=fun n hn=>by
    rw[HEND.out];unfold Eng.repEnd;rw[KP.out,if_pos rfl];rw[Eng.upd_congr (e.repTell i o v) i _ (fun _=>{ Eng.repO o (v 4) with shown:=n }) (fun x hx=>by
     obtain rfl:Eng.repO o (v 4)=x:=Option.some.inj (HAb.out.symm.trans hx);rw[hn];rfl)]
    unfold Eng.repTell;rw[KP.out,Eng.tell_upd,Eng.upd2];rfl
   clear kk1 kk2 kk3 kk4 kk5 kk6;by_cases s1:v 4 - o.filled<o.shown
   ·have s1b:decide (v 4 - o.filled<o.shown)=true:=by simpa using s1
    go_wp2_with fail;clear r0 r1 r2 r3 r4 r5 r6 fr6 o10 o13 o2 f13 v3;generalize Y3.setCell ⟨rb,6,none⟩ (.int .i64 1)=Z1 at *;have o10:Z1.cell? ⟨g,i*15+10,none⟩=some (.int .i64 (v 4 - o.filled)):=by have q:=HRd.out.ords.1.cell i 10 _ _ HDO.out rfl;exact q
    have o13:Z1.cell? ⟨g,i*15+13,none⟩=some (.int .i64 o.shown):=by have q:=HRd.out.ords.1.cell i 13 _ _ HDO.out rfl;exact q
    have o2:Z1.cell? ⟨g,i*15+2,none⟩=some (.int .i64 o.typ):=by have q:=HRd.out.ords.1.cell i 2 _ _ HDO.out rfl;exact q
    go_quiet (fail);have HRe:=hid (HRd.out.drewN nq);have HTe:=hid (HTd.out.drewN nq);have HBe:Hid ((Z1.drewN nq).heap[rb]? =some (.cells (recCells 5 0 (v 0) 0 (v 3) (v 4) 1) 220 (0,0))):=HBd.out;clear o10 o13 o2 HRd HTd HBd;generalize Z1.drewN nq=Z2 at *;have o10:Z2.cell? ⟨g,i*15+10,none⟩=some (.int .i64 (v 4 - o.filled)):=by have q:=HRe.out.ords.1.cell i 10 _ _ HDO.out rfl;exact q
    have o13:Z2.cell? ⟨g,i*15+13,none⟩=some (.int .i64 o.shown):=by have q:=HRe.out.ords.1.cell i 13 _ _ HDO.out rfl;exact q
    have f13:=HRe.out.ords.1.froz (i*15+13);have r0:Z2.cell? ⟨rb,0,none⟩=some (.int .i64 5):=by simp[World.cell?,HBe.out]
    have r1:Z2.cell? ⟨rb,1,none⟩=some (.int .i64 0):=by simp[World.cell?,HBe.out]
    have r2:Z2.cell? ⟨rb,2,none⟩=some (.int .i64 (v 0)):=by simp[World.cell?,HBe.out]
    have r3:Z2.cell? ⟨rb,3,none⟩=some (.int .i64 0):=by simp[World.cell?,HBe.out]
    have r4:Z2.cell? ⟨rb,4,none⟩=some (.int .i64 (v 3)):=by simp[World.cell?,HBe.out]
    have r5:Z2.cell? ⟨rb,5,none⟩=some (.int .i64 (v 4)):=by simp[World.cell?,HBe.out]
    have r6:Z2.cell? ⟨rb,6,none⟩=some (.int .i64 1):=by simp[World.cell?,HBe.out]
    have HF:=hid (HEK.out (v 4 - o.filled) (by rw[if_pos s1]));have HRf:Hid (RefRep F base (Z2.setCell ⟨g,i*15+13,none⟩ (.int .i64 (v 4 - o.filled))) b (e.upd i fun _=>{ Eng.repO o (v 4) with shown:=v 4 - o.filled }) dv (.slice (some ⟨g,0,none⟩) e.all.length cap)):=by
     have h1:=HRe.out.setO i 13 (v 4 - o.filled) _ { Eng.repO o (v 4) with shown:=v 4 - o.filled } HDO.out rfl (by omega);rw[Eng.upd2]at h1;exact h1
    have HTf:=hid (HTe.out.set g (i*15+13) (.int .i64 (v 4 - o.filled)) hF);go_wp2_with fail;refine(zAd HRf.out HTf.out 5 (v 0) 0 (v 3) (v 4) 1 ⟨HRM.out.seq,HRM.out.stm,HRM.out.out,by rw[Eng.upd_len];exact hr.len,HRM.out.drw⟩ (n63 5 (by omega) (by omega)) HID.out (n63 0 (by omega) (by omega)) HPR.out.1 HPR.out.2 (n63 1 (by omega) (by omega)) _ rfl rfl rfl rfl).mono ?_;rintro en w4 ⟨rfl,hr4,ht4⟩;have HR4:=hid hr4;have HT4:=hid ht4;clear hr4 ht4 r0 r1 r2 r3 r4 r5 r6 o10 o13 f13;go_wp2;refine bodyPost_ret (v:=.tuple #[]) (by simp[results,Tryz.results152,go_sem]) rfl ⟨rfl,?_,HT4.out⟩;rw[HF.out];exact HR4.out
   ·have s1b:decide (v 4 - o.filled<o.shown)=false:=by simpa using s1
    by_cases s2:0<o.shown
    ·have s2b:decide (0<o.shown)=true:=by simpa using s2
     cases s3:(o.typ != 2)
     ·have h3:True:=trivial;clear h3;go_wp2_with fail;clear r0 r1 r2 r3 r4 r5 r6 fr6 o10 o13 o2 f13 v3;generalize Y3.setCell ⟨rb,6,none⟩ (.int .i64 1)=Z1 at *;have o10:Z1.cell? ⟨g,i*15+10,none⟩=some (.int .i64 (v 4 - o.filled)):=by have q:=HRd.out.ords.1.cell i 10 _ _ HDO.out rfl;exact q
      have o13:Z1.cell? ⟨g,i*15+13,none⟩=some (.int .i64 o.shown):=by have q:=HRd.out.ords.1.cell i 13 _ _ HDO.out rfl;exact q
      have o2:Z1.cell? ⟨g,i*15+2,none⟩=some (.int .i64 o.typ):=by have q:=HRd.out.ords.1.cell i 2 _ _ HDO.out rfl;exact q
      go_quiet (fail);have HRe:=hid (HRd.out.drewN nq);have HTe:=hid (HTd.out.drewN nq);have HBe:Hid ((Z1.drewN nq).heap[rb]? =some (.cells (recCells 5 0 (v 0) 0 (v 3) (v 4) 1) 220 (0,0))):=HBd.out;clear o10 o13 o2 HRd HTd HBd;generalize Z1.drewN nq=Z2 at *;have o10:Z2.cell? ⟨g,i*15+10,none⟩=some (.int .i64 (v 4 - o.filled)):=by have q:=HRe.out.ords.1.cell i 10 _ _ HDO.out rfl;exact q
      have o13:Z2.cell? ⟨g,i*15+13,none⟩=some (.int .i64 o.shown):=by have q:=HRe.out.ords.1.cell i 13 _ _ HDO.out rfl;exact q
      have f13:=HRe.out.ords.1.froz (i*15+13);have r0:Z2.cell? ⟨rb,0,none⟩=some (.int .i64 5):=by simp[World.cell?,HBe.out]
      have r1:Z2.cell? ⟨rb,1,none⟩=some (.int .i64 0):=by simp[World.cell?,HBe.out]
      have r2:Z2.cell? ⟨rb,2,none⟩=some (.int .i64 (v 0)):=by simp[World.cell?,HBe.out]
      have r3:Z2.cell? ⟨rb,3,none⟩=some (.int .i64 0):=by simp[World.cell?,HBe.out]
      have r4:Z2.cell? ⟨rb,4,none⟩=some (.int .i64 (v 3)):=by simp[World.cell?,HBe.out]
      have r5:Z2.cell? ⟨rb,5,none⟩=some (.int .i64 (v 4)):=by simp[World.cell?,HBe.out]
      have r6:Z2.cell? ⟨rb,6,none⟩=some (.int .i64 1):=by simp[World.cell?,HBe.out]
      have HF:=hid (HEK.out (o.shown) (by rw[if_neg (by omega)]));have HRf:Hid (RefRep F base Z2 b (e.upd i fun _=>{ Eng.repO o (v 4) with shown:=o.shown }) dv (.slice (some ⟨g,0,none⟩) e.all.length cap)):=HRe.out;have HTf:=hid HTe.out;go_wp2_with fail;refine(zAd HRf.out HTf.out 5 (v 0) 0 (v 3) (v 4) 1 ⟨HRM.out.seq,HRM.out.stm,HRM.out.out,by rw[Eng.upd_len];exact hr.len,HRM.out.drw⟩ (n63 5 (by omega) (by omega)) HID.out (n63 0 (by omega) (by omega)) HPR.out.1 HPR.out.2 (n63 1 (by omega) (by omega)) _ rfl rfl rfl rfl).mono ?_;rintro en w4 ⟨rfl,hr4,ht4⟩;have HR4:=hid hr4;have HT4:=hid ht4;clear hr4 ht4 r0 r1 r2 r3 r4 r5 r6 o10 o13 f13;go_wp2;refine bodyPost_ret (v:=.tuple #[]) (by simp[results,Tryz.results152,go_sem]) rfl ⟨rfl,?_,HT4.out⟩;rw[HF.out];exact HR4.out
     ·have heq:Hid (v 4 - o.filled=o.shown):=by
       show _=_;obtain⟨a1,a2,a3,a4,a5,a6⟩:=HKK.out;rcases a1 (by simpa using s3) with q|q<;>omega
      go_wp2_with fail;clear r0 r1 r2 r3 r4 r5 r6 fr6 o10 o13 o2 f13 v3;generalize Y3.setCell ⟨rb,6,none⟩ (.int .i64 1)=Z1 at *;have o10:Z1.cell? ⟨g,i*15+10,none⟩=some (.int .i64 (v 4 - o.filled)):=by have q:=HRd.out.ords.1.cell i 10 _ _ HDO.out rfl;exact q
      have o13:Z1.cell? ⟨g,i*15+13,none⟩=some (.int .i64 o.shown):=by have q:=HRd.out.ords.1.cell i 13 _ _ HDO.out rfl;exact q
      have o2:Z1.cell? ⟨g,i*15+2,none⟩=some (.int .i64 o.typ):=by have q:=HRd.out.ords.1.cell i 2 _ _ HDO.out rfl;exact q
      go_quiet (fail);have HRe:=hid (HRd.out.drewN nq);have HTe:=hid (HTd.out.drewN nq);have HBe:Hid ((Z1.drewN nq).heap[rb]? =some (.cells (recCells 5 0 (v 0) 0 (v 3) (v 4) 1) 220 (0,0))):=HBd.out;clear o10 o13 o2 HRd HTd HBd;generalize Z1.drewN nq=Z2 at *;have o10:Z2.cell? ⟨g,i*15+10,none⟩=some (.int .i64 (v 4 - o.filled)):=by have q:=HRe.out.ords.1.cell i 10 _ _ HDO.out rfl;exact q
      have o13:Z2.cell? ⟨g,i*15+13,none⟩=some (.int .i64 o.shown):=by have q:=HRe.out.ords.1.cell i 13 _ _ HDO.out rfl;exact q
      have f13:=HRe.out.ords.1.froz (i*15+13);have r0:Z2.cell? ⟨rb,0,none⟩=some (.int .i64 5):=by simp[World.cell?,HBe.out]
      have r1:Z2.cell? ⟨rb,1,none⟩=some (.int .i64 0):=by simp[World.cell?,HBe.out]
      have r2:Z2.cell? ⟨rb,2,none⟩=some (.int .i64 (v 0)):=by simp[World.cell?,HBe.out]
      have r3:Z2.cell? ⟨rb,3,none⟩=some (.int .i64 0):=by simp[World.cell?,HBe.out]
      have r4:Z2.cell? ⟨rb,4,none⟩=some (.int .i64 (v 3)):=by simp[World.cell?,HBe.out]
      have r5:Z2.cell? ⟨rb,5,none⟩=some (.int .i64 (v 4)):=by simp[World.cell?,HBe.out]
      have r6:Z2.cell? ⟨rb,6,none⟩=some (.int .i64 1):=by simp[World.cell?,HBe.out]
      have HF:=hid (HEK.out (v 4 - o.filled) (by rw[if_neg (by omega)];exact heq.out));have HRf:Hid (RefRep F base (Z2.setCell ⟨g,i*15+13,none⟩ (.int .i64 (v 4 - o.filled))) b (e.upd i fun _=>{ Eng.repO o (v 4) with shown:=v 4 - o.filled }) dv (.slice (some ⟨g,0,none⟩) e.all.length cap)):=by
       have h1:=HRe.out.setO i 13 (v 4 - o.filled) _ { Eng.repO o (v 4) with shown:=v 4 - o.filled } HDO.out rfl (by omega);rw[Eng.upd2]at h1;exact h1
      have HTf:=hid (HTe.out.set g (i*15+13) (.int .i64 (v 4 - o.filled)) hF);go_wp2_with fail;refine(zAd HRf.out HTf.out 5 (v 0) 0 (v 3) (v 4) 1 ⟨HRM.out.seq,HRM.out.stm,HRM.out.out,by rw[Eng.upd_len];exact hr.len,HRM.out.drw⟩ (n63 5 (by omega) (by omega)) HID.out (n63 0 (by omega) (by omega)) HPR.out.1 HPR.out.2 (n63 1 (by omega) (by omega)) _ rfl rfl rfl rfl).mono ?_;rintro en w4 ⟨rfl,hr4,ht4⟩;have HR4:=hid hr4;have HT4:=hid ht4;clear hr4 ht4 r0 r1 r2 r3 r4 r5 r6 o10 o13 f13;go_wp2;refine bodyPost_ret (v:=.tuple #[]) (by simp[results,Tryz.results152,go_sem]) rfl ⟨rfl,?_,HT4.out⟩;rw[HF.out];exact HR4.out
    ·have s2b:decide (0<o.shown)=false:=by simpa using s2
     go_wp2_with fail;clear r0 r1 r2 r3 r4 r5 r6 fr6 o10 o13 o2 f13 v3;generalize Y3.setCell ⟨rb,6,none⟩ (.int .i64 1)=Z1 at *;have o10:Z1.cell? ⟨g,i*15+10,none⟩=some (.int .i64 (v 4 - o.filled)):=by have q:=HRd.out.ords.1.cell i 10 _ _ HDO.out rfl;exact q
     have o13:Z1.cell? ⟨g,i*15+13,none⟩=some (.int .i64 o.shown):=by have q:=HRd.out.ords.1.cell i 13 _ _ HDO.out rfl;exact q
     have o2:Z1.cell? ⟨g,i*15+2,none⟩=some (.int .i64 o.typ):=by have q:=HRd.out.ords.1.cell i 2 _ _ HDO.out rfl;exact q
     go_quiet (fail);have HRe:=hid (HRd.out.drewN nq);have HTe:=hid (HTd.out.drewN nq);have HBe:Hid ((Z1.drewN nq).heap[rb]? =some (.cells (recCells 5 0 (v 0) 0 (v 3) (v 4) 1) 220 (0,0))):=HBd.out;clear o10 o13 o2 HRd HTd HBd;generalize Z1.drewN nq=Z2 at *;have o10:Z2.cell? ⟨g,i*15+10,none⟩=some (.int .i64 (v 4 - o.filled)):=by have q:=HRe.out.ords.1.cell i 10 _ _ HDO.out rfl;exact q
     have o13:Z2.cell? ⟨g,i*15+13,none⟩=some (.int .i64 o.shown):=by have q:=HRe.out.ords.1.cell i 13 _ _ HDO.out rfl;exact q
     have f13:=HRe.out.ords.1.froz (i*15+13);have r0:Z2.cell? ⟨rb,0,none⟩=some (.int .i64 5):=by simp[World.cell?,HBe.out]
     have r1:Z2.cell? ⟨rb,1,none⟩=some (.int .i64 0):=by simp[World.cell?,HBe.out]
     have r2:Z2.cell? ⟨rb,2,none⟩=some (.int .i64 (v 0)):=by simp[World.cell?,HBe.out]
     have r3:Z2.cell? ⟨rb,3,none⟩=some (.int .i64 0):=by simp[World.cell?,HBe.out]
     have r4:Z2.cell? ⟨rb,4,none⟩=some (.int .i64 (v 3)):=by simp[World.cell?,HBe.out]
     have r5:Z2.cell? ⟨rb,5,none⟩=some (.int .i64 (v 4)):=by simp[World.cell?,HBe.out]
     have r6:Z2.cell? ⟨rb,6,none⟩=some (.int .i64 1):=by simp[World.cell?,HBe.out]
     have HF:=hid (HEK.out (o.shown) (by rw[if_neg (by omega)]));have HRf:Hid (RefRep F base Z2 b (e.upd i fun _=>{ Eng.repO o (v 4) with shown:=o.shown }) dv (.slice (some ⟨g,0,none⟩) e.all.length cap)):=HRe.out;have HTf:=hid HTe.out;go_wp2_with fail;refine(zAd HRf.out HTf.out 5 (v 0) 0 (v 3) (v 4) 1 ⟨HRM.out.seq,HRM.out.stm,HRM.out.out,by rw[Eng.upd_len];exact hr.len,HRM.out.drw⟩ (n63 5 (by omega) (by omega)) HID.out (n63 0 (by omega) (by omega)) HPR.out.1 HPR.out.2 (n63 1 (by omega) (by omega)) _ rfl rfl rfl rfl).mono ?_;rintro en w4 ⟨rfl,hr4,ht4⟩;have HR4:=hid hr4;have HT4:=hid ht4;clear hr4 ht4 r0 r1 r2 r3 r4 r5 r6 o10 o13 f13;go_wp2;refine bodyPost_ret (v:=.tuple #[]) (by simp[results,Tryz.results152,go_sem]) rfl ⟨rfl,?_,HT4.out⟩;rw[HF.out];exact HR4.out
end Go.Proofs.YtilbfpnpkkkpgaaGreatDoor
