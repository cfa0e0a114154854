import Derived.Test.YtehmdohpmpbnnaaGreatDoorQ00
import Derived.Test.YtehmdohpmpbnnaaGreatDoorQ27
set_option linter.all false
set_option maxRecDepth 100000
set_option maxHeartbeats 8000000
namespace Go.Proofs.YtehmdohpmpbnnaaGreatDoor
variable{e:bf}{F:Nat→Prop}{base b i:Nat}{dv av:Value}{o:Ord}
open Go.Proofs.Tryz
open Go.Extern Go.RowKit
theorem dn.slice_of{w:World}(h:dn F base w b e dv av)(ho:e.all[i]? =some o):∃g cap,av=sL g e.all.length cap:=by
 rcases h.shape with⟨_,B⟩|⟨g,cap,A,_⟩
 ·rw[B]at ho;cases ho
 exact⟨g,cap,A⟩
theorem zCt{id:Int}(h:e.find id=none):e.tu id=none:=by unfold bf.tu;rw[h]
theorem zCu{id:Int}(h:e.find id=some i)(ho:e.all[i]? =some o):e.tu id=if o.dm=1 then some i else none:=by
 unfold bf.tu;rw[h];simp only[ho]
theorem dn.far{W:World}{rb:Nat}{cur:Array Value}{ty:TypeId}{fr:Nat×Nat}(h:dn F base W b e dv av)(hb:W.heap[rb]? =some (.cells cur ty fr))(t1:ty≠118)(t2:ty≠155)(t3:ty≠3)(j:Nat)(u:Value):dn F base (W.setCell (iA rb j) u) b e dv av:=by
 have G:∀{t:TypeId} {s:Nat} {v:Value} {n:Nat} {xs:List Value},t≠ty→W.ownsRow base t s v n xs→(W.setCell (iA rb j) u).ownsRow base t s v n xs:=by
  intro t s v n xs J E;refine⟨E.1,?_⟩;rcases E.2 with H|⟨g,D,C,K,I,A,r⟩
  ·exact .inl H
  refine .inr ⟨g,D,C,K,I,?_,r⟩;rw[Below.heap_setCell _ _ _ _ (fun B=>?_)]
  ·exact A
  have B:g=rb:=B;rw[B,hb]at A;injection A with A;injection A with _ A _;exact J A.symm
 refine⟨?_,h.own,fun k hk=>h.up k (by simpa using hk),by simpa using h.low,G (fun B=>t3 B.symm) h.dr,G (fun B=>t2 B.symm) h.al,h.alF⟩;rw[Below.heap_setCell _ _ _ _ (fun B=>?_)]
 ·exact h.blk
 have B:b=rb:=B;have A:=h.blk;rw[B,hb]at A;injection A with A;injection A with _ A _;exact t1 A
theorem bf.rep_sweep_inv(h:bf.fe e)(ho:e.all[i]? =some o)(hs:o.dm=1)(v:Nat→Int)(ht:o.typ≠3)(h5:(if o.typ=3 then v 3 == 0 else bf.rf (v 3) 1 e.mp)=true)(h6:bf.rf (v 4) (o.bu+1) e.mq=true):bf.fe ((e.jh i o v).upd i fun o=>{ o with bn:=v 3,bg:=0 }):=by
 have k:=h.ok i o ho;rw[bf.dH]at h6;rw[if_neg ht,bf.dH]at h5;have D:=h.mq1;have A:=k.live hs;have C:=k.fJ;have B:=k.sum;show bf.fe (((e.upd i fun _=>bf.jd o (v 4)).upd i fun o=>{ o with bn:=v 3,bg:=0 }).tell _ _ _ _ _ _);rw[bf.aV];refine bf.fe.tell (?_:bf.fe (e.upd i fun _=>{ bf.jd o (v 4) with bn:=v 3,bg:=0 })) _ _ _ _ _ _;rw[bf.nk e i _ (fun x=>{ x with mg:=v 4,opn:=v 4 - x.bu,bn:=v 3,bg:=0 }) (fun x hx=>by obtain rfl:o=x:=Option.some.inj (ho.symm.trans hx);rfl)];refine h.upd i _ (fun x hx=>?_) (fun _=>rfl) (fun x hx hx2=>absurd rfl hx2) (fun _ A=>A);obtain rfl:o=x:=Option.some.inj (ho.symm.trans hx)
 exact{ k with fH:=by show v 4≤1000;omega,dN:=by show 0≤v 4 - o.bu;omega,sum:=by show v 4 - o.bu+o.bu+o.cancelled=v 4;omega,kH:=by show(0:Int)≤0;omega,kJ:=by show 0≤v 4 - o.bu;omega,whole:=fun _=>.inl rfl,dead:=fun _=>rfl,lM:=by show 0≤v 3;omega,gY:=h5.2,shp:=fun A=>absurd A (by show¬(0:Int)<0;omega),own:=fun _=>h5.1 }
theorem zHq{w:World}{vb:Nat}{v:Nat→Int}(h:dn F base w b e dv av)(hv:VAt w vb v)(hvF:¬F vb)(hvl:vb<w.heap.size)(hI:bf.fe e)(hv0:bf.VOk v)(hv3:0≤v 3∧v 3≤4294967296)(hv4:0≤v 4∧v 4≤4294967296)(hr:Room 2100 e)(hsu:jR 1000 e)(hd:Dr e):
 Cl 110 #[iP b,.pointer (some (iA vb 1))] w fun en w'=>en=rV #[]∧dn F base w' b (e.replace v) dv av∧Touch F w w':=by
 have C:=hid h;have G:=hid hv;have A6:Hd (∀W:World,Touch F w W→VAt W vb v):=fun W hT=>hv.block (hT.block vb hvl hvF)
 have Bf:=hid (qX h (v 0) hr.len);have Bk:=hid h.up;have O:=hv.c0;have Am:Hd (∀(reason:Int) (W:World),0≤reason∧reason≤100→Same w W→Cl 70 #[iP b,iV (v 0),iV reason] W fun en w'=>en=rV #[]∧dn F base w' b (e.ny (v 0) reason) dv av∧Touch F w w'):=fun reason W hre hS=>by
  refine(cZ (h.same hS) (v 0) reason (hr.mono (by omega)) (n63 _ hv0.nC (by have:=hv0.nD;omega)) (n63 _ hre.1 (by omega))).mono ?_;rintro en w' ⟨e1,h1,h2⟩;exact⟨e1,h1,(hS.touch (F:=F)).trans h2⟩
 clear h hv;go_enter func110,ntmps110;go_wp2_with fail;refine Bf.mono ?_;rintro en w1 ⟨rfl,Bn⟩;cases Bn;have c5:w.cell? (iA b 5)=some av:=C.cell 5;rcases hf:e.find (v 0) with _|i
 ·have Bm:lN none= -1:=rfl;have HF:Hd (e.replace v=e.ny (v 0) 3):=by
   show _=_;rw[bf.aX,zCt hf]
  clear hf;go_wp2_with fail;refine(Am.o 3 _ ⟨by omega,by omega⟩ (Same.refl w)).mono ?_;rintro en w9 ⟨rfl,f,k⟩;have A3:=hid f;have A4:=hid k;clear f k O c5;go_wp2;refine bodyPost_ret (v:=.tuple #[]) (by simp[results,Tryz.results110,go_sem]) rfl ⟨rfl,?_,A4.o⟩;rw[HF.o];exact A3.o
 have Bm:lN (some i)=(i:Int):=rfl;obtain⟨o,ho,B6⟩:=bf.nL hf;obtain⟨g,u,rfl⟩:=C.o.slice_of ho;have hi:i<e.all.length:=(List.getElem?_eq_some_iff.1 ho).1;have Bx:(i:Int)<(e.all.length:Int):=by omega
 have Bw:¬(i:Int)<0:=by omega
 have By:=hr.len;obtain⟨hO,hF,Bu,-⟩:=C.o.jc;have D:=hid hO;have o8:=hO.cell i 8 o _ ho rfl;have B3:=hid (zCu hf ho);have A:=hid ho;have ko:=hI.ok i o ho;have HK:=hid ko;clear hO hf ho B6 ko;cases q8:(o.dm != 1);rotate_left
 ·have hs:Hd (¬o.dm=1):=by show¬_=_;simpa using q8
  have HF:Hd (e.replace v=e.ny (v 0) 3):=by
   show _=_;rw[bf.aX,B3.o,if_neg hs.out]
  go_wp2_with fail;refine(Am.o 3 _ ⟨by omega,by omega⟩ (Same.refl w)).mono ?_;rintro en w9 ⟨rfl,f,k⟩;have A3:=hid f;have A4:=hid k;clear f k O c5 o8;go_wp2;refine bodyPost_ret (v:=.tuple #[]) (by simp[results,Tryz.results110,go_sem]) rfl ⟨rfl,?_,A4.o⟩;rw[HF.o];exact A3.o
 have hs:Hd (o.dm=1):=by show _=_;simpa using q8
 have An:Hd (e.replace v=if(if o.typ=3 then v 3 == 0 else bf.rf (v 3) 1 e.mp)=false then e.ny (v 0) 5 else if bf.rf (v 4) (o.bu+1) e.mq=false then e.ny (v 0) 6 else e.aR i o v):=by
  show _=_;rw[bf.aX,B3.o,if_pos hs.out];simp only[A.o]
 have Bv:g<w.heap.size:=by
  rcases C.o.shape with⟨h1,_⟩|⟨g',Br,h1,_,_,_,h6⟩
  ·cases h1
  injection h1 with h1 _ _;injection h1 with h1;injection h1 with h1;rw[h1];exact h6
 have E:=hid (Same.refl w);have Bt:=hI.mq1;have Bz:=HK.fJ;have C0:o.bu≤1000:=by have:=HK.sum;have:=HK.dN;have:=HK.jN;have:=HK.fH;omega
 clear O c5 o8;have O:=G.c0;have K:=G.c3;have L:=G.c4;have M:w.cell? (iA g (i*15+2))=sI o.typ:=D.cell i 2 o _ A.o rfl;have p:w.cell? (iA g (i*15+3))=sI o.mg:=D.cell i 3 o _ A.o rfl;have s:w.cell? (iA g (i*15+9))=sI o.bn:=D.cell i 9 o _ A.o rfl;have B:w.cell? (iA g (i*15+11))=sI o.bu:=D.cell i 11 o _ A.o rfl;have c1:w.cell? (iA b 1)=sI e.mp:=C.cell 1;have c2:w.cell? (iA b 2)=sI e.mq:=C.cell 2;have c5:w.cell? (iA b 5)=some (sL g e.all.length u):=C.cell 5;have o8:w.cell? (iA g (i*15+8))=sI o.dm:=D.cell i 8 o _ A.o rfl;have Bs:decide ((i:Int)<0)=false:=by simp
 cases q3:(o.typ == 3)
 focus
  have ht:Hd (¬o.typ=3):=by show¬_=_;simpa using q3
  go_wp2_with fail;go_quiet ((go_at_call 151;exact Calls.quiet_of_same (jq _ _ _ _)));replace C:=hid (C.drewN nq);replace G:=hid (G.drewN nq);replace E:=hid (E.drewN nq);replace D:=hid C.jc.1;clear O K L M p s B c1 c2 c5 o8;generalize w.drewN nq=W1 at *;have O:=G.c0;have K:=G.c3;have L:=G.c4;have M:W1.cell? (iA g (i*15+2))=sI o.typ:=D.cell i 2 o _ A.o rfl;have p:W1.cell? (iA g (i*15+3))=sI o.mg:=D.cell i 3 o _ A.o rfl;have s:W1.cell? (iA g (i*15+9))=sI o.bn:=D.cell i 9 o _ A.o rfl;have B:W1.cell? (iA g (i*15+11))=sI o.bu:=D.cell i 11 o _ A.o rfl;have c1:W1.cell? (iA b 1)=sI e.mp:=C.cell 1;have c2:W1.cell? (iA b 2)=sI e.mq:=C.cell 2;cases q5:bf.rf (v 3) 1 e.mp
  ·have HF:Hd (e.replace v=e.ny (v 0) 5):=by
    show _=_;rw[An.o,if_pos (by rw[if_neg ht.out];exact q5)]
   go_wp2_with fail;refine(Am.o 5 _ ⟨by omega,by omega⟩ E.o).mono ?_;rintro en w9 ⟨rfl,f,k⟩;have A3:=hid f;have A4:=hid k;clear f k O K L M p s B c1 c2;go_wp2;refine bodyPost_ret (v:=.tuple #[]) (by simp[results,Tryz.results110,go_sem]) rfl ⟨rfl,?_,A4.o⟩;rw[HF.o];exact A3.o
  have H5:Hd ((if o.typ=3 then v 3 == 0 else bf.rf (v 3) 1 e.mp)=true):=by show _=_;rw[if_neg ht.out];exact q5
  have Bo:=nV (o.bu+1) (by omega) (by omega);go_wp2_with fail;go_quiet ((go_at_call 151;exact Calls.quiet_of_same (jq _ _ _ _)));replace C:=hid (C.drewN nq);replace G:=hid (G.drewN nq);replace E:=hid (E.drewN nq);replace D:=hid C.jc.1;clear O K L M p s B c1 c2;generalize W1.drewN nq=W2 at *;have O:=G.c0;have K:=G.c3;have L:=G.c4;have M:W2.cell? (iA g (i*15+2))=sI o.typ:=D.cell i 2 o _ A.o rfl;have p:W2.cell? (iA g (i*15+3))=sI o.mg:=D.cell i 3 o _ A.o rfl;have s:W2.cell? (iA g (i*15+9))=sI o.bn:=D.cell i 9 o _ A.o rfl;have B:W2.cell? (iA g (i*15+11))=sI o.bu:=D.cell i 11 o _ A.o rfl;have c1:W2.cell? (iA b 1)=sI e.mp:=C.cell 1;have c2:W2.cell? (iA b 2)=sI e.mq:=C.cell 2;cases q6:bf.rf (v 4) (o.bu+1) e.mq
  ·have HF:Hd (e.replace v=e.ny (v 0) 6):=by
    show _=_;rw[An.o,if_neg (by rw[H5.o];simp),if_pos q6]
   go_wp2_with fail;refine(Am.o 6 _ ⟨by omega,by omega⟩ E.o).mono ?_;rintro en w9 ⟨rfl,f,k⟩;have A3:=hid f;have A4:=hid k;clear f k O K L M p s B c1 c2;go_wp2;refine bodyPost_ret (v:=.tuple #[]) (by simp[results,Tryz.results110,go_sem]) rfl ⟨rfl,?_,A4.o⟩;rw[HF.o];exact A3.o
  have A9:Hd (e.replace v=e.aR i o v):=by
   show _=_;rw[An.o,if_neg (by rw[H5.o];simp),if_neg (by rw[q6];simp)]
  have h6:=(bf.dH _ _ _).1 q6;by_cases Ap:o.mg<v 4
  focus
   have Aq:decide (o.mg<v 4)=true:=by simpa using Ap
   go_wp2_with fail;go_quiet (fail);replace C:=hid (C.drewN nq);replace G:=hid (G.drewN nq);replace E:=hid (E.drewN nq);replace D:=hid C.jc.1;clear O K L M p s B c1 c2;generalize W2.drewN nq=W3 at *;have O:=G.c0;have K:=G.c3;have L:=G.c4;have M:W3.cell? (iA g (i*15+2))=sI o.typ:=D.cell i 2 o _ A.o rfl;have p:W3.cell? (iA g (i*15+3))=sI o.mg:=D.cell i 3 o _ A.o rfl;have s:W3.cell? (iA g (i*15+9))=sI o.bn:=D.cell i 9 o _ A.o rfl;have B:W3.cell? (iA g (i*15+11))=sI o.bu:=D.cell i 11 o _ A.o rfl;have c1:W3.cell? (iA b 1)=sI e.mp:=C.cell 1;have c2:W3.cell? (iA b 2)=sI e.mq:=C.cell 2;have KP:Hd (bf.zf o v=false):=by show _=_;unfold bf.zf;simp;omega
   go_wp2_with fail;go_quiet (fail);replace C:=hid (C.drewN nq);replace G:=hid (G.drewN nq);replace E:=hid (E.drewN nq);replace D:=hid C.jc.1;clear O K L M p s B c1 c2;generalize W3.drewN nq=W4 at *;have O:=G.c0;have K:=G.c3;have L:=G.c4;have M:W4.cell? (iA g (i*15+2))=sI o.typ:=D.cell i 2 o _ A.o rfl;have p:W4.cell? (iA g (i*15+3))=sI o.mg:=D.cell i 3 o _ A.o rfl;have s:W4.cell? (iA g (i*15+9))=sI o.bn:=D.cell i 9 o _ A.o rfl;have B:W4.cell? (iA g (i*15+11))=sI o.bu:=D.cell i 11 o _ A.o rfl;have c1:W4.cell? (iA b 1)=sI e.mp:=C.cell 1;have c2:W4.cell? (iA b 2)=sI e.mq:=C.cell 2
  rotate_left
  focus
   have Aq:decide (o.mg<v 4)=false:=by simpa using Ap
   go_wp2_with fail;go_quiet (fail);replace C:=hid (C.drewN nq);replace G:=hid (G.drewN nq);replace E:=hid (E.drewN nq);replace D:=hid C.jc.1;clear O K L M p s B c1 c2;generalize W2.drewN nq=W5 at *;have O:=G.c0;have K:=G.c3;have L:=G.c4;have M:W5.cell? (iA g (i*15+2))=sI o.typ:=D.cell i 2 o _ A.o rfl;have p:W5.cell? (iA g (i*15+3))=sI o.mg:=D.cell i 3 o _ A.o rfl;have s:W5.cell? (iA g (i*15+9))=sI o.bn:=D.cell i 9 o _ A.o rfl;have B:W5.cell? (iA g (i*15+11))=sI o.bu:=D.cell i 11 o _ A.o rfl;have c1:W5.cell? (iA b 1)=sI e.mp:=C.cell 1;have c2:W5.cell? (iA b 2)=sI e.mq:=C.cell 2;cases q9:(v 3 == o.bn)
   focus
    have KP:Hd (bf.zf o v=false):=by show _=_;unfold bf.zf;rw[q9];simp[ht.out]
    go_wp2_with fail;go_quiet (fail);replace C:=hid (C.drewN nq);replace G:=hid (G.drewN nq);replace E:=hid (E.drewN nq);replace D:=hid C.jc.1;clear O K L M p s B c1 c2;generalize W5.drewN nq=W4 at *;have O:=G.c0;have K:=G.c3;have L:=G.c4;have M:W4.cell? (iA g (i*15+2))=sI o.typ:=D.cell i 2 o _ A.o rfl;have p:W4.cell? (iA g (i*15+3))=sI o.mg:=D.cell i 3 o _ A.o rfl;have s:W4.cell? (iA g (i*15+9))=sI o.bn:=D.cell i 9 o _ A.o rfl;have B:W4.cell? (iA g (i*15+11))=sI o.bu:=D.cell i 11 o _ A.o rfl;have c1:W4.cell? (iA b 1)=sI e.mp:=C.cell 1;have c2:W4.cell? (iA b 2)=sI e.mq:=C.cell 2
   rotate_left
   focus
    have KP:Hd (bf.zf o v=true):=by show _=_;unfold bf.zf;rw[q9];simp;omega
    go_wp2_with fail;go_quiet (fail);replace C:=hid (C.drewN nq);replace G:=hid (G.drewN nq);replace E:=hid (E.drewN nq);replace D:=hid C.jc.1;clear O K L M p s B c1 c2;generalize W5.drewN nq=W4 at *;have O:=G.c0;have K:=G.c3;have L:=G.c4;have M:W4.cell? (iA g (i*15+2))=sI o.typ:=D.cell i 2 o _ A.o rfl;have p:W4.cell? (iA g (i*15+3))=sI o.mg:=D.cell i 3 o _ A.o rfl;have s:W4.cell? (iA g (i*15+9))=sI o.bn:=D.cell i 9 o _ A.o rfl;have B:W4.cell? (iA g (i*15+11))=sI o.bu:=D.cell i 11 o _ A.o rfl;have c1:W4.cell? (iA b 1)=sI e.mp:=C.cell 1;have c2:W4.cell? (iA b 2)=sI e.mq:=C.cell 2
  rotate_left
 rotate_left 3
 focus
  have ht:Hd (o.typ=3):=by show _=_;simpa using q3
  go_wp2_with fail;go_quiet ((go_at_call 151;exact Calls.quiet_of_same (jq _ _ _ _)));replace C:=hid (C.drewN nq);replace G:=hid (G.drewN nq);replace E:=hid (E.drewN nq);replace D:=hid C.jc.1;clear O K L M p s B c1 c2 c5 o8;generalize w.drewN nq=W51 at *;have O:=G.c0;have K:=G.c3;have L:=G.c4;have M:W51.cell? (iA g (i*15+2))=sI o.typ:=D.cell i 2 o _ A.o rfl;have p:W51.cell? (iA g (i*15+3))=sI o.mg:=D.cell i 3 o _ A.o rfl;have s:W51.cell? (iA g (i*15+9))=sI o.bn:=D.cell i 9 o _ A.o rfl;have B:W51.cell? (iA g (i*15+11))=sI o.bu:=D.cell i 11 o _ A.o rfl;have c1:W51.cell? (iA b 1)=sI e.mp:=C.cell 1;have c2:W51.cell? (iA b 2)=sI e.mq:=C.cell 2;cases q5:(v 3 != 0);rotate_left
  ·have HF:Hd (e.replace v=e.ny (v 0) 5):=by
    show _=_;rw[An.o,if_pos (by rw[if_pos ht.out];simpa using q5)]
   go_wp2_with fail;refine(Am.o 5 _ ⟨by omega,by omega⟩ E.o).mono ?_;rintro en w9 ⟨rfl,f,k⟩;have A3:=hid f;have A4:=hid k;clear f k O K L M p s B c1 c2;go_wp2;refine bodyPost_ret (v:=.tuple #[]) (by simp[results,Tryz.results110,go_sem]) rfl ⟨rfl,?_,A4.o⟩;rw[HF.o];exact A3.o
  have H5:Hd ((if o.typ=3 then v 3 == 0 else bf.rf (v 3) 1 e.mp)=true):=by show _=_;rw[if_pos ht.out];simpa using q5
  have Bo:=nV (o.bu+1) (by omega) (by omega);go_wp2_with fail;go_quiet ((go_at_call 151;exact Calls.quiet_of_same (jq _ _ _ _)));replace C:=hid (C.drewN nq);replace G:=hid (G.drewN nq);replace E:=hid (E.drewN nq);replace D:=hid C.jc.1;clear O K L M p s B c1 c2;generalize W51.drewN nq=W52 at *;have O:=G.c0;have K:=G.c3;have L:=G.c4;have M:W52.cell? (iA g (i*15+2))=sI o.typ:=D.cell i 2 o _ A.o rfl;have p:W52.cell? (iA g (i*15+3))=sI o.mg:=D.cell i 3 o _ A.o rfl;have s:W52.cell? (iA g (i*15+9))=sI o.bn:=D.cell i 9 o _ A.o rfl;have B:W52.cell? (iA g (i*15+11))=sI o.bu:=D.cell i 11 o _ A.o rfl;have c1:W52.cell? (iA b 1)=sI e.mp:=C.cell 1;have c2:W52.cell? (iA b 2)=sI e.mq:=C.cell 2;cases q6:bf.rf (v 4) (o.bu+1) e.mq
  ·have HF:Hd (e.replace v=e.ny (v 0) 6):=by
    show _=_;rw[An.o,if_neg (by rw[H5.o];simp),if_pos q6]
   go_wp2_with fail;refine(Am.o 6 _ ⟨by omega,by omega⟩ E.o).mono ?_;rintro en w9 ⟨rfl,f,k⟩;have A3:=hid f;have A4:=hid k;clear f k O K L M p s B c1 c2;go_wp2;refine bodyPost_ret (v:=.tuple #[]) (by simp[results,Tryz.results110,go_sem]) rfl ⟨rfl,?_,A4.o⟩;rw[HF.o];exact A3.o
  have A9:Hd (e.replace v=e.aR i o v):=by
   show _=_;rw[An.o,if_neg (by rw[H5.o];simp),if_neg (by rw[q6];simp)]
  have h6:=(bf.dH _ _ _).1 q6;by_cases Ap:o.mg<v 4
  ·have Aq:decide (o.mg<v 4)=true:=by simpa using Ap
   go_wp2_with fail;go_quiet (fail);replace C:=hid (C.drewN nq);replace G:=hid (G.drewN nq);replace E:=hid (E.drewN nq);replace D:=hid C.jc.1;clear O K L M p s B c1 c2;generalize W52.drewN nq=W53 at *;have O:=G.c0;have K:=G.c3;have L:=G.c4;have M:W53.cell? (iA g (i*15+2))=sI o.typ:=D.cell i 2 o _ A.o rfl;have p:W53.cell? (iA g (i*15+3))=sI o.mg:=D.cell i 3 o _ A.o rfl;have s:W53.cell? (iA g (i*15+9))=sI o.bn:=D.cell i 9 o _ A.o rfl;have B:W53.cell? (iA g (i*15+11))=sI o.bu:=D.cell i 11 o _ A.o rfl;have c1:W53.cell? (iA b 1)=sI e.mp:=C.cell 1;have c2:W53.cell? (iA b 2)=sI e.mq:=C.cell 2;have KP:Hd (bf.zf o v=false):=by show _=_;unfold bf.zf;simp;omega
   go_wp2_with fail;go_quiet (fail);replace C:=hid (C.drewN nq);replace G:=hid (G.drewN nq);replace E:=hid (E.drewN nq);replace D:=hid C.jc.1;clear O K L M p s B c1 c2;generalize W53.drewN nq=W54 at *;have O:=G.c0;have K:=G.c3;have L:=G.c4;have M:W54.cell? (iA g (i*15+2))=sI o.typ:=D.cell i 2 o _ A.o rfl;have p:W54.cell? (iA g (i*15+3))=sI o.mg:=D.cell i 3 o _ A.o rfl;have s:W54.cell? (iA g (i*15+9))=sI o.bn:=D.cell i 9 o _ A.o rfl;have B:W54.cell? (iA g (i*15+11))=sI o.bu:=D.cell i 11 o _ A.o rfl;have c1:W54.cell? (iA b 1)=sI e.mp:=C.cell 1;have c2:W54.cell? (iA b 2)=sI e.mq:=C.cell 2;have f3:=D.dz (i*15+3);go_wp2_with fail;have c:Hd (dn F base (W54.setCell (iA g (i*15+3)) (iV (v 4))) b (e.upd i fun _=>{ o with mg:=v 4 }) dv (sL g e.all.length u)):=C.bB i 3 (v 4) o _ A.o rfl (by omega);have A5:Hd (Touch F w (W54.setCell (iA g (i*15+3)) (iV (v 4)))):=(E.touch (F:=F)).set g _ _ hF
   have Ae:=hid (A6.o _ A5.o);clear O K L M p s B c1 c2 f3 C D G E;generalize W54.setCell (iA g (i*15+3)) (iV (v 4))=Y1 at *;have L:=Ae.c4;have y:Hd ((e.upd i fun _=>{ o with mg:=v 4 }).all[i]? =some { o with mg:=v 4 }):=bf.nu _ _ _ _ A.o;have B:Y1.cell? (iA g (i*15+11))=sI o.bu:=by have q:=c.jc.1.cell i 11 _ _ y.o rfl;exact q
   have J:Y1.cell? (iA g (i*15+10))=sI o.opn:=by have q:=c.jc.1.cell i 10 _ _ y.o rfl;exact q
   have Ao:=c.jc.1.dz (i*15+10);apply merge
   ·intro hh;go_region_law(fail);all_goals exact hh
   rw[nV (v 4 - o.bu) (by omega) (by omega)];have Ac:Hd (dn F base (Y1.setCell (iA g (i*15+10)) (iV (v 4 - o.bu))).drew b (e.upd i fun _=>bf.jd o (v 4)) dv (sL g e.all.length u)):=by
    have h1:=c.bB i 10 (v 4 - o.bu) _ (bf.jd o (v 4)) y.o rfl (by omega);rw[bf.jD]at h1;exact h1.drew
   have V:Hd (Touch F w (Y1.setCell (iA g (i*15+10)) (iV (v 4 - o.bu))).drew):=(A5.set g _ _ hF).drew;clear L B J Ao c A5 Ae y;generalize (Y1.setCell (iA g (i*15+10)) (iV (v 4 - o.bu))).drew=Y2 at *;have A0:=hid (A6.o _ V.o);have t:Hd ((e.upd i fun _=>bf.jd o (v 4)).all[i]? =some (bf.jd o (v 4))):=bf.nu _ _ _ _ A.o;have O:=A0.c0;have K:=A0.c3;have L:=A0.c4;have A1:vb<Y2.heap.size:=Nat.lt_of_lt_of_le hvl V.size;have Ar:Y2.heap.size≠vb:=by omega
   go_wp2_with fail;go_region_held3(fun X=>X.cell? (iA vb 1)=sI (v 0)∧X.cell? (iA vb 4)=sI (v 3)∧X.cell? (iA vb 5)=sI (v 4)) (first|exact⟨O,K,L⟩|exact⟨(World.cell?_alloc_lt _ _ (iA vb 1) A1).trans O,(World.cell?_alloc_lt _ _ (iA vb 4) A1).trans K,(World.cell?_alloc_lt _ _ (iA vb 5) A1).trans L⟩|go_keep) (fail);have Y:=hid ((Ac.alloc (.cells (lz 5 0 (v 0) 0 (v 3) (v 4) 0) 143)).drew);have A7:=hid ((V.alloc (.cells (lz 5 0 (v 0) 0 (v 3) (v 4) 0) 143)).drew);have I:Hd ((Y2.alloc (.cells (lz 5 0 (v 0) 0 (v 3) (v 4) 0) 143)).drew.heap[Y2.heap.size]? =some (.cells (lz 5 0 (v 0) 0 (v 3) (v 4) 0) 143 (0,0))):=heap_alloc_new Y2 _;have Az:Hd (w.heap.size≤Y2.heap.size):=V.size;have B5:g≠Y2.heap.size:=by have:=V.size;omega
   clear O K L A0 Ac V A1 Ar;generalize (Y2.alloc (.cells (lz 5 0 (v 0) 0 (v 3) (v 4) 0) 143)).drew=Y3 at *;generalize Y2.heap.size=rb at *;have Aj:=hid (A6.o _ A7.o);have K:=Aj.c3;have J:Y3.cell? (iA g (i*15+10))=sI (v 4 - o.bu):=by have q:=Y.jc.1.cell i 10 _ _ t.o rfl;exact q
   have N:Y3.cell? (iA g (i*15+13))=sI o.bg:=by have q:=Y.jc.1.cell i 13 _ _ t.o rfl;exact q
   have M:Y3.cell? (iA g (i*15+2))=sI o.typ:=by have q:=Y.jc.1.cell i 2 _ _ t.o rfl;exact q
   have l:=Y.jc.1.dz (i*15+13);have r0:Y3.cell? (iA rb 0)=sI 5:=by simp[World.cell?,I.o]
   have r1:Y3.cell? (iA rb 1)=sI 0:=by simp[World.cell?,I.o]
   have r2:Y3.cell? (iA rb 2)=sI (v 0):=by simp[World.cell?,I.o]
   have r3:Y3.cell? (iA rb 3)=sI 0:=by simp[World.cell?,I.o]
   have r4:Y3.cell? (iA rb 4)=sI (v 3):=by simp[World.cell?,I.o]
   have r5:Y3.cell? (iA rb 5)=sI (v 4):=by simp[World.cell?,I.o]
   have r6:Y3.cell? (iA rb 6)=sI 0:=by simp[World.cell?,I.o]
   have Af:Y3.frozen? (iA rb 6)=false:=by simp[World.frozen?,I.o]
   have T:Hd (Room 1 (e.upd i fun _=>bf.jd o (v 4))):=⟨by have:=hr.seq;show e.seq+1≤_;omega,by have:=hr.qC;show e.dh+1≤_;omega,by have:=hr.out;show e.out.length+22*1≤_;omega,by rw[bf.kz];exact hr.len,by have:=hr.fD;show e.drawn+1≤_;omega⟩;have Aa:Hd (xx (v 0)):=n63 _ hv0.nC (by have:=hv0.nD;omega);go_wp2_with fail;refine(vk Y.o A7.o 5 (v 0) 0 (v 3) (v 4) 0 T.o (n63 5 (by omega) (by omega)) Aa.o (n63 0 (by omega) (by omega)) (n63 _ hv3.1 hv3.2) (n63 _ hv4.1 hv4.2) (n63 0 (by omega) (by omega)) _ rfl rfl rfl rfl).mono ?_;rintro en w4 ⟨rfl,d,j⟩;have S:Hd (dn F base w4 b (e.jh i o v) dv (sL g e.all.length u)):=by
    have q:=d;have e1:e.jh i o v=(e.upd i fun _=>bf.jd o (v 4)).tell 5 (v 0) 0 (v 3) (v 4) 0:=by unfold bf.jh;rw[KP.o];rfl
    rw[e1];exact q
   have z:=hid j;clear d j Y A7 Aj I K J N M l r0 r1 r2 r3 r4 r5 r6 Af;have A2:Hd ((e.jh i o v).all[i]? =some (bf.jd o (v 4))):=t.o;have Ax:=hid (A6.o _ z.o);have K:=Ax.c3;have p9:w4.cell? (iA g (i*15+9))=sI o.bn:=by have q:=S.jc.1.cell i 9 _ _ A2.o rfl;exact q
   have B0:w4.cell? (iA g (i*15+10))=sI (v 4 - o.bu):=by have q:=S.jc.1.cell i 10 _ _ A2.o rfl;exact q
   have B1:w4.cell? (iA g (i*15+13))=sI o.bg:=by have q:=S.jc.1.cell i 13 _ _ A2.o rfl;exact q
   have g9:=S.jc.1.dz (i*15+9);have Ay:=S.jc.1.dz (i*15+13);have Ak:Hd (bf.jv 1 0 e (e.jh i o v)):=((bf.jv.upd e i _).trans (bf.jv.tell _ _ _ _ _ _ _)).mono (by omega) (by omega);have Al:Hd ((e.jh i o v).all.length=e.all.length):=bf.kz _ _ _;by_cases B7:0<o.bg
   ·have HE:Hd (e.aR i o v=(e.jh i o v).lay i (v 4 - o.bu)):=by
     show _=_;unfold bf.aR;rw[KP.o,if_neg (by simp),if_neg (by simp[ht.out]),if_pos B7]
    go_wp2_with fail;refine(fC i (v 4 - o.bu) (bf.jd o (v 4)) (by rw[Al.o];exact S.o) A2.o (by rw[Al.o];exact hr.len) (by have:=Ak.seq1;have:=hr.seq;omega) (by have:=Ak.tL;have:=hr.qC;omega) (by have:=Ak.o.out;have:=Ak.seq1;have:=hr.out;omega) (n63 _ (by have:=HK.nC;show 0≤o.id;omega) (by have:=HK.nD;show o.id≤_;omega)) (n63 _ HK.lM (by have:=HK.gY;have:=hI.oN;show o.bn≤_;omega)) (n63 _ (by omega) (by omega))).mono ?_;rintro en w6 ⟨rfl,As,At⟩;have Av:=hid As;have Aw:=hid (z.trans At);clear As At K p9 B0 B1 g9 Ay;go_wp2;go_end0;have q:=Av.o;rw[Al.o,←HE.o,←A9.o]at q;exact⟨rfl,q,Aw.o⟩
   have HE:Hd (e.aR i o v=e.jh i o v):=by
    show _=_;unfold bf.aR;rw[KP.o,if_neg (by simp),if_neg (by simp[ht.out]),if_neg B7]
   go_wp2;go_end0;have q:=S.o;rw[←HE.o,←A9.o]at q;exact⟨rfl,q,z.o⟩
  have Aq:decide (o.mg<v 4)=false:=by simpa using Ap
  go_wp2_with fail;go_quiet (fail);replace C:=hid (C.drewN nq);replace G:=hid (G.drewN nq);replace E:=hid (E.drewN nq);replace D:=hid C.jc.1;clear O K L M p s B c1 c2;generalize W52.drewN nq=W55 at *;have O:=G.c0;have K:=G.c3;have L:=G.c4;have M:W55.cell? (iA g (i*15+2))=sI o.typ:=D.cell i 2 o _ A.o rfl;have p:W55.cell? (iA g (i*15+3))=sI o.mg:=D.cell i 3 o _ A.o rfl;have s:W55.cell? (iA g (i*15+9))=sI o.bn:=D.cell i 9 o _ A.o rfl;have B:W55.cell? (iA g (i*15+11))=sI o.bu:=D.cell i 11 o _ A.o rfl;have c1:W55.cell? (iA b 1)=sI e.mp:=C.cell 1;have c2:W55.cell? (iA b 2)=sI e.mq:=C.cell 2;have KP:Hd (bf.zf o v=true):=by show _=_;unfold bf.zf;rw[ht.out];simp;omega
  go_wp2_with fail;go_quiet (fail);replace C:=hid (C.drewN nq);replace G:=hid (G.drewN nq);replace E:=hid (E.drewN nq);replace D:=hid C.jc.1;clear O K L M p s B c1 c2;generalize W55.drewN nq=W4 at *;have O:=G.c0;have K:=G.c3;have L:=G.c4;have M:W4.cell? (iA g (i*15+2))=sI o.typ:=D.cell i 2 o _ A.o rfl;have p:W4.cell? (iA g (i*15+3))=sI o.mg:=D.cell i 3 o _ A.o rfl;have s:W4.cell? (iA g (i*15+9))=sI o.bn:=D.cell i 9 o _ A.o rfl;have B:W4.cell? (iA g (i*15+11))=sI o.bu:=D.cell i 11 o _ A.o rfl;have c1:W4.cell? (iA b 1)=sI e.mp:=C.cell 1;have c2:W4.cell? (iA b 2)=sI e.mq:=C.cell 2
 rotate_left;iterate 2
  focus
   have f3:=D.dz (i*15+3);go_wp2_with fail;have c:Hd (dn F base (W4.setCell (iA g (i*15+3)) (iV (v 4))) b (e.upd i fun _=>{ o with mg:=v 4 }) dv (sL g e.all.length u)):=C.bB i 3 (v 4) o _ A.o rfl (by omega);have A5:Hd (Touch F w (W4.setCell (iA g (i*15+3)) (iV (v 4)))):=(E.touch (F:=F)).set g _ _ hF;have Ae:=hid (A6.o _ A5.o);clear O K L M p s B c1 c2 f3 C D G E;generalize W4.setCell (iA g (i*15+3)) (iV (v 4))=Y1 at *;have L:=Ae.c4;have y:Hd ((e.upd i fun _=>{ o with mg:=v 4 }).all[i]? =some { o with mg:=v 4 }):=bf.nu _ _ _ _ A.o;have B:Y1.cell? (iA g (i*15+11))=sI o.bu:=by have q:=c.jc.1.cell i 11 _ _ y.o rfl;exact q
   have J:Y1.cell? (iA g (i*15+10))=sI o.opn:=by have q:=c.jc.1.cell i 10 _ _ y.o rfl;exact q
   have Ao:=c.jc.1.dz (i*15+10);apply merge
   ·intro hh;go_region_law(fail);all_goals exact hh
   rw[nV (v 4 - o.bu) (by omega) (by omega)];have Ac:Hd (dn F base (Y1.setCell (iA g (i*15+10)) (iV (v 4 - o.bu))).drew b (e.upd i fun _=>bf.jd o (v 4)) dv (sL g e.all.length u)):=by
    have h1:=c.bB i 10 (v 4 - o.bu) _ (bf.jd o (v 4)) y.o rfl (by omega);rw[bf.jD]at h1;exact h1.drew
   have V:Hd (Touch F w (Y1.setCell (iA g (i*15+10)) (iV (v 4 - o.bu))).drew):=(A5.set g _ _ hF).drew;clear L B J Ao c A5 Ae y;generalize (Y1.setCell (iA g (i*15+10)) (iV (v 4 - o.bu))).drew=Y2 at *;have A0:=hid (A6.o _ V.o);have t:Hd ((e.upd i fun _=>bf.jd o (v 4)).all[i]? =some (bf.jd o (v 4))):=bf.nu _ _ _ _ A.o;have O:=A0.c0;have K:=A0.c3;have L:=A0.c4;have A1:vb<Y2.heap.size:=Nat.lt_of_lt_of_le hvl V.size;have Ar:Y2.heap.size≠vb:=by omega
   go_wp2_with fail;go_region_held3(fun X=>X.cell? (iA vb 1)=sI (v 0)∧X.cell? (iA vb 4)=sI (v 3)∧X.cell? (iA vb 5)=sI (v 4)) (first|exact⟨O,K,L⟩|exact⟨(World.cell?_alloc_lt _ _ (iA vb 1) A1).trans O,(World.cell?_alloc_lt _ _ (iA vb 4) A1).trans K,(World.cell?_alloc_lt _ _ (iA vb 5) A1).trans L⟩|go_keep) (fail);have Y:=hid ((Ac.alloc (.cells (lz 5 0 (v 0) 0 (v 3) (v 4) 0) 143)).drew);have A7:=hid ((V.alloc (.cells (lz 5 0 (v 0) 0 (v 3) (v 4) 0) 143)).drew);have I:Hd ((Y2.alloc (.cells (lz 5 0 (v 0) 0 (v 3) (v 4) 0) 143)).drew.heap[Y2.heap.size]? =some (.cells (lz 5 0 (v 0) 0 (v 3) (v 4) 0) 143 (0,0))):=heap_alloc_new Y2 _;have Az:Hd (w.heap.size≤Y2.heap.size):=V.size;have B5:g≠Y2.heap.size:=by have:=V.size;omega
   clear O K L A0 Ac V A1 Ar;generalize (Y2.alloc (.cells (lz 5 0 (v 0) 0 (v 3) (v 4) 0) 143)).drew=Y3 at *;generalize Y2.heap.size=rb at *;have Aj:=hid (A6.o _ A7.o);have K:=Aj.c3;have J:Y3.cell? (iA g (i*15+10))=sI (v 4 - o.bu):=by have q:=Y.jc.1.cell i 10 _ _ t.o rfl;exact q
   have N:Y3.cell? (iA g (i*15+13))=sI o.bg:=by have q:=Y.jc.1.cell i 13 _ _ t.o rfl;exact q
   have M:Y3.cell? (iA g (i*15+2))=sI o.typ:=by have q:=Y.jc.1.cell i 2 _ _ t.o rfl;exact q
   have l:=Y.jc.1.dz (i*15+13);have r0:Y3.cell? (iA rb 0)=sI 5:=by simp[World.cell?,I.o]
   have r1:Y3.cell? (iA rb 1)=sI 0:=by simp[World.cell?,I.o]
   have r2:Y3.cell? (iA rb 2)=sI (v 0):=by simp[World.cell?,I.o]
   have r3:Y3.cell? (iA rb 3)=sI 0:=by simp[World.cell?,I.o]
   have r4:Y3.cell? (iA rb 4)=sI (v 3):=by simp[World.cell?,I.o]
   have r5:Y3.cell? (iA rb 5)=sI (v 4):=by simp[World.cell?,I.o]
   have r6:Y3.cell? (iA rb 6)=sI 0:=by simp[World.cell?,I.o]
   have Af:Y3.frozen? (iA rb 6)=false:=by simp[World.frozen?,I.o]
   have T:Hd (Room 1 (e.upd i fun _=>bf.jd o (v 4))):=⟨by have:=hr.seq;show e.seq+1≤_;omega,by have:=hr.qC;show e.dh+1≤_;omega,by have:=hr.out;show e.out.length+22*1≤_;omega,by rw[bf.kz];exact hr.len,by have:=hr.fD;show e.drawn+1≤_;omega⟩;have Aa:Hd (xx (v 0)):=n63 _ hv0.nC (by have:=hv0.nD;omega);go_wp2_with fail;refine(vk Y.o A7.o 5 (v 0) 0 (v 3) (v 4) 0 T.o (n63 5 (by omega) (by omega)) Aa.o (n63 0 (by omega) (by omega)) (n63 _ hv3.1 hv3.2) (n63 _ hv4.1 hv4.2) (n63 0 (by omega) (by omega)) _ rfl rfl rfl rfl).mono ?_;rintro en w4 ⟨rfl,d,j⟩;have S:Hd (dn F base w4 b (e.jh i o v) dv (sL g e.all.length u)):=by
    have q:=d;have e1:e.jh i o v=(e.upd i fun _=>bf.jd o (v 4)).tell 5 (v 0) 0 (v 3) (v 4) 0:=by unfold bf.jh;rw[KP.o];rfl
    rw[e1];exact q
   have z:=hid j;clear d j Y A7 Aj I K J N M l r0 r1 r2 r3 r4 r5 r6 Af;have A2:Hd ((e.jh i o v).all[i]? =some (bf.jd o (v 4))):=t.o;have Ax:=hid (A6.o _ z.o);have K:=Ax.c3;have p9:w4.cell? (iA g (i*15+9))=sI o.bn:=by have q:=S.jc.1.cell i 9 _ _ A2.o rfl;exact q
   have B0:w4.cell? (iA g (i*15+10))=sI (v 4 - o.bu):=by have q:=S.jc.1.cell i 10 _ _ A2.o rfl;exact q
   have B1:w4.cell? (iA g (i*15+13))=sI o.bg:=by have q:=S.jc.1.cell i 13 _ _ A2.o rfl;exact q
   have g9:=S.jc.1.dz (i*15+9);have Ay:=S.jc.1.dz (i*15+13);have Ak:Hd (bf.jv 1 0 e (e.jh i o v)):=((bf.jv.upd e i _).trans (bf.jv.tell _ _ _ _ _ _ _)).mono (by omega) (by omega);have Al:Hd ((e.jh i o v).all.length=e.all.length):=bf.kz _ _ _;have HE:Hd (e.aR i o v=((e.jh i o v).upd i fun _=>{ bf.jd o (v 4) with bn:=v 3,bg:=0 }).zy i):=by
    show _=_;unfold bf.aR;rw[KP.o,if_neg (by simp),if_pos ht.out];rw[bf.nk (e.jh i o v) i (fun o=>{ o with bn:=v 3,bg:=0 }) (fun _=>{ bf.jd o (v 4) with bn:=v 3,bg:=0 }) (fun x hx=>by obtain rfl:bf.jd o (v 4)=x:=Option.some.inj (A2.o.symm.trans hx);rfl)]
   have Bi:Hd (dn F base ((w4.setCell (iA g (i*15+9)) (iV (v 3))).setCell (iA g (i*15+13)) (iV 0)) b ((e.jh i o v).upd i fun _=>{ bf.jd o (v 4) with bn:=v 3,bg:=0 }) dv (sL g e.all.length u)):=by
    have h1:=S.bB i 9 (v 3) _ { bf.jd o (v 4) with bn:=v 3 } A2.o rfl (by omega);have h2:=h1.bB i 13 0 _ { bf.jd o (v 4) with bn:=v 3,bg:=0 } (bf.nu _ _ _ _ A2.o) rfl (by omega);rw[bf.jD]at h2;exact h2
   have Bj:=hid ((z.set g (i*15+9) (iV (v 3)) hF).set g (i*15+13) (iV 0) hF);have Bg:Hd (bf.fe ((e.jh i o v).upd i fun _=>{ bf.jd o (v 4) with bn:=v 3,bg:=0 })):=by
    have q:=bf.rep_sweep_inv hI A.o hs.out v ht.out H5.o q6;rw[bf.nk (e.jh i o v) i (fun o=>{ o with bn:=v 3,bg:=0 }) (fun _=>{ bf.jd o (v 4) with bn:=v 3,bg:=0 }) (fun x hx=>by obtain rfl:bf.jd o (v 4)=x:=Option.some.inj (A2.o.symm.trans hx);rfl)]at q;exact q
   have Be:Hd (((e.jh i o v).upd i fun _=>{ bf.jd o (v 4) with bn:=v 3,bg:=0 }).all[i]? =some { bf.jd o (v 4) with bn:=v 3,bg:=0 }):=bf.nu _ _ _ _ A2.o;have B2:Hd (((e.jh i o v).upd i fun _=>{ bf.jd o (v 4) with bn:=v 3,bg:=0 }).all.length=e.all.length):=by show _=_;rw[bf.kz];exact Al.o
   have B4:Hd (Room 2001 ((e.jh i o v).upd i fun _=>{ bf.jd o (v 4) with bn:=v 3,bg:=0 })):=((hr.qY Ak.o Al.o (by omega)).mono (m:=2001) (by omega)).qY (bf.jv.upd _ i _) (bf.kz _ _ _) (by omega);go_wp2_with fail;refine(xS i { bf.jd o (v 4) with bn:=v 3,bg:=0 } (by rw[B2.o];exact Bi.o) Bg.o Be.o hs.out rfl ht.out B4.o ⟨hsu.v0,hsu.v1,hsu.w0,hsu.w1⟩ ⟨hd.len,hd.bd⟩).mono ?_;rintro en w6 ⟨rfl,As,At⟩;have Av:=hid As;have Aw:=hid (Bj.trans At);clear As At K p9 B0 B1 g9 Ay;go_wp2;refine bodyPost_ret (v:=.tuple #[]) (by simp[results,Tryz.results110,go_sem]) rfl ⟨rfl,?_,Aw.o⟩;have q:=Av.o;rw[B2.o,←HE.o,←A9.o]at q;exact q
 all_goals
  have f3:=D.dz (i*15+3);go_wp2_with fail;have c:Hd (dn F base (W4.setCell (iA g (i*15+3)) (iV (v 4))) b (e.upd i fun _=>{ o with mg:=v 4 }) dv (sL g e.all.length u)):=C.bB i 3 (v 4) o _ A.o rfl (by omega);have A5:Hd (Touch F w (W4.setCell (iA g (i*15+3)) (iV (v 4)))):=(E.touch (F:=F)).set g _ _ hF;have Ae:=hid (A6.o _ A5.o);clear O K L M p s B c1 c2 f3 C D G E;generalize W4.setCell (iA g (i*15+3)) (iV (v 4))=Y1 at *;have L:=Ae.c4;have y:Hd ((e.upd i fun _=>{ o with mg:=v 4 }).all[i]? =some { o with mg:=v 4 }):=bf.nu _ _ _ _ A.o;have B:Y1.cell? (iA g (i*15+11))=sI o.bu:=by have q:=c.jc.1.cell i 11 _ _ y.o rfl;exact q
  have J:Y1.cell? (iA g (i*15+10))=sI o.opn:=by have q:=c.jc.1.cell i 10 _ _ y.o rfl;exact q
  have Ao:=c.jc.1.dz (i*15+10);apply merge
  ·intro hh;go_region_law(fail);all_goals exact hh
  rw[nV (v 4 - o.bu) (by omega) (by omega)];have Ac:Hd (dn F base (Y1.setCell (iA g (i*15+10)) (iV (v 4 - o.bu))).drew b (e.upd i fun _=>bf.jd o (v 4)) dv (sL g e.all.length u)):=by
   have h1:=c.bB i 10 (v 4 - o.bu) _ (bf.jd o (v 4)) y.o rfl (by omega);rw[bf.jD]at h1;exact h1.drew
  have V:Hd (Touch F w (Y1.setCell (iA g (i*15+10)) (iV (v 4 - o.bu))).drew):=(A5.set g _ _ hF).drew;clear L B J Ao c A5 Ae y;generalize (Y1.setCell (iA g (i*15+10)) (iV (v 4 - o.bu))).drew=Y2 at *;have A0:=hid (A6.o _ V.o);have t:Hd ((e.upd i fun _=>bf.jd o (v 4)).all[i]? =some (bf.jd o (v 4))):=bf.nu _ _ _ _ A.o;have O:=A0.c0;have K:=A0.c3;have L:=A0.c4;have A1:vb<Y2.heap.size:=Nat.lt_of_lt_of_le hvl V.size;have Ar:Y2.heap.size≠vb:=by omega
  go_wp2_with fail;go_region_held3(fun X=>X.cell? (iA vb 1)=sI (v 0)∧X.cell? (iA vb 4)=sI (v 3)∧X.cell? (iA vb 5)=sI (v 4)) (first|exact⟨O,K,L⟩|exact⟨(World.cell?_alloc_lt _ _ (iA vb 1) A1).trans O,(World.cell?_alloc_lt _ _ (iA vb 4) A1).trans K,(World.cell?_alloc_lt _ _ (iA vb 5) A1).trans L⟩|go_keep) (fail);have Y:=hid ((Ac.alloc (.cells (lz 5 0 (v 0) 0 (v 3) (v 4) 0) 143)).drew);have A7:=hid ((V.alloc (.cells (lz 5 0 (v 0) 0 (v 3) (v 4) 0) 143)).drew);have I:Hd ((Y2.alloc (.cells (lz 5 0 (v 0) 0 (v 3) (v 4) 0) 143)).drew.heap[Y2.heap.size]? =some (.cells (lz 5 0 (v 0) 0 (v 3) (v 4) 0) 143 (0,0))):=heap_alloc_new Y2 _;have Az:Hd (w.heap.size≤Y2.heap.size):=V.size;have B5:g≠Y2.heap.size:=by have:=V.size;omega
  clear O K L A0 Ac V A1 Ar;generalize (Y2.alloc (.cells (lz 5 0 (v 0) 0 (v 3) (v 4) 0) 143)).drew=Y3 at *;generalize Y2.heap.size=rb at *;have Aj:=hid (A6.o _ A7.o);have K:=Aj.c3;have J:Y3.cell? (iA g (i*15+10))=sI (v 4 - o.bu):=by have q:=Y.jc.1.cell i 10 _ _ t.o rfl;exact q
  have N:Y3.cell? (iA g (i*15+13))=sI o.bg:=by have q:=Y.jc.1.cell i 13 _ _ t.o rfl;exact q
  have M:Y3.cell? (iA g (i*15+2))=sI o.typ:=by have q:=Y.jc.1.cell i 2 _ _ t.o rfl;exact q
  have l:=Y.jc.1.dz (i*15+13);have r0:Y3.cell? (iA rb 0)=sI 5:=by simp[World.cell?,I.o]
  have r1:Y3.cell? (iA rb 1)=sI 0:=by simp[World.cell?,I.o]
  have r2:Y3.cell? (iA rb 2)=sI (v 0):=by simp[World.cell?,I.o]
  have r3:Y3.cell? (iA rb 3)=sI 0:=by simp[World.cell?,I.o]
  have r4:Y3.cell? (iA rb 4)=sI (v 3):=by simp[World.cell?,I.o]
  have r5:Y3.cell? (iA rb 5)=sI (v 4):=by simp[World.cell?,I.o]
  have r6:Y3.cell? (iA rb 6)=sI 0:=by simp[World.cell?,I.o]
  have Af:Y3.frozen? (iA rb 6)=false:=by simp[World.frozen?,I.o]
  have T:Hd (Room 1 (e.upd i fun _=>bf.jd o (v 4))):=⟨by have:=hr.seq;show e.seq+1≤_;omega,by have:=hr.qC;show e.dh+1≤_;omega,by have:=hr.out;show e.out.length+22*1≤_;omega,by rw[bf.kz];exact hr.len,by have:=hr.fD;show e.drawn+1≤_;omega⟩;have Aa:Hd (xx (v 0)):=n63 _ hv0.nC (by have:=hv0.nD;omega);have U:Hd (dn F base (Y3.setCell (iA rb 6) (iV 1)) b (e.upd i fun _=>bf.jd o (v 4)) dv (sL g e.all.length u)):=Y.far I.o (by decide) (by decide) (by decide) 6 _;have Ad:Hd (Touch F w (Y3.setCell (iA rb 6) (iV 1))):=A7.set rb 6 _ (Bk.o rb Az.out);have A8:Hd ((Y3.setCell (iA rb 6) (iV 1)).heap[rb]? =some (.cells (lz 5 0 (v 0) 0 (v 3) (v 4) 1) 143 (0,0))):=ja _ _ _ _ _ _ _ I.o;have R:Hd ((e.upd i fun _=>bf.jd o (v 4)).all[i]? =some (bf.jd o (v 4))):=t.o;have Ab:Hd (xx (v 3)∧xx (v 4)):=⟨n63 _ hv3.1 hv3.2,n63 _ hv4.1 hv4.2⟩;have B8:=HK.whole;have B9:=HK.sum;have Ba:=HK.live hs.out;have Bb:=HK.kH
  have Bc:v 4≤o.mg:=by omega
  have Bd:=HK.kJ;have Bh:=hid (And.intro B8 (And.intro B9 (And.intro Ba (And.intro Bb (And.intro Bc Bd)))));have Au:Hd (∀n:Int,n=(if v 4 - o.bu<o.bg then v 4 - o.bu else o.bg)→e.replace v=((e.upd i fun _=>{ bf.jd o (v 4) with bg:=n }).tell 5 (v 0) 0 (v 3) (v 4) 1)):=fun n hn=>by
   rw[A9.o];unfold bf.aR;rw[KP.o,if_pos rfl];rw[bf.nk (e.jh i o v) i _ (fun _=>{ bf.jd o (v 4) with bg:=n }) (fun x hx=>by
    obtain rfl:bf.jd o (v 4)=x:=Option.some.inj (t.o.symm.trans hx);rw[hn];rfl)]
   unfold bf.jh;rw[KP.o,bf.tell_upd,bf.jD];rfl
  clear B8 B9 Ba Bb Bc Bd;by_cases s1:v 4 - o.bu<o.bg
  ·have Bp:decide (v 4 - o.bu<o.bg)=true:=by simpa using s1
   go_wp2_with fail;clear r0 r1 r2 r3 r4 r5 r6 Af J N M l K;generalize Y3.setCell (iA rb 6) (iV 1)=Z1 at *;have J:Z1.cell? (iA g (i*15+10))=sI (v 4 - o.bu):=by have q:=U.jc.1.cell i 10 _ _ R.o rfl;exact q
   have N:Z1.cell? (iA g (i*15+13))=sI o.bg:=by have q:=U.jc.1.cell i 13 _ _ R.o rfl;exact q
   have M:Z1.cell? (iA g (i*15+2))=sI o.typ:=by have q:=U.jc.1.cell i 2 _ _ R.o rfl;exact q
   go_quiet (fail);have Z:=hid (U.drewN nq);have Ah:=hid (Ad.drewN nq);have H:Hd ((Z1.drewN nq).heap[rb]? =some (.cells (lz 5 0 (v 0) 0 (v 3) (v 4) 1) 143 (0,0))):=A8.o;clear J N M U Ad A8;generalize Z1.drewN nq=Z2 at *;have J:Z2.cell? (iA g (i*15+10))=sI (v 4 - o.bu):=by have q:=Z.jc.1.cell i 10 _ _ R.o rfl;exact q
   have N:Z2.cell? (iA g (i*15+13))=sI o.bg:=by have q:=Z.jc.1.cell i 13 _ _ R.o rfl;exact q
   have l:=Z.jc.1.dz (i*15+13);have r0:Z2.cell? (iA rb 0)=sI 5:=by simp[World.cell?,H.o]
   have r1:Z2.cell? (iA rb 1)=sI 0:=by simp[World.cell?,H.o]
   have r2:Z2.cell? (iA rb 2)=sI (v 0):=by simp[World.cell?,H.o]
   have r3:Z2.cell? (iA rb 3)=sI 0:=by simp[World.cell?,H.o]
   have r4:Z2.cell? (iA rb 4)=sI (v 3):=by simp[World.cell?,H.o]
   have r5:Z2.cell? (iA rb 5)=sI (v 4):=by simp[World.cell?,H.o]
   have r6:Z2.cell? (iA rb 6)=sI 1:=by simp[World.cell?,H.o]
   have HF:=hid (Au.o (v 4 - o.bu) (by rw[if_pos s1]));have Ag:Hd (dn F base (Z2.setCell (iA g (i*15+13)) (iV (v 4 - o.bu))) b (e.upd i fun _=>{ bf.jd o (v 4) with bg:=v 4 - o.bu }) dv (sL g e.all.length u)):=by
    have h1:=Z.bB i 13 (v 4 - o.bu) _ { bf.jd o (v 4) with bg:=v 4 - o.bu } R.o rfl (by omega);rw[bf.jD]at h1;exact h1
   have Ai:=hid (Ah.set g (i*15+13) (iV (v 4 - o.bu)) hF);go_wp2_with fail;refine(vk Ag.o Ai.o 5 (v 0) 0 (v 3) (v 4) 1 ⟨T.seq,T.qC,T.o.out,by rw[bf.kz];exact hr.len,T.fD⟩ (n63 5 (by omega) (by omega)) Aa.o (n63 0 (by omega) (by omega)) Ab.1 Ab.2 (n63 1 (by omega) (by omega)) _ rfl rfl rfl rfl).mono ?_;rintro en w4 ⟨rfl,d,j⟩;have S:=hid d;have z:=hid j;clear d j r0 r1 r2 r3 r4 r5 r6 J N l;go_wp2;refine bodyPost_ret (v:=.tuple #[]) (by simp[results,Tryz.results110,go_sem]) rfl ⟨rfl,?_,z.o⟩;rw[HF.o];exact S.o
  have Bp:decide (v 4 - o.bu<o.bg)=false:=by simpa using s1
  by_cases s2:0<o.bg
  ·have Bq:decide (0<o.bg)=true:=by simpa using s2
   cases s3:(o.typ != 2)
   ·have h3:True:=trivial;clear h3;go_wp2_with fail;clear r0 r1 r2 r3 r4 r5 r6 Af J N M l K;generalize Y3.setCell (iA rb 6) (iV 1)=Z1 at *;have J:Z1.cell? (iA g (i*15+10))=sI (v 4 - o.bu):=by have q:=U.jc.1.cell i 10 _ _ R.o rfl;exact q
    have N:Z1.cell? (iA g (i*15+13))=sI o.bg:=by have q:=U.jc.1.cell i 13 _ _ R.o rfl;exact q
    have M:Z1.cell? (iA g (i*15+2))=sI o.typ:=by have q:=U.jc.1.cell i 2 _ _ R.o rfl;exact q
    go_quiet (fail);have Z:=hid (U.drewN nq);have Ah:=hid (Ad.drewN nq);have H:Hd ((Z1.drewN nq).heap[rb]? =some (.cells (lz 5 0 (v 0) 0 (v 3) (v 4) 1) 143 (0,0))):=A8.o;clear J N M U Ad A8;generalize Z1.drewN nq=Z2 at *;have J:Z2.cell? (iA g (i*15+10))=sI (v 4 - o.bu):=by have q:=Z.jc.1.cell i 10 _ _ R.o rfl;exact q
    have N:Z2.cell? (iA g (i*15+13))=sI o.bg:=by have q:=Z.jc.1.cell i 13 _ _ R.o rfl;exact q
    have l:=Z.jc.1.dz (i*15+13);have r0:Z2.cell? (iA rb 0)=sI 5:=by simp[World.cell?,H.o]
    have r1:Z2.cell? (iA rb 1)=sI 0:=by simp[World.cell?,H.o]
    have r2:Z2.cell? (iA rb 2)=sI (v 0):=by simp[World.cell?,H.o]
    have r3:Z2.cell? (iA rb 3)=sI 0:=by simp[World.cell?,H.o]
    have r4:Z2.cell? (iA rb 4)=sI (v 3):=by simp[World.cell?,H.o]
    have r5:Z2.cell? (iA rb 5)=sI (v 4):=by simp[World.cell?,H.o]
    have r6:Z2.cell? (iA rb 6)=sI 1:=by simp[World.cell?,H.o]
    have HF:=hid (Au.o (o.bg) (by rw[if_neg (by omega)]));have Ag:Hd (dn F base Z2 b (e.upd i fun _=>{ bf.jd o (v 4) with bg:=o.bg }) dv (sL g e.all.length u)):=Z.o;have Ai:=hid Ah.o;go_wp2_with fail;refine(vk Ag.o Ai.o 5 (v 0) 0 (v 3) (v 4) 1 ⟨T.seq,T.qC,T.o.out,by rw[bf.kz];exact hr.len,T.fD⟩ (n63 5 (by omega) (by omega)) Aa.o (n63 0 (by omega) (by omega)) Ab.1 Ab.2 (n63 1 (by omega) (by omega)) _ rfl rfl rfl rfl).mono ?_;rintro en w4 ⟨rfl,d,j⟩;have S:=hid d;have z:=hid j;clear d j r0 r1 r2 r3 r4 r5 r6 J N l;go_wp2;refine bodyPost_ret (v:=.tuple #[]) (by simp[results,Tryz.results110,go_sem]) rfl ⟨rfl,?_,z.o⟩;rw[HF.o];exact S.o
   have Bl:Hd (v 4 - o.bu=o.bg):=by
    show _=_;obtain⟨a1,a2,a3,a4,a5,a6⟩:=Bh.o;rcases a1 (by simpa using s3) with q|q<;>omega
   go_wp2_with fail;clear r0 r1 r2 r3 r4 r5 r6 Af J N M l K;generalize Y3.setCell (iA rb 6) (iV 1)=Z1 at *;have J:Z1.cell? (iA g (i*15+10))=sI (v 4 - o.bu):=by have q:=U.jc.1.cell i 10 _ _ R.o rfl;exact q
   have N:Z1.cell? (iA g (i*15+13))=sI o.bg:=by have q:=U.jc.1.cell i 13 _ _ R.o rfl;exact q
   have M:Z1.cell? (iA g (i*15+2))=sI o.typ:=by have q:=U.jc.1.cell i 2 _ _ R.o rfl;exact q
   go_quiet (fail);have Z:=hid (U.drewN nq);have Ah:=hid (Ad.drewN nq);have H:Hd ((Z1.drewN nq).heap[rb]? =some (.cells (lz 5 0 (v 0) 0 (v 3) (v 4) 1) 143 (0,0))):=A8.o;clear J N M U Ad A8;generalize Z1.drewN nq=Z2 at *;have J:Z2.cell? (iA g (i*15+10))=sI (v 4 - o.bu):=by have q:=Z.jc.1.cell i 10 _ _ R.o rfl;exact q
   have N:Z2.cell? (iA g (i*15+13))=sI o.bg:=by have q:=Z.jc.1.cell i 13 _ _ R.o rfl;exact q
   have l:=Z.jc.1.dz (i*15+13);have r0:Z2.cell? (iA rb 0)=sI 5:=by simp[World.cell?,H.o]
   have r1:Z2.cell? (iA rb 1)=sI 0:=by simp[World.cell?,H.o]
   have r2:Z2.cell? (iA rb 2)=sI (v 0):=by simp[World.cell?,H.o]
   have r3:Z2.cell? (iA rb 3)=sI 0:=by simp[World.cell?,H.o]
   have r4:Z2.cell? (iA rb 4)=sI (v 3):=by simp[World.cell?,H.o]
   have r5:Z2.cell? (iA rb 5)=sI (v 4):=by simp[World.cell?,H.o]
   have r6:Z2.cell? (iA rb 6)=sI 1:=by simp[World.cell?,H.o]
   have HF:=hid (Au.o (v 4 - o.bu) (by rw[if_neg (by omega)];exact Bl.out));have Ag:Hd (dn F base (Z2.setCell (iA g (i*15+13)) (iV (v 4 - o.bu))) b (e.upd i fun _=>{ bf.jd o (v 4) with bg:=v 4 - o.bu }) dv (sL g e.all.length u)):=by
    have h1:=Z.bB i 13 (v 4 - o.bu) _ { bf.jd o (v 4) with bg:=v 4 - o.bu } R.o rfl (by omega);rw[bf.jD]at h1;exact h1
   have Ai:=hid (Ah.set g (i*15+13) (iV (v 4 - o.bu)) hF);go_wp2_with fail;refine(vk Ag.o Ai.o 5 (v 0) 0 (v 3) (v 4) 1 ⟨T.seq,T.qC,T.o.out,by rw[bf.kz];exact hr.len,T.fD⟩ (n63 5 (by omega) (by omega)) Aa.o (n63 0 (by omega) (by omega)) Ab.1 Ab.2 (n63 1 (by omega) (by omega)) _ rfl rfl rfl rfl).mono ?_;rintro en w4 ⟨rfl,d,j⟩;have S:=hid d;have z:=hid j;clear d j r0 r1 r2 r3 r4 r5 r6 J N l;go_wp2;refine bodyPost_ret (v:=.tuple #[]) (by simp[results,Tryz.results110,go_sem]) rfl ⟨rfl,?_,z.o⟩;rw[HF.o];exact S.o
  have Bq:decide (0<o.bg)=false:=by simpa using s2
  go_wp2_with fail;clear r0 r1 r2 r3 r4 r5 r6 Af J N M l K;generalize Y3.setCell (iA rb 6) (iV 1)=Z1 at *;have J:Z1.cell? (iA g (i*15+10))=sI (v 4 - o.bu):=by have q:=U.jc.1.cell i 10 _ _ R.o rfl;exact q
  have N:Z1.cell? (iA g (i*15+13))=sI o.bg:=by have q:=U.jc.1.cell i 13 _ _ R.o rfl;exact q
  have M:Z1.cell? (iA g (i*15+2))=sI o.typ:=by have q:=U.jc.1.cell i 2 _ _ R.o rfl;exact q
  go_quiet (fail);have Z:=hid (U.drewN nq);have Ah:=hid (Ad.drewN nq);have H:Hd ((Z1.drewN nq).heap[rb]? =some (.cells (lz 5 0 (v 0) 0 (v 3) (v 4) 1) 143 (0,0))):=A8.o;clear J N M U Ad A8;generalize Z1.drewN nq=Z2 at *;have J:Z2.cell? (iA g (i*15+10))=sI (v 4 - o.bu):=by have q:=Z.jc.1.cell i 10 _ _ R.o rfl;exact q
  have N:Z2.cell? (iA g (i*15+13))=sI o.bg:=by have q:=Z.jc.1.cell i 13 _ _ R.o rfl;exact q
  have l:=Z.jc.1.dz (i*15+13);have r0:Z2.cell? (iA rb 0)=sI 5:=by simp[World.cell?,H.o]
  have r1:Z2.cell? (iA rb 1)=sI 0:=by simp[World.cell?,H.o]
  have r2:Z2.cell? (iA rb 2)=sI (v 0):=by simp[World.cell?,H.o]
  have r3:Z2.cell? (iA rb 3)=sI 0:=by simp[World.cell?,H.o]
  have r4:Z2.cell? (iA rb 4)=sI (v 3):=by simp[World.cell?,H.o]
  have r5:Z2.cell? (iA rb 5)=sI (v 4):=by simp[World.cell?,H.o]
  have r6:Z2.cell? (iA rb 6)=sI 1:=by simp[World.cell?,H.o]
  have HF:=hid (Au.o (o.bg) (by rw[if_neg (by omega)]));have Ag:Hd (dn F base Z2 b (e.upd i fun _=>{ bf.jd o (v 4) with bg:=o.bg }) dv (sL g e.all.length u)):=Z.o;have Ai:=hid Ah.o;go_wp2_with fail;refine(vk Ag.o Ai.o 5 (v 0) 0 (v 3) (v 4) 1 ⟨T.seq,T.qC,T.o.out,by rw[bf.kz];exact hr.len,T.fD⟩ (n63 5 (by omega) (by omega)) Aa.o (n63 0 (by omega) (by omega)) Ab.1 Ab.2 (n63 1 (by omega) (by omega)) _ rfl rfl rfl rfl).mono ?_;rintro en w4 ⟨rfl,d,j⟩;have S:=hid d;have z:=hid j;clear d j r0 r1 r2 r3 r4 r5 r6 J N l;go_wp2;refine bodyPost_ret (v:=.tuple #[]) (by simp[results,Tryz.results110,go_sem]) rfl ⟨rfl,?_,z.o⟩;rw[HF.o];exact S.o
end Go.Proofs.YtehmdohpmpbnnaaGreatDoor
