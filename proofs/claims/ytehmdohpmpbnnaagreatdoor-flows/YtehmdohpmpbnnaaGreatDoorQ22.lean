import Derived.Test.YtehmdohpmpbnnaaGreatDoorQ00
import Derived.Test.YtehmdohpmpbnnaaGreatDoorQ20
import Derived.Test.YtehmdohpmpbnnaaGreatDoorQ21
set_option linter.all false
set_option maxRecDepth 100000
set_option maxHeartbeats 8000000
namespace Go.Proofs.YtehmdohpmpbnnaaGreatDoor
variable{w' w1:World}{vv:Value}{L:List Nat}
open Go.Proofs.Tryz
section
open Go.Extern Go.Maps Go.RowKit
section
variable {F:Nat→Prop} {base:Nat} {w:World} {b:Nat} {e:bf} {g:Gh} {S:jk} {v:Nat→Int}
def eG(F:Nat→Prop)(base:Nat)(w:World)(b:Nat)(g:Gh)(e':bf)(w':World):Prop:= ∃g' S',dw F base w' b e' g' S'∧Holds e' S' [] []∧Touch F w w'∧g'.dZ=g.dZ∧g'.jL=g.jL
theorem qj.cend{e':bf}(h:qj F base w b g e' w'):eG F base w b g e' w':=by
 obtain⟨t,A,B,C,D⟩:=h;exact⟨_,A,B,C,D,rfl,rfl⟩
theorem eG.from{w0:World}{e':bf}(h:eG F base w b g e' w')(h0:Touch F w0 w):eG F base w0 b g e' w':=by
 obtain⟨B,A,C,D,E,G⟩:=h;exact⟨B,A,C,D,h0.trans E,G⟩
theorem rG(id reason:Int)(h:dw F base w b e g S)(hH:Holds e S [] [])(hr:Room 1 e)(h1:aD id)(h2:aD reason):
 Cl 56 #[iP b,iV id,iV reason] w fun en w'=>en=rV #[]∧Hd (qj F base w b g (e.ny id reason) w'):=by
 refine(zFg id reason h (by have:=hr.seq;omega) (by have:=hr.out;omega) h1 h2).mono ?_;rintro en w' ⟨rfl,t,A,B⟩;exact⟨rfl,t,S,A,hH.vz rfl,B⟩
theorem jU.apart{G:Nat→Prop}(h:jU w.heap.size w1 g vv L)(hG:∀k,w.heap.size≤k→k<w1.heap.size→¬G k):Apart G w1 g vv L:=by
 rcases h.row.2 with⟨A,B⟩|⟨d,C,H,A,B,I,K⟩
 ·refine⟨none,0,by rw[A,B],.inl (List.length_eq_zero_iff.1 B)⟩
 have D:d<w1.heap.size:=(Array.getElem?_eq_some_iff.1 I).1;refine⟨_,C,A,.inr ⟨d,rfl,hG d B D,D,fun n j hn=>?_⟩⟩;have E:=h.row;rw[A]at E;have J:n<L.length:=(List.getElem?_eq_some_iff.1 hn).1;rw[E.cellAt n (by omega),List.getElem?_map,hn];rfl
theorem zAu{e1:bf}{S1:jk}(reason:Int)(hr0:0≤reason∧reason≤255)(h:dw F base w b e g S)(h1:dw F base w1 b e1 g S1)(hlen:e1.all.length=e.all.length)(hH:Holds e1 S1 L [])(hT:Touch F w w1)(inv:bf.fe e1)(hro:Room 70 e1)(hL:jU w.heap.size w1 g vv L)(hlv:∀j∈L,∃o,e1.all[j]? =some o∧o.dm=1):
 Cl 131 #[iP b,iV reason,vv] w1 fun en w'=>en=rV #[]∧Hd (qj F base w b g (bf.lV reason e1 L) w'):=by
 have A:L.Nodup:=hL.up.imp (fun h=>Nat.ne_of_lt h);have D:L.length≤64:=by
  have C:L.length≤((List.range e1.all.length).filter (bf.aN e1)).length:=oD A (fun j hj=>by
   obtain⟨o,E,J⟩:=hlv j hj;rw[List.mem_filter,List.mem_range];exact⟨(List.getElem?_eq_some_iff.1 E).1,by unfold bf.aN;rw[E];simp[J]⟩)
  rw[←List.countP_eq_length_filter,bf.count_range]at C;have:=inv.live;have:=inv.mo1;omega
 have H:=h.foot h1 hlen;have G:Apart (xP F w w1) w1 g vv L:=hL.apart (fun k C h3 hc=>hc.elim (fun h=>by omega) (fun h=>by omega));have B:Coff (xP F w w1) base w1 b g (bf.lV reason e1 L) reason L w1:=⟨g.txt,S1,e1,H,hH,Touch.refl _ _,inv,hro.mono (by omega),A,hlv,rfl⟩;refine(zGk reason hr0 B G (by omega)).mono ?_;rintro en w' ⟨rfl,I⟩;exact⟨rfl,qj.foots h.up hT I.out.done⟩
theorem zGp(h:dw F base w b e g S)(inv:bf.fe e)(hH:Holds e S [] [])(hro:Room 100 e)(hl:e.all.length≤100000000):
 Cl 99 #[iP b,mh v] w fun en w'=>en=rV #[]∧Hd (qj F base w b g e.close w'):=by
 have D:Hd (Cl 138 #[.pointer (some (iA b 8))] (w.alloc (.cells (lu v) 79)) fun en O=> ∃E,en=.returned E∧Hd (Cl 131 #[iP b,iV 3,E] O fun en w'=>en=rV #[]∧Hd (qj F base w b g e.close w'))):=by
  have T:=h.alloc (.cells (lu v) 79);refine(zGn T hH hl).mono ?_;rintro en O ⟨E,L,rfl,R,G,Y,Z⟩;refine⟨E,rfl,?_⟩;have J:Touch F w (w.alloc (.cells (lu v) 79)):=(Touch.refl F w).alloc _;have I:Holds e { S with day:=[] } L []:=by
   refine⟨fun j=>?_,fun j=>?_,hH.ended,hH.lS,hH.vZ,hH.lT,hH.wB⟩
   ·constructor
    ·intro K;cases K
    rintro⟨o,A,B,C,f⟩;exact absurd ((G j).2 ⟨o,A,B,C⟩) f
   show j∈S.qf↔_;rw[hH.qf];constructor
   ·rintro⟨o,A,B,C,_⟩;refine⟨o,A,B,C,fun K=>?_⟩;obtain⟨d,M,_,N⟩:=(G j).1 K;obtain rfl:o=d:=Option.some.inj (A.symm.trans M);exact C N
   rintro⟨o,A,B,C,_⟩;exact⟨o,A,B,C,by simp⟩
  refine(zAu 3 ⟨by omega,by omega⟩ T Y rfl I Z inv (hro.mono (by omega)) R (fun j hj=>by obtain⟨o,A,B,_⟩:=(G j).1 hj;exact⟨o,A,B⟩)).mono ?_;rintro en w' ⟨rfl,U⟩;have c:e.close=bf.lV 3 e L:=bf.due_list _ 3 R.up (fun j=>by rw[G];simp);rw[←c]at U;obtain⟨t,X,M,N,i⟩:=U.out;exact⟨rfl,t,X,M,N,J.trans i⟩
 unfold mh;unfold lu at D;go_enter func99,ntmps99;go_wp2_with fail;refine D.mono ?_;rintro en O ⟨E,rfl,H⟩;go_wp2_with fail;refine H.mono ?_;rintro en k ⟨rfl,V⟩;go_wp2;go_end0;exact⟨rfl,V⟩
theorem zGq(h:dw F base w b e g S)(inv:bf.fe e)(hH:Holds e S [] [])(hro:Room 100 e)(hl:e.all.length≤100000000)(ht:0≤v 8∧v 8<4294967296):
 Cl 98 #[iP b,mh v] w fun en w'=>en=rV #[]∧Hd (qj F base w b g (e.tick (v 8)) w'):=by
 have k:(w.alloc (.cells (lu v) 79)).cell? (iA b 4)=sI e.now:=(h.alloc _).cell 4;have y:(w.alloc (.cells (lu v) 79)).frozen? (iA b 4)=false:=(h.alloc _).dz 4;have t8:(w.alloc (.cells (lu v) 79)).cell? (iA w.heap.size 8)=sI (v 8):=(TA.new w v _).cell 8;have z:b≠w.heap.size:=Nat.ne_of_lt h.lt;have D:Touch F w (w.alloc (.cells (lu v) 79)):=(Touch.refl F w).alloc _;have G:=hid (h.alloc (.cells (lu v) 79));have U:=hid D;have C:Hd (v 8<e.now→∀W,Same (w.alloc (.cells (lu v) 79)) W→Cl 56 #[iP b,iV 0,iV 10] W fun en w'=>en=rV #[]∧Hd (qj F base w b g (e.tick (v 8)) w')):=by
  intro E W J;refine(rG 0 10 (G.same J) hH (hro.mono (by omega)) ⟨by omega,by omega⟩ ⟨by omega,by omega⟩).mono ?_;rintro en w' ⟨rfl,f⟩;obtain⟨t,Y,H,I,i⟩:=f.out;have d:e.tick (v 8)=e.ny 0 10:=if_pos E;rw[d];exact⟨rfl,t,Y,H,I,(D.trans J.touch).trans i⟩
 have B:Hd (¬v 8<e.now→∀Z,Same (w.alloc (.cells (lu v) 79)) Z→∀W,Same (Z.setCell (iA b 4) (iV (v 8))) W→Cl 137 #[.pointer (some (iA b 8)),iV (v 8)] W fun en O=> ∃N,en=.returned N∧O.cell? (iA b 4)=sI (v 8)∧Hd (Cl 131 #[iP b,iV 2,N] O fun en w'=>en=rV #[]∧w'.cell? (iA b 4)=sI (v 8)∧Hd (qj F base w b g (e.tick (v 8)) w'))):=by
  intro E Z K W J;have l:dw F base W b { e with now:=v 8 } g S:=((G.same K).set 4 _ { e with now:=v 8 } (by simp[aF]) rfl rfl rfl rfl).same J;have c:Touch F w W:=((D.trans K.touch).set b 4 _ h.own).trans J.touch;have A:bf.fe { e with now:=v 8 }:=⟨inv.mo0,inv.mo1,inv.mp0,inv.oN,inv.mq0,inv.mq1,inv.ok,inv.ids,inv.apart,ht.1,ht.2,inv.live⟩;refine(zGo (v 8) l A (hH.vz rfl) hl).mono ?_;rintro en O ⟨N,L,rfl,m,n,⟨S1,p,q4⟩,q5⟩;refine⟨N,rfl,p.cell 4,?_⟩;refine(zAu 2 ⟨by omega,by omega⟩ l p rfl q4 q5 A ⟨by have:=hro.seq;show e.seq+_≤_;omega,by have:=hro.qC;show e.dh+_≤_;omega,by have:=hro.out;show e.out.length+_≤_;omega,hro.len,by have:=hro.fD;show e.drawn+_≤_;omega⟩ m (fun j hj=>by obtain⟨o,H,I,_⟩:=(n j).1 hj;exact⟨o,H,I⟩)).mono ?_;rintro en w' ⟨rfl,f⟩;have d:e.tick (v 8)=bf.lV 2 { e with now:=v 8 } L:=by
   unfold bf.tick;rw[if_neg E];exact bf.due_list _ 2 m.up (fun j=>by rw[n];rfl)
  obtain⟨t,Y,H,I,i⟩:=f.out;rw[←d]at H I;have M:(e.tick (v 8)).now=v 8:=by
   unfold bf.tick;rw[if_neg E];exact(bf.wR A _ 2).2.now
  refine⟨rfl,by have:=H.cell 4;rw[this];show some (iV (e.tick (v 8)).now)=_;rw[M],t,Y,H,I,c.trans i⟩
 clear h inv hH hro hl ht D;unfold mh;unfold lu at k y t8 C B G U;go_enter func98,ntmps98;go_wp2_with fail;generalize w.alloc (.cells #[iV (v 0),iV (v 1),iV (v 2),iV (v 3),iV (v 4),iV (v 5),iV (v 6),iV (v 7),iV (v 8)] 79)=W at *;cases q:decide (v 8<e.now)
 ·have T:=hid (B.o (by simpa using q));clear B C;have s:(W.setCell (iA b 4) (iV (v 8))).cell? (iA b 4)=sI (v 8):=World.cell?_setCell_same _ _ _ k;go_quiet (fail);go_wp2_with fail;go_region_held3(fun X=>X.cell? (iA b 4)=sI (v 8)) (first|exact s|exact u|exact x) (first|(go_at_call 137;refine(T.o W (Same.refl W) _ (((Same.refl _).drewN nq).drew)).mono ?_;rintro en O ⟨N,rfl,u,R⟩)|(go_at_call 131;refine R.mono ?_;rintro en w2 ⟨rfl,x,V⟩));go_end0;exact⟨rfl,V⟩
 have T:=hid (C.o (by simpa using q));clear B C;go_quiet (fail);go_wp2_with fail;refine(T.o (W.drewN nq) ((Same.refl W).drewN nq)).mono ?_;rintro en O ⟨rfl,V⟩;go_wp2
 (try simp only[Exit.inBlock,Exit.then])
 refine bodyPost_ret (results_none rfl _ _ _) rfl ?_;exact⟨rfl,V⟩
theorem zGr(h:dw F base w b e g S)(inv:bf.fe e)(hH:Holds e S [] [])(hro:Room 100 e)(hv:0≤v 0∧v 0<4294967296):
 Cl 96 #[iP b,mh v] w fun en w'=>en=rV #[]∧Hd (qj F base w b g (e.cancel (v 0)) w'):=by
 have H:aD (v 0):=rz hv.1 (by omega);have s:(w.alloc (.cells (lu v) 79)).cell? (iA w.heap.size 0)=sI (v 0):=(TA.new w v _).cell 0;have Z:=h.alloc (.cells (lu v) 79);have J:Touch F w (w.alloc (.cells (lu v) 79)):=(Touch.refl F w).alloc _;have C:Hd (∀W,Same (w.alloc (.cells (lu v) 79)) W→Cl 129 #[.pointer (some (iA b 8)),iV (v 0)] W fun en A=>en=rV #[aG g (e.tu (v 0)),.bool (e.tu (v 0)).isSome]∧cI A w.heap.size 0 (v 0)∧Hd (Same (w.alloc (.cells (lu v) 79)) A)):=by
  intro W B;refine(zA4 (v 0) H (Z.same B) inv hH).mono ?_;rintro en A ⟨rfl,N⟩;exact⟨rfl,((TA.new w v _).same (B.trans N)).cell 0,B.trans N⟩
 have E:Hd (e.tu (v 0)=none→∀W,Same (w.alloc (.cells (lu v) 79)) W→Cl 56 #[iP b,iV (v 0),iV 3] W fun en w'=>en=rV #[]∧Hd (qj F base w b g (e.cancel (v 0)) w')):=by
  intro u W B;refine(rG (v 0) 3 (Z.same B) hH (hro.mono (by omega)) H ⟨by omega,by omega⟩).mono ?_;rintro en w' ⟨rfl,R⟩;obtain⟨t,Y,f,k,l⟩:=R.out;have d:e.cancel (v 0)=e.ny (v 0) 3:=by unfold bf.cancel;rw[u]
  rw[d];exact⟨rfl,t,Y,f,k,(J.trans B.touch).trans l⟩
 have D:Hd (∀i,e.tu (v 0)=some i→∀W,Same (w.alloc (.cells (lu v) 79)) W→Cl 130 #[.pointer (some (iA b 8)),iP (g.blk i)] W fun en A=>en=rV #[]∧Hd (Cl 131 #[iP b,iV 1,sL A.heap.size 1 1] (A.alloc (.cells #[iP (g.blk i)] 200)) fun en w'=>en=rV #[]∧Hd (qj F base w b g (e.cancel (v 0)) w'))):=by
  intro i n W B;obtain⟨o,O,p,N⟩:=bf.bE n;have L:=inv.ok i o O;have I:=Z.same B;refine(lF I (I.oa O N) (rz (by have:=L.nC;omega) (by have:=L.nD;omega))).mono ?_;rintro en A ⟨rfl,q,x,_⟩;refine⟨rfl,?_⟩;have y:=q.alloc (.cells #[iP (g.blk i)] 200);have M:jU A.heap.size (A.alloc (.cells #[iP (g.blk i)] 200)) g (sL A.heap.size 1 1) [i]:=⟨⟨rfl,.inr ⟨A.heap.size,1,#[iP (g.blk i)],rfl,Nat.le_refl _,heap_alloc_new A _,Nat.le_refl _,by unfold maxLen;omega,rfl,rfl⟩⟩,List.pairwise_singleton _ _⟩;have c:Holds e (S.leave e.all o) [i] []:=hH.leave inv O;have K:∀j∈[i],∃o,e.all[j]? =some o∧o.dm=1:=fun j hj=>by
   obtain rfl:j=i:=by simpa using hj
   exact⟨o,O,N⟩
  refine(zAu 1 ⟨by omega,by omega⟩ q y rfl c ((Touch.refl F A).alloc _) inv (hro.mono (by omega)) M K).mono ?_;rintro en w' ⟨rfl,R⟩;have d:e.cancel (v 0)=bf.lV 1 e [i]:=by unfold bf.cancel;rw[n];rfl
  rw[←d]at R;obtain⟨t,Y,f,k,l⟩:=R.out;exact⟨rfl,t,Y,f,k,((J.trans B.touch).trans x).trans l⟩
 unfold mh;unfold lu at s C E D;go_enter func96,ntmps96;go_wp2_with fail;generalize w.alloc (.cells #[iV (v 0),iV (v 1),iV (v 2),iV (v 3),iV (v 4),iV (v 5),iV (v 6),iV (v 7),iV (v 8)] 79)=W at *;go_region_held3(fun X=>X.cell? (iA w.heap.size 0)=sI (v 0)) (first|exact s|exact m) ((go_at_call 129;refine(C _ (Same.refl _).drew).mono ?_;rintro en A ⟨rfl,m,G⟩));rcases hL:e.tu (v 0) with _|i
 ·have U:=hid (E hL A G);simp only[Option.isSome_none];go_wp2_with fail;refine U.mono ?_;rintro en z ⟨rfl,V⟩;go_wp2
  (try simp only[Exit.inBlock,Exit.then])
  refine bodyPost_ret (results_none rfl _ _ _) rfl ?_;exact⟨rfl,V⟩
 have U:=hid (D i hL A G);unfold aG nR;simp only[Option.isSome_some,Option.map_some];go_wp2_with fail;refine U.mono ?_;rintro en z ⟨rfl,T⟩;go_wp2_with fail;refine T.mono ?_;rintro en w3 ⟨rfl,V⟩;go_wp2;go_end0;exact⟨rfl,V⟩
end
section
variable {F:Nat→Prop} {base:Nat} {w:World} {b i:Nat} {e:bf} {g:Gh} {S:jk} {o:Ord}
def parkO(o:Ord):Ord:={ o with bn:=0,bg:=0 }
theorem zGs(h:dw F base w b e g S)(inv:bf.fe e)(hH:Holds e S [] [])(ho:e.all[i]? =some o)(hs:o.dm=1)(hro:Room 1 e):
 Cl 140 #[iP b,iP (g.blk i)] w fun en w'=>en=rV #[]∧Hd (qj F base w b g (e.park i o) w'):=by
 have k:=inv.ok i o ho;have A:aD o.id:=rz (by have:=k.nC;omega) (by have:=k.nD;omega);have z:aD 0:=⟨by omega,by omega⟩;have I:Hd (Cl 173 #[iP b,iP (g.blk i)] w fun en C=>en=rV #[]∧cI C (g.blk i) 3 o.bn∧C.frozen? (iA (g.blk i) 3)=false∧(C.setCell (iA (g.blk i) 3) (iV 0)).cell? (iA (g.blk i) 0)=sI o.id∧Hd (∀W,Same (C.setCell (iA (g.blk i) 3) (iV 0)) W→Cl 94 #[.pointer (some (iA b 6)),.agg #[iV 8,iV 0,iV o.id,iV 0,iV 0,iV 0,iV 0]] W fun en w'=>en=rV #[]∧cI w' (g.blk i) 0 o.id∧Hd (qj F base w b g (e.park i o) w'))):=by
  refine(lD h ho hs (hH.live ho hs) A).mono ?_;rintro en C ⟨rfl,M,U⟩;have G:(e.upd i fun o=>{ o with bg:=0 }).all[i]? =some { o with bg:=0 }:=bf.upd_same e i _ o ho;have E:=M.oa G hs;have L:i∉(S.off e.all o).ended:=by rw[jk.off_ended];exact hH.live ho hs
  obtain⟨N,V⟩:=M.wr (i:=i) G hs L 3 (iV 0) (fun o=>{ o with bn:=0 }) rfl (by simp[Ord.code]);rw[bf.aV]at N;have D:dw F base (C.setCell (iA (g.blk i) 3) (iV 0)) b (e.upd i parkO) g (S.off e.all o):=N;have B:(e.upd i parkO).all[i]? =some (parkO o):=bf.upd_same e i _ o ho;have K:=D.oa B hs;refine⟨rfl,E.cell 3,E.dz 3,K.cell 0,fun W hW=>?_⟩;refine(rA 8 0 o.id 0 0 0 0 (D.same hW) (by have:=hro.seq;show e.seq<_;omega) (by have:=hro.out;show e.out.length≤_;omega) ⟨⟨by omega,by omega⟩,A,z,z,z,z⟩).mono ?_;rintro en w' ⟨rfl,t,O,Y⟩;have H:((e.upd i parkO).tell 8 o.id 0 0 0 0).all[i]? =some (parkO o):=B;refine⟨rfl,(O.oa (i:=i) H hs).cell 0,t,S.off e.all o,O,?_,((U.trans V).trans hW.touch).trans Y⟩;exact(Holds.off (f:=parkO) hH inv ho rfl rfl rfl (fun j hj=>by cases hj) rfl).vz rfl
 go_enter func140,ntmps140;go_wp2_with fail;refine I.mono ?_;rintro en C ⟨rfl,Z,c,c0,R⟩;go_wp2_with fail;go_region_held3(fun X=>X.cell? (iA (g.blk i) 0)=sI o.id) (first|exact c0|exact J) ((go_at_call 94;refine(R _ (Same.refl _).drew).mono ?_;rintro en d ⟨rfl,J,T⟩));go_end0;exact⟨rfl,T⟩
def moveO(p:Int)(st:Nat)(o:Ord):Ord:={ o with bn:=p,dh:=(st+1:Nat),bg:=o.opn }
theorem zGt(p:Int)(hp:0≤p∧p≤1000000)(h:dw F base w b e g S)(inv:bf.fe e)(hH:Holds e S [] [])(ho:e.all[i]? =some o)(hs:o.dm=1)(hop:0<o.opn)(hro:Room 1 e):
 Cl 141 #[iP b,iP (g.blk i),iV p] w fun en w'=>en=rV #[]∧Hd (qj F base w b g (e.move i o p) w'):=by
 have k:=inv.ok i o ho;have A:aD o.id:=rz (by have:=k.nC;omega) (by have:=k.nD;omega);have D:aD p:=rz hp.1 (by omega);have z:aD 0:=⟨by omega,by omega⟩;have B:=k.open_ hs;have hb:o.opn≤1000:=by have:=k.sum;have:=k.fJ;have:=k.jN;have:=k.fH;omega
 have U:=h.oa ho hs;have s:cI w (g.blk i) 3 o.bn:=U.cell 3;have y:=U.dz 3;obtain⟨T,l⟩:=h.wr ho hs (hH.live ho hs) 3 (iV p) (fun o=>{ o with bn:=p }) rfl (by simp[Ord.code]);have H:(e.upd i fun o=>{ o with bn:=p }).all[i]? =some { o with bn:=p }:=bf.upd_same e i _ o ho;have J:Hd (Cl 153 #[iP (g.blk i)] (w.setCell (iA (g.blk i) 3) (iV p)) fun en Z=>en=.returned (iV o.opn)∧Hd (Cl 174 #[iP b,iP (g.blk i),iV o.opn] Z fun en I=>en=rV #[]∧cI I (g.blk i) 0 o.id∧cI I (g.blk i) 3 p∧cI I (g.blk i) 11 o.opn∧Hd (∀W,Same I W→Cl 94 #[.pointer (some (iA b 6)),.agg #[iV 7,iV 0,iV o.id,iV 0,iV p,iV o.opn,iV 0]] W fun en w'=>en=rV #[]∧cI w' (g.blk i) 0 o.id∧cI w' (g.blk i) 3 p∧cI w' (g.blk i) 11 o.opn∧Hd (qj F base w b g (e.move i o p) w')))):=by
  refine(gL (T.oa H hs) (by show aD (o.mg - o.bu);rw[←B];exact rz (by omega) (by omega))).mono ?_;rintro en Z ⟨rfl,d⟩;refine⟨by show _=Ending.returned (iV o.opn);rw[B],?_⟩;have M:=T.same d;have V:=(M.small ((hH.upd (f:=fun o=>{ o with bn:=p }) (odd':=[]) ho rfl rfl rfl (fun _ _=>Iff.rfl) (.inr ⟨by simp,Iff.rfl⟩)))).mono (m:=1000000000) (by rw[bf.kz];exact hro.len);refine(zC8 (o:={ o with bn:=p }) o.opn M H hs (hH.live ho hs) A (by have:=hro.qC;show e.dh<_;omega) V).mono ?_;rintro en I ⟨rfl,Y,q2⟩;have hE:({ (e.upd i fun o=>{ o with bn:=p }) with dh:=(e.upd i fun o=>{ o with bn:=p }).dh+1 }.upd i fun x=>{ x with dh:=((e.upd i fun o=>{ o with bn:=p }).dh+1:Nat),bg:=o.opn })={ e with dh:=e.dh+1 }.upd i (moveO p e.dh):=by
   have h5:({ (e.upd i fun o=>{ o with bn:=p }) with dh:=(e.upd i fun o=>{ o with bn:=p }).dh+1 }:bf)=({ e with dh:=e.dh+1 }:bf).upd i fun o=>{ o with bn:=p }:=rfl
   rw[h5,bf.aV];refine bf.nk _ i _ _ (fun x hx=>?_);obtain rfl:o=x:=Option.some.inj (ho.symm.trans hx);rfl
  have hS:S.lay (e.upd i fun o=>{ o with bn:=p }).all { o with bn:=p } i=S.lay e.all o i:=by
   unfold jk.lay;show(if o.side=1 then _ else _)=(if o.side=1 then _ else _);rw[eP e i (fun o=>{ o with bn:=p }) (fun _ _=>rfl),eP e i (fun o=>{ o with bn:=p }) (fun _ _=>rfl)]
  rw[hE,hS]at Y;have C:({ e with dh:=e.dh+1 }.upd i (moveO p e.dh)).all[i]? =some (moveO p e.dh o):=bf.upd_same { e with dh:=e.dh+1 } i _ o ho;have E:=Y.oa C hs;refine⟨rfl,E.cell 0,E.cell 3,E.cell 11,fun W hW=>?_⟩;refine(rA 7 0 o.id 0 p o.opn 0 (Y.same hW) (by have:=hro.seq;show e.seq<_;omega) (by have:=hro.out;show e.out.length≤_;omega) ⟨⟨by omega,by omega⟩,A,z,D,rz (by omega) (by omega),z⟩).mono ?_;rintro en w' ⟨rfl,t,c,r2⟩;have G:=c.oa (i:=i) C hs;refine⟨rfl,G.cell 0,G.cell 3,G.cell 11,t,S.lay e.all o i,?_,?_,(((l.trans d.touch).trans q2).trans hW.touch).trans r2⟩
  ·have hM:e.move i o p=({ e with dh:=e.dh+1 }.upd i (moveO p e.dh)).tell 7 o.id 0 p o.opn 0:=rfl;rw[hM];exact c
  have hL:=Holds.lay (f:=moveO p e.dh) (e:={ e with dh:=e.dh+1 }) (hH.vz rfl) inv.stamped ho rfl rfl rfl (fun j hj=>by cases hj) (show¬o.opn=0 by omega);exact hL.vz rfl
 clear h inv hH ho hs hro k A z B hb U T l H hp D;go_enter func141,ntmps141;go_wp2_with fail;refine J.mono ?_;rintro en Z ⟨rfl,K⟩;clear J s y;go_wp2_with fail;refine K.mono ?_;rintro en I ⟨rfl,u,v,O,n⟩;clear K;go_wp2_with fail;go_region_held3(fun X=>X.cell? (iA (g.blk i) 0)=sI o.id∧X.cell? (iA (g.blk i) 3)=sI p∧X.cell? (iA (g.blk i) 11)=sI o.opn) (first|exact⟨u,v,O⟩|exact⟨N,R,L⟩) ((go_at_call 94;refine(n.o _ (Same.refl _).drew).mono ?_;rintro en w3 ⟨rfl,N,R,L,q⟩));go_end0;exact⟨rfl,q⟩
theorem zGu(h:dw F base w b e g S)(inv:bf.fe e)(hH:Holds e S [] [])(ho:e.all[i]? =some o)(hs:o.dm=1)(hsd:o.side=1):
 Cl 139 #[iP b,iP (g.blk i)] w fun en w'=>en=.returned (iV (e.target o))∧Below w.heap.size w w':=by
 have k:=inv.ok i o ho;have A:o.side=1:=hsd;have E:=bf.rU (mp:=e.mp) (st:=e.dh) 1 e.all (fun x hx=>by obtain⟨j,c⟩:=List.mem_iff_getElem?.1 hx;exact inv.ok j x c);have d:=inv.oN;have U:=inv.mp0;have f:=k.off0;have l:=k.off1;have K:Hd (Cl 166 #[iP b,iP (g.blk i)] w fun en O=>en=rV #[.iface 167 (iP g.wz),.iface 173 (iP g.xg)]∧Hd (Cl 249 #[iP g.wz] O fun en H=>en=rV #[iV (bf.qw 1 e.all),found (bf.qw 1 e.all)]∧cI H (g.blk i) 6 o.off∧cI H b 1 e.mp∧Hd (Bw w H))):=by
  refine(gT h (h.oa ho hs) hsd).mono ?_;rintro en O ⟨rfl,B⟩;refine⟨rfl,?_⟩;refine(wE (h.same B) inv hH).mono ?_;rintro en H ⟨rfl,T⟩;have R:=(h.same B).below T;exact⟨rfl,(R.oa ho hs).cell 6,R.cell 1,zz (eY (Below.refl _ _) B) T⟩
 have D:Hd (e.target o=if 0<bf.qw 1 e.all then bf.nJ (bf.qw 1 e.all+o.off) 1 e.mp else bf.qw 1 e.all):=by
  show _=_;unfold bf.target;rw[A]
 generalize bf.qw 1 e.all=p at *;go_enter func139,ntmps139;go_wp2_with fail;refine K.mono ?_;rintro en O ⟨rfl,I⟩;go_wp2_with fail;refine I.mono ?_;rintro en H ⟨rfl,t,c1,C⟩;unfold found;cases q:(p == 0)
 ·have G:p≠0:=by simpa using q
  have N:0<p:=by rcases E with M|M<;>omega
  have m:p≤e.mp:=by rcases E with M|M<;>omega
  have J:=hid (D.trans (if_pos N));have n:wrap64 (p+o.off)=p+o.off:=by unfold wrap64;omega
  have s:IntKind.i64.wrap (p+o.off)=p+o.off:=aM _ (by omega) (by omega);simp only[Bool.not_false];have Y:Hd (e.target o=min (max (p+o.off) 1) e.mp):=by
   show _=_;rw[J.o];unfold bf.nJ;by_cases V:p+o.off<1
   ·have L:max (p+o.off) 1=1:=by omega
    rw[L];simp only[V,if_true];have Z:min 1 e.mp=1:=by omega
    rw[Z,if_neg (by omega)]
   have L:max (p+o.off) 1=p+o.off:=by omega
   rw[L];simp only[V,if_false];by_cases X:e.mp<p+o.off
   ·rw[if_pos X];omega
   rw[if_neg X];omega
  go_wp2_with fail;go_region_law(fail);all_goals(go_wp2;go_ret;exact⟨by rw[Y.o];rfl,⟨C.os,C.tape,C.output,C.size,C.block⟩⟩)
 have G:p=0:=by simpa using q
 have J:Hd (e.target o=0):=by show _=_;rw[D.o,G];rfl
 simp only[Bool.not_true];go_wp2;go_ret;exact⟨by rw[J.o];rfl,C⟩
theorem zGv(h:dw F base w b e g S)(inv:bf.fe e)(hH:Holds e S [] [])(ho:e.all[i]? =some o)(hs:o.dm=1)(hsd:¬o.side=1):
 Cl 139 #[iP b,iP (g.blk i)] w fun en w'=>en=.returned (iV (e.target o))∧Below w.heap.size w w':=by
 have k:=inv.ok i o ho;have A:o.side=2:=k.side.resolve_left hsd;have E:=bf.rU (mp:=e.mp) (st:=e.dh) 2 e.all (fun x hx=>by obtain⟨j,c⟩:=List.mem_iff_getElem?.1 hx;exact inv.ok j x c);have d:=inv.oN;have U:=inv.mp0;have f:=k.off0;have l:=k.off1;have K:Hd (Cl 166 #[iP b,iP (g.blk i)] w fun en O=>en=rV #[.iface 173 (iP g.xg),.iface 167 (iP g.wz)]∧Hd (Cl 255 #[iP g.xg] O fun en H=>en=rV #[iV (bf.qw 2 e.all),found (bf.qw 2 e.all)]∧cI H (g.blk i) 6 o.off∧cI H b 1 e.mp∧Hd (Bw w H))):=by
  refine(gU h (h.oa ho hs) hsd).mono ?_;rintro en O ⟨rfl,B⟩;refine⟨rfl,?_⟩;refine(wF (h.same B) inv hH).mono ?_;rintro en H ⟨rfl,T⟩;have R:=(h.same B).below T;exact⟨rfl,(R.oa ho hs).cell 6,R.cell 1,zz (eY (Below.refl _ _) B) T⟩
 have D:Hd (e.target o=if 0<bf.qw 2 e.all then bf.nJ (bf.qw 2 e.all+o.off) 1 e.mp else bf.qw 2 e.all):=by
  show _=_;unfold bf.target;rw[A]
 generalize bf.qw 2 e.all=p at *;go_enter func139,ntmps139;go_wp2_with fail;refine K.mono ?_;rintro en O ⟨rfl,I⟩;go_wp2_with fail;refine I.mono ?_;rintro en H ⟨rfl,t,c1,C⟩;unfold found;cases q:(p == 0)
 ·have G:p≠0:=by simpa using q
  have N:0<p:=by rcases E with M|M<;>omega
  have m:p≤e.mp:=by rcases E with M|M<;>omega
  have J:=hid (D.trans (if_pos N));have n:wrap64 (p+o.off)=p+o.off:=by unfold wrap64;omega
  have s:IntKind.i64.wrap (p+o.off)=p+o.off:=aM _ (by omega) (by omega);simp only[Bool.not_false];have Y:Hd (e.target o=min (max (p+o.off) 1) e.mp):=by
   show _=_;rw[J.o];unfold bf.nJ;by_cases V:p+o.off<1
   ·have L:max (p+o.off) 1=1:=by omega
    rw[L];simp only[V,if_true];have Z:min 1 e.mp=1:=by omega
    rw[Z,if_neg (by omega)]
   have L:max (p+o.off) 1=p+o.off:=by omega
   rw[L];simp only[V,if_false];by_cases X:e.mp<p+o.off
   ·rw[if_pos X];omega
   rw[if_neg X];omega
  go_wp2_with fail;go_region_law(fail);all_goals(go_wp2;go_ret;exact⟨by rw[Y.o];rfl,⟨C.os,C.tape,C.output,C.size,C.block⟩⟩)
 have G:p=0:=by simpa using q
 have J:Hd (e.target o=0):=by show _=_;rw[D.o,G];rfl
 simp only[Bool.not_true];go_wp2;go_ret;exact⟨by rw[J.o];rfl,C⟩
theorem zGw(h:dw F base w b e g S)(inv:bf.fe e)(hH:Holds e S [] [])(ho:e.all[i]? =some o)(hs:o.dm=1):
 Cl 139 #[iP b,iP (g.blk i)] w fun en w'=>en=.returned (iV (e.target o))∧Below w.heap.size w w':=by
 by_cases A:o.side=1
 ·exact zGu h inv hH ho hs A
 exact zGv h inv hH ho hs A
end
end
section
open Go.Extern Go.RowKit
def ord0:Ord:=⟨0,0,0,0,0,0,0,0,0,0,0,0,0,0,0⟩
def encS(o:Ord):List Value:=[iV o.id,iV o.dm,iV o.bn,iV o.opn,iV o.bu,iV o.cancelled,iV o.bg]
theorem zAv{α:Type}[Inhabited α](enc:α→List Value)(k:Nat)(hk:∀x,(enc x).length=k)(hk0:0<k):∀(L:List α) (t:Nat),t<L.length*k→(L.flatMap enc)[t]? =(enc (L[t / k]!))[t % k]?
 | [],t,h=>by simp at h
 |x::r,t,h=>by
  rw[List.flatMap_cons];by_cases ht:t<k
  ·rw[List.getElem?_append_left (by rw[hk];exact ht),Nat.div_eq_of_lt ht,Nat.mod_eq_of_lt ht];rfl
  have h2:t - k<r.length*k:=by
   have:(x::r).length*k=r.length*k+k:=by rw[List.length_cons,Nat.add_mul,Nat.one_mul]
   omega
  rw[List.getElem?_append_right (by rw[hk];omega),hk,zAv enc k hk hk0 r (t - k) h2];have A:t / k=(t - k) / k+1:=by
   conv=>lhs;rw[show t=(t - k)+k by omega]
   rw[Nat.add_div_right _ hk0]
  have B:t % k=(t - k) % k:=by
   conv=>lhs;rw[show t=(t - k)+k by omega]
   rw[Nat.add_mod_right]
  rw[A,B];rfl
theorem zAw{α:Type}(enc:α→List Value)(k:Nat)(hk:∀x,(enc x).length=k):∀(L:List α),(L.flatMap enc).length=L.length*k
 | []=>by simp
 |x::r=>by rw[List.flatMap_cons,List.length_append,hk,zAw enc k hk r,List.length_cons,Nat.add_mul,Nat.one_mul,Nat.add_comm]
theorem zGx(x y:Ord)(W:World):Cl 114 #[.agg #[iV x.id,iV x.dm,iV x.bn,iV x.opn,iV x.bu,iV x.cancelled,iV x.bg],.agg #[iV y.id,iV y.dm,iV y.bn,iV y.opn,iV y.bu,iV y.cancelled,iV y.bg]] W fun en w'=>en=.returned (iV (oC x.id y.id))∧∃q os',w'=Go.Sort.grow (W.drewN q) os':=by
 have A:Hd (∀W:World,Cl 115 #[iV x.id,iV y.id] W fun en w'=>en=.returned (iV (oC x.id y.id))∧w'=W):=fun W=>zCj x.id y.id W
 generalize oC x.id y.id=r at *;go_enter func114,ntmps114;go_wp2_with(go_at_call 115;refine(A _).mono ?_;rintro en w' ⟨rfl,rfl⟩);go_ret;exact⟨rfl,0,_,by rw[Go.Sort.alloc_eq_grow,Go.Sort.alloc_eq_grow,Go.Sort.grow_grow];rfl⟩
theorem Tryz.aggSt(w:World):(isAgg 121).run prog w=.ok true w:=by kernel_rfl
theorem Tryz.sizeSt(w:World):(Go.sizeOf 121).run prog w=.ok 7 w:=by kernel_rfl
theorem zGy{w:World}{B:Nat}(M:List Ord)(v:Value)(hv:w.ownsRow B 121 7 v M.length (M.flatMap encS))(hB:B≤w.heap.size)(hl:M.length≤1000000000):
 Cl 113 #[v,.func (.func 114) #[] #[]] w fun en w'=>en=rV #[]∧∃M':List Ord,M'.Perm M∧M'.Pairwise (fun x y=>x.id≤y.id)∧w'.ownsRow B 121 7 v M.length (M'.flatMap encS)∧Below B w w':=by
 have A0:Inhabited Ord:=⟨ord0⟩;by_cases hL:M.length=0
 ·have hM:M= []:=List.length_eq_zero_iff.1 hL;subst hM;have:∃p cap,v=.slice p 0 cap:=by
   rcases hv.2 with⟨G,_⟩|⟨d,cap,H,G,_⟩
   ·exact⟨_,_,G⟩
   exact⟨_,_,G⟩
  obtain⟨p,cap,rfl⟩:=this;have h:=AnyF.slices_SortFunc_none (P:=prog) (ρ:=Tryz.sortSt_ren) Tryz.sortSt p cap (.func (.func 114) #[] #[]) w;refine Calls.mono h ?_;rintro en w' ⟨rfl,rfl⟩;exact⟨rfl,[],List.Perm.refl _,List.Pairwise.nil,hv,Below.refl B w'⟩
 rcases hv.2 with⟨_,G⟩|⟨A,cap,H,rfl,S,E,K,V,q,R⟩
 ·exact absurd G hL
 have l:A<w.heap.size:=(Array.getElem?_eq_some_iff.1 E).1
 let d:Array Ord:=M.toArray
 have F:d.size=M.length:=by simp[d]
 have L:∀x:Ord,(encS x).length=7:=fun _=>rfl
 have N:∀t,t<M.length*7→H[t]? =some ((Go.Sort.flatK encS 7 d)[t]!):=by
  intro t O;have G:(H.toList.take (M.length*7))[t]? =(M.flatMap encS)[t]? :=by rw[R]
  rw[List.getElem?_take_of_lt O,Array.getElem?_toList,zAv encS 7 L (by omega) M t O]at G;rw[G,Go.Sort.get_flatK _ _ _ t (by rw[F];exact O)];have J:t % 7<(encS (M[t / 7]!)).length:=by rw[L];exact Nat.mod_lt _ (by omega)
  have X:d[t / 7]! =M[t / 7]! :=by simp[d]
  rw[X,List.getElem?_eq_getElem J,getElem!_pos (encS (M[t / 7]!)) (t % 7) J]
 have b:(Go.Sort.flatK encS 7 d).size=M.length*7:=by simp[F]
 have hH:Go.Sort.HoldsK encS 7 w A 0 d:=fun j Y=>by
  rw[b]at Y;refine⟨?_,by simp[World.frozen?,E]⟩;simp only[World.cell?,E,Nat.zero_add];exact N j Y
 have I:∀x y:Ord,ltOf (fun x y:Ord=>oC x.id y.id) x y=decide (x.id<y.id):=fun x y=>by
  unfold ltOf;by_cases h:x.id<y.id
  ·simp[h,xN]
  simp[h,xN]
 have hO:Go.Sort.SWO (ltOf fun x y:Ord=>oC x.id y.id):=⟨fun x=>by rw[I];simp,fun x y z G J=>by rw[I]at *;simp at *;omega,fun x y z G J=>by rw[I]at *;simp at *;omega⟩;have eg:=enters_of func114 (by kernel_rfl) rfl;have Z:∀x:Ord,∀u∈encS x,u.oneCell'=true:=fun x u hu=>by
  simp[encS]at hu;rcases hu with rfl|rfl|rfl|rfl|rfl|rfl|rfl<;>rfl
 have T:CmpLays prog 114 #[] encS 7 (fun x y=>oC x.id y.id) A 0 d.size w:=fun _ _ _ _ x y=>zGx x y _
 have h:=AnyQ.slices_SortFunc (P:=prog) (ρ:=Tryz.sortSt_ren) Tryz.sortSt 7 Tryz.aggSt Tryz.sizeSt encS L Z (fun x y=>oC x.id y.id) hO 114 #[] A 0 cap d w eg T hH l (by omega);rw[F]at h;refine Calls.mono h ?_;rintro en w' ⟨rfl,C,n,os,hp,hs,rfl⟩;have D:=hp.1.trans F;have m:C.toList.Perm d.toList:=by
  have:=hp.2.2;rw[Array.toList_extract,Array.toList_extract]at this;simpa [List.extract,List.take_of_length_le,D,F] using this
 have U:(Go.Sort.flatK encS 7 C).size=M.length*7:=by simp[D]
 have hW:Go.Proofs.sortWorldK encS 7 w A 0 n C os=Go.Proofs.sortWorld id w A 0 n (Go.Sort.flatK encS 7 C) os:=rfl;rw[hW];refine⟨rfl,C.toList,by simpa [d] using m,?_,⟨by rw[zAw encS 7 L];simp[D],.inr ⟨A,cap,_,rfl,S,zCk id w A n _ os E,K,V,by simp[Go.Sort.putCells,q],?_⟩⟩,rfl,rfl,rfl,zCl id w A n _ os,fun k L=>rE id w A n _ os (by omega) (by omega)⟩
 ·rw[List.pairwise_iff_getElem];intro i j hi Y f;have c:i<C.size:=by simpa using hi
  have g:j<C.size:=by simpa using Y
  have:=hs i j (Nat.zero_le _) f (by omega);rw[I,getElem!_pos C i c,getElem!_pos C j g]at this;simp at this;simpa using this
 apply List.ext_getElem?;intro t;by_cases O:t<M.length*7
 ·rw[List.getElem?_take_of_lt O,Array.getElem?_toList,zAv encS 7 L (by omega) _ t (by simpa [D] using O)];simp only[Go.Sort.putCells,Array.getElem?_mapIdx];have s:t<H.size:=by have:cap*7≥M.length*7:=Nat.mul_le_mul_right 7 K;omega
  rw[Array.getElem?_eq_getElem s];have J:t % 7<(encS (C.toList[t / 7]!)).length:=by rw[L];exact Nat.mod_lt _ (by omega)
  have h4:t / 7<C.size:=by rw[D];exact Nat.div_lt_of_lt_mul (by omega)
  have X:C.toList[t / 7]! =C[t / 7]! :=by rw[getElem!_pos C (t / 7) h4,getElem!_pos C.toList (t / 7) (by simpa using h4)];simp
  rw[Option.map_some,if_pos ⟨Nat.zero_le _,by rw[U];omega⟩,Nat.sub_zero,Go.Sort.get_flatK _ _ _ t (by rw[D];exact O),X];rw[X]at J;rw[List.getElem?_eq_getElem J,getElem!_pos (encS (C[t / 7]!)) (t % 7) J];rfl
 rw[List.getElem?_eq_none (by simp;omega),List.getElem?_eq_none (by rw[zAw encS 7 L];simp[D];omega)]
end
end Go.Proofs.YtehmdohpmpbnnaaGreatDoor
