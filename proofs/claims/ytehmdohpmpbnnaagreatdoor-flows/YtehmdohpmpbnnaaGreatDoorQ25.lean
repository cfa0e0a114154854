import Derived.Test.YtehmdohpmpbnnaaGreatDoorQ00
import Derived.Test.YtehmdohpmpbnnaaGreatDoorQ14
import Derived.Test.YtehmdohpmpbnnaaGreatDoorQ16
import Derived.Deep.LoopGhost
import Derived.Deep.AppendLies
set_option linter.all false
set_option maxRecDepth 100000
set_option maxHeartbeats 8000000
namespace Go.Proofs.YtehmdohpmpbnnaaGreatDoor
variable{e E:bf}{F:Nat→Prop}{base b i cap:Nat}{dv av:Value}{o:Ord}{w:World}
open Go.Proofs.Tryz
open Go.Extern Go.RowKit
theorem zHh(ho:E.all[i]? =some o)(hf:E.first (3 - o.side)=none):E.bH i=none:=by
 unfold bf.bH;rw[ho];simp only[hf];split<;>rfl
theorem vG(ho:E.all[i]? =some o)(h0:¬0<o.opn):E.bH i=none:=by
 unfold bf.bH;rw[ho];simp only;rw[if_neg h0]
theorem zHi{k:Nat}{r:Ord}(ho:E.all[i]? =some o)(h0:0<o.opn)(hf:E.first (3 - o.side)=some k)(hk:E.all[k]? =some r):E.bH i=if bf.meets o r.bn then some k else none:=by
 unfold bf.bH;rw[ho];simp only[hf,hk];rw[if_pos h0]
theorem xS{g:Nat}(i:Nat)(o:Ord)(h:dn F base w b e dv (sL g e.all.length cap))(hI:bf.fe e)(ho:e.all[i]? =some o)(hos:o.dm=1)(hsh:o.bg=0)(htp:o.typ≠3)(hr:Room 2001 e)(hsu:jR 1000 e)(hd:Dr e):
 Cl 150 #[iP b,iV i] w fun en w'=>en=rV #[]∧dn F base w' b (e.zy i) dv (sL g e.all.length cap)∧Touch F w w':=by
 have hi:i<e.all.length:=(List.getElem?_eq_some_iff.1 ho).1;have B8:(i:Int)<(e.all.length:Int):=by omega
 have Bc:=hr.len;have An:=hid (bC.start hI ho hos hsh hr hsu hd);have HR:=hid h;generalize hn:e.all.length=n at *;go_enter func150,ntmps150;go_wp2_with fail
 go_loopg [4] o.opn.toNat (fun k _ wr=> ∃(E:bf) (x:Ord),k=x.opn.toNat∧dn F base wr b E dv (sL g n cap)∧Touch F w wr∧bC e i E x∧bf.Kin o x)
 case atStart=>exact⟨e,o,rfl,HR,Touch.refl F w,An,bf.Kin.refl o⟩
 case round=>
  obtain⟨E,x,rfl,hR,hT,hS,hK⟩:=hrel;have Az:E.all.length=n:=hS.len.trans hn;obtain⟨hO,hF,B6,-⟩:=hR.jc;have c5:wr.cell? (iA b 5)=some (sL g n cap):=hR.cell 5;have p:=hO.cell i 10 x _ hS.at_ rfl;have HO:=hid hO;have A3:=hid hR;have Ae:=hid hT;have A:=hid hS;have HK:=hid hK;have kx:=hS.inv.ok i x hS.at_;have Aw:=kx.side;have Ar:x.opn≤1000:=by have:=kx.sum;have:=kx.fJ;have:=kx.jN;have:=kx.fH;omega
  have T:=hid kx;have Ac:=hid Aw;have Ab:=hid Ar;have R:=hid hn;by_cases A9:0<x.opn
  ·have x1:=HO.cell i 1 x _ A.at_ rfl;have Aa:=hid (zF4 A3 (3 - x.side) (by have:=A.len.trans R;omega));have Be:wrap64 (3 - x.side)=3 - x.side:=by have:=Ac;unfold wrap64;omega
   go_wp2_with fail;refine Aa.mono ?_;rintro en w1 ⟨rfl,Ag⟩;have V:=hid (A3.below Ag);have X:=hid (Ae.below Ag);have c5:w1.cell? (iA b 5)=some (sL g n cap):=V.cell 5;have A2:=hid V.jc.1;rcases hf:E.first (3 - x.side) with _|k
   ·have HM:Hd (E.bH i=none):=zHh A.at_ hf;have Ao:lN none= -1:=rfl;have Ai:=Ab;go_wp2_with fail;go_quiet (fail);have D:=hid (V.drewN nq);have K:=hid (X.drewN nq);generalize w1.drewN nq=W2 at *;have M:=hid D.jc.1;have c5:W2.cell? (iA b 5)=some (sL g n cap):=D.cell 5;have p:=M.cell i 10 x _ A.at_ rfl;have x2:=M.cell i 2 x _ A.at_ rfl;have x4:=M.cell i 4 x _ A.at_ rfl;have Y:x.opn≠0:=by omega
    have Af:(x.opn == 0)=false:=by simpa using Y
    have t:=hid (A.done HM);have u:Hd (bf.dP E i=E.lay i (bf.pq x)):=by
     show _=_;unfold bf.dP;rw[A.o.at_];simp only;rw[if_neg Y]
    have N:=hid (fun(m:Int) (s:xx m)=>fC (w:=W2) (F:=F) (base:=base) (b:=b) (e:=E) (dv:=dv) (g:=g) (cap:=cap) i m x (by have q:=D;rw[←A.len.trans R.o]at q;exact q) A.at_ A.room.len (by have:=A.room.seq;omega) (by have:=A.room.qC;omega) (by have:=A.room.out;omega) (n63 _ (by have:=T.nC;omega) (by have:=T.nD;omega)) (n63 _ T.lM (by have:=T.gY;have:=A.inv.oN;omega)) s);have C:Hd (∀W3:World,dn F base W3 b (E.lay i (bf.pq x)) dv (sL g E.all.length cap)→dn F base W3 b (e.zy i) dv (sL g n cap)):=fun W3 hW=>by
     rw[t.o,u.o];rw[A.o.len.trans R.o]at hW;exact hW
    cases O:(x.typ == 2)
    ·have I:Hd (bf.pq x=x.opn):=by
      show _=_;unfold bf.pq;rw[if_neg (fun hc=>by simp[hc.1]at O)]
     go_wp2_with fail;refine(N x.opn ⟨by omega,by omega⟩).mono ?_;rintro en S ⟨rfl,B,J⟩;rw[←I.out]at B;have G:=hid (C S B);have H:=hid (K.trans J);go_wp2;go_end0;exact⟨rfl,G,H⟩
    by_cases U:x.jw<x.opn
    ·have I:Hd (bf.pq x=x.jw):=by
      show _=_;unfold bf.pq;rw[if_pos ⟨by simpa using O,U⟩]
     have Ah:=(T.jw (by simpa using O)).1;go_wp2_with fail;refine(N x.jw ⟨by omega,by omega⟩).mono ?_;rintro en S ⟨rfl,B,J⟩;rw[←I.out]at B;have G:=hid (C S B);have H:=hid (K.trans J);go_wp2;go_end0;exact⟨rfl,G,H⟩
    have I:Hd (bf.pq x=x.opn):=by
     show _=_;unfold bf.pq;rw[if_neg (fun hc=>U hc.2)]
    go_wp2_with fail;refine(N x.opn ⟨by omega,by omega⟩).mono ?_;rintro en S ⟨rfl,B,J⟩;rw[←I.out]at B;have G:=hid (C S B);have H:=hid (K.trans J);go_wp2;go_end0;exact⟨rfl,G,H⟩
   obtain⟨Ay,r,hk,Au⟩:=bf.ze hf;obtain⟨Aj,Ak⟩:=bf.dM Au;have Ao:lN (some k)=(k:Int):=rfl;have Bb:k<n:=by have:=A.len.trans R;omega
   have Ba:(k:Int)<(n:Int):=by omega
   have B9:¬(k:Int)<0:=by omega
   have A0:=hid (zHi A.at_ A9 hf hk);have j:=hid hk;have B4:=hid (And.intro Aj Ak);have x1:=A2.cell i 1 x _ A.at_ rfl;have x9:=A2.cell i 9 x _ A.at_ rfl;have r9:=A2.cell k 9 r _ j rfl;have Ai:=Ab;have Ad:Hd (bf.meets x r.bn=true→∀W:World,dn F base W b E dv (sL g n cap)→Touch F w W→Cl 180 #[iP b,iV i,iV k] W fun en w'=>en=rV #[]∧∃(E':bf) (l:Ord),l.opn.toNat<x.opn.toNat∧dn F base w' b E' dv (sL g n cap)∧Touch F w w'∧bC e i E' l∧bf.Kin o l):=fun hmt W hW hTW=>by
    have s:E.bH i=some k:=by rw[A0.o,if_pos hmt]
    obtain⟨r',As,Aq,B2,At,Ax,Bd,B1,i1,et,i2,B7,B0,B5⟩:=bf.bJ A.o.inv A.o.at_ A.o.st A.o.sh s;obtain rfl:r'=r:=Option.some.inj (As.symm.trans j);have hl:=A.len.trans R;have hsu:=A.sums;have kx:=T;refine(zFa i k x r' (by rw[hl];exact hW) A.inv A.at_ j Aq A.st A.sh A9 At Ax (A.room.mono (by omega)) hsu.v0 (by have:=hsu.v1;omega) hsu.w0 (by have:=hsu.w1;omega) A.dr.len A.dr.bd).mono ?_;rintro en w' ⟨e1,h1,h2⟩;obtain⟨Am,Ap⟩:=A.o.step s j;refine⟨e1,E.sw i k,bf.kg x r',?_,by rw[hl]at h1;exact h1,hTW.trans h2,Am,HK.trans (bf.vN x r')⟩;omega
   cases Al:(x.side == 1)
   ·have h1:x.side≠1:=by simpa using Al
    have B3:=Ac;have L:Hd (x.side=2):=by show _=_;omega
    have Av:(x.side == 2)=true:=by simpa using L.out
    by_cases d:r.bn<x.bn
    ·have HM:Hd (E.bH i=none):=by
      show _=_;rw[A0.o,if_neg (by unfold bf.meets;rw[L.out,if_neg (by decide)];simp;omega)]
     have Z:decide ((k:Int)<0)=false:=by simp
     have f:decide (r.bn<x.bn)=true:=by simpa using d
     go_wp2_with fail;go_quiet (fail);have D:=hid (V.drewN nq);have K:=hid (X.drewN nq);generalize w1.drewN nq=W2 at *;have M:=hid D.jc.1;have c5:W2.cell? (iA b 5)=some (sL g n cap):=D.cell 5;have p:=M.cell i 10 x _ A.at_ rfl;have x2:=M.cell i 2 x _ A.at_ rfl;have x4:=M.cell i 4 x _ A.at_ rfl;have Y:x.opn≠0:=by omega
     have Af:(x.opn == 0)=false:=by simpa using Y
     have t:=hid (A.done HM);have u:Hd (bf.dP E i=E.lay i (bf.pq x)):=by
      show _=_;unfold bf.dP;rw[A.o.at_];simp only;rw[if_neg Y]
     have N:=hid (fun(m:Int) (s:xx m)=>fC (w:=W2) (F:=F) (base:=base) (b:=b) (e:=E) (dv:=dv) (g:=g) (cap:=cap) i m x (by have q:=D;rw[←A.len.trans R.o]at q;exact q) A.at_ A.room.len (by have:=A.room.seq;omega) (by have:=A.room.qC;omega) (by have:=A.room.out;omega) (n63 _ (by have:=T.nC;omega) (by have:=T.nD;omega)) (n63 _ T.lM (by have:=T.gY;have:=A.inv.oN;omega)) s);have C:Hd (∀W3:World,dn F base W3 b (E.lay i (bf.pq x)) dv (sL g E.all.length cap)→dn F base W3 b (e.zy i) dv (sL g n cap)):=fun W3 hW=>by
      rw[t.o,u.o];rw[A.o.len.trans R.o]at hW;exact hW
     cases O:(x.typ == 2)
     ·have I:Hd (bf.pq x=x.opn):=by
       show _=_;unfold bf.pq;rw[if_neg (fun hc=>by simp[hc.1]at O)]
      go_wp2_with fail;refine(N x.opn ⟨by omega,by omega⟩).mono ?_;rintro en S ⟨rfl,B,J⟩;rw[←I.out]at B;have G:=hid (C S B);have H:=hid (K.trans J);go_wp2;go_end0;exact⟨rfl,G,H⟩
     by_cases U:x.jw<x.opn
     ·have I:Hd (bf.pq x=x.jw):=by
       show _=_;unfold bf.pq;rw[if_pos ⟨by simpa using O,U⟩]
      have Ah:=(T.jw (by simpa using O)).1;go_wp2_with fail;refine(N x.jw ⟨by omega,by omega⟩).mono ?_;rintro en S ⟨rfl,B,J⟩;rw[←I.out]at B;have G:=hid (C S B);have H:=hid (K.trans J);go_wp2;go_end0;exact⟨rfl,G,H⟩
     have I:Hd (bf.pq x=x.opn):=by
      show _=_;unfold bf.pq;rw[if_neg (fun hc=>U hc.2)]
     go_wp2_with fail;refine(N x.opn ⟨by omega,by omega⟩).mono ?_;rintro en S ⟨rfl,B,J⟩;rw[←I.out]at B;have G:=hid (C S B);have H:=hid (K.trans J);go_wp2;go_end0;exact⟨rfl,G,H⟩
    have A1:Hd (bf.meets x r.bn=true):=by
     show _=_;unfold bf.meets;rw[L.out,if_neg (by decide)];simp;omega
    have Z:decide ((k:Int)<0)=false:=by simp
    have f:decide (r.bn<x.bn)=false:=by simpa using d
    go_wp2_with fail;go_quiet (fail);have D:=hid (V.drewN nq);have K:=hid (X.drewN nq);generalize w1.drewN nq=W2 at *;go_wp2_with fail;refine(Ad A1 W2 D K).mono ?_;rintro en S ⟨rfl,A8⟩;have z:=hid A8;go_wp2;obtain⟨E',l,c,A5,A7,A6,A4⟩:=z
    go_roundg l.opn.toNat
    case measure=>exact c
    case rel=>exact⟨E',l,rfl,A5,A7,A6,A4⟩
   have L:Hd (x.side=1):=by show _=_;simpa using Al
   have Av:(x.side == 2)=false:=by rw[L.out];rfl
   by_cases d:x.bn<r.bn
   ·have HM:Hd (E.bH i=none):=by
     show _=_;rw[A0.o,if_neg (by unfold bf.meets;rw[L.out,if_pos rfl];simp;omega)]
    have Z:decide ((k:Int)<0)=false:=by simp
    have f:decide (x.bn<r.bn)=true:=by simpa using d
    go_wp2_with fail;go_quiet (fail);have D:=hid (V.drewN nq);have K:=hid (X.drewN nq);generalize w1.drewN nq=W2 at *;have M:=hid D.jc.1;have c5:W2.cell? (iA b 5)=some (sL g n cap):=D.cell 5;have p:=M.cell i 10 x _ A.at_ rfl;have x2:=M.cell i 2 x _ A.at_ rfl;have x4:=M.cell i 4 x _ A.at_ rfl;have Y:x.opn≠0:=by omega
    have Af:(x.opn == 0)=false:=by simpa using Y
    have t:=hid (A.done HM);have u:Hd (bf.dP E i=E.lay i (bf.pq x)):=by
     show _=_;unfold bf.dP;rw[A.o.at_];simp only;rw[if_neg Y]
    have N:=hid (fun(m:Int) (s:xx m)=>fC (w:=W2) (F:=F) (base:=base) (b:=b) (e:=E) (dv:=dv) (g:=g) (cap:=cap) i m x (by have q:=D;rw[←A.len.trans R.o]at q;exact q) A.at_ A.room.len (by have:=A.room.seq;omega) (by have:=A.room.qC;omega) (by have:=A.room.out;omega) (n63 _ (by have:=T.nC;omega) (by have:=T.nD;omega)) (n63 _ T.lM (by have:=T.gY;have:=A.inv.oN;omega)) s);have C:Hd (∀W3:World,dn F base W3 b (E.lay i (bf.pq x)) dv (sL g E.all.length cap)→dn F base W3 b (e.zy i) dv (sL g n cap)):=fun W3 hW=>by
     rw[t.o,u.o];rw[A.o.len.trans R.o]at hW;exact hW
    cases O:(x.typ == 2)
    ·have I:Hd (bf.pq x=x.opn):=by
      show _=_;unfold bf.pq;rw[if_neg (fun hc=>by simp[hc.1]at O)]
     go_wp2_with fail;refine(N x.opn ⟨by omega,by omega⟩).mono ?_;rintro en S ⟨rfl,B,J⟩;rw[←I.out]at B;have G:=hid (C S B);have H:=hid (K.trans J);go_wp2;go_end0;exact⟨rfl,G,H⟩
    by_cases U:x.jw<x.opn
    ·have I:Hd (bf.pq x=x.jw):=by
      show _=_;unfold bf.pq;rw[if_pos ⟨by simpa using O,U⟩]
     have Ah:=(T.jw (by simpa using O)).1;go_wp2_with fail;refine(N x.jw ⟨by omega,by omega⟩).mono ?_;rintro en S ⟨rfl,B,J⟩;rw[←I.out]at B;have G:=hid (C S B);have H:=hid (K.trans J);go_wp2;go_end0;exact⟨rfl,G,H⟩
    have I:Hd (bf.pq x=x.opn):=by
     show _=_;unfold bf.pq;rw[if_neg (fun hc=>U hc.2)]
    go_wp2_with fail;refine(N x.opn ⟨by omega,by omega⟩).mono ?_;rintro en S ⟨rfl,B,J⟩;rw[←I.out]at B;have G:=hid (C S B);have H:=hid (K.trans J);go_wp2;go_end0;exact⟨rfl,G,H⟩
   have A1:Hd (bf.meets x r.bn=true):=by
    show _=_;unfold bf.meets;rw[L.out,if_pos rfl];simp;omega
   have Z:decide ((k:Int)<0)=false:=by simp
   have f:decide (x.bn<r.bn)=false:=by simpa using d
   go_wp2_with fail;go_quiet (fail);have D:=hid (V.drewN nq);have K:=hid (X.drewN nq);generalize w1.drewN nq=W2 at *;go_wp2_with fail;refine(Ad A1 W2 D K).mono ?_;rintro en S ⟨rfl,A8⟩;have z:=hid A8;go_wp2;obtain⟨E',l,c,A5,A7,A6,A4⟩:=z
   go_roundg l.opn.toNat
   case measure=>exact c
   case rel=>exact⟨E',l,rfl,A5,A7,A6,A4⟩
  have HM:Hd (E.bH i=none):=vG A.at_ A9;have Y:x.opn=0:=by have:=T.dN;omega
  have t:=hid (A.done HM);have f8:=HO.dz (i*15+8);have x8:=HO.cell i 8 x _ A.at_ rfl;have u:Hd (bf.dP E i=E.upd i fun _=>{ x with dm:=2 }):=by
   show _=_;unfold bf.dP;rw[A.o.at_];simp only;rw[if_pos Y];exact bf.nk _ i _ _ (fun y hy=>by obtain rfl:x=y:=Option.some.inj (A.at_.symm.trans hy);rfl)
  have D:Hd (dn F base (wr.setCell (iA g (i*15+8)) (iV 2)) b (E.upd i fun _=>{ x with dm:=2 }) dv (sL g n cap)):=A3.bB i 8 2 _ _ A.at_ rfl (by omega);rw[Y]at p;go_wp2;refine bodyPost_ret (v:=.tuple #[]) (by simp[results,Tryz.results150,go_sem]) rfl ⟨rfl,?_⟩;rw[t.o,u.o];exact⟨D,Ae.set g _ _ hF⟩
theorem Tryz.infoSt:(prog.info? 155).map (fun i=>(i.size,i.bytes))=some (15,120):=by kernel_rfl
theorem Tryz.zeroSt:(prog.info? 155).map (fun i=>i.zero)=some (some (.agg #[iV 0,iV 0,iV 0,iV 0,iV 0,iV 0,iV 0,iV 0,iV 0,iV 0,iV 0,iV 0,iV 0,iV 0,iV 0])):=by kernel_rfl
theorem dn.appended{W w1:World}{g:Nat}(h:dn F base W b e dv av)(o:Ord)(X:Obj)(hown:w1.ownsRow base 155 15 (sL g (e.all.length+1) cap) (e.all.length+1) (rows e.all++o.cells.map (iV)))(hgr:(W.alloc X).drew.grownBy w1 av.ownBlock)(hat:av.ownBlock=some g∨g=W.heap.size+1)(hlt:g<w1.heap.size):
 dn F base (w1.setCell (iA b 5) (sL g (e.all.length+1) cap)) b { e with all:=e.all++ [o] } dv (sL g (e.all.length+1) cap)∧Touch F W (w1.setCell (iA b 5) (sL g (e.all.length+1) cap))∧w1.cell? (iA b 5)=some av∧w1.frozen? (iA b 5)=false∧∀k,k<W.heap.size→some k≠av.ownBlock→w1.heap[k]? =W.heap[k]? :=by
 have c:W.heap.size+1≤w1.heap.size:=by
  have:=hgr.size;have C:(W.alloc X).drew.heap.size=W.heap.size+1:=by show(W.alloc X).heap.size=_;simp
  omega
 have H:∀k,k<W.heap.size→some k≠av.ownBlock→w1.heap[k]? =W.heap[k]? :=fun k hk hne=>
  (hgr.block k (by show k<(W.alloc X).heap.size;simp;omega) hne).trans (Below.heap_alloc W X k hk)
 have N:some b≠av.ownBlock:=fun C=>by
  rcases h.al.2 with⟨D,_⟩|⟨L,B,G,D,_,A,_⟩
  ·rw[D]at C;cases C
  rw[D]at C;injection C with C;subst C;rw[h.blk]at A;injection A with A;injection A with _ A _;exact absurd A (by decide)
 have J:=(H b h.lt N).trans h.blk;have T:F g:=by
  rcases hat with D|D
  ·exact h.alF g D
  exact h.up g (by omega)
 have U:g≠b:=by
  rintro rfl;rcases hown.2 with⟨D,_⟩|⟨L,B,G,D,_,A,_⟩
  ·cases D
  injection D with D _ _;injection D with D;injection D with D;subst D;rw[J]at A;injection A with A;injection A with _ A _;exact absurd A (by decide)
 have M:w1.ownsRow base 3 1 dv e.gz.length (e.gz.map (iV)):=by
  refine⟨h.dr.1,?_⟩;rcases h.dr.2 with S|⟨L,B,G,I,K,A,r⟩
  ·exact .inl S
  refine .inr ⟨L,B,G,I,K,?_,r⟩;rw[H L (Array.getElem?_eq_some_iff.1 A).1 (fun C=>?_)]
  ·exact A
  rcases h.al.2 with⟨D,_⟩|⟨Y,O,R,D,_,E,_⟩
  ·rw[D]at C;cases C
  rw[D]at C;injection C with C;subst C;rw[A]at E;injection E with E;injection E with _ E _;exact absurd E (by decide)
 refine⟨⟨?_,h.own,fun k hk=>h.up k (by have:w1.heap.size≤k:=by simpa using hk
                                       omega),by have:=h.low;simp;omega,?_,?_,fun q V=>?_⟩,?_,by simp[World.cell?,J,jC],by simp[World.frozen?,J],H⟩
 ·rw[ja w1 b 5 _ _ _ _ J];rfl
 ·refine⟨M.1,?_⟩;rcases M.2 with S|⟨L,B,G,I,K,A,r⟩
  ·exact .inl S
  refine .inr ⟨L,B,G,I,K,?_,r⟩;rw[Below.heap_setCell _ _ _ _ (fun C=>?_)]
  ·exact A
  have C:L=b:=C;rw[C,J]at A;injection A with A;injection A with _ A _;exact absurd A (by decide)
 ·have Z:({ e with all:=e.all++ [o] }:bf).all.length=e.all.length+1:=by simp
  rw[Z];show(w1.setCell (iA b 5) _).ownsRow base _ 15 _ _ (rows (e.all++ [o]));rw[zF2];refine⟨hown.1,?_⟩;rcases hown.2 with⟨D,_⟩|⟨L,B,G,I,K,A,r⟩
  ·cases D
  refine .inr ⟨L,B,G,I,K,?_,r⟩;rw[Below.heap_setCell _ _ _ _ (fun C=>?_)]
  ·exact A
  injection I with I _ _;injection I with I;injection I with I;exact U (I.trans C)
 ·have:q=g:=by
   have V:=V;exact(Option.some.inj V).symm
  rw[this];exact T
 exact Touch.set (⟨hgr.os,hgr.tape,hgr.output,by omega,fun k hk hf=>H k hk (fun C=>hf (h.alF k C.symm))⟩:Touch F W w1) b 5 _ h.own
namespace bf
def aJ(p:Ord→Bool)(reason:Int)(e:bf)(k:Nat):bf:=(List.range k).foldl (xk p reason) e
theorem dueTo_succ(p:Ord→Bool)(reason:Int)(e:bf)(k:Nat):aJ p reason e (k+1)=xk p reason (aJ p reason e k) k:=by
 unfold aJ;rw[List.range_succ,List.foldl_append];rfl
theorem dueTo_all(p:Ord→Bool)(reason:Int)(e:bf):aJ p reason e e.all.length=e.due p reason:=rfl
theorem dueTo_inv(h:fe e)(p:Ord→Bool)(reason:Int)(k:Nat):fe (aJ p reason e k)∧ng e (aJ p reason e k):=qM _ (fun e i h=>dueOne_inv h p reason i) (wP p reason) _ e h
theorem count_le{α:Type}(p:α→Bool){a b:List α}(h:a.Sublist b):a.countP p≤b.countP p:=h.countP_le
theorem range_sub{k n:Nat}(h:k≤n):(List.range k).Sublist (List.range n):=by
 have:=List.range_sublist.2 h;exact this
theorem dueTo_grew(h:fe e)(p:Ord→Bool)(reason:Int)(k:Nat)(hk:k≤e.all.length):jv 64 0 e (aJ p reason e k):=by
 have:=nM (xk p reason) (fun e i=>by
  rcases gF p reason e i with A|⟨A,B⟩
  ·rw[A];exact(jv.refl e).mono (Nat.zero_le _) (Int.le_refl _)
  ·rw[A,B];exact rY _ _ _) (fun e i j hne=>by
  rcases gF p reason e i with A|⟨A,B⟩
  ·rw[A]
  rw[B];exact nN (wS _ _ _ _ hne)) (List.range k) List.nodup_range e
 have B:=count_le (aN e) (range_sub hk);rw[count_range]at B;exact this.mono (by have:=h.live;have:=h.mo1;omega) (by omega)
end bf
theorem dn.slice(h:dn F base w b e dv av):∃p cap,av=.slice p e.all.length cap:=by
 rcases h.shape with⟨A,B⟩|⟨g,cap,A,_⟩
 ·exact⟨none,0,by rw[A,B];rfl⟩
 exact⟨_,cap,A⟩
theorem dn.xU{p:Option Addr}{n:Nat}(h:dn F base w b e dv (.slice p n cap))(ho:e.all[i]? =some o):∃g,p=some (iA g 0):=by
 rcases h.shape with⟨_,B⟩|⟨g,cap,A,_⟩
 ·rw[B]at ho;cases ho
 injection A with A _ _;exact⟨g,A⟩
theorem zHj(t:Int)(h:dn F base w b e dv av)(hI:bf.fe e)(ht0:0≤t)(ht1:t<4294967296)(hr:Room 100 e):
 Cl 111 #[iP b,iV t] w fun en w'=>en=rV #[]∧dn F base w' b (e.tick t) dv av∧Touch F w w':=by
 have c7:cI w b 7 e.now:=h.cell 7;have f7:=h.dz 7;obtain⟨p,H,rfl⟩:=h.slice;have V:=hid h;clear h;go_enter func111,ntmps111;by_cases R:t<e.now
 ·have Y:Hd (e.tick t=e.ny 0 10):=by show _=_;unfold bf.tick;rw[if_pos R]
  go_wp2_with fail;refine(cZ V.o 0 10 (hr.mono (by omega)) (n63 0 (by omega) (by omega)) (n63 10 (by omega) (by omega))).mono ?_;rintro en w2 ⟨rfl,S,T⟩;have l:=hid S;have y:=hid T;clear S T c7 f7;go_wp2;refine bodyPost_ret (v:=.tuple #[]) (by simp[results,Tryz.results111,go_sem]) rfl ⟨rfl,?_,y.o⟩;rw[Y.o];exact l.o
 have Y:Hd (e.tick t={ e with now:=t }.due (fun o=>o.jr == 3 && decide (o.time≤t)) 2):=by show _=_;unfold bf.tick;rw[if_neg R]
 have i:Hd (dn F base (w.setCell (iA b 7) (iV t)) b { e with now:=t } dv (.slice p e.all.length H)):=V.set 7 _ _ rfl rfl rfl;have x:Hd (Touch F w (w.setCell (iA b 7) (iV t))):=(Touch.refl F w).set b 7 _ V.own;have N:Hd (bf.fe { e with now:=t }):=⟨hI.mo0,hI.mo1,hI.mp0,hI.oN,hI.mq0,hI.mq1,hI.ok,hI.ids,hI.apart,ht0,ht1,hI.live⟩;have u:Hd (Room 100 { e with now:=t }):=⟨hr.seq,hr.qC,hr.out,hr.len,hr.fD⟩;go_wp2_with fail;clear c7 f7;generalize w.setCell (iA b 7) (iV t)=W1 at *;have f:Hd (e.all.length≤1000000000):=hr.len;have HN:Hd (({ e with now:=t }:bf).all.length=e.all.length):=rfl;generalize ({ e with now:=t }:bf)=e1 at *;generalize hn:e.all.length=n at *;have D:Hd (e1.all.length=n):=HN.o;have c:=hid hn;clear hn HN hI hr V
 go_loopg [4] n (fun k s wr=> ∃j:Nat,s=iV j∧j≤n∧k=n - j∧dn F base wr b (bf.aJ (fun o=>o.jr == 3 && decide (o.time≤t)) 2 e1 j) dv (.slice p n H)∧Touch F w wr)
 case atStart=>exact⟨0,rfl,Nat.zero_le _,by omega,i.o,x.o⟩
 case round=>
  obtain⟨j,rfl,hj,rfl,hR,hT⟩:=hrel;have A:=hid hR;have B:=hid hT;obtain⟨O,I⟩:=bf.dueTo_inv N.o (fun o=>o.jr == 3 && decide (o.time≤t)) 2 j;have d:=hid O;have C:Hd ((bf.aJ (fun o=>o.jr == 3 && decide (o.time≤t)) 2 e1 j).all.length=n):=I.len.trans D.o;have Z:=hid (bf.dueTo_grew N.o (fun o=>o.jr == 3 && decide (o.time≤t)) 2 j (by rw[D.o];exact hj));have A2:=hid I;have E:=hid (bf.dueTo_succ (fun o=>o.jr == 3 && decide (o.time≤t)) 2 e1 j);have c5:wr.cell? (iA b 5)=some (.slice p n H):=hR.cell 5;clear hR hT O I;by_cases A0:j<n
  ·have A3:(j:Int)<(n:Int):=by omega
   obtain⟨o,M⟩:∃o,(bf.aJ (fun o=>o.jr == 3 && decide (o.time≤t)) 2 e1 j).all[j]? =some o:=⟨_,List.getElem?_eq_getElem (by rw[C.o];exact A0)⟩;obtain⟨g,rfl⟩:=A.o.xU M;have X:=A.jc.1;have o8:=X.cell j 8 o _ M rfl;have o6:=X.cell j 6 o _ M rfl;have o7:=X.cell j 7 o _ M rfl;have L:=hid M;have A5:=f.o;clear X M;cases q8:(o.dm == 1)
   ·have G:Hd (bf.aJ (fun o=>o.jr == 3 && decide (o.time≤t)) 2 e1 (j+1)=bf.aJ (fun o=>o.jr == 3 && decide (o.time≤t)) 2 e1 j):=by
     show _=_;rw[E.o];unfold bf.xk;rw[L.o];simp only;rw[if_neg (fun hc=>by simp[hc.1]at q8)]
    go_wp2_with fail
    go_roundg (n - (j+1))
    case measure=>omega
    case rel=>exact⟨j+1,by go_num,by omega,rfl,by rw[G.o];exact A.o,B.o⟩
   cases q6:(o.jr == 3)
   ·have G:Hd (bf.aJ (fun o=>o.jr == 3 && decide (o.time≤t)) 2 e1 (j+1)=bf.aJ (fun o=>o.jr == 3 && decide (o.time≤t)) 2 e1 j):=by
     show _=_;rw[E.o];unfold bf.xk;rw[L.o];simp only;rw[if_neg (fun hc=>by simp[q6]at hc)]
    go_wp2_with fail
    go_roundg (n - (j+1))
    case measure=>omega
    case rel=>exact⟨j+1,by go_num,by omega,rfl,by rw[G.o];exact A.o,B.o⟩
   by_cases q7:o.time≤t
   ·have G:Hd (bf.aJ (fun o=>o.jr == 3 && decide (o.time≤t)) 2 e1 (j+1)=(bf.aJ (fun o=>o.jr == 3 && decide (o.time≤t)) 2 e1 j).gone j 2):=by
     show _=_;rw[E.o];unfold bf.xk;rw[L.o];simp only;rw[if_pos ⟨by simpa using q8,by rw[q6];simpa using q7⟩]
    have A1:Hd (Room 1 (bf.aJ (fun o=>o.jr == 3 && decide (o.time≤t)) 2 e1 j)):=(u.qY Z.o (C.trans D.symm) (by omega)).mono (by omega);have K:=hid (d.ok j o L.o);go_wp2_with fail;refine(qZ j 2 o (by rw[C.o];exact A.o) L.o A1.out (n63 _ (by have:=K.out.nC;omega) (by have:=K.out.nD;omega)) (n63 _ K.out.dN (by have:=K.out.sum;have:=K.out.fJ;have:=K.out.jN;have:=K.out.fH;omega)) (n63 2 (by omega) (by omega))).mono ?_;rintro en w3 ⟨rfl,J,U⟩;rw[C.o]at J;have m:=hid J;have z:=hid (B.trans U);clear J U c5 o8 o6 o7;go_wp2_with fail
    go_roundg (n - (j+1))
    case measure=>omega
    case rel=>exact⟨j+1,by go_num,by omega,rfl,by rw[G.o];exact m.o,z.o⟩
   have G:Hd (bf.aJ (fun o=>o.jr == 3 && decide (o.time≤t)) 2 e1 (j+1)=bf.aJ (fun o=>o.jr == 3 && decide (o.time≤t)) 2 e1 j):=by
    show _=_;rw[E.o];unfold bf.xk;rw[L.o];simp only;rw[if_neg (fun hc=>by(have h7:=hc.2);rw[q6]at h7;exact q7 (by simpa using h7))]
   go_wp2_with fail
   go_roundg (n - (j+1))
   case measure=>omega
   case rel=>exact⟨j+1,by go_num,by omega,rfl,by rw[G.o];exact A.o,B.o⟩
  have A4:¬(j:Int)<(n:Int):=by omega
  obtain rfl:j=n:=by omega
  go_wp2;go_end0;refine⟨rfl,?_,B.o⟩;rw[Y.o];have q:=A.o;rw[show bf.aJ (fun o=>o.jr == 3 && decide (o.time≤t)) 2 e1 j=e1.due (fun o=>o.jr == 3 && decide (o.time≤t)) 2 from by rw[←bf.dueTo_all,D.o],←c.o]at q;exact q
end Go.Proofs.YtehmdohpmpbnnaaGreatDoor
