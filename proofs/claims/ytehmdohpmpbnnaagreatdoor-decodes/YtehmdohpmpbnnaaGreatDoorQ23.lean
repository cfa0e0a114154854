import Derived.Test.YtehmdohpmpbnnaaGreatDoorQ00
import Derived.Test.YtehmdohpmpbnnaaGreatDoorQ09
import Derived.Test.YtehmdohpmpbnnaaGreatDoorQ18
import Derived.Test.YtehmdohpmpbnnaaGreatDoorQ22
set_option linter.all false
set_option maxRecDepth 100000
set_option maxHeartbeats 8000000
namespace Go.Proofs.YtehmdohpmpbnnaaGreatDoor
variable{m:Nat}{o:Ord}{w1 w2:World}
open Go.Proofs.Tryz
open Go.Extern Go.Maps Go.RowKit
section
variable {F:Nat→Prop} {base:Nat} {w:World} {b i:Nat} {e:bf} {g:Gh} {S:jk} {o:Ord}
theorem zGz(ho:e.all[i]? =some o)(h:e.target o=o.bn):e.gm i=e:=by
 unfold bf.gm;rw[ho];simp only;by_cases A:o.dm=1∧o.typ=3
 ·rw[if_pos A,if_pos h]
 rw[if_neg A]
theorem mF(ho:e.all[i]? =some o)(h:¬o.typ=3):e.gm i=e:=by
 unfold bf.gm;rw[ho];simp only;rw[if_neg (fun hc=>h hc.2)]
theorem rH(ho:e.all[i]? =some o)(hs:o.dm=1)(ht:o.typ=3)(h:¬e.target o=o.bn)(h0:e.target o=0):e.gm i=e.park i o:=by
 unfold bf.gm;rw[ho];simp only;rw[if_pos ⟨hs,ht⟩,if_neg h,if_pos h0];rfl
theorem jE(ho:e.all[i]? =some o)(hs:o.dm=1)(ht:o.typ=3)(h:¬e.target o=o.bn)(h0:¬e.target o=0):e.gm i=e.move i o (e.target o):=by
 unfold bf.gm;rw[ho];simp only;rw[if_pos ⟨hs,ht⟩,if_neg h,if_neg h0];rfl
theorem zH(h:dw F base w b e g S)(inv:bf.fe e)(hH:Holds e S [] [])(ho:e.all[i]? =some o)(hs:o.dm=1)(ht:o.typ=3)(hop:0<o.opn)(hro:Room 1 e):
 Cl 100 #[iP b,iP (g.blk i)] w fun en w'=>en=rV #[]∧Hd (qj F base w b g (e.gm i) w'):=by
 have M:=bf.target_bd inv o;have c:=inv.oN;have A:Hd (Cl 139 #[iP b,iP (g.blk i)] w fun en B=>en=.returned (iV (e.target o))∧cI B (g.blk i) 3 o.bn∧Hd (dw F base B b e g S∧Touch F w B)):=by
  refine(zGw h inv hH ho hs).mono ?_;rintro en B ⟨rfl,X⟩;have V:=h.below X;exact⟨rfl,(V.oa ho hs).cell 3,V,zk h.up X⟩
 by_cases E:e.target o=o.bn
 ·have Y:=hid (zGz ho E);have Z:=hid hH;rw[E]at A;go_enter func100,ntmps100;go_wp2_with fail;refine A.mono ?_;rintro en B ⟨rfl,U,D⟩;go_wp2
  (try simp only[Exit.inBlock,Exit.then])
  refine bodyPost_ret (results_none rfl _ _ _) rfl ?_;exact⟨rfl,by rw[Y.o];exact⟨g.txt,S,D.1,Z,D.2⟩⟩
 by_cases G:e.target o=0
 ·have C:Hd (∀W,dw F base W b e g S∧Touch F w W→Cl 140 #[iP b,iP (g.blk i)] W fun en w'=>en=rV #[]∧Hd (qj F base w b g (e.gm i) w')):=by
   rintro W ⟨L,K⟩;refine(zGs L inv hH ho hs hro).mono ?_;rintro en w' ⟨rfl,N⟩;obtain⟨t,J,O,R,T⟩:=N.out;rw[rH ho hs ht E G];exact⟨rfl,t,J,O,R,K.trans T⟩
  have f:¬(0:Int)=o.bn:=by rw[←G];exact E
  rw[G]at A;go_enter func100,ntmps100;go_wp2_with fail;refine A.mono ?_;rintro en B ⟨rfl,U,D⟩;have I:=hid (C B D);go_wp2_with fail;refine I.mono ?_;rintro en d ⟨rfl,H⟩;go_wp2;go_end0;exact⟨rfl,H⟩
 have C:Hd (∀W,dw F base W b e g S∧Touch F w W→Cl 141 #[iP b,iP (g.blk i),iV (e.target o)] W fun en w'=>en=rV #[]∧Hd (qj F base w b g (e.gm i) w')):=by
  rintro W ⟨L,K⟩;refine(zGt (e.target o) ⟨M.1,by omega⟩ L inv hH ho hs hop hro).mono ?_;rintro en w' ⟨rfl,N⟩;obtain⟨t,J,O,R,T⟩:=N.out;rw[jE ho hs ht E G];exact⟨rfl,t,J,O,R,K.trans T⟩
 generalize e.target o=p at *;go_enter func100,ntmps100;go_wp2_with fail;refine A.mono ?_;rintro en B ⟨rfl,U,D⟩;have I:=hid (C B D);go_wp2_with fail;refine I.mono ?_;rintro en d ⟨rfl,H⟩;go_wp2;go_end0;exact⟨rfl,H⟩
structure Laying(G:Nat→Prop)(base:Nat)(w1:World)(b:Nat)(g:Gh)(e:bf)(L:List Nat)(k:Nat)(E:bf)(wr:World):Prop where
 rep:∃t S',dw G base wr b E { g with txt:=t } S'∧Holds E S' [] []
 touch:Touch G w1 wr
 inv:bf.fe E
 pegs:bf.qd E
 is:E=(L.take k).foldl bf.gm e
 rest:∀j,j∈L.drop k→E.all[j]? =e.all[j]?
 qY:bf.jv k 0 e E
 len:E.all.length=e.all.length
theorem zH0(e:bf)(i:Nat):bf.jv 1 0 e (e.gm i):=by
 rcases bf.zq e i with h|⟨o,_,_,_,_,⟨_,h⟩|⟨_,h⟩⟩
 ·rw[h];exact(bf.jv.refl e).mono (by omega) (by omega)
 ·rw[h];exact bf.jv.park e i o
 rw[h];exact bf.jv.move e i o _
theorem zH1(p:bf.qd e)(i:Nat):bf.qd (e.gm i):=by
 rcases bf.zq e i with h|⟨o,B,C,D,_,⟨A,h⟩|⟨A,h⟩⟩
 ·rw[h];exact p
 ·rw[h];refine bf.qd.vz (e:=e.upd i fun o=>{ o with bn:=0,bg:=0 }) (p.upd i _ fun x hx h1 h2=>?_) rfl;exact⟨(p i x hx h1 h2).1,fun hc=>absurd rfl hc⟩
 rw[h];refine bf.qd.vz (e:=({ e with dh:=e.dh+1 }:bf).upd i fun x=>{ x with bn:=e.target o,dh:=(e.dh+1:Nat),bg:=x.opn }) (bf.qd.upd (e:={ e with dh:=e.dh+1 }) (p.vz rfl) i _ fun x hx h1 h2=>?_) rfl;have:=(p i x hx h1 h2).1;exact⟨this,fun _=>this⟩
theorem zH2(h:dw F base w b e g S)(inv:bf.fe e)(hH:Holds e S [] [])(hpg:bf.qd e)(hro:Room 100 e)(hl:e.all.length≤100000000):
 Cl 58 #[iP b] w fun en w'=>en=rV #[]∧Hd (qj F base w b g e.follow w'):=by
 have l:Hd (Cl 74 #[.pointer (some (iA b 8))] w fun en B=> ∃(p:Option Addr) (cap:Nat) (L:List Nat),en=.returned (.slice p L.length cap)∧Hd (L.length≤64∧L.Pairwise (· < ·)∧(∀j,j∈L↔∃o,e.all[j]? =some o∧o.dm=1)∧Apart (xP F w B) B g (.slice p L.length cap) L∧Laying (xP F w B) base B b g e L 0 e B∧Touch F w B)):=by
  refine(zCm h hH hl).mono ?_;rintro en B ⟨v,L,rfl,V,D,u⟩;obtain⟨p,cap,rfl⟩:∃p cap,v=.slice p L.length cap:=by
   rcases V.row.2 with⟨x,h6⟩|⟨d,cap,Ae,x,_⟩
   ·exact⟨none,0,by rw[x,h6]⟩
   exact⟨_,_,x⟩
  have A3:L.Nodup:=V.up.imp (fun h=>Nat.ne_of_lt h);have G:L.length≤64:=by
   have D:L.length≤((List.range e.all.length).filter (bf.aN e)).length:=oD A3 (fun j Y=>by
    obtain⟨o,q1,q2⟩:=(D j).1 Y;rw[List.mem_filter,List.mem_range];exact⟨(List.getElem?_eq_some_iff.1 q1).1,by unfold bf.aN;rw[q1];simp[q2]⟩)
   rw[←List.countP_eq_length_filter,bf.count_range]at D;have:=inv.live;have:=inv.mo1;omega
  have X:=h.foot (h.below u) rfl;refine⟨p,cap,L,rfl,G,V.up,D,V.apart (fun k D u hc=>hc.elim (fun h=>by omega) (fun h=>by omega)),⟨⟨g.txt,S,X,hH⟩,Touch.refl _ _,inv,hpg,rfl,fun _ _=>rfl,bf.jv.refl e,rfl⟩,zk h.up u⟩
 have q:=hid hro;have s:=hid h.up;go_enter func58,ntmps58;go_wp2_with fail;refine l.mono ?_;rintro en B ⟨p,cap,L,rfl,J⟩;have G:=J.1;go_wp2_with fail;go_loopw [9] (fun iv wr=> ∃(k:Nat) (E:bf),iv=iV k∧k≤L.length∧Laying (xP F w B) base B b g e L k E wr) (fun iv _=>L.length - (intOf iv).toNat)
 case atStart=>exact⟨0,e,rfl,Nat.zero_le _,J.2.2.2.2.1⟩
 case round=>
  obtain⟨k,E,rfl,hk,hE⟩:=hrel;have A:=hid hE;by_cases C:k<L.length
  ·have Af:(k:Int)<(L.length:Int):=by omega
   have Ag:wrap64 ((k:Int)+1)=(k:Int)+1:=by unfold wrap64;omega
   have Y:L[k]? =some L[k]:=List.getElem?_eq_getElem C;have hd:L.drop k=L[k]::L.drop (k+1):=List.drop_eq_getElem_cons C;obtain⟨p',Ac,A7,z⟩:=J.o.2.2.2.1;injection A7 with R _ T;subst R T;obtain⟨vb,rfl,Aa,Ab,H⟩:=z.resolve_left (fun hc=>by rw[hc]at C;simp at C);have ck:wr.cell? (iA vb k)=some (iP (g.blk L[k])):=by
    have:=H k _ Y;unfold World.cell? at this⊢;rw[A.o.touch.block vb Ab Aa];exact this
   obtain⟨o,A5,hs⟩:=(J.o.2.2.1 L[k]).1 (List.getElem_mem C);have Z:E.all[L[k]]? =some o:=(A.rest L[k] (by rw[hd];exact List.mem_cons_self ..)).trans A5;obtain⟨t,M,X,hH⟩:=A.o.rep;have hO:=X.oa Z hs;have o2:cI wr (g.blk L[k]) 2 o.typ:=hO.cell 2;have A4:L[k]∉L.drop (k+1):=fun hc=>by
    have D:=J.2.1;rw[←List.take_append_drop k L,hd,List.pairwise_append]at D;have:=(List.pairwise_cons.1 D.2.1).1 _ hc;omega
   have A8:=bf.jJ E L[k];have A1:=zH0 E L[k];have K:Hd (∀W,(∃t M,dw (xP F w B) base W b (E.gm L[k]) { g with txt:=t } M∧Holds (E.gm L[k]) M [] [])→Touch (xP F w B) wr W→Laying (xP F w B) base B b g e L (k+1) (E.gm L[k]) W):=fun W hW y=>by
    refine⟨hW,A.touch.trans y,bf.mH A.inv L[k],zH1 A.pegs L[k],?_,fun j hjd=>?_,?_,A8.len.trans A.len⟩
    ·rw[List.take_add_one,Y,List.foldl_append,←A.o.is];rfl
    ·rw[bf.follow_ne E L[k] j (fun e1=>A4 (e1▸hjd))];exact A.rest j (by rw[hd];exact List.mem_cons_of_mem _ hjd)
    exact(A.qY.trans A1).mono (by omega) (by omega)
   by_cases U:o.typ=3
   ·have A6:=(A.pegs _ _ Z hs U).1;have I:Room 1 E:=((q).qY A.qY A.len (by omega)).mono (by omega);have n:Hd (Cl 100 #[iP b,iP (g.blk L[k])] wr fun en w'=>en=rV #[]∧Hd (Laying (xP F w B) base B b g e L (k+1) (E.gm L[k]) w')):=by
     refine(zH X A.inv hH Z hs U A6 I).mono ?_;rintro en w' ⟨rfl,hz⟩;obtain⟨t',S2,c,f,r3⟩:=hz.out;exact⟨rfl,K w' ⟨t',S2,c,f⟩ r3⟩
    have Ad:=hid U;generalize L[k]=j at *;rw[U]at o2;go_wp2_with fail;refine n.mono ?_;rintro en w2 ⟨rfl,m⟩;go_wp2;go_roundw
    case rel=>exact⟨k+1,_,by go_num,C,m⟩
    case measure=>simp[intOf];omega
   have m:=hid (K wr (by rw[mF Z U];exact A.rep) (Touch.refl _ _));generalize L[k]=j at *;go_wp2;go_roundw
   case rel=>exact⟨k+1,_,by go_num,C,m⟩
   case measure=>simp[intOf];omega
  have A2:k=L.length:=by omega
  subst A2;go_wp2;go_end0;obtain⟨_,A9,O,_,_,y⟩:=J;have A0:=bf.follow_list A9 O;have N:=A.is;rw[List.take_length,←A0]at N;obtain⟨t,M,c,f⟩:=A.o.rep;rw[N]at c f;exact⟨rfl,qj.foots s y ⟨t,M,c,f,A.touch⟩⟩
end
theorem zeroStC(w:World):(zeroValue 121).run prog w=.ok (dJ.val [0,0,0,0,0,0,0]) w:=by kernel_rfl
theorem zH3{e:bf}{id:Int}(h:e.find id=none):e.tu id=none:=by unfold bf.tu;rw[h]
theorem zH4{e:bf}{id:Int}{i:Nat}(h:e.find id=some i)(ho:e.all[i]? =some o):e.tu id=if o.dm=1 then some i else none:=by
 unfold bf.tu;rw[h];simp only[ho]
section
variable {F:Nat→Prop} {base:Nat} {w:World} {b i:Nat} {e:bf} {g:Gh} {S:jk} {o:Ord} {v:Nat→Int}
theorem zCo(id:Int)(h63:aD id)(h:dw F base w b e g S)(hn:∀j∈S.ended,ru e.all j≠id):
 (Instr.lookup 92 (.map (some g.zb)) (iV id) true).run prog w=.ok (.tuple #[.agg #[iV 0,iV 0,iV 0,iV 0,iV 0,iV 0,iV 0],.bool false]) w:=
 h.body.ended.miss je underlying3 underlying92 (zeroStC w) (fun p hp=>by obtain⟨j,hj,rfl⟩:=List.mem_map.1 hp;exact hn j hj) (lC h63)
theorem zH5(id:Int)(h63:aD id)(h:dw F base w b e g S)(hi:i∈S.ended)(ho:e.all[i]? =some o)(hid':o.id=id):
 (Instr.lookup 92 (.map (some g.zb)) (iV id) true).run prog w=.ok (.tuple #[.agg #[iV o.id,iV o.dm,iV o.bn,iV o.opn,iV o.bu,iV o.cancelled,iV o.bg],.bool true]) w:=by
 have A:(id,o.state)∈S.ended.map fun i=>(ru e.all i,kZ e.all i):=List.mem_map.2 ⟨i,hi,by rw[zn ho,hid'];unfold kZ;rw[ho]⟩
 exact h.body.ended.hit je underlying3 underlying92 (zeroStC w) A (lC h63)
theorem zH6(id:Int)(h63:aD id)(h:dw F base w b e g S)(inv:bf.fe e)(hH:Holds e S [] []):
 Cl 160 #[iP b,iV id] w fun en w'=>en=.returned (.bool (e.find id).isSome)∧Below w.heap.size w w':=by
 rcases hf:e.find id with _|i
 ·have L:=zH3 hf;have N:=bf.rX hf;have B:Hd (Cl 129 #[.pointer (some (iA b 8)),iV id] w fun en A=>en=rV #[.pointer none,.bool false]∧A.cell? (iA b 10)=some (.map (some g.zb))∧(Instr.lookup 92 (.map (some g.zb)) (iV id) true).run prog A=.ok (.tuple #[.agg #[iV 0,iV 0,iV 0,iV 0,iV 0,iV 0,iV 0],.bool false]) A∧Hd (Bw w A)):=by
   refine(zA4 id h63 h inv hH).mono ?_;rintro en A ⟨rfl,H⟩;have G:=h.same H;refine⟨by rw[L];rfl,G.cell 10,zCo id h63 G (fun j hj=>?_),eY (Below.refl _ _) H⟩;obtain⟨o,J,_⟩:=(hH.ended j).1 hj;rw[zn J];exact N j o J
  go_enter func160,ntmps160;go_wp2_with fail;refine B.mono ?_;rintro en A ⟨rfl,K,M,E⟩;go_wp2;go_ret;exact⟨rfl,E.alloc E.size _⟩
 obtain⟨o,I,C⟩:=bf.nL hf;by_cases H:o.dm=1
 ·have L:=zCn inv I H C;have B:Hd (Cl 129 #[.pointer (some (iA b 8)),iV id] w fun en A=>en=rV #[iP (g.blk i),.bool true]∧A.cell? (iA b 10)=some (.map (some g.zb))∧(Instr.lookup 92 (.map (some g.zb)) (iV id) true).run prog A=.ok (.tuple #[.agg #[iV 0,iV 0,iV 0,iV 0,iV 0,iV 0,iV 0],.bool false]) A∧Hd (Bw w A)):=by
   refine(zA4 id h63 h inv hH).mono ?_;rintro en A ⟨rfl,D⟩;have G:=h.same D;refine⟨by rw[L];rfl,G.cell 10,zCo id h63 G (fun j hj hc=>?_),eY (Below.refl _ _) D⟩;obtain⟨x,J,O⟩:=(hH.ended j).1 hj;rw[zn J]at hc;have:=inv.ids j i x o J I (hc.trans C.symm);subst this;obtain rfl:x=o:=Option.some.inj (J.symm.trans I);exact O H
  go_enter func160,ntmps160;go_wp2_with fail;refine B.mono ?_;rintro en A ⟨rfl,K,M,E⟩;go_wp2;go_ret;exact⟨rfl,E.alloc E.size _⟩
 have L:=(zH4 hf I).trans (if_neg H);have B:Hd (Cl 129 #[.pointer (some (iA b 8)),iV id] w fun en A=>en=rV #[.pointer none,.bool false]∧A.cell? (iA b 10)=some (.map (some g.zb))∧(Instr.lookup 92 (.map (some g.zb)) (iV id) true).run prog A=.ok (.tuple #[.agg #[iV o.id,iV o.dm,iV o.bn,iV o.opn,iV o.bu,iV o.cancelled,iV o.bg],.bool true]) A∧Hd (Bw w A)):=by
  refine(zA4 id h63 h inv hH).mono ?_;rintro en A ⟨rfl,D⟩;have G:=h.same D;exact⟨by rw[L];rfl,G.cell 10,zH5 id h63 G ((hH.ended i).2 ⟨o,I,H⟩) I C,eY (Below.refl _ _) D⟩
 go_enter func160,ntmps160;go_wp2_with fail;refine B.mono ?_;rintro en A ⟨rfl,K,M,E⟩;go_wp2;go_ret;exact⟨rfl,E.alloc E.size _⟩
def fA(F:Nat→Prop)(base:Nat)(w:World)(b:Nat)(e:bf)(g:Gh)(S:jk)(v:Nat→Int)(wr:World):Prop:=dw F base wr b e g S∧TA wr w.heap.size v∧Below w.heap.size w wr
theorem fA.below(h:fA F base w b e g S v w1)(hb:Below w1.heap.size w1 w2):fA F base w b e g S v w2:=⟨h.1.below hb,h.2.1.below hb,zz h.2.2 hb⟩
theorem fA.same(h:fA F base w b e g S v w1)(hb:Same w1 w2):fA F base w b e g S v w2:=⟨h.1.same hb,h.2.1.same hb,eY h.2.2 hb⟩
theorem zH7(hf:eZ v=true):e.why v=if(e.find (v 0)).isSome then 2 else if bR e.mp (v 2) (v 3)=false then 5 else if qtyB e.mq v=false then 6 else if offB e.mp v=false then 7 else if timeB e.now v=false then 8 else if e.mo≤e.alive then 9 else 0:=by
 unfold bf.why;unfold eZ at hf;have C:¬(v 0=0∨bf.rf (v 1) 1 2=false∨bf.rf (v 2) 1 3=false∨bf.rf (v 7) 1 3=false):=by
  simp only[Bool.and_eq_true,Bool.not_eq_true',beq_eq_false_iff_ne]at hf;rintro(A|A|A|A)
  ·exact hf.1.1.1 A
  ·rw[hf.1.1.2]at A;cases A
  ·rw[hf.1.2]at A;cases A
  rw[hf.2]at A;cases A
 rw[if_neg C];have B:(bf.rf (v 4) 1 e.mq=false∨(if v 2=2 then bf.rf (v 5) 1 (v 4) else v 5 == 0)=false)↔qtyB e.mq v=false:=by
  unfold qtyB;rw[Bool.and_eq_false_iff]
 unfold bR offB timeB;by_cases A:qtyB e.mq v=false
 ·simp only[B,A,if_true]
 simp only[B,A,if_false]
theorem zH8(hf:eZ v=false):e.why v=4:=by
 unfold bf.why;refine if_pos ?_;unfold eZ at hf;simp only[Bool.and_eq_false_iff,Bool.not_eq_false',beq_iff_eq]at hf;rcases hf with((hf|hf)|hf)|hf
 ·exact .inl hf
 ·exact .inr (.inl hf)
 ·exact .inr (.inr (.inl hf))
 exact .inr (.inr (.inr hf))
end
section
variable {F:Nat→Prop} {base:Nat} {w:World} {b i:Nat} {e:bf} {g:Gh} {S:jk} {o:Ord} {v:Nat→Int}
theorem zH9(h:dw F base w b e g S)(inv:bf.fe e)(hH:Holds e S [] [])(hv:0≤v 0∧v 0<4294967296)(hl:e.all.length≤100000000):
 Cl 125 #[iP b,mh v] w fun en w'=>en=.returned (iV (e.why v))∧Below w.heap.size w w':=by
 have n:=rz hv.1 (by omega);have M:Hd (fA F base w b e g S v (w.alloc (.cells (lu v) 79))):=⟨h.alloc _,TA.new w v _,(Below.refl w.heap.size w).alloc (Nat.le_refl _) _⟩;have I:Hd (∀W,fA F base w b e g S v W→Cl 159 #[mh v] W fun en w'=>en=.returned (.bool (eZ v))∧Hd (fA F base w b e g S v w')):=fun W hW=>(zG6).mono fun en w' ⟨h1,h2⟩=>⟨h1,hW.below h2⟩
 have l:Hd (∀W,fA F base w b e g S v W→Cl 160 #[iP b,iV (v 0)] W fun en w'=>en=.returned (.bool (e.find (v 0)).isSome)∧Hd (fA F base w b e g S v w')):=fun W hW=>(zH6 (v 0) n hW.1 inv hH).mono fun en w' ⟨h1,h2⟩=>⟨h1,hW.below h2⟩
 have f:Hd (∀W,fA F base w b e g S v W→Cl 161 #[iP b,iV (v 2),iV (v 3)] W fun en w'=>en=.returned (.bool (bR e.mp (v 2) (v 3)))∧Hd (fA F base w b e g S v w')):=fun W hW=>(xM (v 2) (v 3) hW.1).mono fun en w' ⟨h1,h2⟩=>⟨h1,hW.same h2⟩
 have j:Hd (∀W,fA F base w b e g S v W→Cl 162 #[iP b,mh v] W fun en w'=>en=.returned (.bool (qtyB e.mq v))∧Hd (fA F base w b e g S v w')):=fun W hW=>(zG7 hW.1).mono fun en w' ⟨h1,h2⟩=>⟨h1,hW.below h2⟩
 have d:Hd (∀W,fA F base w b e g S v W→Cl 163 #[iP b,mh v] W fun en w'=>en=.returned (.bool (offB e.mp v))∧Hd (fA F base w b e g S v w')):=fun W hW=>(zG8 hW.1 ⟨inv.mp0,inv.oN⟩).mono fun en w' ⟨h1,h2⟩=>⟨h1,hW.below h2⟩
 have k:Hd (∀W,fA F base w b e g S v W→Cl 164 #[iP b,mh v] W fun en w'=>en=.returned (.bool (timeB e.now v))∧Hd (fA F base w b e g S v w')):=fun W hW=>(zG9 hW.1).mono fun en w' ⟨h1,h2⟩=>⟨h1,hW.below h2⟩
 have p:=hH.alive h.pN.1 h.pN.2.1;have U:=h.small hH;have c:Hd (∀W,fA F base w b e g S v W→Cl 126 #[.pointer (some (iA b 8))] W fun en w'=>en=.returned (iV (e.alive:Int))∧cI w' b 0 e.mo∧Hd (fA F base w b e g S v w')):=fun W hW=>(zC5 hW.1 (by have:=U.day;have:=U.qf;omega)).mono fun en w' ⟨h1,h2⟩=>⟨by rw[h1,p],(hW.same h2).1.cell 0,hW.same h2⟩
 unfold mh at *;unfold lu at M;cases Y:eZ v
 ·have D:=hid (zH8 (e:=e) Y);simp only[Y]at I;go_enter func125,ntmps125;go_wp2_with fail;refine(I _ M).mono ?_;rintro en w1 ⟨rfl,G⟩;go_wp2;go_ret;exact⟨by rw[D.o];rfl,G.2.2⟩
 have E:=hid (zH7 (e:=e) Y);simp only[Y]at I;go_enter func125,ntmps125;go_wp2_with fail;refine(I _ M).mono ?_;rintro en w1 ⟨rfl,G⟩;have r0:cI w1 w.heap.size 0 (v 0):=G.2.1.cell 0;go_wp2_with fail;refine(l _ G).mono ?_;rintro en w2 ⟨rfl,H⟩;cases O:(e.find (v 0)).isSome
 case true=>
  have D:Hd (e.why v=2):=by show _=_;rw[E.o,O];rfl
  go_wp2;go_ret;exact⟨by rw[D.o];rfl,H.2.2⟩
 have r2:cI w2 w.heap.size 2 (v 2):=H.2.1.cell 2;have r3:cI w2 w.heap.size 3 (v 3):=H.2.1.cell 3;go_wp2_with fail;refine(f _ H).mono ?_;rintro en J ⟨rfl,A⟩;cases R:bR e.mp (v 2) (v 3)
 case false=>
  have D:Hd (e.why v=5):=by show _=_;rw[E.o,O,R];rfl
  go_wp2;go_ret;exact⟨by rw[D.o];rfl,A.2.2⟩
 have t:cI J w.heap.size 0 (v 0):=A.2.1.cell 0;have u:cI J w.heap.size 1 (v 1):=A.2.1.cell 1;have x:cI J w.heap.size 2 (v 2):=A.2.1.cell 2;have y:cI J w.heap.size 3 (v 3):=A.2.1.cell 3;have z:cI J w.heap.size 4 (v 4):=A.2.1.cell 4;have s5:cI J w.heap.size 5 (v 5):=A.2.1.cell 5;have s6:cI J w.heap.size 6 (v 6):=A.2.1.cell 6;have s7:cI J w.heap.size 7 (v 7):=A.2.1.cell 7;have s8:cI J w.heap.size 8 (v 8):=A.2.1.cell 8;go_wp2_with fail;refine(j _ A).mono ?_;rintro en K ⟨rfl,B⟩;cases V:qtyB e.mq v
 case false=>
  have D:Hd (e.why v=6):=by show _=_;rw[E.o,O,R,V];rfl
  go_wp2;go_ret;exact⟨by rw[D.o];rfl,B.2.2⟩
 have t:cI K w.heap.size 0 (v 0):=B.2.1.cell 0;have u:cI K w.heap.size 1 (v 1):=B.2.1.cell 1;have x:cI K w.heap.size 2 (v 2):=B.2.1.cell 2;have y:cI K w.heap.size 3 (v 3):=B.2.1.cell 3;have z:cI K w.heap.size 4 (v 4):=B.2.1.cell 4;have s5:cI K w.heap.size 5 (v 5):=B.2.1.cell 5;have s6:cI K w.heap.size 6 (v 6):=B.2.1.cell 6;have s7:cI K w.heap.size 7 (v 7):=B.2.1.cell 7;have s8:cI K w.heap.size 8 (v 8):=B.2.1.cell 8;go_wp2_with fail;refine(d _ B).mono ?_;rintro en L ⟨rfl,C⟩;cases Z:offB e.mp v
 case false=>
  have D:Hd (e.why v=7):=by show _=_;rw[E.o,O,R,V,Z];rfl
  go_wp2;go_ret;exact⟨by rw[D.o];rfl,C.2.2⟩
 have t:cI L w.heap.size 0 (v 0):=C.2.1.cell 0;have u:cI L w.heap.size 1 (v 1):=C.2.1.cell 1;have x:cI L w.heap.size 2 (v 2):=C.2.1.cell 2;have y:cI L w.heap.size 3 (v 3):=C.2.1.cell 3;have z:cI L w.heap.size 4 (v 4):=C.2.1.cell 4;have s5:cI L w.heap.size 5 (v 5):=C.2.1.cell 5;have s6:cI L w.heap.size 6 (v 6):=C.2.1.cell 6;have s7:cI L w.heap.size 7 (v 7):=C.2.1.cell 7;have s8:cI L w.heap.size 8 (v 8):=C.2.1.cell 8;go_wp2_with fail;refine(k _ C).mono ?_;rintro en w6 ⟨rfl,N⟩;cases q:timeB e.now v
 case false=>
  have D:Hd (e.why v=8):=by show _=_;rw[E.o,O,R,V,Z,q];rfl
  go_wp2;go_ret;exact⟨by rw[D.o];rfl,N.2.2⟩
 have c0:cI w6 b 0 e.mo:=N.1.cell 0;go_wp2_with fail;go_region_held3(fun X=>X.cell? (iA b 0)=sI e.mo) (first|exact c0|exact m) ((go_at_call 126;refine(c _ (N.same (Same.refl _).drew)).mono ?_;rintro en w7 ⟨rfl,m,T⟩));by_cases s:e.mo≤(e.alive:Int)
 ·have D:Hd (e.why v=9):=by show _=_;rw[E.o,O,R,V,Z,q];simp[s]
  go_wp2;go_ret;exact⟨by rw[D.o];rfl,T.2.2⟩
 have D:Hd (e.why v=0):=by show _=_;rw[E.o,O,R,V,Z,q];simp[s]
 go_wp2;go_ret;exact⟨by rw[D.o];rfl,T.2.2⟩
end
structure qK(o:Ord):Prop where
 id:0≤o.id∧o.id≤4294967295
 fil:0≤o.bu∧o.bu≤o.mg∧o.mg≤4294967295
 sh:0≤o.bg∧o.bg≤o.mg - o.bu
 peg:o.typ=3→o.bn=0→o.bg=0
theorem qK.r(h:qK o):aD o.id:=by obtain⟨A,B⟩:=h.id;exact⟨by omega,by omega⟩
theorem qK.opn(h:qK o):aD (o.mg - o.bu):=by obtain⟨A,B,C⟩:=h.fil;exact⟨by omega,by omega⟩
structure AW(pr:Nat→Option (Array Value×TypeId))(base:Nat)(w:World)(ab lm em n:Nat)(L:List (Int×Option Nat))(E:List (Int×List Int)):Prop where
 blk:w.heap[ab]? =some (.cells #[.map (some lm),.map (some em)] 271 (0,0))
 live:PM jf prog 3 w lm L
 ended:PM dJ prog 3 w em E
 jc:∀p∈L,∃q o,p.2=some q∧base≤q∧OA w q 0 o∧qK o
 ents:∀p∈E,∃o:Ord,p=(o.id,o.state)
 ne:lm≠em
 lo:base≤ab∧base≤lm∧base≤em
 ll:L.length≤n
 el:E.length≤n
 rows:∀(b:Nat) (c:Array Value) (t:TypeId),pr b=some (c,t)→t≠202∧w.heap[b]? =some (.cells c t (0,0))
def AG(pr:Nat→Option (Array Value×TypeId))(base:Nat)(w:World)(ab lm em n:Nat):Prop:= ∃L E,AW pr base w ab lm em n L E
section
variable {pr:Nat→Option (Array Value×TypeId)} {base:Nat} {w w':World} {ab lm em n:Nat} {L:List (Int×Option Nat)} {E:List (Int×List Int)} {q:Nat} {o:Ord}
theorem AW.lt(h:AW pr base w ab lm em n L E):ab<w.heap.size∧lm<w.heap.size∧em<w.heap.size:=⟨(Array.getElem?_eq_some_iff.1 h.blk).1,h.live.lt,h.ended.lt⟩
theorem AW.keep(h:AW pr base w ab lm em n L E)(hk:∀k,k<w.heap.size→w'.heap[k]? =w.heap[k]?):AW pr base w' ab lm em n L E:=by
 obtain⟨F,G,H⟩:=h.lt;refine⟨by rw[hk ab F];exact h.blk,h.live.of_block (hk _ G),h.ended.of_block (hk _ H),fun p hp=>?_,h.ents,h.ne,h.lo,h.ll,h.el,fun b c t hb=>⟨(h.rows b c t hb).1,by rw[hk b (Array.getElem?_eq_some_iff.1 (h.rows b c t hb).2).1];exact(h.rows b c t hb).2⟩⟩;obtain⟨q,o,B,C,A,D⟩:=h.jc p hp;exact⟨q,o,B,C,⟨by rw[hk q A.lt];exact A.blk⟩,D⟩
theorem AW.below(h:AW pr base w ab lm em n L E)(hb:Below w.heap.size w w'):AW pr base w' ab lm em n L E:=h.keep fun k hk=>hb.block k hk
theorem AW.same(h:AW pr base w ab lm em n L E)(hs:Same w w'):AW pr base w' ab lm em n L E:=h.keep fun k _=>by rw[hs.heap]
theorem AW.more(h:AW pr base w ab lm em n L E)(hm:n≤m):AW pr base w ab lm em m L E:=⟨h.blk,h.live,h.ended,h.jc,h.ents,h.ne,h.lo,Nat.le_trans h.ll hm,Nat.le_trans h.el hm,h.rows⟩
theorem AW.ag(h:AW pr base w ab lm em n L E):AG pr base w ab lm em n:=⟨L,E,h⟩
theorem AW.c0(h:AW pr base w ab lm em n L E):w.cell? (iA ab 0)=some (.map (some lm)):=by simp[World.cell?,h.blk]
theorem AW.c1(h:AW pr base w ab lm em n L E):w.cell? (iA ab 1)=some (.map (some em)):=by simp[World.cell?,h.blk]
theorem AG.keep(h:AG pr base w ab lm em n)(hk:∀k,k<w.heap.size→w'.heap[k]? =w.heap[k]?):AG pr base w' ab lm em n:=by obtain⟨L,E,h⟩:=h;exact⟨L,E,h.keep hk⟩
theorem AG.below(h:AG pr base w ab lm em n)(hb:Below w.heap.size w w'):AG pr base w' ab lm em n:=h.keep fun k hk=>hb.block k hk
theorem AG.same(h:AG pr base w ab lm em n)(hs:Same w w'):AG pr base w' ab lm em n:=h.keep fun k _=>by rw[hs.heap]
theorem AG.more(h:AG pr base w ab lm em n)(hm:n≤m):AG pr base w ab lm em m:=by obtain⟨L,E,h⟩:=h;exact⟨L,E,h.more hm⟩
theorem AG.c0(h:AG pr base w ab lm em n):w.cell? (iA ab 0)=some (.map (some lm)):=by obtain⟨L,E,h⟩:=h;exact h.c0
theorem AG.c1(h:AG pr base w ab lm em n):w.cell? (iA ab 1)=some (.map (some em)):=by obtain⟨L,E,h⟩:=h;exact h.c1
theorem AG.lt(h:AG pr base w ab lm em n):ab<w.heap.size∧lm<w.heap.size∧em<w.heap.size:=by obtain⟨L,E,h⟩:=h;exact h.lt
theorem AG.wr(h:AG pr base w ab lm em n)(ho:OA w q 0 o)(hq:base≤q)(j:Nat)(u:Value)(o':Ord)(hc:(o.code 0).setIfInBounds j u=o'.code 0)(hk:qK o'):AG pr base (w.setCell (iA q j) u) ab lm em n∧OA (w.setCell (iA q j) u) q 0 o':=by
 obtain⟨L,E,h⟩:=h;have B:=ho.blk;have O:=ja w q j u _ _ _ B;have F:∀k,k≠q→(w.setCell (iA q j) u).heap[k]? =w.heap[k]? :=fun k hk=>Below.heap_setCell _ _ _ _ hk
 have K:∀{V:Type} {E:Elem V} {x:Nat} {l:List (Int×V)},PM E prog 3 w x l→PM E prog 3 (w.setCell (iA q j) u) x l:=by
  intro V E x l C;obtain⟨R,c,J⟩:=C.is_map;exact C.of_block (F x (fun A=>by rw[A,B]at J;cases J))
 have I:OA (w.setCell (iA q j) u) q 0 o':=⟨by rw[O,hc]⟩;refine⟨⟨L,E,?_,K h.live,K h.ended,fun p C=>?_,h.ents,h.ne,h.lo,h.ll,h.el,fun b c t hpb=>⟨(h.rows b c t hpb).1,by rw[F b (fun A=>by have:=(h.rows b c t hpb).2;rw[A,B]at this;injection this with this;injection this with _ this _;exact(h.rows b c t hpb).1 this.symm)];exact(h.rows b c t hpb).2⟩⟩,I⟩
 ·rw[F ab (fun A=>by have:=h.blk;rw[A,B]at this;injection this with this;injection this with _ this _;exact absurd this (by decide))];exact h.blk
 obtain⟨D,x,G,H,M,N⟩:=h.jc p C;by_cases A:D=q
 ·subst A;exact⟨D,o',G,H,I,hk⟩
 exact⟨D,x,G,H,⟨by rw[F D A];exact M.blk⟩,N⟩
theorem AW.turn_live{L':List (Int×Option Nat)}(h:AW pr base w ab lm em n L E)(ht:qb lm w w')(hp:PM jf prog 3 w' lm L')(ho:∀p∈L',∃q o,p.2=some q∧base≤q∧OA w q 0 o∧qK o)(hl:L'.length≤m)(hm:n≤m):AW pr base w' ab lm em m L' E:=
 ⟨ht.cells h.blk,hp,ht.other h.ended h.ne.symm,fun p hp=>by
  obtain⟨q,o,h1,h2,h3,h4⟩:=ho p hp;exact⟨q,o,h1,h2,⟨ht.cells h3.blk⟩,h4⟩,h.ents,h.ne,h.lo,hl,Nat.le_trans h.el hm,fun b c t hb=>⟨(h.rows b c t hb).1,ht.cells (h.rows b c t hb).2⟩⟩
theorem AW.vV{E':List (Int×List Int)}(h:AW pr base w ab lm em n L E)(ht:qb em w w')(hp:PM dJ prog 3 w' em E')(ho:∀p∈E',∃o:Ord,p=(o.id,o.state))(hl:E'.length≤m)(hm:n≤m):AW pr base w' ab lm em m L E':=
 ⟨ht.cells h.blk,ht.other h.live h.ne,hp,fun p hp=>by
  obtain⟨q,o,h1,h2,h3,h4⟩:=h.jc p hp;exact⟨q,o,h1,h2,⟨ht.cells h3.blk⟩,h4⟩,ho,h.ne,h.lo,Nat.le_trans h.ll hm,hl,fun b c t hb=>⟨(h.rows b c t hb).1,ht.cells (h.rows b c t hb).2⟩⟩
theorem qb.low(ht:qb m w w')(hm:base≤m)(hw:base≤w.heap.size):Below base w w':=⟨ht.os,ht.tape,ht.output,ht.size,fun k hk=>ht.block k (by omega) (by omega)⟩
theorem Same.low(hs:Same w w'):Below base w w':=⟨hs.os,hs.tape,hs.output,by rw[hs.heap];exact Nat.le_refl _,fun k _=>by rw[hs.heap]⟩
theorem wG{V:Type}(l:List (Int×V))(k:Int):(pE l k).length≤l.length:=List.length_filter_le _ _
theorem wH{V:Type}{l:List (Int×V)}{k:Int}{p:Int×V}(h:p∈pE l k):p∈l:=(List.mem_filter.1 h).1
theorem zCp(st:Int)(x:Ord)(h:AG pr base w ab lm em n)(hn:n≤1000000000)(hO:OA w q 0 o)(hk:qK o)(hxi:x.id=o.id)
 (hS:∀W,OA W q 0 o→Cl 112 #[iP q,iV st] W fun en w'=>en=.returned (dJ.val x.state)∧Below W.heap.size W w'):
 Cl 225 #[iP ab,iP q,iV st] w fun en w'=>en=rV #[]∧AG pr base w' ab lm em (n+1)∧Below base w w'∧(∀(b:Nat) (c:Array Value) (t:TypeId) (f:Nat×Nat),w.heap[b]? =some (.cells c t f)→w'.heap[b]? =some (.cells c t f)):=by
 have D:base≤w.heap.size:=by obtain⟨L,E,h⟩:=h;have:=h.lo;have:=h.lt;omega
 have a0:=h.c0;have c0:cI w q 0 o.id:=hO.cell 0;have X:Hd (∃w1,(Builtin.delete_ #[89,3] 0 #[.map (some lm),iV o.id]).run prog w.drew=.ok (.tuple #[]) w1∧w1.cell? (iA ab 1)=some (.map (some em))∧cI w1 q 0 o.id∧
  Hd (∀W,Same w1 W→Cl 112 #[iP q,iV st] W fun en w'=>en=.returned (.agg (x.state.map (iV)).toArray)∧w'.cell? (iA ab 1)=some (.map (some em))∧cI w' q 0 o.id∧∃F,(Instr.mapUpdate 92 (.map (some em)) (iV o.id) (.agg (x.state.map (iV)).toArray)).run prog w'=.ok () F∧Hd (AG pr base F ab lm em (n+1)∧Below base w F∧(∀(b:Nat) (c:Array Value) (t:TypeId) (f:Nat×Nat),w.heap[b]? =some (.cells c t f)→F.heap[b]? =some (.cells c t f))))):=by
  obtain⟨L,E,h⟩:=h;have B:Same w w.drew:=(Same.refl w).drew;have M:=h.same B;obtain⟨w1,s,u,v⟩:=M.live.del je underlying3 underlying89 (lC hk.r) 0;have J:=qb.of v;have U:AW pr base w1 ab lm em n (pE L o.id) E:=M.turn_live J u (fun p C=>M.jc p (wH C)) (Nat.le_trans (wG _ _) h.ll) (Nat.le_refl _);have I:OA w1 q 0 o:=⟨J.cells (hO.same B).blk⟩;refine⟨w1,s,U.c1,I.cell 0,?_⟩;intro W A;refine(hS W (I.same A)).mono ?_;rintro en w' ⟨rfl,H⟩;have G:=(U.same A).below H;have k:OA w' q 0 o:=⟨by rw[H.block q (I.same A).lt];exact(I.same A).blk⟩;obtain⟨F,y,z,r3⟩:=G.ended.put je underlying3 underlying92 (by have:=G.el;unfold maxLen;omega) (lC hk.r) x.state;have N:=qb.of r3;refine⟨rfl,G.c1,k.cell 0,F,y,⟨_,_,G.vV (m:=n+1) N z (fun p C=>?_) ?_ (by omega)⟩,?_,fun b c t f h'=>N.cells ?_⟩
  ·rcases List.mem_append.1 C with C|C
   ·exact G.ents p (wH C)
   rw[List.mem_singleton]at C;exact⟨x,by rw[C,hxi]⟩
  ·rw[List.length_append];have:=wG E o.id;have:=h.el;simp;omega
  ·have S:Below base w w1:=(B.low).trans (J.low h.lo.2.1 (by rw[B.heap];exact D));have d:base≤w1.heap.size:=Nat.le_trans D S.size;have g:Below base w W:=S.trans A.low;have T:Below base w w':=g.trans (H.mono (by rw[A.heap];exact d));exact T.trans (N.low h.lo.2.2 (Nat.le_trans D T.size))
  have l:w1.heap[b]? =some (.cells c t f):=J.cells (by rw[B.heap];exact h');have V:W.heap[b]? =some (.cells c t f):=by rw[A.heap];exact l
  rw[H.block b (Array.getElem?_eq_some_iff.1 V).1];exact V
 obtain⟨w1,i,c1,Z,K⟩:=X;go_enter func225,ntmps225;go_wp2_with fail;go_region_law(fail);all_goals(
  go_wp2_with fail;go_region_with(first|(go_at_call 112;refine(K w1.drew ((Same.refl w1).drew)).mono ?_;rintro en F ⟨rfl,R,O,w3,j,Y⟩));all_goals(go_end0;exact⟨rfl,Y⟩))
end
end Go.Proofs.YtehmdohpmpbnnaaGreatDoor
