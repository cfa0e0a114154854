import Derived.Test.YtehmdohpmpbnnaaGreatDoorQ00
import Derived.Test.YtehmdohpmpbnnaaGreatDoorQ23
import Derived.Test.YtehmdohpmpbnnaaGreatDoorQ29
set_option linter.all false
set_option maxRecDepth 100000
set_option maxHeartbeats 8000000
namespace Go.Proofs.YtehmdohpmpbnnaaGreatDoor
variable{w1 w2:World}{e':bf}{S':jk}
open Go.Proofs.Tryz
open Go.Extern Go.Maps Go.RowKit
section
variable {F:Nat→Prop} {base:Nat} {w:World} {b i:Nat} {e:bf} {g:Gh} {S:jk} {o:Ord} {v:Nat→Int}
def newC(v:Nat→Int)(n:Int):Array Value:=#[iV (v 0),iV (v 1),iV (v 2),iV (v 3),iV (v 4),iV (v 5),iV (v 6),iV (v 7),iV (v 8),iV n,iV 0,iV 0,iV 0]
theorem zJ1(v:Nat→Int)(n:Nat):newC v n=(bf.vg v).code n:=rfl
structure Five(w:World)(nb:Nat)(v:Nat→Int):Prop where
 c0:w.cell? (iA nb 0)=sI (v 0)
 c1:w.cell? (iA nb 1)=sI (v 1)
 c2:w.cell? (iA nb 2)=sI (v 2)
 c3:w.cell? (iA nb 3)=sI (v 3)
 c4:w.cell? (iA nb 4)=sI (v 4)
theorem zJ2(inv:bf.fe e)(hH:Holds e S [] [])(hv:bf.VOk v)(hvb:∀j,0≤v j+2147483648∧v j≤4294967296)(hw:e.why v=0)(hro:Room 2100 e)(hsu:jR 1000 e)(hd:Dr e)(hl:e.all.length+1≤1000000000)(w1:World)(h1:fA F base w b e g S v w1)(hup:∀k,w.heap.size≤k→F k):
 Cl 127 #[.pointer (some (iA b 8)),iP w1.heap.size] (w1.alloc (.cells (newC v e.all.length) 202)) fun en w2=>en=rV #[]∧Five w2 w1.heap.size v∧Hd (∀W,Same w2 W→Cl 94 #[.pointer (some (iA b 6)),.agg #[iV 1,iV 0,iV (v 0),iV (v 1),iV (v 3),iV (v 4),iV (v 2)]] W fun en w3=>en=rV #[]∧Five w3 w1.heap.size v∧Hd ((v 2=3→eG F base w b g (e.fresh v) w3)∧(¬v 2=3→Cl 128 #[iP b,iP w1.heap.size] w3 fun en w4=>en=rV #[]∧Hd (eG F base w b g (e.fresh v) w4)))):=by
 obtain⟨u,y,s⟩:=h1;obtain⟨A,G⟩:=bf.jY inv hv hw;have B:∀j,aD (v j):=fun j=>⟨by have:=(hvb j).1;omega,by have:=(hvb j).2;omega⟩
 let e1:bf:={ e with all:=e.all++ [bf.vg v] }
 let g1:Gh:=g.more e.all.length w1.heap.size
 have H:g1.blk e.all.length=w1.heap.size:=by show(if e.all.length=e.all.length then _ else _)=_;rw[if_pos rfl]
 have Z:Bw w1 (w1.alloc (.cells (newC v e.all.length) 202)):=(Below.refl _ _).alloc (Nat.le_refl _) _;have d:dw F base (w1.alloc (.cells (newC v e.all.length) 202)) b e1 g1 S:=u.newOrder (o:=bf.vg v) Z (Nat.le_refl _) (by simp) hH.into (by rw[←zJ1];exact heap_alloc_new w1 _);have M:Holds e1 S [e.all.length] []:=hH.newOrder rfl rfl;have D:e1.all[e.all.length]? =some (bf.vg v):=G;have X:bf.fe e1:=⟨A.mo0,A.mo1,A.mp0,A.oN,A.mq0,A.mq1,A.ok,A.ids,A.apart,A.now0,A.now1,A.live⟩;have I:e1.all.length=e.all.length+1:=by show(e.all++ [_]).length=_;simp
 have l:=(d.small M).mono (m:=1000000000) (by omega);have x:=d.oa D rfl;have K:=zFw d x (B 0) (by rw[zn D]) l;rw[H]at K;refine K.mono ?_;rintro en w2 ⟨rfl,q1,q2,Y⟩;have c:Holds e1 (S.join e1.all (bf.vg v) e.all.length) [] []:=M.join X D rfl;refine⟨rfl,⟨Y.cell 0,Y.cell 1,Y.cell 2,Y.cell 3,Y.cell 4⟩,fun W hW=>?_⟩;refine(rA 1 0 (v 0) (v 1) (v 3) (v 4) (v 2) (q1.same hW) (by have:=hro.seq;show e.seq<_;omega) (by have:=hro.out;show e.out.length≤_;omega) ⟨⟨by omega,by omega⟩,B 0,B 1,B 3,B 4,B 2⟩).mono ?_;rintro en w3 ⟨rfl,t,p1,p2⟩;have J:dw F base w3 b (e.enter v) { g1 with txt:=t } (S.join e1.all (bf.vg v) e.all.length):=p1;have N:=J.oa (i:=e.all.length) G rfl;have C:OA w3 w1.heap.size e.all.length (bf.vg v):=by have:({ g1 with txt:=t }:Gh).blk e.all.length=w1.heap.size:=H;rw[this]at N;exact N
 have O:Touch F w w3:=(((zk hup s).trans ((Touch.refl F w1).alloc _)).trans q2).trans (hW.touch.trans p2);have L:Holds (e.enter v) (S.join e1.all (bf.vg v) e.all.length) [] []:=c.vz rfl;refine⟨rfl,⟨C.cell 0,C.cell 1,C.cell 2,C.cell 3,C.cell 4⟩,fun h3=>?_,fun h3=>?_⟩
 ·have h:e.fresh v=e.enter v:=by rw[bf.bV,if_neg (by simp[hw]),if_pos h3]
  rw[h];exact⟨_,_,J,L,O,rfl,rfl⟩
 have h:e.fresh v=(e.enter v).zy e.all.length:=by rw[bf.bV,if_neg (by simp[hw]),if_neg h3]
 have E:=bf.oZ e v;have T:Room 2001 (e.enter v):=by
  have a1:=hro.seq;have a2:=hro.qC;have a3:=hro.out;have a4:=hro.fD;have b1:=E.seq1;have b2:=E.tL;have b3:=E.out;have b4:=E.drw1;have b5:(e.enter v).all.length=e.all.length+1:=I;exact⟨by omega,by omega,by omega,by omega,by omega⟩
 have U:jR 1000 (e.enter v):=⟨hsu.v0,hsu.v1,hsu.w0,hsu.w1⟩;have f:Dr (e.enter v):=⟨hd.len,hd.bd⟩;have V:=zCv J A L G rfl rfl T U f;have R:({ g1 with txt:=t }:Gh).blk e.all.length=w1.heap.size:=H;rw[R]at V;refine V.mono ?_;rintro en w4 ⟨rfl,z⟩;obtain⟨t4,q,n,p,r3⟩:=z.out;rw[←h]at n p;exact⟨rfl,_,q,n,p,O.trans r3,rfl,rfl⟩
theorem zJ3(h:dw F base w b e g S)(inv:bf.fe e)(hH:Holds e S [] [])(hv:bf.VOk v)(hvb:∀j,0≤v j+2147483648∧v j≤4294967296)(hro:Room 2100 e)(hsu:jR 1000 e)(hd:Dr e)(hl:e.all.length+1≤100000000):
 Cl 95 #[iP b,mh v] w fun en w'=>en=rV #[]∧Hd (eG F base w b g (e.fresh v) w'):=by
 have n:aD (v 0):=⟨by have:=(hvb 0).1;omega,by have:=(hvb 0).2;omega⟩;have I:Hd (fA F base w b e g S v (w.alloc (.cells (lu v) 79))):=⟨h.alloc _,TA.new w v _,(Below.refl w.heap.size w).alloc (Nat.le_refl _) _⟩;have d:Hd (∀W,fA F base w b e g S v W→Cl 125 #[iP b,mh v] W fun en w'=>en=.returned (iV (e.why v))∧Hd (fA F base w b e g S v w')):=fun W C=>(zH9 C.1 inv hH ⟨hv.nC,hv.nD⟩ (by omega)).mono fun en w' ⟨h1,h2⟩=>⟨h1,C.below h2⟩
 have q:aD (e.why v):=by
  unfold bf.why;split
  ·exact⟨by omega,by omega⟩
  split
  ·exact⟨by omega,by omega⟩
  by_cases Y:(if v 2=3 then v 3 == 0 else bf.rf (v 3) 1 e.mp)=false
  ·rw[if_pos Y];exact⟨by omega,by omega⟩
  rw[if_neg Y];by_cases H:bf.rf (v 4) 1 e.mq=false∨(if v 2=2 then bf.rf (v 5) 1 (v 4) else v 5 == 0)=false
  ·rw[if_pos H];exact⟨by omega,by omega⟩
  rw[if_neg H];by_cases x:(if v 2=3 then(if v 1=1 then bf.rf (v 6) (-e.mp) 0 else bf.rf (v 6) 0 e.mp) else v 6 == 0)=false
  ·rw[if_pos x];exact⟨by omega,by omega⟩
  rw[if_neg x];by_cases y:(if v 7=3 then decide (e.now<v 8) else v 8 == 0)=false
  ·rw[if_pos y];exact⟨by omega,by omega⟩
  rw[if_neg y];split
  ·exact⟨by omega,by omega⟩
  exact⟨by omega,by omega⟩
 have f:Hd (¬e.why v=0→∀W,fA F base w b e g S v W→Cl 56 #[iP b,iV (v 0),iV (e.why v)] W fun en w'=>en=rV #[]∧Hd (eG F base w b g (e.fresh v) w')):=by
  intro hn W C;refine(rG (v 0) (e.why v) C.1 hH (hro.mono (by omega)) n q).mono ?_;rintro en w' ⟨rfl,hz⟩;have hf:e.fresh v=e.ny (v 0) (e.why v):=by rw[bf.bV,if_pos hn]
  rw[hf];exact⟨rfl,hz.out.cend.from (zk h.up C.2.2)⟩
 have z:=hH.count h.pN.1 h.pN.2.1 h.pN.2.2;have U:=h.small hH;have Z:Hd (∀W,fA F base w b e g S v W→Cl 126 #[.pointer (some (iA b 8))] W fun en w'=>en=.returned (iV ((S.day.length+S.qf.length:Nat):Int))∧w'.cell? (iA b 10)=some (.map (some g.zb))∧TA w' w.heap.size v∧(∀ty,(Builtin.len_ #[92] ty #[.map (some g.zb)]).run prog w'=.ok (iV (S.ended.length:Int)) w')∧Hd (fA F base w b e g S v w')):=fun W C=>(zC5 C.1 (by have:=U.day;have:=U.qf;omega)).mono fun en w' ⟨h1,h2⟩=>⟨h1,(C.same h2).1.cell 10,(C.same h2).2.1,fun ty=>by have:=(C.same h2).1.body.ended.len underlying92 ty;rw[List.length_map]at this;exact this,C.same h2⟩
 have K:Hd (∀W,fA F base w b e g S v W→∀ty,(Builtin.len_ #[92] ty #[.map (some g.zb)]).run prog W=.ok (iV (S.ended.length:Int)) W):=fun W C ty=>by have:=C.1.body.ended.len underlying92 ty;rw[List.length_map]at this;exact this
 have A0:IntKind.i64.wrap (((S.day.length+S.qf.length:Nat):Int)+(S.ended.length:Int))=(e.all.length:Int):=by rw[aM _ (by omega) (by omega)];omega
 have A1:wrap64 (((S.day.length+S.qf.length:Nat):Int)+(S.ended.length:Int))=(e.all.length:Int):=by unfold wrap64;omega
 have M:Hd (e.why v=0→∀E,fA F base w b e g S v E→_):=fun hw E h1=>zJ2 inv hH hv hvb hw hro hsu hd (by omega) E h1 h.up
 generalize ((S.day.length+S.qf.length:Nat):Int)=A at *;generalize (S.ended.length:Int)=B at *;unfold mh at *;unfold lu at I;unfold newC at M;generalize (e.all.length:Int)=N at *;go_enter func95,ntmps95;go_wp2_with fail;refine(d _ I).mono ?_;rintro en E ⟨rfl,D⟩;have s0:cI E w.heap.size 0 (v 0):=D.2.1.cell 0;by_cases s:e.why v=0
 ·have HT:=hid (M s);rw[s];have m:E.cell? (iA b 10)=some (.map (some g.zb)):=D.1.cell 10;have p:=K E.drew (D.same (Same.refl _).drew);have G:Hd (∀W,TA W w.heap.size v→W.cell? (iA b 10)=some (.map (some g.zb))→(∀ty,(Builtin.len_ #[92] ty #[.map (some g.zb)]).run prog W=.ok (iV B) W)→W.cell? (iA b 10)=some (.map (some g.zb))∧cI W w.heap.size 0 (v 0)∧cI W w.heap.size 1 (v 1)∧cI W w.heap.size 2 (v 2)∧cI W w.heap.size 3 (v 3)∧cI W w.heap.size 4 (v 4)∧cI W w.heap.size 5 (v 5)∧cI W w.heap.size 6 (v 6)∧cI W w.heap.size 7 (v 7)∧cI W w.heap.size 8 (v 8)∧(∀ty,(Builtin.len_ #[92] ty #[.map (some g.zb)]).run prog W=.ok (iV B) W)):=fun W hT hc hl=>⟨hc,hT.cell 0,hT.cell 1,hT.cell 2,hT.cell 3,hT.cell 4,hT.cell 5,hT.cell 6,hT.cell 7,hT.cell 8,hl⟩
  have k:Hd (∀W X,fA F base w b e g S v W→(W.alloc X).cell? (iA b 10)=some (.map (some g.zb))∧(W.alloc X).cell? (iA w.heap.size 0)=sI (v 0)∧(W.alloc X).cell? (iA w.heap.size 1)=sI (v 1)∧(W.alloc X).cell? (iA w.heap.size 2)=sI (v 2)∧(W.alloc X).cell? (iA w.heap.size 3)=sI (v 3)∧(W.alloc X).cell? (iA w.heap.size 4)=sI (v 4)∧(W.alloc X).cell? (iA w.heap.size 5)=sI (v 5)∧(W.alloc X).cell? (iA w.heap.size 6)=sI (v 6)∧(W.alloc X).cell? (iA w.heap.size 7)=sI (v 7)∧(W.alloc X).cell? (iA w.heap.size 8)=sI (v 8)∧(∀ty,(Builtin.len_ #[92] ty #[.map (some g.zb)]).run prog (W.alloc X)=.ok (iV B) (W.alloc X))):=fun W X C=>G _ (C.2.1.below ((Below.refl _ _).alloc (Nat.le_refl _) X)) ((C.1.alloc X).cell 10) (K _ (C.below ((Below.refl _ _).alloc (Nat.le_refl _) X)))
  go_wp2_with fail;go_region_held3(fun X=>X.cell? (iA b 10)=some (.map (some g.zb))∧X.cell? (iA w.heap.size 0)=sI (v 0)∧X.cell? (iA w.heap.size 1)=sI (v 1)∧X.cell? (iA w.heap.size 2)=sI (v 2)∧X.cell? (iA w.heap.size 3)=sI (v 3)∧X.cell? (iA w.heap.size 4)=sI (v 4)∧X.cell? (iA w.heap.size 5)=sI (v 5)∧X.cell? (iA w.heap.size 6)=sI (v 6)∧X.cell? (iA w.heap.size 7)=sI (v 7)∧X.cell? (iA w.heap.size 8)=sI (v 8)∧(∀ty,(Builtin.len_ #[92] ty #[.map (some g.zb)]).run prog X=.ok (iV B) X)) (first|exact G E.drew (D.2.1.same (Same.refl _).drew) m p|exact G V t R T |exact k V _ J) ((go_at_call 126;refine(Z _ (D.same (Same.refl _).drew)).mono ?_;rintro en V ⟨rfl,R,t,T,J⟩));go_wp2_with fail;refine(HT V J).mono ?_;rintro en w3 ⟨rfl,Y,l⟩;obtain⟨d0,d1,d2,d3,d4⟩:=Y;generalize V.heap.size=nb at *
  have c:Hd (∀W,Five W nb v→cI W nb 0 (v 0)∧cI W nb 1 (v 1)∧cI W nb 2 (v 2)∧cI W nb 3 (v 3)∧cI W nb 4 (v 4)):=fun W h=>⟨h.c0,h.c1,h.c2,h.c3,h.c4⟩
  go_wp2_with fail;go_region_held3(fun X=>X.cell? (iA nb 0)=sI (v 0)∧X.cell? (iA nb 1)=sI (v 1)∧X.cell? (iA nb 2)=sI (v 2)∧X.cell? (iA nb 3)=sI (v 3)∧X.cell? (iA nb 4)=sI (v 4)) (first|exact⟨d0,d1,d2,d3,d4⟩|exact c u H) ((go_at_call 94;refine(l _ (Same.refl _).drew).mono ?_;rintro en u ⟨rfl,H,L⟩));by_cases q2:v 2=3
  ·have O:=hid (L.1 q2);have c2:cI u nb 2 (v 2):=H.c2;go_wp2;go_end0;exact⟨rfl,O⟩
  have O:=hid (L.2 q2);have c2:cI u nb 2 (v 2):=H.c2;go_wp2_with fail;refine O.mono ?_;rintro en w5 ⟨rfl,HD⟩;go_wp2;go_end0;exact⟨rfl,HD⟩
 have HG:=hid (f s E D);go_wp2_with fail;refine HG.mono ?_;rintro en V ⟨rfl,O⟩;go_wp2
 (try simp only[Exit.inBlock,Exit.then])
 refine bodyPost_ret (results_none rfl _ _ _) rfl ?_;exact⟨rfl,O⟩
end
section
variable {F:Nat→Prop} {base:Nat} {w:World} {b i:Nat} {e:bf} {g:Gh} {S:jk} {o:Ord} {v:Nat→Int}
def chR(e:bf)(o:Ord)(v:Nat→Int):Int:=if bR e.mp o.typ (v 3)=false then 5 else if bf.rf (v 4) (o.bu+1) e.mq=false then 6 else 0
def Look2(F:Nat→Prop)(base:Nat)(w:World)(b:Nat)(e:bf)(g:Gh)(S:jk)(i:Nat)(o:Ord)(v:Nat→Int)(wr:World):Prop:=dw F base wr b e g S∧OA wr (g.blk i) i o∧TA wr w.heap.size v∧Below w.heap.size w wr
theorem Look2.same(h:Look2 F base w b e g S i o v w1)(hb:Same w1 w2):Look2 F base w b e g S i o v w2:=⟨h.1.same hb,h.2.1.same hb,h.2.2.1.same hb,eY h.2.2.2 hb⟩
theorem zJ4(h:dw F base w b e g S)(ho:OA w (g.blk i) i o)(hf:0≤o.bu∧o.bu≤1000):
 Cl 132 #[iP b,iP (g.blk i),mh v] w fun en w'=>en=.returned (iV (chR e o v))∧Below w.heap.size w w':=by
 have B:Hd (Look2 F base w b e g S i o v (w.alloc (.cells (lu v) 79))):=⟨h.alloc _,ho.alloc _,TA.new w v _,(Below.refl w.heap.size w).alloc (Nat.le_refl _) _⟩;have G:Hd (∀W,Look2 F base w b e g S i o v W→Cl 161 #[iP b,iV o.typ,iV (v 3)] W fun en w'=>en=.returned (.bool (bR e.mp o.typ (v 3)))∧cI w' (g.blk i) 2 o.typ∧cI w' w.heap.size 3 (v 3)∧Hd (Look2 F base w b e g S i o v w')):=fun W hW=>(xM o.typ (v 3) hW.1).mono fun en w' ⟨h1,h2⟩=>⟨h1,(hW.same h2).2.1.cell 2,(hW.same h2).2.2.1.cell 3,hW.same h2⟩
 have C:Hd (∀W,Cl 118 #[iV (v 4),iV (o.bu+1),iV e.mq] W fun en w'=>en=.returned (.bool (bf.rf (v 4) (o.bu+1) e.mq))∧w'=W):=fun W=>sP _ _ _
 have L:IntKind.i64.wrap (o.bu+1)=o.bu+1:=aM _ (by omega) (by omega);have M:wrap64 (o.bu+1)=o.bu+1:=by unfold wrap64;omega
 unfold mh at *;unfold lu at B;go_enter func132,ntmps132;go_wp2_with fail;generalize w.alloc (.cells #[iV (v 0),iV (v 1),iV (v 2),iV (v 3),iV (v 4),iV (v 5),iV (v 6),iV (v 7),iV (v 8)] 79)=W at *;have O:cI W (g.blk i) 2 o.typ:=B.2.1.cell 2;have R:cI W w.heap.size 3 (v 3):=B.2.2.1.cell 3;go_region_held3(fun X=>X.cell? (iA (g.blk i) 2)=sI o.typ∧X.cell? (iA w.heap.size 3)=sI (v 3)) (first|exact⟨O,R⟩|exact⟨H,J⟩) ((go_at_call 161;refine(G.o _ (B.same (Same.refl _).drew)).mono ?_;rintro en K ⟨rfl,H,J,A⟩));cases I:bR e.mp o.typ (v 3)
 ·have D:Hd (chR e o v=5):=if_pos I;go_wp2;go_ret;exact⟨by rw[D.o];rfl,A.2.2.2⟩
 have U:cI K w.heap.size 4 (v 4):=A.2.2.1.cell 4;have N:cI K (g.blk i) 10 o.bu:=A.2.1.cell 10;have T:cI K b 2 e.mq:=A.1.cell 2;cases E:bf.rf (v 4) (o.bu+1) e.mq
 ·have D:Hd (chR e o v=6):=(if_neg (by simp[I])).trans (if_pos E);simp only[E]at C;go_wp2_with fail;go_quiet (exact Calls.quiet_of_same (C.o _));go_wp2;go_ret;exact⟨by rw[D.o];rfl,⟨A.2.2.2.os,A.2.2.2.tape,A.2.2.2.output,A.2.2.2.size,A.2.2.2.block⟩⟩
 have D:Hd (chR e o v=0):=(if_neg (by simp[I])).trans (if_neg (by simp[E]));simp only[E]at C;go_wp2_with fail;go_quiet (exact Calls.quiet_of_same (C.o _));go_wp2;go_ret;exact⟨by rw[D.o];rfl,⟨A.2.2.2.os,A.2.2.2.tape,A.2.2.2.output,A.2.2.2.size,A.2.2.2.block⟩⟩
theorem zJ5(reason:Int)(hr:aD reason)(h:dw F base w b e g S)(hro:Room 1 e)(hr63:∀j,aD (v j)):
 Cl 134 #[iP b,mh v,iV reason] w fun en w'=>en=rV #[]∧Hd (∃t,dw F base w' b (e.tell 5 (v 0) 0 (v 3) (v 4) reason) { g with txt:=t } S∧Touch F w w'):=by
 have C:=TA.new w v 79;have R:=h.alloc (.cells (lu v) 79);have B:w.heap.size<(w.alloc (.cells (lu v) 79)).heap.size:=by simp
 have A:Hd (∀W,Same (w.alloc (.cells (lu v) 79)) W→Cl 94 #[.pointer (some (iA b 6)),.agg #[iV 5,iV 0,iV (v 0),iV 0,iV (v 3),iV (v 4),iV reason]] W fun en w'=>en=rV #[]∧TA w' w.heap.size v∧Hd (∃t,dw F base w' b (e.tell 5 (v 0) 0 (v 3) (v 4) reason) { g with txt:=t } S∧Touch F w w')):=by
  intro W D;have L:=(h.shrink (vb:=w.heap.size) ((Below.refl w.heap.size w).alloc (Nat.le_refl _) (.cells (lu v) 79)) (Nat.le_refl _) B).same D;refine(rA 5 0 (v 0) 0 (v 3) (v 4) reason L (by have:=hro.seq;omega) (by have:=hro.out;omega) ⟨⟨by omega,by omega⟩,hr63 0,⟨by omega,by omega⟩,hr63 3,hr63 4,hr⟩).mono ?_;rintro en w' ⟨rfl,t,N,G⟩;refine⟨rfl,⟨?_⟩,t,N.qD,((Touch.refl F w).alloc _).trans (D.touch.trans G.wide)⟩;obtain⟨O,f,M⟩:=(C.same D).blk;refine⟨O,f,?_⟩;rw[G.block w.heap.size (by rw[D.heap];exact B) (fun hc=>hc.2 rfl)];exact M
 have H:(w.alloc (.cells (lu v) 79)).cell? (iA w.heap.size 0)=sI (v 0):=C.cell 0;have I:(w.alloc (.cells (lu v) 79)).cell? (iA w.heap.size 3)=sI (v 3):=C.cell 3;have J:(w.alloc (.cells (lu v) 79)).cell? (iA w.heap.size 4)=sI (v 4):=C.cell 4;unfold mh at *;unfold lu at A H I J;go_enter func134,ntmps134;go_wp2_with fail;generalize w.alloc (.cells #[iV (v 0),iV (v 1),iV (v 2),iV (v 3),iV (v 4),iV (v 5),iV (v 6),iV (v 7),iV (v 8)] 79)=W at *;go_region_held3(fun X=>X.cell? (iA w.heap.size 0)=sI (v 0)∧X.cell? (iA w.heap.size 3)=sI (v 3)∧X.cell? (iA w.heap.size 4)=sI (v 4)) (first|exact⟨H,I,J⟩|exact⟨E.cell 0,E.cell 3,E.cell 4⟩) ((go_at_call 94;refine(A _ (Same.refl _).drew).mono ?_;rintro en T ⟨rfl,E,K⟩));go_end0;exact⟨rfl,K⟩
def anew(e:bf)(i:Nat)(x:Ord)(p:Int):bf:=if x.typ≠3 then(e.upd i fun o=>{ o with bn:=p,bg:=0 }).zy i else if 0<x.bg then e.lay i x.opn else e
theorem zJ6{x:Ord}(p:Int)(hp:0≤p∧p≤1000000)(h:dw F base w b e g S)(hH:Holds e S [] [])(hid63:aD x.id)(hopn:x.opn=x.mg - x.bu)(hb:x.opn≤1000)(hpr63:aD x.bn)(hth:x.typ=3→x.eU=decide (0<x.bg))(hHl:x.typ=3→Holds (e.lay i x.opn) (S.lay e.all x i) [] [])(hHo:x.typ≠3→Holds (e.upd i fun o=>{ o with bn:=p,bg:=0 }) (S.off e.all x) [] [])(hx:e.all[i]? =some x)(hs:x.dm=1)(hp0:0<x.opn)(inv2:x.typ≠3→bf.fe (e.upd i fun o=>{ o with bn:=p,bg:=0 }))(hro:Room 2001 e)(hsu:jR 1000 e)(hd:Dr e):
 Cl 136 #[iP b,iP (g.blk i),iV p] w fun en w'=>en=rV #[]∧Hd (qj F base w b g (anew e i x p) w'):=by
 have I:=h.oa hx hs;have f:cI w (g.blk i) 2 x.typ:=I.cell 2;by_cases C:x.typ=3
 ·have hth:=hth C;have E:Hd (Cl 172 #[iP (g.blk i)] w fun en B=>en=.returned (.bool (decide (0<x.bg)))∧Hd ((0<x.bg→Cl 168 #[iP (g.blk i)] B fun en T=>en=.returned (iV x.opn)∧Hd (Cl 167 #[iP b,iP (g.blk i),iV x.opn] T fun en w'=>en=rV #[]∧Hd (qj F base w b g (anew e i x p) w')))∧(¬0<x.bg→qj F base w b g (anew e i x p) B))):=by
   refine(zC3 I).mono ?_;rintro en B ⟨rfl,R⟩;have D:=h.same R;refine⟨by rw[hth],fun A=>?_,fun A=>?_⟩
   ·refine(vF (I.same R) (by rw[←hopn];exact rz (by omega) (by omega)) hopn).mono ?_;rintro en T ⟨rfl,c⟩;have X:bf.pq x=x.opn:=by unfold bf.pq;rw[if_neg (fun hc=>by omega)]
    refine⟨by rw[X],?_⟩;have Z:=((D.same c).small hH).mono hro.len;refine(zAs x.opn (D.same c) hx hs (hH.live hx hs) hid63 hpr63 (rz (by omega) (by omega)) (by have:=hro.qC;omega) Z (by have:=hro.seq;omega) (by have:=hro.out;omega)).mono ?_;rintro en w3 ⟨rfl,t,s,u⟩;have M:anew e i x p=e.lay i x.opn:=by unfold anew;rw[if_neg (by simp[C]),if_pos A]
    rw[M];exact⟨rfl,t,_,s,hHl C,(R.touch.trans c.touch).trans u⟩
   have M:anew e i x p=e:=by unfold anew;rw[if_neg (by simp[C]),if_neg A]
   rw[M];exact⟨g.txt,S,D,hH,R.touch⟩
  clear h hH hpr63 hHl hHo hx hs hp0 inv2 hro hsu hd I hid63 hopn hb hth hp;rw[C]at f;clear C;go_enter func136,ntmps136;go_wp2_with fail;refine E.mono ?_;rintro en B ⟨rfl,O⟩;clear E;by_cases A:0<x.bg
  ·have j:=hid (O.1 A);clear O;go_wp2_with fail;refine j.mono ?_;rintro en T ⟨rfl,k⟩;go_wp2_with fail;refine k.mono ?_;rintro en w3 ⟨rfl,H⟩;go_wp2;go_end0;exact⟨rfl,H⟩
  have H:=hid (O.2 (by omega));clear O;go_wp2;go_end0;exact⟨rfl,H⟩
 have G:Hd (Cl 173 #[iP b,iP (g.blk i)] w fun en B=>en=rV #[]∧cI B (g.blk i) 3 x.bn∧B.frozen? (iA (g.blk i) 3)=false∧Hd (Cl 128 #[iP b,iP (g.blk i)] (B.setCell (iA (g.blk i) 3) (iV p)) fun en w'=>en=rV #[]∧Hd (qj F base w b g (anew e i x p) w'))):=by
  refine(lD h hx hs (hH.live hx hs) hid63).mono ?_;rintro en B ⟨rfl,D,m⟩;have K:(e.upd i fun o=>{ o with bg:=0 }).all[i]? =some { x with bg:=0 }:=bf.upd_same e i _ x hx;have J:=D.oa K hs;have Y:i∉(S.off e.all x).ended:=by rw[jk.off_ended];exact hH.live hx hs
  obtain⟨d,n⟩:=D.wr (i:=i) K hs Y 3 (iV p) (fun o=>{ o with bn:=p }) rfl (by simp[Ord.code]);rw[bf.aV]at d;have V:dw F base (B.setCell (iA (g.blk i) 3) (iV p)) b (e.upd i fun o=>{ o with bn:=p,bg:=0 }) g (S.off e.all x):=d;have L:(e.upd i fun o=>{ o with bn:=p,bg:=0 }).all[i]? =some { x with bn:=p,bg:=0 }:=bf.upd_same e i _ x hx;have hHo:=hHo C;refine⟨rfl,J.cell 3,J.dz 3,?_⟩;have N:Room 2001 (e.upd i fun o=>{ o with bn:=p,bg:=0 }):=⟨hro.seq,hro.qC,hro.out,by rw[bf.kz];exact hro.len,hro.fD⟩;refine(zCv V (inv2 C) hHo L hs rfl N ⟨hsu.v0,hsu.v1,hsu.w0,hsu.w1⟩ ⟨hd.len,hd.bd⟩).mono ?_;rintro en w' ⟨rfl,q⟩;obtain⟨t,l,y,z,r3⟩:=q.out;have M:anew e i x p=(e.upd i fun o=>{ o with bn:=p,bg:=0 }).zy i:=if_pos C;rw[M];exact⟨rfl,t,l,y,z,(m.trans n).trans r3⟩
 clear h hH hpr63 hth hHl hHo hx hs hp0 inv2 hro hsu hd I hid63 hopn hb hp;go_enter func136,ntmps136;go_wp2_with fail;refine G.mono ?_;rintro en B ⟨rfl,c3,f3,U⟩;clear G f;go_wp2_with fail;refine U.mono ?_;rintro en T ⟨rfl,H⟩;go_wp2;go_end0;exact⟨rfl,H⟩
end
section
variable {F:Nat→Prop} {base:Nat} {w:World} {b i:Nat} {e:bf} {g:Gh} {S:jk} {o:Ord} {v:Nat→Int}
def Chg(F:Nat→Prop)(base:Nat)(w:World)(b:Nat)(g:Gh)(v:Nat→Int)(e':bf)(S':jk)(wr:World):Prop:= ∃t,dw (fun k=>F k∧k≠w.heap.size) base wr b e' { g with txt:=t } S'∧TA wr w.heap.size v∧Touch (fun k=>F k∧k≠w.heap.size) (w.alloc (.cells (lu v) 79)) wr
theorem Chg.same(h:Chg F base w b g v e' S' w1)(hs:Same w1 w2):Chg F base w b g v e' S' w2:=by
 obtain⟨t,A,B,C⟩:=h;exact⟨t,A.same hs,B.same hs,C.trans hs.touch⟩
theorem Chg.below(h:Chg F base w b g v e' S' w1)(hs:Below w1.heap.size w1 w2):Chg F base w b g v e' S' w2:=by
 obtain⟨t,A,B,C⟩:=h;exact⟨t,A.below hs,B.below hs,C.trans (zk A.up hs)⟩
theorem TA.touch{G:Nat→Prop}{q:Nat}(h:TA w1 q v)(hT:Touch G w1 w2)(hq:¬G q):TA w2 q v:=by
 obtain⟨t,f,A⟩:=h.blk;exact⟨t,f,(hT.block q h.lt hq).trans A⟩
theorem Chg.done(h:Chg F base w b g v e S' w1)(hup:∀k,w.heap.size≤k→F k)(t:Value)(h2:qj (fun k=>F k∧k≠w.heap.size) base w1 b { g with txt:=t } e' w2):qj F base w b g e' w2:=by
 obtain⟨J,H,I,B⟩:=h;obtain⟨G,A,C,D,E⟩:=h2;exact⟨G,A,C.qD,D,((Touch.refl F w).alloc _).trans (B.trans E).wide⟩
theorem zP7:bR e.mp o.typ (v 3)=(if o.typ=3 then v 3 == 0 else bf.rf (v 3) 1 e.mp):=rfl
theorem left_eq(inv:bf.fe e)(hpg:bf.qd e)(ho:e.all[i]? =some o)(hs:o.dm=1)(hk:bf.zf o v=true)(h6:bf.rf (v 4) (o.bu+1) e.mq=true):(bf.jd o (v 4)).left=if v 4 - o.bu<o.bg then v 4 - o.bu else o.bg:=by
 have k:=inv.ok i o ho;have E:=k.sum;have I:=k.live hs;have J:=k.kH;have K:=k.kJ;rw[bf.dH]at h6;unfold bf.zf at hk;simp only[Bool.and_eq_true,decide_eq_true_eq]at hk;unfold Ord.left;show(if o.typ=2 then(if v 4 - o.bu<o.bg then v 4 - o.bu else o.bg) else if(bf.jd o (v 4)).eU=true then v 4 - o.bu else o.bg)=_;by_cases B:o.typ=2
 ·rw[if_pos B]
 rw[if_neg B];have D:(bf.jd o (v 4)).eU=decide (0<o.bg):=by
  unfold Ord.eU;show(if o.typ=3 then !(o.bn == 0) else decide (0<o.bg))=_;by_cases C:o.typ=3
  ·rw[if_pos C];by_cases A:o.bn=0
   ·have:¬0<o.bg:=fun hc=>by have:=k.shp hc;omega
    simp[A,this]
   have:=(hpg i o ho hs C).2 A;simp[A,this]
  rw[if_neg C]
 rw[D];rcases k.whole B with G|G
 ·rw[G];simp;omega
 by_cases H:0<o.bg
 ·simp only[H,decide_true,if_true];split<;>omega
 simp[H];omega
theorem zJ7(h:dw F base w b e g S)(inv:bf.fe e)(hH:Holds e S [] [])(hpg:bf.qd e)(hvb:∀j,0≤v j+2147483648∧v j≤4294967296)(hro:Room 2100 e)(hsu:jR 1000 e)(hd:Dr e):
 Cl 97 #[iP b,mh v] w fun en w'=>en=rV #[]∧Hd (qj F base w b g (e.replace v) w'):=by
 have Y:∀j,aD (v j):=fun j=>⟨by have:=(hvb j).1;omega,by have:=(hvb j).2;omega⟩
 have Az:w.heap.size<(w.alloc (.cells (lu v) 79)).heap.size:=by simp
 have d:Hd (Chg F base w b g v e S (w.alloc (.cells (lu v) 79))):=⟨g.txt,h.shrink ((Below.refl w.heap.size w).alloc (Nat.le_refl _) _) (Nat.le_refl _) Az,TA.new w v _,Touch.refl _ _⟩;have n:Hd (∀W,Chg F base w b g v e S W→Cl 129 #[.pointer (some (iA b 8)),iV (v 0)] W fun en B=>en=rV #[aG g (e.tu (v 0)),.bool (e.tu (v 0)).isSome]∧cI B w.heap.size 0 (v 0)∧Hd (Chg F base w b g v e S B)):=by
  intro W E;obtain⟨t,G,T,c⟩:=E;refine(zA4 (v 0) (Y 0) G inv hH).mono ?_;rintro en B ⟨rfl,J⟩;exact⟨rfl,(T.same J).cell 0,t,G.same J,T.same J,c.trans J.touch⟩
 have z:Hd (∀A,0≤A∧A≤255→e.replace v=e.ny (v 0) A→∀W,Chg F base w b g v e S W→Cl 56 #[iP b,iV (v 0),iV A] W fun en w'=>en=rV #[]∧Hd (qj F base w b g (e.replace v) w')):=by
  intro A hr he W E;have L:=E;obtain⟨t,G,T,c⟩:=E;refine(rG (v 0) A G hH (hro.mono (by omega)) (Y 0) ⟨by omega,by omega⟩).mono ?_;rintro en w' ⟨rfl,hz⟩;rw[he];exact⟨rfl,L.done h.up t hz.out⟩
 have s:=bf.aX e v;rcases hL:e.tu (v 0) with _|i
 ·have he:e.replace v=e.ny (v 0) 3:=by rw[s,hL]
  have HG:=hid (z 3 ⟨by omega,by omega⟩ he);rw[hL]at n;have t0:(w.alloc (.cells (lu v) 79)).cell? (iA w.heap.size 0)=sI (v 0):=(TA.new w v _).cell 0;unfold mh;unfold lu at d t0;go_enter func97,ntmps97;go_wp2_with fail;generalize w.alloc (.cells #[iV (v 0),iV (v 1),iV (v 2),iV (v 3),iV (v 4),iV (v 5),iV (v 6),iV (v 7),iV (v 8)] 79)=W at *;go_region_held3(fun X=>X.cell? (iA w.heap.size 0)=sI (v 0)) (first|exact t0|exact A4) ((go_at_call 129;refine(n _ (d.same (Same.refl _).drew)).mono ?_;rintro en B ⟨rfl,A4,l⟩));have U:=hid (HG B l);try simp only[Option.isSome_none]
  go_wp2_with fail;refine U.mono ?_;rintro en N ⟨rfl,p⟩;go_wp2
  (try simp only[Exit.inBlock,Exit.then])
  refine bodyPost_ret (results_none rfl _ _ _) rfl ?_;exact⟨rfl,p⟩
 obtain⟨o,C,B6,J⟩:=bf.bE hL;have k:=inv.ok i o C;have q:e.replace v=if bR e.mp o.typ (v 3)=false then e.ny (v 0) 5 else if bf.rf (v 4) (o.bu+1) e.mq=false then e.ny (v 0) 6 else e.aR i o v:=by
  rw[s,hL];simp only[C];rfl
 have B1:0≤o.bu∧o.bu≤1000:=by have:=k.sum;have:=k.fJ;have:=k.jN;have:=k.fH;have:=k.dN;omega
 have An:Hd (∀W,Chg F base w b g v e S W→Cl 132 #[iP b,iP (g.blk i),mh v] W fun en B=>en=.returned (iV (chR e o v))∧Hd (Chg F base w b g v e S B)):=by
  intro W E;have L:=E;obtain⟨t,G,T,c⟩:=E;refine(zJ4 (i:=i) G (G.oa C J) B1).mono ?_;rintro en B ⟨rfl,hb⟩;exact⟨rfl,L.below hb⟩
 have Ap:Hd (∀W,Chg F base w b g v e S W→Cl 133 #[iP (g.blk i),mh v] W fun en B=>en=.returned (.bool (bf.zf o v))∧cI B (g.blk i) 4 o.mg∧B.frozen? (iA (g.blk i) 4)=false∧TA B w.heap.size v∧Hd (Chg F base w b g v e S B)):=by
  intro W E;have L:=E;obtain⟨t,G,T,c⟩:=E;refine(xL v (G.oa C J)).mono ?_;rintro en B ⟨rfl,hb⟩;have Aj:=G.below hb;exact⟨rfl,(Aj.oa C J).cell 4,(Aj.oa C J).dz 4,T.below hb,L.below hb⟩
 have M:(e.upd i fun _=>bf.jd o (v 4)).all[i]? =some (bf.jd o (v 4)):=bf.upd_same e i _ o C;have Aa:Holds (e.upd i fun _=>bf.jd o (v 4)) S [] []:=hH.upd (f:=fun _=>bf.jd o (v 4)) (odd':=[]) C rfl rfl rfl (fun _ _=>Iff.rfl) (.inr ⟨by simp,Iff.rfl⟩);have A9:Hd (∀W A,aD A→Chg F base w b g v e S W→Cl 134 #[iP b,mh v,iV A] (W.setCell (iA (g.blk i) 4) (iV (v 4))) fun en B=>en=rV #[]∧TA B w.heap.size v∧Hd (Chg F base w b g v ((e.upd i fun _=>bf.jd o (v 4)).tell 5 (v 0) 0 (v 3) (v 4) A) S B)):=by
  intro W A hr E;obtain⟨t,G,T,c⟩:=E;obtain⟨r1,r2⟩:=G.wr (i:=i) C J (hH.live C J) 4 (iV (v 4)) (fun _=>bf.jd o (v 4)) rfl (by simp[Ord.code,bf.jd]);have Z:Room 1 (e.upd i fun _=>bf.jd o (v 4)):=⟨by have:=hro.seq;show e.seq+_≤_;omega,by have:=hro.qC;show e.dh+_≤_;omega,by have:=hro.out;show e.out.length+_≤_;omega,by rw[bf.kz];exact hro.len,by have:=hro.fD;show e.drawn+_≤_;omega⟩;refine(zJ5 A hr r1 Z Y).mono ?_;rintro en B ⟨rfl,hz⟩;obtain⟨t2,p1,p2⟩:=hz.out;have Ak:TA B w.heap.size v:=(T.touch r2 (fun V=>V.2 rfl)).touch p2 (fun V=>V.2 rfl);exact⟨rfl,Ak,t2,p1,Ak,(c.trans r2).trans p2⟩
 have As:Hd (bf.zf o v=true→bf.rf (v 4) (o.bu+1) e.mq=true→bR e.mp o.typ (v 3)=true→∀W,Chg F base w b g v ((e.upd i fun _=>bf.jd o (v 4)).tell 5 (v 0) 0 (v 3) (v 4) 1) S W→Cl 135 #[iP (g.blk i)] W fun en w'=>en=rV #[]∧Hd (qj F base w b g (e.replace v) w')):=by
  intro hk R K W E;obtain⟨t,G,T,c⟩:=E;have Ae:=left_eq inv hpg C J hk R;rw[bf.dH]at R;have B2:=inv.mq1;refine(nX (G.oa (i:=i) M J) (rz (by show 0≤v 4 - o.bu;omega) (by show v 4 - o.bu≤_;omega))).mono ?_;rintro en w' ⟨rfl,W1,s1,A1⟩;have hE:e.replace v=(e.jh i o v).upd i fun x=>{ x with bg:=if x.opn<x.bg then x.opn else x.bg }:=by
   rw[q,if_neg (by simp[K]),if_neg (by rw[bf.fP];exact R)];unfold bf.aR;rw[if_pos hk]
  have hT:e.jh i o v=(e.upd i fun _=>bf.jd o (v 4)).tell 5 (v 0) 0 (v 3) (v 4) 1:=by unfold bf.jh;rw[if_pos hk]
  have Ab:Holds ((e.upd i fun _=>bf.jd o (v 4)).tell 5 (v 0) 0 (v 3) (v 4) 1) S [] []:=Aa.vz rfl;have Ah:((e.upd i fun _=>bf.jd o (v 4)).tell 5 (v 0) 0 (v 3) (v 4) 1).upd i (fun x=>{ x with bg:=if x.opn<x.bg then x.opn else x.bg })=((e.upd i fun _=>bf.jd o (v 4)).tell 5 (v 0) 0 (v 3) (v 4) 1).upd i (fun x=>{ x with bg:=(bf.jd o (v 4)).left }):=bf.nk _ i _ _ (fun x hx=>by
   obtain rfl:bf.jd o (v 4)=x:=Option.some.inj (M.symm.trans hx);rw[Ae];rfl)
  have k0:=k.kH;have Af:((bf.jd o (v 4)).left=0↔o.bg=0):=by rw[Ae];split<;>omega
  have Au:Holds (((e.upd i fun _=>bf.jd o (v 4)).tell 5 (v 0) 0 (v 3) (v 4) 1).upd i (fun x=>{ x with bg:=(bf.jd o (v 4)).left })) S [] []:=Ab.upd (f:=fun x=>{ x with bg:=(bf.jd o (v 4)).left }) (odd':=[]) M rfl rfl rfl (fun _ _=>Iff.rfl) (.inr ⟨by simp,Af⟩);rw[hE,hT,Ah];rcases A1 with rfl|⟨A3,rfl⟩
  ·obtain⟨r1,r2⟩:=(G.same s1).wr (i:=i) M J (hH.live C J) 11 (iV (bf.jd o (v 4)).left) (fun x=>{ x with bg:=(bf.jd o (v 4)).left }) rfl (by simp[Ord.code]);exact⟨rfl,t,S,r1.qD,Au,((Touch.refl F w).alloc _).trans ((c.trans s1.touch).trans r2).wide⟩
  have Ad:((e.upd i fun _=>bf.jd o (v 4)).tell 5 (v 0) 0 (v 3) (v 4) 1).upd i (fun x=>{ x with bg:=(bf.jd o (v 4)).left })=(e.upd i fun _=>bf.jd o (v 4)).tell 5 (v 0) 0 (v 3) (v 4) 1:=bf.upd_self (fun x hx=>by
   obtain rfl:bf.jd o (v 4)=x:=Option.some.inj (M.symm.trans hx);rw[A3])
  rw[Ad];exact⟨rfl,t,S,(G.same s1).qD,Ab,((Touch.refl F w).alloc _).trans (c.trans s1.touch).wide⟩
 have Aq:Hd (bf.zf o v=false→bf.rf (v 4) (o.bu+1) e.mq=true→bR e.mp o.typ (v 3)=true→∀W,Chg F base w b g v ((e.upd i fun _=>bf.jd o (v 4)).tell 5 (v 0) 0 (v 3) (v 4) 0) S W→Cl 136 #[iP b,iP (g.blk i),iV (v 3)] W fun en w'=>en=rV #[]∧Hd (qj F base w b g (e.replace v) w')):=by
  intro hk R K W E;have L:=E;obtain⟨t,G,T,c⟩:=E;have hT:e.jh i o v=(e.upd i fun _=>bf.jd o (v 4)).tell 5 (v 0) 0 (v 3) (v 4) 0:=by unfold bf.jh;rw[if_neg (by simp[hk])]
  have hE:e.replace v=anew ((e.upd i fun _=>bf.jd o (v 4)).tell 5 (v 0) 0 (v 3) (v 4) 0) i (bf.jd o (v 4)) (v 3):=by
   rw[q,if_neg (by simp[K]),if_neg (by simp[R])];unfold bf.aR anew;rw[if_neg (by simp[hk]),hT];rfl
  have At:=R;rw[bf.dH]at R;have B2:=inv.mq1;have B3:0≤v 3∧v 3≤1000000:=by
   unfold bR at K;by_cases ht:o.typ=3
   ·rw[if_pos ht]at K;have:v 3=0:=by simpa using K
    omega
   rw[if_neg ht,bf.dH]at K;have:=inv.oN;omega
  have Ai:(bf.jd o (v 4)).typ≠3→bf.fe (((e.upd i fun _=>bf.jd o (v 4)).tell 5 (v 0) 0 (v 3) (v 4) 0).upd i fun o=>{ o with bn:=v 3,bg:=0 }):=by
   rw[←hT];exact fun ht=>bf.kL inv C J v ht K At
  have Ax:S.off ((e.upd i fun _=>bf.jd o (v 4)).tell 5 (v 0) 0 (v 3) (v 4) 0).all (bf.jd o (v 4))=S.off e.all o:=by
   unfold jk.off;show(if o.side=1 then _ else _)=(if o.side=1 then _ else _);show(if o.side=1 then{ S with aP:=less (e.upd i fun _=>bf.jd o (v 4)).all S.aP o.id } else{ S with sel:=less (e.upd i fun _=>bf.jd o (v 4)).all S.sel o.id })=_;rw[eP e i (fun _=>bf.jd o (v 4)) (fun x hx=>by obtain rfl:o=x:=Option.some.inj (C.symm.trans hx);rfl),eP e i (fun _=>bf.jd o (v 4)) (fun x hx=>by obtain rfl:o=x:=Option.some.inj (C.symm.trans hx);rfl)]
  have Ay:S.lay ((e.upd i fun _=>bf.jd o (v 4)).tell 5 (v 0) 0 (v 3) (v 4) 0).all (bf.jd o (v 4)) i=S.lay e.all o i:=by
   unfold jk.lay;show(if o.side=1 then{ S with aP:=less (e.upd i fun _=>bf.jd o (v 4)).all S.aP o.id++ [i] } else{ S with sel:=less (e.upd i fun _=>bf.jd o (v 4)).all S.sel o.id++ [i] })=_;rw[eP e i (fun _=>bf.jd o (v 4)) (fun x hx=>by obtain rfl:o=x:=Option.some.inj (C.symm.trans hx);rfl),eP e i (fun _=>bf.jd o (v 4)) (fun x hx=>by obtain rfl:o=x:=Option.some.inj (C.symm.trans hx);rfl)]
  have Aw:Holds (((e.upd i fun _=>bf.jd o (v 4)).tell 5 (v 0) 0 (v 3) (v 4) 0).upd i fun o=>{ o with bn:=v 3,bg:=0 }) (S.off ((e.upd i fun _=>bf.jd o (v 4)).tell 5 (v 0) 0 (v 3) (v 4) 0).all (bf.jd o (v 4))) [] []:=by
   rw[Ax];refine(Holds.off (f:=fun _=>{ bf.jd o (v 4) with bn:=v 3,bg:=0 }) hH inv C rfl rfl rfl (fun j hj=>by cases hj) rfl).vz ?_;show((e.upd i fun _=>bf.jd o (v 4)).upd i fun o=>{ o with bn:=v 3,bg:=0 }).all=_;rw[bf.aV]
  have Av:Holds (((e.upd i fun _=>bf.jd o (v 4)).tell 5 (v 0) 0 (v 3) (v 4) 0).lay i (bf.jd o (v 4)).opn) (S.lay ((e.upd i fun _=>bf.jd o (v 4)).tell 5 (v 0) 0 (v 3) (v 4) 0).all (bf.jd o (v 4)) i) [] []:=by
   rw[Ay];refine(Holds.lay (f:=fun _=>{ bf.jd o (v 4) with dh:=(e.dh+1:Nat),bg:=v 4 - o.bu }) hH inv C rfl rfl rfl (fun j hj=>by cases hj) (show¬v 4 - o.bu=0 by omega)).vz ?_;unfold bf.lay;have Ac:((e.upd i fun _=>bf.jd o (v 4)).tell 5 (v 0) 0 (v 3) (v 4) 0).all[i]? =some (bf.jd o (v 4)):=M;rw[Ac];show((e.upd i fun _=>bf.jd o (v 4)).upd i fun x=>{ x with dh:=(e.dh+1:Nat),bg:=v 4 - o.bu }).all=_;rw[bf.aV]
  have B4:(bf.jd o (v 4)).typ=3→(bf.jd o (v 4)).eU=decide (0<(bf.jd o (v 4)).bg):=by
   intro ht;have Ag:o.typ=3:=ht;unfold Ord.eU;show(if o.typ=3 then !(o.bn == 0) else decide (0<o.bg))=decide (0<o.bg);rw[if_pos Ag];by_cases A2:o.bn=0
   ·have:¬0<o.bg:=fun V=>by have:=k.shp V;omega
    simp[A2,this]
   have:=(hpg i o C J Ag).2 A2;simp[A2,this]
  have Z:Room 2001 ((e.upd i fun _=>bf.jd o (v 4)).tell 5 (v 0) 0 (v 3) (v 4) 0):=by
   have hg:=bf.jv.tell (e.upd i fun _=>bf.jd o (v 4)) 5 (v 0) 0 (v 3) (v 4) 0;have a1:=hro.seq;have a2:=hro.qC;have a3:=hro.out;have a4:=hro.fD;have a5:=hro.len;have b1:=hg.seq1;have b2:=hg.tL;have b3:=hg.out;have b4:=hg.drw1;have c1:(e.upd i fun _=>bf.jd o (v 4)).seq=e.seq:=rfl;have c2:(e.upd i fun _=>bf.jd o (v 4)).dh=e.dh:=rfl;have c3:(e.upd i fun _=>bf.jd o (v 4)).out=e.out:=rfl;have c4:(e.upd i fun _=>bf.jd o (v 4)).drawn=e.drawn:=rfl;have c5:((e.upd i fun _=>bf.jd o (v 4)).tell 5 (v 0) 0 (v 3) (v 4) 0).all.length=e.all.length:=bf.kz _ _ _;rw[c1]at b1 b3;rw[c2]at b2;rw[c3]at b3;rw[c4]at b4;exact⟨by omega,by omega,by omega,by omega,by omega⟩
  refine(zJ6 (i:=i) (x:=bf.jd o (v 4)) (v 3) B3 G (Aa.vz rfl) (rz (by have:=k.nC;show 0≤o.id;omega) (by have:=k.nD;show o.id≤_;omega)) rfl (by show v 4 - o.bu≤1000;omega) (rz k.lM (by have:=k.gY;have:=inv.oN;show o.bn≤_;omega)) B4 (fun _=>Av) (fun _=>Aw) M J (by show 0<v 4 - o.bu;omega) Ai Z ⟨hsu.v0,hsu.v1,hsu.w0,hsu.w1⟩ ⟨hd.len,hd.bd⟩).mono ?_;rintro en w' ⟨rfl,hz⟩;rw[hE];exact⟨rfl,L.done h.up t hz.out⟩
 have A6:Hd (bR e.mp o.typ (v 3)=false→e.replace v=e.ny (v 0) 5∧chR e o v=5):=fun K=>⟨by rw[q,if_pos K],if_pos K⟩
 have A7:Hd (bR e.mp o.typ (v 3)=true→bf.rf (v 4) (o.bu+1) e.mq=false→e.replace v=e.ny (v 0) 6∧chR e o v=6):=fun K R=>⟨by rw[q,if_neg (by simp[K]),if_pos R],(if_neg (by simp[K])).trans (if_pos R)⟩
 have Ar:Hd (bR e.mp o.typ (v 3)=true→bf.rf (v 4) (o.bu+1) e.mq=true→chR e o v=0):=fun K R=>(if_neg (by simp[K])).trans (if_neg (by simp[R]))
 have t0:(w.alloc (.cells (lu v) 79)).cell? (iA w.heap.size 0)=sI (v 0):=(TA.new w v _).cell 0;have A8:Hd (∀W,Chg F base w b g v e S W→TA W w.heap.size v):=fun W E=>by obtain⟨t,G,T,c⟩:=E;exact T
 have Am:Hd (g.blk i≠w.heap.size):=by have:=h.old i (List.getElem?_eq_some_iff.1 C).1;exact Nat.ne_of_lt this
 rw[hL]at n;unfold mh at *;unfold lu at d t0;go_enter func97,ntmps97;go_wp2_with fail;generalize w.alloc (.cells #[iV (v 0),iV (v 1),iV (v 2),iV (v 3),iV (v 4),iV (v 5),iV (v 6),iV (v 7),iV (v 8)] 79)=W at *;go_region_held3(fun X=>X.cell? (iA w.heap.size 0)=sI (v 0)) (first|exact t0|exact A4) ((go_at_call 129;refine(n _ (d.same (Same.refl _).drew)).mono ?_;rintro en B ⟨rfl,A4,l⟩));unfold aG nR;try simp only[Option.isSome_some,Option.map_some]
 have H:=A8 B l;have s0:cI B w.heap.size 0 (v 0):=H.cell 0;have s1:cI B w.heap.size 1 (v 1):=H.cell 1;have s2:cI B w.heap.size 2 (v 2):=H.cell 2;have s3:cI B w.heap.size 3 (v 3):=H.cell 3;have s4:cI B w.heap.size 4 (v 4):=H.cell 4;have s5:cI B w.heap.size 5 (v 5):=H.cell 5;have s6:cI B w.heap.size 6 (v 6):=H.cell 6;have s7:cI B w.heap.size 7 (v 7):=H.cell 7;have s8:cI B w.heap.size 8 (v 8):=H.cell 8;go_wp2_with fail;refine(An B l).mono ?_;rintro en N ⟨rfl,m⟩;have I:=A8 N m;have s0:cI N w.heap.size 0 (v 0):=I.cell 0;have s1:cI N w.heap.size 1 (v 1):=I.cell 1;have s2:cI N w.heap.size 2 (v 2):=I.cell 2;have s3:cI N w.heap.size 3 (v 3):=I.cell 3;have s4:cI N w.heap.size 4 (v 4):=I.cell 4;have s5:cI N w.heap.size 5 (v 5):=I.cell 5;have s6:cI N w.heap.size 6 (v 6):=I.cell 6;have s7:cI N w.heap.size 7 (v 7):=I.cell 7;have s8:cI N w.heap.size 8 (v 8):=I.cell 8;cases q5:bR e.mp o.typ (v 3)
 ·have V:=(A6 q5).2;have U:=hid (z 5 ⟨by omega,by omega⟩ (A6 q5).1 N m);rw[V];go_wp2_with fail;refine U.mono ?_;rintro en O ⟨rfl,p⟩;go_wp2
  (try simp only[Exit.inBlock,Exit.then])
  refine bodyPost_ret (results_none rfl _ _ _) rfl ?_;exact⟨rfl,p⟩
 cases q6:bf.rf (v 4) (o.bu+1) e.mq
 ·have V:=(A7 q5 q6).2;have U:=hid (z 6 ⟨by omega,by omega⟩ (A7 q5 q6).1 N m);rw[V];go_wp2_with fail;refine U.mono ?_;rintro en O ⟨rfl,p⟩;go_wp2
  (try simp only[Exit.inBlock,Exit.then])
  refine bodyPost_ret (results_none rfl _ _ _) rfl ?_;exact⟨rfl,p⟩
 have V:=Ar q5 q6;rw[V];have Ao:=hid (Ap N m);go_wp2_with fail;refine Ao.mono ?_;rintro en O ⟨rfl,k4,B8,D,A5⟩;have B7:=hid D;have B0:=Am;have B5:=B0.symm;have s0:cI O w.heap.size 0 (v 0):=D.cell 0;have s1:cI O w.heap.size 1 (v 1):=D.cell 1;have s2:cI O w.heap.size 2 (v 2):=D.cell 2;have s3:cI O w.heap.size 3 (v 3):=D.cell 3;have s4:cI O w.heap.size 4 (v 4):=D.cell 4;have s5:cI O w.heap.size 5 (v 5):=D.cell 5;have s6:cI O w.heap.size 6 (v 6):=D.cell 6;have s7:cI O w.heap.size 7 (v 7):=D.cell 7;have s8:cI O w.heap.size 8 (v 8):=D.cell 8;cases qk:bf.zf o v
 ·have HP:=hid (Aq qk q6 q5);have A0:=hid (A9 O 0 ⟨by omega,by omega⟩ A5);go_wp2_with fail;refine A0.mono ?_;rintro en w4 ⟨rfl,Al,u⟩;have s3:cI w4 w.heap.size 3 (v 3):=Al.cell 3;have y:=hid (HP w4 u);go_wp2_with fail;refine y.mono ?_;rintro en w5 ⟨rfl,p⟩;go_wp2;go_end0;exact⟨rfl,p⟩
 have HP:=hid (As qk q6 q5);have A0:=hid (A9 O 1 ⟨by omega,by omega⟩ A5);go_wp2_with fail;refine A0.mono ?_;rintro en w4 ⟨rfl,Al,u⟩;have y:=hid (HP w4 u);go_wp2_with fail;refine y.mono ?_;rintro en w5 ⟨rfl,p⟩;go_wp2
 (try simp only[Exit.inBlock,Exit.then])
 refine bodyPost_ret (results_none rfl _ _ _) rfl ?_;exact⟨rfl,p⟩
end
end Go.Proofs.YtehmdohpmpbnnaaGreatDoor
