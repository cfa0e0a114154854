import Derived.Test.YtehmdohpmpbnnaaGreatDoorQ00
import Derived.Test.YtehmdohpmpbnnaaGreatDoorQ10
import Derived.Test.YtehmdohpmpbnnaaGreatDoorQ35
import Derived.Test.YtehmdohpmpbnnaaGreatDoorQ38
import Derived.Test.YtehmdohpmpbnnaaGreatDoorQ39
import Derived.Test.YtehmdohpmpbnnaaGreatDoorQ40
import Derived.Test.YtehmdohpmpbnnaaGreatDoorQ41
import Derived.Deep.AppendLies
import Derived.Deep.RegionHeld3
set_option linter.all false
set_option maxRecDepth 100000
set_option maxHeartbeats 8000000
namespace Go.Proofs.YtehmdohpmpbnnaaGreatDoor
variable{w w0:World}{base m:Nat}{v:Value}
open Go.Proofs.Tryz
section
open Go.Extern Go.RowKit
abbrev nineC(v:Nat→Int):Array Value:=#[iV (v 0),iV (v 1),iV (v 2),iV (v 3),iV (v 4),iV (v 5),iV (v 6),iV (v 7),iV (v 8)]
abbrev tenC(k:Int)(v:Nat→Int):Array Value:=#[iV k,iV (v 0),iV (v 1),iV (v 2),iV (v 3),iV (v 4),iV (v 5),iV (v 6),iV (v 7),iV (v 8)]
theorem zLr{n:Nat}{ws:List ByteArray}{left:Int}(h:St w0 w n ws left)(hn:n≤100000000)(hl:0<left)(ad:Nat→Addr)(st:Nat→ByteArray)(hE:lq w ad st)(hW:qx w)(a b d:Int)(s:ByteArray)(v:Nat→Int)(ha:dK a):
 Cl 20 #[iP w0.heap.size,qJ 9 a b d s v] w fun e w'=>e=rB true∧Next w0 w' n:=by
 have l:=h.sum;have A0:=ql ws a;have g:Hd (St w0 (w.alloc (.cells (opC 9 a b d s v) 29)) n ws left):=h.below (gu _);have t:Hd (lq (w.alloc (.cells (opC 9 a b d s v) 29)) ad st):=hE.below (gu _);have x:Hd (qx (w.alloc (.cells (opC 9 a b d s v) 29))):=hW.below (gu _);go_enter func20,ntmps20;go_wp2_with fail;refine(g.word a (by omega) ha.1 ha.2).mono ?_;rintro e w1 ⟨rfl,m,rfl⟩;generalize hta:dU ws a=ta at *;have R:Hd (St w0 ((w.alloc (.cells (opC 9 a b d s v) 29)).drewN m) n ws left):=g.drewN m;have N:Hd (lq ((w.alloc (.cells (opC 9 a b d s v) 29)).drewN m) ad st):=t.below ⟨rfl,rfl,rfl,Nat.le_refl _,fun _ _=>rfl⟩;have U:Hd (qx ((w.alloc (.cells (opC 9 a b d s v) 29)).drewN m)):=x.below ⟨rfl,rfl,rfl,Nat.le_refl _,fun _ _=>rfl⟩;go_wp2_with fail;refine(zKu ad st ta _ N U (by omega)).mono ?_;rintro e H ⟨rfl,Z⟩;have S:Hd (St w0 H n ws left):=R.below Z;have J:=fun W=>zBu ta W (by omega)
 obtain⟨K,X⟩:∃K,qm ta=K:=⟨_,rfl⟩;obtain⟨V,Y⟩:∃V,ku ta=V:=⟨_,rfl⟩;obtain⟨L,F⟩:∃L,oG ta=L:=⟨_,rfl⟩;obtain⟨M,i⟩:∃M,tq ta=M:=⟨_,rfl⟩;obtain⟨E,B⟩:∃E,jy ta=E:=⟨_,rfl⟩;simp only[X,Y,i,B]at J;have O:Hd (∀W,Cl 37 #[.string ta] W fun e w'=>e=rV #[dD K V,iV M,iV E]∧Bw W w'):=J;have f:Hd ((E≠0→L=0∧K=0∧V=fun _=>0)∧(E=0→L=M)):=by
  refine⟨fun q=>⟨?_,?_,?_⟩,fun q=>?_⟩
  ·rw[←F,oG,B,if_neg q]
  ·rw[←X,qm,B,if_neg q]
  ·rw[←Y,ku,B,if_neg q]
  rw[←F,oG,B,if_pos q,i]
 rw[X,Y,F,B];go_wp2_with fail;refine(O _).mono ?_;rintro e I ⟨rfl,G⟩;have T:Hd (St w0 I n ws left):=(S.below (gu (.cells (nineC V) 27))).below G;have A:∀j u,(nineC V)[j]? =some u→I.cell? (iA H.heap.size j)=some u:=fun j u hj=>(G.cell (p:=(iA H.heap.size j)) (by simp)).trans (fw H _ _ j u hj)
 have c0:=A 0 _ rfl;have c1:=A 1 _ rfl;have c2:=A 2 _ rfl;have c3:=A 3 _ rfl;have c4:=A 4 _ rfl;have c5:=A 5 _ rfl;have c6:=A 6 _ rfl;have c7:=A 7 _ rfl;have c8:=A 8 _ rfl;have c:H.heap.size<I.heap.size:=by have:=G.size;simp at this;omega
 have k:∀o j,(I.alloc o).cell? (iA H.heap.size j)=I.cell? (iA H.heap.size j):=fun o j=>World.cell?_alloc_lt _ _ _ c
 have D:Hd (∀o,Next w0 (I.alloc o) n):=fun o=>(T.below (gu o)).next
 have y:=fun W=>eq9 V W
 have z:=Tryz.arrGuard;by_cases C:E=0
 ·obtain rfl:=f.o.2 C;subst C;go_wp2;go_ret;exact⟨rfl,D _⟩
 obtain⟨rfl,rfl,rfl⟩:=f.o.1 C;have hq:(E == 0)=false:=beq_eq_false_iff_ne.2 C;go_wp2;go_ret;exact⟨rfl,D _⟩
end
section
open Go.Extern Go.Maps Go.RowKit
section
variable {tag:Nat→Tag} {ps:List Duo} {w0 w:World} {n:Nat} {ws:List ByteArray} {left:Int}
theorem zLs(h:wu tag ps w0 w n ws left)(hall:∀p∈ps,p.all.size≤sizes ws)(hl:0<left){gd cap:Nat}(hc5:w.cell? (iA w0.heap.size 5)=some (sL gd ps.length cap)){i:Nat}{p:Duo}(hp:ps[i]? =some p)(a b d:Int)(s:ByteArray)(v:Nat→Int):
 Cl 22 #[iP w0.heap.size,.pointer (some (iA gd (i*3))),qJ 14 a b d s v] w fun e w'=>e=rB true∧Next w0 w' n∧(∀(k:Nat) (cur:Array Value),tag k=.own→w.heap[k]? =some (.cells cur 29 (0,0))→w'.heap[k]? =some (.cells cur 29 (0,0)))∧w'.cell? (iA w0.heap.size 5)=w.cell? (iA w0.heap.size 5):=by
 have M:Hd (∀W',Below (w.alloc (.cells (opC 14 a b d s v) 29)).heap.size (w.alloc (.cells (opC 14 a b d s v) 29)) W'→(∀(k:Nat) (cur:Array Value),tag k=.own→w.heap[k]? =some (.cells cur 29 (0,0))→W'.heap[k]? =some (.cells cur 29 (0,0)))∧W'.cell? (iA w0.heap.size 5)=w.cell? (iA w0.heap.size 5)):=fun W' hb=>by
  have B:=(gu (w:=w) (.cells (opC 14 a b d s v) 29)).trans (hb.mono (by simp));exact⟨fun k cur _ h9=>OpK.below B k cur h9,World.cell?_of_block (a:=(iA w0.heap.size 5)) (B.block _ h.lt)⟩
 have Z:=h.sum;have S:=hall p (List.mem_of_getElem? hp);have O:=h.below (gu (w:=w) (.cells (opC 14 a b d s v) 29));have H:=h.qG (gu (w:=w) (.cells (opC 14 a b d s v) 29)) hc5;have K:=O.duos i p hp;obtain⟨c0,c1,c2⟩:=(O.row H).2.2.2.2 i p hp;have C:=K.good;obtain⟨V,U⟩:=Int.eq_ofNat_of_zero_le C.v0;obtain⟨W,X⟩:=Int.eq_ofNat_of_zero_le (Int.le_trans C.v0 C.w0);have Y:p.e.seq≤100000:=by have:=C.told;omega
 have E:W<4611686018427387904:=by have:=C.w1;omega
 have B:V<4611686018427387904:=by have:=C.v1;omega
 have F:0<V→0<W:=by have:=C.w0;omega
 obtain⟨r,j,T,I⟩:=zK9 (e:=p.e.hush) U X E B F;have N:Hd (∀W',Same (w.alloc (.cells (opC 14 a b d s v) 29)) W'→Next w0 W' n∧W'.cell? (iA gd (i*3+1))=some (iP p.db)∧Hd (Cl 48 #[iP p.db] W' fun J w'=>J=.returned (iV (r:Int))∧w'=W')):=fun W' A=>by
  have G:Below (w.alloc (.cells (opC 14 a b d s v) 29)).heap.size (w.alloc (.cells (opC 14 a b d s v) 29)) W':=⟨A.os,A.tape,A.output,by rw[A.heap];exact Nat.le_refl _,fun k _=>by rw[A.heap]⟩;refine⟨St.next ⟨tag,ps,O.below G,hall⟩,?_,?_⟩
  ·rw[World.cell?_of_block (a:=(iA gd (i*3+1))) (w:=w.alloc (.cells (opC 14 a b d s v) 29)) (by rw[A.heap])];exact c1
  refine(zJi (K.doc.below G) V W U X E B F).mono ?_;rintro J w' ⟨rfl,rfl⟩;exact⟨by rw[T],rfl⟩
 have L:=hid (zK K.dsk K.code j I);go_enter func22,ntmps22;go_wp2_with fail;refine L.mono ?_;rintro J c ⟨rfl,A⟩;obtain⟨R,l,f⟩:=N c A;have D:=hid (M c ⟨A.os,A.tape,A.output,by rw[A.heap];exact Nat.le_refl _,fun k _=>by rw[A.heap]⟩);have g:=hid R;go_wp2_with fail;refine f.mono ?_;rintro J m ⟨rfl,rfl⟩;go_wp2;go_ret;exact⟨rfl,g,D⟩
end
end
section
open Go.Extern Go.RowKit
theorem jg.back{gr:Nat}(h:jg base w0 w v m gr):SR base w v m∧Below base w0 w:=⟨h.row,h.low⟩
theorem zDe{B:Nat}{w':World}(h:Below B w w'):Below B w w'.drew:=⟨h.os,h.tape,h.output,h.size,h.block⟩
def dY(base:Nat)(w0:World)(m:Nat)(e:Ending)(w':World):Prop:= ∃v' m' r,e=rV #[v',.bool r]∧m'≤m+1∧SR base w' v' m'∧Below base w0 w'
theorem SR.shape'(h:SR base w v m):∃p cap,v=.slice p m cap∧(m=0∨∃g,p=some (iA g 0)∧base≤g∧jm w g 155 (m*15)):=by
 rcases h.shape with⟨rfl,rfl⟩|⟨g,cap,rfl,A,B⟩
 ·exact⟨_,_,rfl,.inl rfl⟩
 exact⟨_,_,rfl,.inr ⟨g,rfl,A,B⟩⟩
theorem Tryz.infoStA:(prog.info? 155).map (fun i=>(i.size,i.bytes))=some (15,120):=by kernel_rfl
theorem Tryz.zeroStA:(prog.info? 155).map (fun i=>i.zero)=some (some (.agg #[iV 0,iV 0,iV 0,iV 0,iV 0,iV 0,iV 0,iV 0,iV 0,iV 0,iV 0,iV 0,iV 0,iV 0,iV 0])):=by kernel_rfl
theorem zLt(base:Nat)(w:World)(v:Value)(m gr:Nat)(h:jg base w w v m gr)(hb:base≤w.heap.size)(hm:m≤100000000):
 Cl 144 #[v,iP gr] w fun e w'=>dY base w m e w':=by
 obtain⟨i0,hi,A6,A7,A8⟩:=qh Tryz.infoStA Tryz.zeroStA;have G:Hd (prog.info? 155=some i0∧i0.zero=some (.agg #[iV 0,iV 0,iV 0,iV 0,iV 0,iV 0,iV 0,iV 0,iV 0,iV 0,iV 0,iV 0,iV 0,iV 0,iV 0])∧i0.size=15∧i0.bytes=120):=⟨hi,A6,A7,A8⟩;obtain⟨r2,Y⟩:=h.dA.cell 2 (by omega);obtain⟨r3,Z⟩:=h.dA.cell 3 (by omega);obtain⟨r4,b⟩:=h.dA.cell 4 (by omega);obtain⟨r5,c⟩:=h.dA.cell 5 (by omega);obtain⟨r6,d⟩:=h.dA.cell 6 (by omega);have A9:=h.dA.lt;have H:Hd (jg base w w v m gr):=h;obtain⟨p,E,rfl,hp⟩:=h.row.shape';go_enter func144,ntmps144;go_wp2;go_loopw [6] (fun i wr=> ∃k j:Nat,i=iV k∧k≤m∧wr=w.drewN j) (fun i _=>m - (intOf i).toNat)
 case atStart=>exact⟨0,0,rfl,Nat.zero_le _,rfl⟩
 case round=>
  obtain⟨k,j,rfl,hk,rfl⟩:=hrel;replace H:Hd (jg base w (w.drewN j) (.slice p m E) m gr):=H.drewN j;replace Y:(w.drewN j).cell? (iA gr 2)=sI r2:=Y;replace Z:(w.drewN j).cell? (iA gr 3)=sI r3:=Z;replace b:(w.drewN j).cell? (iA gr 4)=sI r4:=b;replace c:(w.drewN j).cell? (iA gr 5)=sI r5:=c;replace d:(w.drewN j).cell? (iA gr 6)=sI r6:=d;have Ad:(w.drewN j).heap.size=w.heap.size:=rfl;have HW:Hd (∃a,w.drewN j=w.drewN a):=⟨j,rfl⟩;have A5:m=0∨∃g,p=some (iA g 0)∧base≤g∧jm (w.drewN j) g 155 (m*15):=hp;generalize w.drewN j=W at *;by_cases Ac:k<m
  ·have Aa:(k:Int)<(m:Int):=by omega
   obtain⟨g,rfl,hg,A4⟩:=A5.resolve_left (by omega);obtain⟨x0,c0⟩:=A4.cell (k*15) (by omega);go_wp2_with fail;cases e0:(x0 == r2)
   ·go_quiet (fail);go_wp2;go_roundw
    case rel=>
     obtain⟨a,ha⟩:=HW;exact⟨k+1,a+nq,by go_num,by omega,by rw[ha,fB]⟩
    case measure=>simp[intOf];omega
   go_quiet (fail);go_wp2;go_ret2;exact⟨_,_,_,rfl,Nat.le_succ _,(H.drewN _).back⟩
  have Ab:¬(k:Int)<(m:Int):=by omega
  go_wp2_with fail;cases q1:(r2 == 0)
  case true=>
   go_quiet (fail);go_wp2;go_ret2;exact⟨_,_,_,rfl,Nat.le_succ _,(H.drewN _).back⟩
  by_cases q2:r3<1
  ·go_quiet (fail);go_wp2;go_ret2;exact⟨_,_,_,rfl,Nat.le_succ _,(H.drewN _).back⟩
  by_cases q3:2<r3
  ·go_quiet (fail);go_wp2;go_ret2;exact⟨_,_,_,rfl,Nat.le_succ _,(H.drewN _).back⟩
  by_cases q4:r6<1
  ·go_quiet (fail);go_wp2;go_ret2;exact⟨_,_,_,rfl,Nat.le_succ _,(H.drewN _).back⟩
  by_cases q5:3<r6
  ·go_quiet (fail);go_wp2;go_ret2;exact⟨_,_,_,rfl,Nat.le_succ _,(H.drewN _).back⟩
  cases q6:(r5 == 0)
  case true=>
   go_quiet (fail);go_wp2;go_ret2;exact⟨_,_,_,rfl,Nat.le_succ _,(H.drewN _).back⟩
  cases q7:(r6 == 3)
  ·cases q8:(r4 == 0)
   ·go_quiet (fail);go_wp2_with fail;replace H:Hd (jg base w (W.drewN nq) (.slice p m E) m gr):=H.drewN nq;have n:(W.drewN nq).cell? (iA gr 2)=sI r2:=Y;have s:(W.drewN nq).cell? (iA gr 3)=sI r3:=Z;have t:(W.drewN nq).cell? (iA gr 4)=sI r4:=b;have y:(W.drewN nq).cell? (iA gr 5)=sI r5:=c;have z:(W.drewN nq).cell? (iA gr 6)=sI r6:=d;have F:gr<(W.drewN nq).heap.size:=by show gr<W.heap.size;omega
    have A1:base≤(W.drewN nq).heap.size:=by show base≤W.heap.size;omega
    generalize W.drewN nq=W2 at *;obtain⟨V,M,R⟩:=H.o.row;have J:Hd (W2.ownsRow base 155 15 (.slice p m E) m V∧∀u∈V,∃x,u=iV x):=⟨M,R⟩;have N:some gr≠(Value.slice p m E).ownBlock:=fun e=>by
     obtain⟨A3,b1⟩:=cB M e.symm;obtain⟨A2,b2,_⟩:=H.o.dA;exact absurd (xu b1 b2) (by decide)
    have f:Hd (∀(j:Nat) (u:Value),[iV r2,iV r3,iV r6,iV r5,iV 0,iV 0,iV 0,iV 0,iV 1,iV r4,iV r5,iV 0,iV 0,iV 0,iV 0][j]? =some u→(W2.alloc (.cells #[iV r2,iV r3,iV r6,iV r5,iV 0,iV 0,iV 0,iV 0,iV 1,iV r4,iV r5,iV 0,iV 0,iV 0,iV 0] 155)).drew.cell? (Addr.add (iA W2.heap.size 0) j)=some u):=fun j u hj=>by
     rw[Addr.add_lit,Nat.zero_add];exact fw W2 #[iV r2,iV r3,iV r6,iV r5,iV 0,iV 0,iV 0,iV 0,iV 1,iV r4,iV r5,iV 0,iV 0,iV 0,iV 0] 155 j u (by simp;exact hj)
    have S:Hd (∀u∈([iV r2,iV r3,iV r6,iV r5,iV 0,iV 0,iV 0,iV 0,iV 1,iV r4,iV r5,iV 0,iV 0,iV 0,iV 0]:List Value),∃x,u=iV x):=fun u O=>by
     simp at O;rcases O with rfl|rfl|rfl|rfl|rfl|rfl|rfl|rfl|rfl<;>exact⟨_,rfl⟩
    have I:Hd (m+1≤maxLen∧(m+1)* 120≤140737488355328∧base≤(W2.alloc (.cells #[iV r2,iV r3,iV r6,iV r5,iV 0,iV 0,iV 0,iV 0,iV 1,iV r4,iV r5,iV 0,iV 0,iV 0,iV 0] 155)).drew.heap.size∧(W2.alloc (.cells #[iV r2,iV r3,iV r6,iV r5,iV 0,iV 0,iV 0,iV 0,iV 1,iV r4,iV r5,iV 0,iV 0,iV 0,iV 0] 155)).drew.heap.size=W2.heap.size+1):=⟨by unfold maxLen;omega,by omega,by show base≤(W2.alloc _).heap.size;simp;omega,by show(W2.alloc _).heap.size=_;simp⟩;have l:Hd ((W2.alloc (.cells #[iV r2,iV r3,iV r6,iV r5,iV 0,iV 0,iV 0,iV 0,iV 1,iV r4,iV r5,iV 0,iV 0,iV 0,iV 0] 155)).drew.ownsRow base 155 15 (.slice p m E) m V):=kG (World.ownsRow.alloc J.1 _)
    have T:Hd (∀(g C:Nat) (L:World),L.ownsRow base 155 15 (sL g (m+1) C) (m+1) (V++ [iV r2,iV r3,iV r6,iV r5,iV 0,iV 0,iV 0,iV 0,iV 1,iV r4,iV r5,iV 0,iV 0,iV 0,iV 0])→(W2.alloc (.cells #[iV r2,iV r3,iV r6,iV r5,iV 0,iV 0,iV 0,iV 0,iV 1,iV r4,iV r5,iV 0,iV 0,iV 0,iV 0] 155)).drew.grownBy L (Value.slice p m E).ownBlock→(∀j u,W2.cell? (iA gr j)=some u→L.cell? (iA gr j)=some u)∧jg base w L (sL g (m+1) C) (m+1) gr):=fun g C L D A=>⟨fun j u hj=>(A.cell_far (iA gr j) (by show gr<(W2.alloc _).heap.size;simp;omega) N).trans ((World.cell?_alloc_lt W2 _ (iA gr j) F).trans hj),⟨⟨_,D,fun u O=>by
     rcases List.mem_append.1 O with O|O
     ·exact J.2 u O
     exact S u O⟩,(H.dA.alloc _).of_block (A.block gr (by show gr<(W2.alloc _).heap.size;simp;omega) N),(zDe (H.low.alloc A1 _)).grown (B:=base) A I.2.2.1 (fun q hq=>(J.1.lt q hq).1)⟩⟩
    go_region_held3(fun X=>X.cell? (iA gr 2)=sI r2∧X.cell? (iA gr 3)=sI r3∧X.cell? (iA gr 4)=sI r4∧X.cell? (iA gr 5)=sI r5∧X.cell? (iA gr 6)=sI r6) (first
     |exact⟨n,s,t,y,z⟩
     |exact⟨(World.cell?_alloc_lt _ _ _ F).trans n,(World.cell?_alloc_lt _ _ _ F).trans s,(World.cell?_alloc_lt _ _ _ F).trans t,(World.cell?_alloc_lt _ _ _ F).trans y,(World.cell?_alloc_lt _ _ _ F).trans z⟩
     |exact⟨K 2 _ n,K 3 _ s,K 4 _ t,K 5 _ y,K 6 _ z⟩) ((
     refine step_append_lies _ (by rfl) _ _ 112 (by rfl) base 155 i0 _ 15 120 underlying112 G.1 G.2.1 G.2.2.1 G.2.2.2 rfl (by decide) (.slice p m E) m V (by rfl) l (iA W2.heap.size 0) 1 1 [iV r2,iV r3,iV r6,iV r5,iV 0,iV 0,iV 0,iV 0,iV 1,iV r4,iV r5,iV 0,iV 0,iV 0,iV 0] (by rfl) rfl f (pV S) (by decide) I.1 I.2.1 I.2.2.1 (W2.heap.size+1) I.2.2.2 ?_;intro g C L D A A0 U;have K:=(T g C L D A).1;have HX:Hd (jg base w L (sL g (m+1) C) (m+1) gr):=(T g C L D A).2;clear D A A0 U))
    go_wp2;go_ret2;exact⟨_,_,_,rfl,Nat.le_refl _,HX.back⟩
   go_quiet (fail);go_wp2;go_ret2;exact⟨_,_,_,rfl,Nat.le_succ _,(H.drewN _).back⟩
  cases q8:(r4 == 0)
  ·go_quiet (fail);go_wp2;go_ret2;exact⟨_,_,_,rfl,Nat.le_succ _,(H.drewN _).back⟩
  go_quiet (fail);go_wp2_with fail;replace H:Hd (jg base w (W.drewN nq) (.slice p m E) m gr):=H.drewN nq;have n:(W.drewN nq).cell? (iA gr 2)=sI r2:=Y;have s:(W.drewN nq).cell? (iA gr 3)=sI r3:=Z;have t:(W.drewN nq).cell? (iA gr 4)=sI r4:=b;have y:(W.drewN nq).cell? (iA gr 5)=sI r5:=c;have z:(W.drewN nq).cell? (iA gr 6)=sI r6:=d;have F:gr<(W.drewN nq).heap.size:=by show gr<W.heap.size;omega
  have A1:base≤(W.drewN nq).heap.size:=by show base≤W.heap.size;omega
  generalize W.drewN nq=W2 at *;obtain⟨V,M,R⟩:=H.o.row;have J:Hd (W2.ownsRow base 155 15 (.slice p m E) m V∧∀u∈V,∃x,u=iV x):=⟨M,R⟩;have N:some gr≠(Value.slice p m E).ownBlock:=fun e=>by
   obtain⟨A3,b1⟩:=cB M e.symm;obtain⟨A2,b2,_⟩:=H.o.dA;exact absurd (xu b1 b2) (by decide)
  have f:Hd (∀(j:Nat) (u:Value),[iV r2,iV r3,iV r6,iV r5,iV 0,iV 0,iV 0,iV 0,iV 1,iV r4,iV r5,iV 0,iV 0,iV 0,iV 0][j]? =some u→(W2.alloc (.cells #[iV r2,iV r3,iV r6,iV r5,iV 0,iV 0,iV 0,iV 0,iV 1,iV r4,iV r5,iV 0,iV 0,iV 0,iV 0] 155)).drew.cell? (Addr.add (iA W2.heap.size 0) j)=some u):=fun j u hj=>by
   rw[Addr.add_lit,Nat.zero_add];exact fw W2 #[iV r2,iV r3,iV r6,iV r5,iV 0,iV 0,iV 0,iV 0,iV 1,iV r4,iV r5,iV 0,iV 0,iV 0,iV 0] 155 j u (by simp;exact hj)
  have S:Hd (∀u∈([iV r2,iV r3,iV r6,iV r5,iV 0,iV 0,iV 0,iV 0,iV 1,iV r4,iV r5,iV 0,iV 0,iV 0,iV 0]:List Value),∃x,u=iV x):=fun u O=>by
   simp at O;rcases O with rfl|rfl|rfl|rfl|rfl|rfl|rfl|rfl|rfl<;>exact⟨_,rfl⟩
  have I:Hd (m+1≤maxLen∧(m+1)* 120≤140737488355328∧base≤(W2.alloc (.cells #[iV r2,iV r3,iV r6,iV r5,iV 0,iV 0,iV 0,iV 0,iV 1,iV r4,iV r5,iV 0,iV 0,iV 0,iV 0] 155)).drew.heap.size∧(W2.alloc (.cells #[iV r2,iV r3,iV r6,iV r5,iV 0,iV 0,iV 0,iV 0,iV 1,iV r4,iV r5,iV 0,iV 0,iV 0,iV 0] 155)).drew.heap.size=W2.heap.size+1):=⟨by unfold maxLen;omega,by omega,by show base≤(W2.alloc _).heap.size;simp;omega,by show(W2.alloc _).heap.size=_;simp⟩;have l:Hd ((W2.alloc (.cells #[iV r2,iV r3,iV r6,iV r5,iV 0,iV 0,iV 0,iV 0,iV 1,iV r4,iV r5,iV 0,iV 0,iV 0,iV 0] 155)).drew.ownsRow base 155 15 (.slice p m E) m V):=kG (World.ownsRow.alloc J.1 _)
  have T:Hd (∀(g C:Nat) (L:World),L.ownsRow base 155 15 (sL g (m+1) C) (m+1) (V++ [iV r2,iV r3,iV r6,iV r5,iV 0,iV 0,iV 0,iV 0,iV 1,iV r4,iV r5,iV 0,iV 0,iV 0,iV 0])→(W2.alloc (.cells #[iV r2,iV r3,iV r6,iV r5,iV 0,iV 0,iV 0,iV 0,iV 1,iV r4,iV r5,iV 0,iV 0,iV 0,iV 0] 155)).drew.grownBy L (Value.slice p m E).ownBlock→(∀j u,W2.cell? (iA gr j)=some u→L.cell? (iA gr j)=some u)∧jg base w L (sL g (m+1) C) (m+1) gr):=fun g C L D A=>⟨fun j u hj=>(A.cell_far (iA gr j) (by show gr<(W2.alloc _).heap.size;simp;omega) N).trans ((World.cell?_alloc_lt W2 _ (iA gr j) F).trans hj),⟨⟨_,D,fun u O=>by
   rcases List.mem_append.1 O with O|O
   ·exact J.2 u O
   exact S u O⟩,(H.dA.alloc _).of_block (A.block gr (by show gr<(W2.alloc _).heap.size;simp;omega) N),(zDe (H.low.alloc A1 _)).grown (B:=base) A I.2.2.1 (fun q hq=>(J.1.lt q hq).1)⟩⟩
  go_region_held3(fun X=>X.cell? (iA gr 2)=sI r2∧X.cell? (iA gr 3)=sI r3∧X.cell? (iA gr 4)=sI r4∧X.cell? (iA gr 5)=sI r5∧X.cell? (iA gr 6)=sI r6) (first
   |exact⟨n,s,t,y,z⟩
   |exact⟨(World.cell?_alloc_lt _ _ _ F).trans n,(World.cell?_alloc_lt _ _ _ F).trans s,(World.cell?_alloc_lt _ _ _ F).trans t,(World.cell?_alloc_lt _ _ _ F).trans y,(World.cell?_alloc_lt _ _ _ F).trans z⟩
   |exact⟨K 2 _ n,K 3 _ s,K 4 _ t,K 5 _ y,K 6 _ z⟩) ((
   refine step_append_lies _ (by rfl) _ _ 112 (by rfl) base 155 i0 _ 15 120 underlying112 G.1 G.2.1 G.2.2.1 G.2.2.2 rfl (by decide) (.slice p m E) m V (by rfl) l (iA W2.heap.size 0) 1 1 [iV r2,iV r3,iV r6,iV r5,iV 0,iV 0,iV 0,iV 0,iV 1,iV r4,iV r5,iV 0,iV 0,iV 0,iV 0] (by rfl) rfl f (pV S) (by decide) I.1 I.2.1 I.2.2.1 (W2.heap.size+1) I.2.2.2 ?_;intro g C L D A A0 U;have K:=(T g C L D A).1;have HX:Hd (jg base w L (sL g (m+1) C) (m+1) gr):=(T g C L D A).2;clear D A A0 U))
  go_wp2;go_ret2;exact⟨_,_,_,rfl,Nat.le_refl _,HX.back⟩
theorem lJ.of{e:Ending}{r:Bool}(h:e=rB r):lJ e:=⟨r,h⟩
theorem zLu(base:Nat)(w:World)(v:Value)(m gr:Nat)(h:jg base w w v m gr)(hb:base≤w.heap.size)(hm:m≤100000000)(h0:w.cell? (iA gr 0)=sI 1):
 Cl 105 #[v,iP gr] w fun e w'=>dY base w m e w':=by
 obtain⟨p,E,rfl,-⟩:=h.row.shape';have J:=hid h;have D:=hid (zLt base w _ m gr h hb hm);go_enter func105,ntmps105;go_wp2_with fail;refine D.mono ?_;rintro e C ⟨I,B,r,rfl,F,G,H⟩;have A:Hd (B≤m+1∧SR base C I B∧Below base w C):=⟨F,G,H⟩;go_wp2;go_ret2;exact⟨_,_,_,rfl,A.1,A.2⟩
theorem zLv(base:Nat)(w:World)(v:Value)(m gr:Nat)(h:jg base w w v m gr)(hb:base≤w.heap.size)(hm:m≤100000000)(h0:w.cell? (iA gr 0)=sI 2):
 Cl 105 #[v,iP gr] w fun e w'=>dY base w m e w':=by
 obtain⟨p,C,rfl,-⟩:=h.row.shape';have A:=hid h;obtain⟨H,D⟩:=h.dA.cell 3 (by omega);obtain⟨I,E⟩:=h.dA.cell 4 (by omega);obtain⟨J,F⟩:=h.dA.cell 5 (by omega);obtain⟨B,G⟩:=h.dA.cell 6 (by omega);go_enter func105,ntmps105;go_wp2_with fail;cases K:(H == 0)
 case false=>
  go_quiet (fail);go_wp2;go_ret2;exact⟨_,_,_,rfl,Nat.le_succ _,(A.drewN _).back⟩
 cases L:(I == 0)
 case false=>
  go_quiet (fail);go_wp2;go_ret2;exact⟨_,_,_,rfl,Nat.le_succ _,(A.drewN _).back⟩
 cases M:(J == 0)
 case false=>
  go_quiet (fail);go_wp2;go_ret2;exact⟨_,_,_,rfl,Nat.le_succ _,(A.drewN _).back⟩
 by_cases N:1≤B
 ·by_cases O:B≤10
  ·go_quiet (fail);go_wp2;go_ret2;exact⟨_,_,_,rfl,Nat.le_succ _,(A.drewN _).back⟩
  go_quiet (fail);go_wp2;go_ret2;exact⟨_,_,_,rfl,Nat.le_succ _,(A.drewN _).back⟩
 go_quiet (fail);go_wp2;go_ret2;exact⟨_,_,_,rfl,Nat.le_succ _,(A.drewN _).back⟩
theorem zLw(base:Nat)(w:World)(v:Value)(m gr:Nat)(h:jg base w w v m gr)(hb:base≤w.heap.size)(hm:m≤100000000)(h0:w.cell? (iA gr 0)=sI 3):
 Cl 105 #[v,iP gr] w fun e w'=>dY base w m e w':=by
 obtain⟨p,C,rfl,-⟩:=h.row.shape';have E:=hid h;have A:=hid (zLp base w _ m gr h.row h.dA (by omega));go_enter func105,ntmps105;go_wp2_with fail;refine A.mono ?_;rintro e F ⟨⟨r,rfl⟩,D⟩;have B:=hid D;go_wp2;go_ret2;exact⟨_,_,_,rfl,Nat.le_succ _,B⟩
theorem zLx(base:Nat)(w:World)(v:Value)(m gr:Nat)(h:jg base w w v m gr)(hb:base≤w.heap.size)(hm:m≤100000000)(h0:w.cell? (iA gr 0)=sI 4):
 Cl 105 #[v,iP gr] w fun e w'=>dY base w m e w':=by
 obtain⟨p,J,rfl,-⟩:=h.row.shape';have A:=hid h;obtain⟨d,K⟩:=h.dA.cell 2 (by omega);obtain⟨f,L⟩:=h.dA.cell 3 (by omega);obtain⟨j,M⟩:=h.dA.cell 4 (by omega);obtain⟨k,N⟩:=h.dA.cell 5 (by omega);obtain⟨E,O⟩:=h.dA.cell 6 (by omega);have F:=hid (oK base w _ m d h.row (by omega));go_enter func105,ntmps105;go_wp2_with fail;refine F.mono ?_;rintro e w1 ⟨X,rfl⟩;rcases X with rfl|⟨i,u,rfl⟩
 ·go_wp2;go_ret2;exact⟨_,_,_,rfl,Nat.le_succ _,A.back⟩
 have Y:decide ((i:Int)<0)=false:=decide_eq_false (by omega);have Z:(i:Int)<(m:Int):=by omega
 cases S:(f != 0)
 case true=>
  go_wp2;go_ret2;exact⟨_,_,_,rfl,Nat.le_succ _,A.back⟩
 obtain⟨g,rfl⟩:∃g,p=some (iA g 0):=by
  rcases A.o.row.shape with⟨-,e⟩|⟨g,D,e,_⟩
  ·omega
  injection e with R q S;exact⟨g,R⟩
 have B:=A.above;obtain⟨x,c2⟩:=A.o.block.cell (i*15+2) (by omega);obtain⟨y,l⟩:=A.o.block.cell (i*15+8) (by omega);obtain⟨z,n⟩:=A.o.block.cell (i*15+9) (by omega);obtain⟨C,G⟩:=A.o.block.cell (i*15+10) (by omega);obtain⟨b,H⟩:=A.o.block.cell (i*15+12) (by omega);obtain⟨c,I⟩:=A.o.block.cell (i*15+13) (by omega);have s:=A.block.dz (i*15+8);have t:=A.block.dz (i*15+9);have T:=A.block.dz (i*15+10);have U:=A.block.dz (i*15+12);have V:=A.block.dz (i*15+13);go_wp2_with fail;cases q1:(j != 0)
 case true=>
  go_quiet (fail);go_wp2;go_ret2;refine⟨_,_,_,rfl,Nat.le_succ _,jg.back (gr:=gr) ?_⟩;repeat(first|exact A|refine jg.set ?_ _ _ B _|refine jg.drewN ?_ _|refine jg.drew ?_)
 cases q2:(k != C)
 case true=>
  go_quiet (fail);go_wp2;go_ret2;refine⟨_,_,_,rfl,Nat.le_succ _,jg.back (gr:=gr) ?_⟩;repeat(first|exact A|refine jg.set ?_ _ _ B _|refine jg.drewN ?_ _|refine jg.drew ?_)
 by_cases q3:E<1
 ·go_quiet (fail);go_wp2;go_ret2;refine⟨_,_,_,rfl,Nat.le_succ _,jg.back (gr:=gr) ?_⟩;repeat(first|exact A|refine jg.set ?_ _ _ B _|refine jg.drewN ?_ _|refine jg.drew ?_)
 by_cases q4:3<E
 ·go_quiet (fail);go_wp2;go_ret2;refine⟨_,_,_,rfl,Nat.le_succ _,jg.back (gr:=gr) ?_⟩;repeat(first|exact A|refine jg.set ?_ _ _ B _|refine jg.drewN ?_ _|refine jg.drew ?_)
 go_quiet (fail);go_wp2;go_ret2;refine⟨_,_,_,rfl,Nat.le_succ _,jg.back (gr:=gr) ?_⟩;repeat(first|exact A|refine jg.set ?_ _ _ B _|refine jg.drewN ?_ _|refine jg.drew ?_)
theorem zLy(base:Nat)(w:World)(v:Value)(m gr:Nat)(h:jg base w w v m gr)(hb:base≤w.heap.size)(hm:m≤100000000)(h0:w.cell? (iA gr 0)=sI 5):
 Cl 105 #[v,iP gr] w fun e w'=>dY base w m e w':=by
 obtain⟨p,B,rfl,-⟩:=h.row.shape';have A:=hid h;obtain⟨f,J⟩:=h.dA.cell 2 (by omega);obtain⟨j,K⟩:=h.dA.cell 3 (by omega);obtain⟨r4,L⟩:=h.dA.cell 4 (by omega);obtain⟨r5,M⟩:=h.dA.cell 5 (by omega);obtain⟨r6,N⟩:=h.dA.cell 6 (by omega);have E:=hid (oK base w _ m f h.row (by omega));go_enter func105,ntmps105;go_wp2_with fail;refine E.mono ?_;rintro e k ⟨V,rfl⟩;rcases V with rfl|⟨i,x,rfl⟩
 ·go_wp2;go_ret2;exact⟨_,_,_,rfl,Nat.le_succ _,A.back⟩
 have Y:decide ((i:Int)<0)=false:=decide_eq_false (by omega);have Z:(i:Int)<(m:Int):=by omega
 cases R:(j != 0)
 case true=>
  go_wp2;go_ret2;exact⟨_,_,_,rfl,Nat.le_succ _,A.back⟩
 obtain⟨g,rfl⟩:∃g,p=some (iA g 0):=by
  rcases A.o.row.shape with⟨-,e⟩|⟨g,C,e,_⟩
  ·omega
  injection e with O q R;exact⟨g,O⟩
 have u:=A.above;obtain⟨y,c2⟩:=A.o.block.cell (i*15+2) (by omega);obtain⟨z,l⟩:=A.o.block.cell (i*15+8) (by omega);obtain⟨o9,n⟩:=A.o.block.cell (i*15+9) (by omega);obtain⟨b,G⟩:=A.o.block.cell (i*15+10) (by omega);obtain⟨c,H⟩:=A.o.block.cell (i*15+12) (by omega);obtain⟨d,I⟩:=A.o.block.cell (i*15+13) (by omega);have s:=A.block.dz (i*15+8);have t:=A.block.dz (i*15+9);have S:=A.block.dz (i*15+10);have T:=A.block.dz (i*15+12);have U:=A.block.dz (i*15+13);have D:=hid (zLq base k m gr g B (i*15) A (by omega));go_wp2_with fail;refine D.mono ?_;rintro e w2 ⟨⟨r,rfl⟩,X⟩;have F:=hid X;go_wp2;go_ret2;exact⟨_,_,_,rfl,Nat.le_succ _,F.back⟩
theorem zLz(base:Nat)(w:World)(v:Value)(m gr:Nat)(h:jg base w w v m gr)(hb:base≤w.heap.size)(hm:m≤100000000)(r0:Int)(h0:w.cell? (iA gr 0)=sI r0)(k1:r0≠1)(k2:r0≠2)(k3:r0≠3)(k4:r0≠4)(k5:r0≠5)(k6:r0≠6)(k7:r0≠7):
 Cl 105 #[v,iP gr] w fun e w'=>dY base w m e w':=by
 obtain⟨p,G,rfl,-⟩:=h.row.shape';have A:=hid h;obtain⟨c,H⟩:=h.dA.cell 2 (by omega);obtain⟨d,I⟩:=h.dA.cell 3 (by omega);obtain⟨r4,J⟩:=h.dA.cell 4 (by omega);obtain⟨r5,K⟩:=h.dA.cell 5 (by omega);obtain⟨r6,L⟩:=h.dA.cell 6 (by omega);have C:=hid (oK base w _ m c h.row (by omega));have s:=beq_eq_false_iff_ne.2 k1;have t:=beq_eq_false_iff_ne.2 k2;have u:=beq_eq_false_iff_ne.2 k3;have x:=beq_eq_false_iff_ne.2 k4;have y:=beq_eq_false_iff_ne.2 k5;have z:=beq_eq_false_iff_ne.2 k6;have n7:=beq_eq_false_iff_ne.2 k7;go_enter func105,ntmps105;go_wp2_with fail;refine C.mono ?_;rintro e w1 ⟨T,rfl⟩;rcases T with rfl|⟨i,q,rfl⟩
 ·go_wp2;go_ret2;exact⟨_,_,_,rfl,Nat.le_succ _,A.back⟩
 have V:decide ((i:Int)<0)=false:=decide_eq_false (by omega);have X:(i:Int)<(m:Int):=by omega
 cases N:(d != 0)
 case true=>
  go_wp2;go_ret2;exact⟨_,_,_,rfl,Nat.le_succ _,A.back⟩
 obtain⟨g,rfl⟩:∃g,p=some (iA g 0):=by
  rcases A.o.row.shape with⟨-,e⟩|⟨g,B,e,_⟩
  ·omega
  injection e with M k N;exact⟨g,M⟩
 have U:=A.above;obtain⟨o2,c2⟩:=A.o.block.cell (i*15+2) (by omega);obtain⟨o8,f⟩:=A.o.block.cell (i*15+8) (by omega);obtain⟨o9,j⟩:=A.o.block.cell (i*15+9) (by omega);obtain⟨Y,D⟩:=A.o.block.cell (i*15+10) (by omega);obtain⟨Z,E⟩:=A.o.block.cell (i*15+12) (by omega);obtain⟨b,F⟩:=A.o.block.cell (i*15+13) (by omega);have l:=A.block.dz (i*15+8);have n:=A.block.dz (i*15+9);have O:=A.block.dz (i*15+10);have R:=A.block.dz (i*15+12);have S:=A.block.dz (i*15+13);go_wp2;all_goals
  go_ret2;refine⟨_,_,_,rfl,Nat.le_succ _,jg.back (gr:=gr) ?_⟩;repeat(first|exact A|refine jg.set ?_ _ _ U _|refine jg.drewN ?_ _|refine jg.drew ?_)
theorem zM(base:Nat)(w:World)(v:Value)(m gr:Nat)(h:jg base w w v m gr)(hb:base≤w.heap.size)(hm:m≤100000000)(h0:w.cell? (iA gr 0)=sI 7):
 Cl 105 #[v,iP gr] w fun e w'=>dY base w m e w':=by
 obtain⟨p,J,rfl,-⟩:=h.row.shape';have A:=hid h;obtain⟨j,K⟩:=h.dA.cell 2 (by omega);obtain⟨k,L⟩:=h.dA.cell 3 (by omega);obtain⟨E,M⟩:=h.dA.cell 4 (by omega);obtain⟨l,N⟩:=h.dA.cell 5 (by omega);obtain⟨n,O⟩:=h.dA.cell 6 (by omega);have F:=hid (oK base w _ m j h.row (by omega));go_enter func105,ntmps105;go_wp2_with fail;refine F.mono ?_;rintro e w1 ⟨X,rfl⟩;rcases X with rfl|⟨i,y,rfl⟩
 ·go_wp2;go_ret2;exact⟨_,_,_,rfl,Nat.le_succ _,A.back⟩
 have Y:decide ((i:Int)<0)=false:=decide_eq_false (by omega);have Z:(i:Int)<(m:Int):=by omega
 cases S:(k != 0)
 case true=>
  go_wp2;go_ret2;exact⟨_,_,_,rfl,Nat.le_succ _,A.back⟩
 obtain⟨g,rfl⟩:∃g,p=some (iA g 0):=by
  rcases A.o.row.shape with⟨-,e⟩|⟨g,D,e,_⟩
  ·omega
  injection e with R t S;exact⟨g,R⟩
 have B:=A.above;obtain⟨d,c2⟩:=A.o.block.cell (i*15+2) (by omega);obtain⟨z,q⟩:=A.o.block.cell (i*15+8) (by omega);obtain⟨f,s⟩:=A.o.block.cell (i*15+9) (by omega);obtain⟨C,G⟩:=A.o.block.cell (i*15+10) (by omega);obtain⟨b,H⟩:=A.o.block.cell (i*15+12) (by omega);obtain⟨c,I⟩:=A.o.block.cell (i*15+13) (by omega);have u:=A.block.dz (i*15+8);have x:=A.block.dz (i*15+9);have T:=A.block.dz (i*15+10);have U:=A.block.dz (i*15+12);have V:=A.block.dz (i*15+13);go_wp2_with fail;cases q1:(d == 3)
 case false=>
  go_quiet (fail);go_wp2;go_ret2;refine⟨_,_,_,rfl,Nat.le_succ _,jg.back (gr:=gr) ?_⟩;repeat(first|exact A|refine jg.set ?_ _ _ B _|refine jg.drewN ?_ _|refine jg.drew ?_)
 cases q2:(n == 0)
 case false=>
  go_quiet (fail);go_wp2;go_ret2;refine⟨_,_,_,rfl,Nat.le_succ _,jg.back (gr:=gr) ?_⟩;repeat(first|exact A|refine jg.set ?_ _ _ B _|refine jg.drewN ?_ _|refine jg.drew ?_)
 by_cases q3:0<E
 ·cases q4:(E != f)
  ·go_quiet (fail);go_wp2;go_ret2;refine⟨_,_,_,rfl,Nat.le_succ _,jg.back (gr:=gr) ?_⟩;repeat(first|exact A|refine jg.set ?_ _ _ B _|refine jg.drewN ?_ _|refine jg.drew ?_)
  cases q5:(l == C)
  ·go_quiet (fail);go_wp2;go_ret2;refine⟨_,_,_,rfl,Nat.le_succ _,jg.back (gr:=gr) ?_⟩;repeat(first|exact A|refine jg.set ?_ _ _ B _|refine jg.drewN ?_ _|refine jg.drew ?_)
  go_quiet (fail);go_wp2;go_ret2;refine⟨_,_,_,rfl,Nat.le_succ _,jg.back (gr:=gr) ?_⟩;repeat(first|exact A|refine jg.set ?_ _ _ B _|refine jg.drewN ?_ _|refine jg.drew ?_)
 go_quiet (fail);go_wp2;go_ret2;refine⟨_,_,_,rfl,Nat.le_succ _,jg.back (gr:=gr) ?_⟩;repeat(first|exact A|refine jg.set ?_ _ _ B _|refine jg.drewN ?_ _|refine jg.drew ?_)
theorem zM0(base:Nat)(w:World)(v:Value)(m gr:Nat)(h:jg base w w v m gr)(hb:base≤w.heap.size)(hm:m≤100000000)(h0:w.cell? (iA gr 0)=sI 6):
 Cl 105 #[v,iP gr] w fun e w'=>dY base w m e w':=by
 obtain⟨p,D,rfl,-⟩:=h.row.shape';have A:=hid h;obtain⟨q,X⟩:=h.dA.cell 2 (by omega);obtain⟨s,Y⟩:=h.dA.cell 3 (by omega);obtain⟨r4,Z⟩:=h.dA.cell 4 (by omega);obtain⟨r5,E⟩:=h.dA.cell 5 (by omega);obtain⟨r6,b⟩:=h.dA.cell 6 (by omega);have U:=hid (oK base w _ m q h.row (by omega));go_enter func105,ntmps105;go_wp2_with fail;refine U.mono ?_;rintro e G ⟨j,rfl⟩;rcases j with rfl|⟨i,hi,rfl⟩
 ·go_wp2;go_ret2;exact⟨_,_,_,rfl,Nat.le_succ _,A.back⟩
 have k:decide ((i:Int)<0)=false:=decide_eq_false (by omega);have l:(i:Int)<(m:Int):=by omega
 cases c:(s != 0)
 case true=>
  go_wp2;go_ret2;exact⟨_,_,_,rfl,Nat.le_succ _,A.back⟩
 obtain⟨g,rfl⟩:∃g,p=some (iA g 0):=by
  rcases A.o.row.shape with⟨-,e⟩|⟨g,N,e,_⟩
  ·omega
  injection e with O y c;exact⟨g,O⟩
 have H:=A.above;obtain⟨o2,c2⟩:=A.o.block.cell (i*15+2) (by omega);obtain⟨o8,u⟩:=A.o.block.cell (i*15+8) (by omega);obtain⟨o9,x⟩:=A.o.block.cell (i*15+9) (by omega);obtain⟨o10,B⟩:=A.o.block.cell (i*15+10) (by omega);obtain⟨n,V⟩:=A.o.block.cell (i*15+12) (by omega);obtain⟨o13,C⟩:=A.o.block.cell (i*15+13) (by omega);have z:=A.block.dz (i*15+8);have f9:=A.block.dz (i*15+9);have d:=A.block.dz (i*15+10);have f:=A.block.dz (i*15+12);have F:=A.block.dz (i*15+13);go_wp2_with fail;cases O:(r5 == o10)
 ·go_quiet (fail);replace A:Hd (jg base G (G.drewN nq) (sL g m D) m gr):=A.drewN nq;replace E:(G.drewN nq).cell? (iA gr 5)=sI r5:=E;replace c2:(G.drewN nq).cell? (iA g (i*15+2))=sI o2:=c2;replace B:(G.drewN nq).cell? (iA g (i*15+10))=sI o10:=B;replace C:(G.drewN nq).cell? (iA g (i*15+13))=sI o13:=C;replace F:(G.drewN nq).frozen? (iA g (i*15+13))=false:=F;generalize G.drewN nq=WA at *;cases t:(o2 == 2)
  ·go_wp2_with fail;replace A:Hd (jg base G (WA.setCell (iA g (i*15+13)) (iV r5)) (sL g m D) m gr):=A.set _ _ H _;generalize WA.setCell (iA g (i*15+13)) (iV r5)=WC at *;obtain⟨L,I⟩:=A.o.dA.cell 4 (by omega);obtain⟨M,J⟩:=A.o.dA.cell 6 (by omega);obtain⟨z9,K⟩:=A.o.block.cell (i*15+9) (by omega);go_quiet (fail);go_wp2;go_ret2;refine⟨_,_,_,rfl,Nat.le_succ _,jg.back (gr:=gr) ?_⟩;repeat(first|exact A|refine jg.set ?_ _ _ H _|refine jg.drewN ?_ _|refine jg.drew ?_)
  go_wp2_with fail;by_cases u1:1≤r5
  ·by_cases u2:r5≤o10
   ·go_quiet (fail);replace A:Hd (jg base G (WA.drewN nq) (sL g m D) m gr):=A.drewN nq;replace E:(WA.drewN nq).cell? (iA gr 5)=sI r5:=E;replace c2:(WA.drewN nq).cell? (iA g (i*15+2))=sI o2:=c2;replace B:(WA.drewN nq).cell? (iA g (i*15+10))=sI o10:=B;replace C:(WA.drewN nq).cell? (iA g (i*15+13))=sI o13:=C;replace F:(WA.drewN nq).frozen? (iA g (i*15+13))=false:=F;generalize WA.drewN nq=WB at *;go_wp2_with fail;replace A:Hd (jg base G (WB.setCell (iA g (i*15+13)) (iV r5)) (sL g m D) m gr):=A.set _ _ H _;generalize WB.setCell (iA g (i*15+13)) (iV r5)=WC at *;obtain⟨L,I⟩:=A.o.dA.cell 4 (by omega);obtain⟨M,J⟩:=A.o.dA.cell 6 (by omega);obtain⟨z9,K⟩:=A.o.block.cell (i*15+9) (by omega);cases R:(L == z9)
    case false=>
     go_quiet (fail);go_wp2;go_ret2;refine⟨_,_,_,rfl,Nat.le_succ _,jg.back (gr:=gr) ?_⟩;repeat(first|exact A|refine jg.set ?_ _ _ H _|refine jg.drewN ?_ _|refine jg.drew ?_)
    by_cases S:0<L
    ·cases T:(M == 0)
     ·go_quiet (fail);go_wp2;go_ret2;refine⟨_,_,_,rfl,Nat.le_succ _,jg.back (gr:=gr) ?_⟩;repeat(first|exact A|refine jg.set ?_ _ _ H _|refine jg.drewN ?_ _|refine jg.drew ?_)
     go_quiet (fail);go_wp2;go_ret2;refine⟨_,_,_,rfl,Nat.le_succ _,jg.back (gr:=gr) ?_⟩;repeat(first|exact A|refine jg.set ?_ _ _ H _|refine jg.drewN ?_ _|refine jg.drew ?_)
    go_quiet (fail);go_wp2;go_ret2;refine⟨_,_,_,rfl,Nat.le_succ _,jg.back (gr:=gr) ?_⟩;repeat(first|exact A|refine jg.set ?_ _ _ H _|refine jg.drewN ?_ _|refine jg.drew ?_)
   go_quiet (fail);replace A:Hd (jg base G (WA.drewN nq) (sL g m D) m gr):=A.drewN nq;replace E:(WA.drewN nq).cell? (iA gr 5)=sI r5:=E;replace c2:(WA.drewN nq).cell? (iA g (i*15+2))=sI o2:=c2;replace B:(WA.drewN nq).cell? (iA g (i*15+10))=sI o10:=B;replace C:(WA.drewN nq).cell? (iA g (i*15+13))=sI o13:=C;replace F:(WA.drewN nq).frozen? (iA g (i*15+13))=false:=F;generalize WA.drewN nq=WB at *;go_wp2_with fail;replace A:Hd (jg base G (WB.setCell (iA g (i*15+13)) (iV r5)) (sL g m D) m gr):=A.set _ _ H _;generalize WB.setCell (iA g (i*15+13)) (iV r5)=WC at *;obtain⟨L,I⟩:=A.o.dA.cell 4 (by omega);obtain⟨M,J⟩:=A.o.dA.cell 6 (by omega);obtain⟨z9,K⟩:=A.o.block.cell (i*15+9) (by omega);go_quiet (fail);go_wp2;go_ret2;refine⟨_,_,_,rfl,Nat.le_succ _,jg.back (gr:=gr) ?_⟩;repeat(first|exact A|refine jg.set ?_ _ _ H _|refine jg.drewN ?_ _|refine jg.drew ?_)
  go_quiet (fail);replace A:Hd (jg base G (WA.drewN nq) (sL g m D) m gr):=A.drewN nq;replace E:(WA.drewN nq).cell? (iA gr 5)=sI r5:=E;replace c2:(WA.drewN nq).cell? (iA g (i*15+2))=sI o2:=c2;replace B:(WA.drewN nq).cell? (iA g (i*15+10))=sI o10:=B;replace C:(WA.drewN nq).cell? (iA g (i*15+13))=sI o13:=C;replace F:(WA.drewN nq).frozen? (iA g (i*15+13))=false:=F;generalize WA.drewN nq=WB at *;go_wp2_with fail;replace A:Hd (jg base G (WB.setCell (iA g (i*15+13)) (iV r5)) (sL g m D) m gr):=A.set _ _ H _;generalize WB.setCell (iA g (i*15+13)) (iV r5)=WC at *;obtain⟨L,I⟩:=A.o.dA.cell 4 (by omega);obtain⟨M,J⟩:=A.o.dA.cell 6 (by omega);obtain⟨z9,K⟩:=A.o.block.cell (i*15+9) (by omega);go_quiet (fail);go_wp2;go_ret2;refine⟨_,_,_,rfl,Nat.le_succ _,jg.back (gr:=gr) ?_⟩;repeat(first|exact A|refine jg.set ?_ _ _ H _|refine jg.drewN ?_ _|refine jg.drew ?_)
 go_quiet (fail);replace A:Hd (jg base G (G.drewN nq) (sL g m D) m gr):=A.drewN nq;replace E:(G.drewN nq).cell? (iA gr 5)=sI r5:=E;replace c2:(G.drewN nq).cell? (iA g (i*15+2))=sI o2:=c2;replace B:(G.drewN nq).cell? (iA g (i*15+10))=sI o10:=B;replace C:(G.drewN nq).cell? (iA g (i*15+13))=sI o13:=C;replace F:(G.drewN nq).frozen? (iA g (i*15+13))=false:=F;generalize G.drewN nq=WA at *;cases t:(o2 == 2)
 ·go_wp2_with fail;replace A:Hd (jg base G (WA.setCell (iA g (i*15+13)) (iV r5)) (sL g m D) m gr):=A.set _ _ H _;generalize WA.setCell (iA g (i*15+13)) (iV r5)=WC at *;obtain⟨L,I⟩:=A.o.dA.cell 4 (by omega);obtain⟨M,J⟩:=A.o.dA.cell 6 (by omega);obtain⟨z9,K⟩:=A.o.block.cell (i*15+9) (by omega);cases R:(L == z9)
  case false=>
   go_quiet (fail);go_wp2;go_ret2;refine⟨_,_,_,rfl,Nat.le_succ _,jg.back (gr:=gr) ?_⟩;repeat(first|exact A|refine jg.set ?_ _ _ H _|refine jg.drewN ?_ _|refine jg.drew ?_)
  by_cases S:0<L
  ·cases T:(M == 0)
   ·go_quiet (fail);go_wp2;go_ret2;refine⟨_,_,_,rfl,Nat.le_succ _,jg.back (gr:=gr) ?_⟩;repeat(first|exact A|refine jg.set ?_ _ _ H _|refine jg.drewN ?_ _|refine jg.drew ?_)
   go_quiet (fail);go_wp2;go_ret2;refine⟨_,_,_,rfl,Nat.le_succ _,jg.back (gr:=gr) ?_⟩;repeat(first|exact A|refine jg.set ?_ _ _ H _|refine jg.drewN ?_ _|refine jg.drew ?_)
  go_quiet (fail);go_wp2;go_ret2;refine⟨_,_,_,rfl,Nat.le_succ _,jg.back (gr:=gr) ?_⟩;repeat(first|exact A|refine jg.set ?_ _ _ H _|refine jg.drewN ?_ _|refine jg.drew ?_)
 go_wp2_with fail;by_cases u1:1≤r5
 ·by_cases u2:r5≤o10
  ·go_quiet (fail);replace A:Hd (jg base G (WA.drewN nq) (sL g m D) m gr):=A.drewN nq;replace E:(WA.drewN nq).cell? (iA gr 5)=sI r5:=E;replace c2:(WA.drewN nq).cell? (iA g (i*15+2))=sI o2:=c2;replace B:(WA.drewN nq).cell? (iA g (i*15+10))=sI o10:=B;replace C:(WA.drewN nq).cell? (iA g (i*15+13))=sI o13:=C;replace F:(WA.drewN nq).frozen? (iA g (i*15+13))=false:=F;generalize WA.drewN nq=WB at *;go_wp2_with fail;replace A:Hd (jg base G (WB.setCell (iA g (i*15+13)) (iV r5)) (sL g m D) m gr):=A.set _ _ H _;generalize WB.setCell (iA g (i*15+13)) (iV r5)=WC at *;obtain⟨L,I⟩:=A.o.dA.cell 4 (by omega);obtain⟨M,J⟩:=A.o.dA.cell 6 (by omega);obtain⟨z9,K⟩:=A.o.block.cell (i*15+9) (by omega);cases R:(L == z9)
   case false=>
    go_quiet (fail);go_wp2;go_ret2;refine⟨_,_,_,rfl,Nat.le_succ _,jg.back (gr:=gr) ?_⟩;repeat(first|exact A|refine jg.set ?_ _ _ H _|refine jg.drewN ?_ _|refine jg.drew ?_)
   by_cases S:0<L
   ·cases T:(M == 0)
    ·go_quiet (fail);go_wp2;go_ret2;refine⟨_,_,_,rfl,Nat.le_succ _,jg.back (gr:=gr) ?_⟩;repeat(first|exact A|refine jg.set ?_ _ _ H _|refine jg.drewN ?_ _|refine jg.drew ?_)
    go_quiet (fail);go_wp2;go_ret2;refine⟨_,_,_,rfl,Nat.le_succ _,jg.back (gr:=gr) ?_⟩;repeat(first|exact A|refine jg.set ?_ _ _ H _|refine jg.drewN ?_ _|refine jg.drew ?_)
   go_quiet (fail);go_wp2;go_ret2;refine⟨_,_,_,rfl,Nat.le_succ _,jg.back (gr:=gr) ?_⟩;repeat(first|exact A|refine jg.set ?_ _ _ H _|refine jg.drewN ?_ _|refine jg.drew ?_)
  go_quiet (fail);replace A:Hd (jg base G (WA.drewN nq) (sL g m D) m gr):=A.drewN nq;replace E:(WA.drewN nq).cell? (iA gr 5)=sI r5:=E;replace c2:(WA.drewN nq).cell? (iA g (i*15+2))=sI o2:=c2;replace B:(WA.drewN nq).cell? (iA g (i*15+10))=sI o10:=B;replace C:(WA.drewN nq).cell? (iA g (i*15+13))=sI o13:=C;replace F:(WA.drewN nq).frozen? (iA g (i*15+13))=false:=F;generalize WA.drewN nq=WB at *;go_wp2_with fail;replace A:Hd (jg base G (WB.setCell (iA g (i*15+13)) (iV r5)) (sL g m D) m gr):=A.set _ _ H _;generalize WB.setCell (iA g (i*15+13)) (iV r5)=WC at *;obtain⟨L,I⟩:=A.o.dA.cell 4 (by omega);obtain⟨M,J⟩:=A.o.dA.cell 6 (by omega);obtain⟨z9,K⟩:=A.o.block.cell (i*15+9) (by omega);go_quiet (fail);go_wp2;go_ret2;refine⟨_,_,_,rfl,Nat.le_succ _,jg.back (gr:=gr) ?_⟩;repeat(first|exact A|refine jg.set ?_ _ _ H _|refine jg.drewN ?_ _|refine jg.drew ?_)
 go_quiet (fail);replace A:Hd (jg base G (WA.drewN nq) (sL g m D) m gr):=A.drewN nq;replace E:(WA.drewN nq).cell? (iA gr 5)=sI r5:=E;replace c2:(WA.drewN nq).cell? (iA g (i*15+2))=sI o2:=c2;replace B:(WA.drewN nq).cell? (iA g (i*15+10))=sI o10:=B;replace C:(WA.drewN nq).cell? (iA g (i*15+13))=sI o13:=C;replace F:(WA.drewN nq).frozen? (iA g (i*15+13))=false:=F;generalize WA.drewN nq=WB at *;go_wp2_with fail;replace A:Hd (jg base G (WB.setCell (iA g (i*15+13)) (iV r5)) (sL g m D) m gr):=A.set _ _ H _;generalize WB.setCell (iA g (i*15+13)) (iV r5)=WC at *;obtain⟨L,I⟩:=A.o.dA.cell 4 (by omega);obtain⟨M,J⟩:=A.o.dA.cell 6 (by omega);obtain⟨z9,K⟩:=A.o.block.cell (i*15+9) (by omega);go_quiet (fail);go_wp2;go_ret2;refine⟨_,_,_,rfl,Nat.le_succ _,jg.back (gr:=gr) ?_⟩;repeat(first|exact A|refine jg.set ?_ _ _ H _|refine jg.drewN ?_ _|refine jg.drew ?_)
theorem zM1(base:Nat)(w:World)(v:Value)(m gr:Nat)(h:jg base w w v m gr)(hb:base≤w.heap.size)(hm:m≤100000000):
 Cl 105 #[v,iP gr] w fun e w'=>dY base w m e w':=by
 obtain⟨B,A⟩:=h.dA.cell 0 (by omega);by_cases C:B=1
 ·subst C;exact zLu base w v m gr h hb hm A
 by_cases D:B=2
 ·subst D;exact zLv base w v m gr h hb hm A
 by_cases E:B=3
 ·subst E;exact zLw base w v m gr h hb hm A
 by_cases F:B=4
 ·subst F;exact zLx base w v m gr h hb hm A
 by_cases G:B=5
 ·subst G;exact zLy base w v m gr h hb hm A
 by_cases H:B=6
 ·subst H;exact zM0 base w v m gr h hb hm A
 by_cases I:B=7
 ·subst I;exact zM base w v m gr h hb hm A
 exact zLz base w v m gr h hb hm B A C D E F G H I
theorem SR.set15(h:SR base w v m)(b o:Nat)(x0 x1 x2 x3 x4 x5 x6 x7 x8 x9 x10 x11 x12 x13 x14:Int):SR base (((((((((((((((w.setCell (iA b o) (iV x0)).setCell (iA b (o+1)) (iV x1)).setCell (iA b (o+2)) (iV x2)).setCell (iA b (o+3)) (iV x3)).setCell (iA b (o+4)) (iV x4)).setCell (iA b (o+5)) (iV x5)).setCell (iA b (o+6)) (iV x6)).setCell (iA b (o+7)) (iV x7)).setCell (iA b (o+8)) (iV x8)).setCell (iA b (o+9)) (iV x9)).setCell (iA b (o+10)) (iV x10)).setCell (iA b (o+11)) (iV x11)).setCell (iA b (o+12)) (iV x12)).setCell (iA b (o+13)) (iV x13)).setCell (iA b (o+14)) (iV x14)) v m:=(((((((((((((((h.set b (o) x0).set b (o+1) x1).set b (o+2) x2).set b (o+3) x3).set b (o+4) x4).set b (o+5) x5).set b (o+6) x6).set b (o+7) x7).set b (o+8) x8).set b (o+9) x9).set b (o+10) x10).set b (o+11) x11).set b (o+12) x12).set b (o+13) x13).set b (o+14) x14)
theorem zPc{B:Nat}{a:World}(h:Below B a w)(b o:Nat)(hb:B≤b)(x0 x1 x2 x3 x4 x5 x6 x7 x8 x9 x10 x11 x12 x13 x14:Int):Below B a (((((((((((((((w.setCell (iA b o) (iV x0)).setCell (iA b (o+1)) (iV x1)).setCell (iA b (o+2)) (iV x2)).setCell (iA b (o+3)) (iV x3)).setCell (iA b (o+4)) (iV x4)).setCell (iA b (o+5)) (iV x5)).setCell (iA b (o+6)) (iV x6)).setCell (iA b (o+7)) (iV x7)).setCell (iA b (o+8)) (iV x8)).setCell (iA b (o+9)) (iV x9)).setCell (iA b (o+10)) (iV x10)).setCell (iA b (o+11)) (iV x11)).setCell (iA b (o+12)) (iV x12)).setCell (iA b (o+13)) (iV x13)).setCell (iA b (o+14)) (iV x14)):=(((((((((((((((h.setCell (p:=(iA b o)) hb _).setCell (p:=(iA b (o+1))) hb _).setCell (p:=(iA b (o+2))) hb _).setCell (p:=(iA b (o+3))) hb _).setCell (p:=(iA b (o+4))) hb _).setCell (p:=(iA b (o+5))) hb _).setCell (p:=(iA b (o+6))) hb _).setCell (p:=(iA b (o+7))) hb _).setCell (p:=(iA b (o+8))) hb _).setCell (p:=(iA b (o+9))) hb _).setCell (p:=(iA b (o+10))) hb _).setCell (p:=(iA b (o+11))) hb _).setCell (p:=(iA b (o+12))) hb _).setCell (p:=(iA b (o+13))) hb _).setCell (p:=(iA b (o+14))) hb _)
theorem zM2(B base:Nat)(w:World)(v:Value)(m:Nat)(h:SR base w v m)(hc:w.cell? (iA B 5)=some v)(hB:B<w.heap.size)(hm:m≤100000000):
 Cl 44 #[iP B] w fun e w'=> ∃v',e=.returned v'∧SR w.heap.size w' v' m∧Below w.heap.size w w':=by
 obtain⟨i0,hi,Af,Ag,Ah⟩:=qh Tryz.infoStA Tryz.zeroStA;have E:Hd (prog.info? 155=some i0∧i0.zero=some (.agg #[iV 0,iV 0,iV 0,iV 0,iV 0,iV 0,iV 0,iV 0,iV 0,iV 0,iV 0,iV 0,iV 0,iV 0,iV 0])∧i0.size=15∧i0.bytes=120):=⟨hi,Af,Ag,Ah⟩;obtain⟨p,T,rfl,hp⟩:=h.shape';have B6:=hid h;go_enter func44,ntmps44;go_wp2;go_loopw [3,4] (fun l i wr=> ∃k:Nat,i=iV k∧k≤m∧SR w.heap.size wr l k∧Bw w wr) (fun _ i _=>m - (intOf i).toNat)
 case atStart=>exact⟨0,rfl,Nat.zero_le _,SR.nil _ _,Below.refl _ _⟩
 case round=>
  obtain⟨k,rfl,hk,Ae,Y⟩:=hrel;have Cr:wr.cell? (iA B 5)=some (.slice p m T):=(Y.cell (p:=(iA B 5)) hB).trans hc;have R:=hid Y;have HL:=hid Ae;have Cq:=Y.size;by_cases Cu:k<m
  ·have Cs:(k:Int)<(m:Int):=by omega
   obtain⟨g,rfl,hg,Ac⟩:=hp.resolve_left (by omega);have A:jm wr g 155 (m*15):=Ac.below R;obtain⟨y,c0⟩:=A.cell (k*15+0) (by omega);obtain⟨F,c1⟩:=A.cell (k*15+1) (by omega);obtain⟨c,c2⟩:=A.cell (k*15+2) (by omega);obtain⟨d,c3⟩:=A.cell (k*15+3) (by omega);obtain⟨z,c4⟩:=A.cell (k*15+4) (by omega);obtain⟨e5,c5⟩:=A.cell (k*15+5) (by omega);obtain⟨e6,c6⟩:=A.cell (k*15+6) (by omega);obtain⟨e7,c7⟩:=A.cell (k*15+7) (by omega);obtain⟨e8,c8⟩:=A.cell (k*15+8) (by omega);obtain⟨e9,c9⟩:=A.cell (k*15+9) (by omega);obtain⟨G,Bi⟩:=A.cell (k*15+10) (by omega);obtain⟨H,Bj⟩:=A.cell (k*15+11) (by omega);obtain⟨I,Bk⟩:=A.cell (k*15+12) (by omega);obtain⟨J,Bl⟩:=A.cell (k*15+13) (by omega);obtain⟨K,Bm⟩:=A.cell (k*15+14) (by omega);rw[Nat.add_zero]at c0;obtain⟨xs,L,Z⟩:=HL;have s:Hd (wr.ownsRow w.heap.size 155 15 u3 k xs∧∀u∈xs,∃x,u=iV x):=⟨L,Z⟩
   have A6:Hd (∀o,(wr.alloc o).ownsRow w.heap.size 155 15 u3 k xs):=fun o=>L.alloc o
   have A4:Hd (∀(j:Nat) (u:Value),[iV y,iV F,iV c,iV d,iV z,iV e5,iV e6,iV e7,iV e8,iV e9,iV G,iV H,iV I,iV J,iV K][j]? =some u→(wr.alloc (.cells #[iV y,iV F,iV c,iV d,iV z,iV e5,iV e6,iV e7,iV e8,iV e9,iV G,iV H,iV I,iV J,iV K] 155)).cell? (Addr.add (iA wr.heap.size 0) j)=some u):=fun j u hj=>by
    rw[Addr.add_lit,Nat.zero_add];exact fw wr #[iV y,iV F,iV c,iV d,iV z,iV e5,iV e6,iV e7,iV e8,iV e9,iV G,iV H,iV I,iV J,iV K] 155 j u (by simp;exact hj)
   have f:Hd (∀u∈([iV y,iV F,iV c,iV d,iV z,iV e5,iV e6,iV e7,iV e8,iV e9,iV G,iV H,iV I,iV J,iV K]:List Value),∃x,u=iV x):=fun u O=>by
    simp at O;rcases O with rfl|rfl|rfl|rfl|rfl|rfl|rfl|rfl|rfl|rfl|rfl|rfl|rfl|rfl|rfl<;>exact⟨_,rfl⟩
   have n:Hd (k+1≤maxLen∧(k+1)* 120≤140737488355328):=⟨by unfold maxLen;omega,by omega⟩;have A5:Hd (∀o,w.heap.size≤(wr.alloc o).heap.size):=fun o=>by simp;omega
   have A2:=L.lt;go_wp2_with(at_builtin;refine wpList_append_own _ rfl _ _ 112 rfl w.heap.size 155 i0 _ 15 120 underlying112 E.1 E.2.1 E.2.2.1 E.2.2.2 rfl (by decide) _ _ _ rfl (A6 _) (iA wr.heap.size 0) 1 1 [iV y,iV F,iV c,iV d,iV z,iV e5,iV e6,iV e7,iV e8,iV e9,iV G,iV H,iV I,iV J,iV K] rfl rfl A4 (pV f) n.1 n.2 (A5 _) ?_);intro v' w3 M N _;have A7:Bw w w3:=(fu R _).grown N (by simp;omega) (fun q hq=>(A2 q hq).1);have A8:SR w.heap.size w3 v' (k+1):=⟨_,M,fun u O=>by
    rcases List.mem_append.1 O with O|O
    ·exact s.2 u O
    exact f u O⟩
   obtain⟨D,cap',rfl⟩:∃D cap',v'=sL D (k+1) cap':=by
    rcases M.2 with⟨_,h⟩|⟨g,T,C6,h,_⟩
    ·omega
    exact⟨g,T,h⟩
   have t:Hd (SR w.heap.size w3 (sL D (k+1) cap') (k+1)∧Bw w w3):=⟨A8,A7⟩;have Cy:wrap64 ((k:Int)+1 - 1)=(k:Int):=by unfold wrap64;omega
   go_wp2_with fail;go_loopw [5] (fun i wr2=> ∃q:Nat,i=iV q∧q≤k∧SR w.heap.size wr2 (sL D (k+1) cap') (k+1)∧Bw w wr2) (fun i _=>(intOf i).toNat)
   case atStart=>exact⟨k,rfl,Nat.le_refl _,t.1,t.2⟩
   case round=>
    obtain⟨q,rfl,hq,b,A9⟩:=hrel;have C:Hd (SR w.heap.size wr (sL D (k+1) cap') (k+1)∧Bw w wr):=⟨b,A9⟩;have hB:jm wr D 155 ((k+1)* 15):=by
     rcases b.shape with⟨e,-⟩|⟨g2,An,e,_,A1⟩
     ·cases e
     injection e with F c d;injection F with F;injection F with F;subst F;exact A1
    have Aa:w.heap.size≤D:=(b.lt D rfl).1;rcases q with _|q
    ·go_wp2_with fail;go_quiet (fail);go_wp2;go_roundw
     case rel=>exact⟨k+1,by go_num,by omega,C.1.drewN nq,⟨C.2.os,C.2.tape,C.2.output,C.2.size,C.2.block⟩⟩
     case measure=>simp[intOf];omega
    have Cw:(q:Int)+1<(k:Int)+1:=by omega
    have Cx:(q:Int)<(k:Int)+1:=by omega
    have Cv:(0:Int)<(q:Int)+1:=by omega
    have Cz:IntKind.i64.wrap ((q:Int)+1 - 1)=(q:Int):=by simp only[IntKind.wrap,IntKind.bits,IntKind.signed];simp;omega
    have D0:wrap64 ((q:Int)+1 - 1)=(q:Int):=by unfold wrap64;omega
    obtain⟨a0,S⟩:=hB.cell ((q+1)* 15+0) (by omega);have V:=hB.dz ((q+1)* 15+0);obtain⟨b0,U⟩:=hB.cell (q*15+0) (by omega);have X:=hB.dz (q*15+0);rw[Nat.add_zero]at S U V X;have A3:=hid hB;by_cases B3:a0<b0
    ·go_wp2_with fail;go_quiet (fail);replace C:Hd (SR w.heap.size (wr.drewN nq) (sL D (k+1) cap') (k+1)∧Bw w (wr.drewN nq)):=⟨C.1.drewN nq,⟨C.2.os,C.2.tape,C.2.output,C.2.size,C.2.block⟩⟩;have hB:jm (wr.drewN nq) D 155 ((k+1)* 15):=A3;generalize wr.drewN nq=W at *;obtain⟨a0,S⟩:=hB.cell ((q+1)* 15+0) (by omega);have V:=hB.dz ((q+1)* 15+0);obtain⟨a1,Bn⟩:=hB.cell ((q+1)* 15+1) (by omega);have C7:=hB.dz ((q+1)* 15+1);obtain⟨a2,Bo⟩:=hB.cell ((q+1)* 15+2) (by omega);have C8:=hB.dz ((q+1)* 15+2);obtain⟨a3,Bp⟩:=hB.cell ((q+1)* 15+3) (by omega);have C9:=hB.dz ((q+1)* 15+3);obtain⟨a4,Bq⟩:=hB.cell ((q+1)* 15+4) (by omega);have Ca:=hB.dz ((q+1)* 15+4);obtain⟨a5,Br⟩:=hB.cell ((q+1)* 15+5) (by omega);have Cb:=hB.dz ((q+1)* 15+5);obtain⟨a6,Bs⟩:=hB.cell ((q+1)* 15+6) (by omega);have Cc:=hB.dz ((q+1)* 15+6);obtain⟨a7,Bt⟩:=hB.cell ((q+1)* 15+7) (by omega);have Cd:=hB.dz ((q+1)* 15+7)
     obtain⟨a8,Bu⟩:=hB.cell ((q+1)* 15+8) (by omega);have Ce:=hB.dz ((q+1)* 15+8);obtain⟨a9,Bv⟩:=hB.cell ((q+1)* 15+9) (by omega);have Cf:=hB.dz ((q+1)* 15+9);obtain⟨B7,Ai⟩:=hB.cell ((q+1)* 15+10) (by omega);have At:=hB.dz ((q+1)* 15+10);obtain⟨B8,Aj⟩:=hB.cell ((q+1)* 15+11) (by omega);have Au:=hB.dz ((q+1)* 15+11);obtain⟨B9,Ak⟩:=hB.cell ((q+1)* 15+12) (by omega);have Av:=hB.dz ((q+1)* 15+12);obtain⟨Ba,Al⟩:=hB.cell ((q+1)* 15+13) (by omega);have Aw:=hB.dz ((q+1)* 15+13);obtain⟨Bb,Am⟩:=hB.cell ((q+1)* 15+14) (by omega);have Ax:=hB.dz ((q+1)* 15+14);obtain⟨Bc,U⟩:=hB.cell (q*15+0) (by omega);have X:=hB.dz (q*15+0);obtain⟨b1,Bx⟩:=hB.cell (q*15+1) (by omega);have Cg:=hB.dz (q*15+1);obtain⟨b2,By⟩:=hB.cell (q*15+2) (by omega);have Ch:=hB.dz (q*15+2);obtain⟨b3,Bz⟩:=hB.cell (q*15+3) (by omega);have Ci:=hB.dz (q*15+3);obtain⟨b4,C0⟩:=hB.cell (q*15+4) (by omega);have Cj:=hB.dz (q*15+4)
     obtain⟨b5,C1⟩:=hB.cell (q*15+5) (by omega);have Ck:=hB.dz (q*15+5);obtain⟨b6,C2⟩:=hB.cell (q*15+6) (by omega);have Cm:=hB.dz (q*15+6);obtain⟨b7,C3⟩:=hB.cell (q*15+7) (by omega);have Cn:=hB.dz (q*15+7);obtain⟨b8,C4⟩:=hB.cell (q*15+8) (by omega);have Co:=hB.dz (q*15+8);obtain⟨b9,C5⟩:=hB.cell (q*15+9) (by omega);have Cp:=hB.dz (q*15+9);obtain⟨Bd,Ao⟩:=hB.cell (q*15+10) (by omega);have Ay:=hB.dz (q*15+10);obtain⟨Be,Ap⟩:=hB.cell (q*15+11) (by omega);have Az:=hB.dz (q*15+11);obtain⟨Bf,Aq⟩:=hB.cell (q*15+12) (by omega);have B0:=hB.dz (q*15+12);obtain⟨Bg,Ar⟩:=hB.cell (q*15+13) (by omega);have B1:=hB.dz (q*15+13);obtain⟨Bh,As⟩:=hB.cell (q*15+14) (by omega);have B2:=hB.dz (q*15+14);rw[Nat.add_zero]at S V U X;have A0:D < W.heap.size:=hB.lt;have Ab:D≠W.heap.size:=Nat.ne_of_lt A0;have B4:∀o j,(W.alloc o).cell? (iA D j)=W.cell? (iA D j):=fun o j=>World.cell?_alloc_lt _ _ _ A0
     have B5:∀o j,(W.alloc o).frozen? (iA D j)=W.frozen? (iA D j):=fun o j=>World.frozen?_alloc_old _ _ _ Ab
     go_wp2;go_roundw
     case rel=>
      refine⟨q,by go_num,by omega,?_,?_⟩
      ·refine SR.below ?_ (gu _);iterate 30 (refine SR.set ?_ _ _ _)
       exact C.1
      refine fu ?_ _;iterate 30 (refine Below.setCell ?_ Aa _)
      exact C.2
     case measure=>simp[intOf]
    go_wp2_with fail;go_quiet (fail);go_wp2;go_roundw
    case rel=>exact⟨k+1,by go_num,by omega,C.1.drewN nq,⟨C.2.os,C.2.tape,C.2.output,C.2.size,C.2.block⟩⟩
    case measure=>simp[intOf];omega
  have Ct:¬(k:Int)<(m:Int):=by omega
  have Ad:k=m:=by omega
  subst Ad;go_wp2;go_ret;exact⟨_,rfl,HL,R⟩
end
end Go.Proofs.YtehmdohpmpbnnaaGreatDoor
