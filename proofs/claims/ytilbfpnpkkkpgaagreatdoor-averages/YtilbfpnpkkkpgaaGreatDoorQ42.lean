import Derived.Test.YtilbfpnpkkkpgaaGreatDoorQ00
import Derived.Test.YtilbfpnpkkkpgaaGreatDoorQ13
import Derived.Test.YtilbfpnpkkkpgaaGreatDoorQ36
import Derived.Test.YtilbfpnpkkkpgaaGreatDoorQ38
import Derived.Test.YtilbfpnpkkkpgaaGreatDoorQ39
import Derived.Test.YtilbfpnpkkkpgaaGreatDoorQ41
import Derived.Deep.AppendLies
import Derived.Deep.RegionHeld3
set_option linter.all false
set_option maxRecDepth 100000
set_option maxHeartbeats 8000000
namespace Go.Proofs.YtilbfpnpkkkpgaaGreatDoor
variable{w w0:World}{base m:Nat}{v:Value}
section
open Go.Extern Go.RowKit
abbrev nineC(v:Nat→Int):Array Value:=#[iV (v 0),iV (v 1),iV (v 2),iV (v 3),iV (v 4),iV (v 5),iV (v 6),iV (v 7),iV (v 8)]
abbrev tenC(k:Int)(v:Nat→Int):Array Value:=#[iV k,iV (v 0),iV (v 1),iV (v 2),iV (v 3),iV (v 4),iV (v 5),iV (v 6),iV (v 7),iV (v 8)]
theorem zQk{n:Nat}{ws:List ByteArray}{left:Int}(h:St w0 w n ws left)(hn:n≤100000000)(hl:0<left)(ad:Nat→Addr)(st:Nat→ByteArray)(hE:Errs w ad st)(hW:Wids w)(a b d:Int)(s:ByteArray)(v:Nat→Int)(ha:I64 a):
 Cl 34 #[iP w0.heap.size,opV 9 a b d s v] w fun e w'=>e=rB true∧Next w0 w' n:=by
 have hsum:=h.sum;have hz1:=zAc ws a;have HS:Hid (St w0 (w.alloc (.cells (opC 9 a b d s v) 79)) n ws left):=h.below (zA0 _);have HE:Hid (Errs (w.alloc (.cells (opC 9 a b d s v) 79)) ad st):=hE.below (zA0 _);have HW:Hid (Wids (w.alloc (.cells (opC 9 a b d s v) 79))):=hW.below (zA0 _);go_enter Tryz.func34,Tryz.ntmps34;go_wp2_with fail;refine(HS.word a (by omega) ha.1 ha.2).mono ?_;rintro e w1 ⟨rfl,m,rfl⟩;generalize hta:wordAt ws a=ta at *;have HS1:Hid (St w0 ((w.alloc (.cells (opC 9 a b d s v) 79)).drewN m) n ws left):=HS.drewN m;have HE1:Hid (Errs ((w.alloc (.cells (opC 9 a b d s v) 79)).drewN m) ad st):=HE.below ⟨rfl,rfl,rfl,Nat.le_refl _,fun _ _=>rfl⟩;have HW1:Hid (Wids ((w.alloc (.cells (opC 9 a b d s v) 79)).drewN m)):=HW.below ⟨rfl,rfl,rfl,Nat.le_refl _,fun _ _=>rfl⟩;go_wp2_with fail;refine(zPn ad st ta _ HE1 HW1 (by omega)).mono ?_;rintro e w2 ⟨rfl,hb2⟩
 have HS2:Hid (St w0 w2 n ws left):=HS1.below hb2;have hRN:=fun W=>zF9 ta W (by omega)
 obtain⟨K,hK⟩: ∃K,nextK ta=K:=⟨_,rfl⟩;obtain⟨V,hV⟩: ∃V,nextV ta=V:=⟨_,rfl⟩;obtain⟨Bn,hBn⟩: ∃Bn,nextB ta=Bn:=⟨_,rfl⟩;obtain⟨M,hM⟩: ∃M,nextM ta=M:=⟨_,rfl⟩;obtain⟨E,hEq⟩: ∃E,nextE ta=E:=⟨_,rfl⟩;simp only[hK,hV,hM,hEq]at hRN;have HRN:Hid (∀W,Cl 70 #[.string ta] W fun e w'=>e=rV #[cmdV K V,iV M,iV E]∧Bw W w'):=hRN;have HF:Hid ((E≠0→Bn=0∧K=0∧V=fun _=>0)∧(E=0→Bn=M)):=by
  refine⟨fun q=>⟨?_,?_,?_⟩,fun q=>?_⟩
  ·rw[←hBn,nextB,hEq,if_neg q]
  ·rw[←hK,nextK,hEq,if_neg q]
  ·rw[←hV,nextV,hEq,if_neg q]
  ·rw[←hBn,nextB,hEq,if_pos q,hM]
 rw[hK,hV,hBn,hEq];go_wp2_with fail;refine(HRN _).mono ?_;rintro e w3 ⟨rfl,hb3⟩;have HS3:Hid (St w0 w3 n ws left):=(HS2.below (zA0 (.cells (nineC V) 33))).below hb3;have hcell: ∀j u,(nineC V)[j]? =some u→w3.cell? (iA w2.heap.size j)=some u:=fun j u hj=>(hb3.cell (p:=(iA w2.heap.size j)) (by simp)).trans (zA w2 _ _ j u hj)
 have c0:=hcell 0 _ rfl;have c1:=hcell 1 _ rfl;have c2:=hcell 2 _ rfl;have c3:=hcell 3 _ rfl;have c4:=hcell 4 _ rfl;have c5:=hcell 5 _ rfl;have c6:=hcell 6 _ rfl;have c7:=hcell 7 _ rfl;have c8:=hcell 8 _ rfl;have hs3:w2.heap.size<w3.heap.size:=by have:=hb3.size;simp at this;omega
 have hold: ∀o j,(w3.alloc o).cell? (iA w2.heap.size j)=w3.cell? (iA w2.heap.size j):=fun o j=>World.cell?_alloc_lt _ _ _ hs3
 have HFIN:Hid (∀o,Next w0 (w3.alloc o) n):=fun o=>(HS3.below (zA0 o)).next
 have heq:=fun W=>eq9 V W
 have hgd:=Tryz.arrGuard;by_cases hE0:E=0
 ·obtain rfl:=HF.out.2 hE0;subst hE0;go_wp2;go_ret;exact⟨rfl,HFIN _⟩
 ·obtain⟨rfl,rfl,rfl⟩:=HF.out.1 hE0;have hq:(E == 0)=false:=beq_eq_false_iff_ne.2 hE0;go_wp2;go_ret;exact⟨rfl,HFIN _⟩
end
section
open Go.Extern Go.Maps Go.RowKit
section
variable {tag:Nat→Tag} {ps:List Duo} {w0 w:World} {n:Nat} {ws:List ByteArray} {left:Int}
theorem zQl(h:StT tag ps w0 w n ws left)(hall: ∀p∈ps,p.all.size≤sizes ws)(hl:0<left){gd cap:Nat}(hc5:w.cell? (iA w0.heap.size 5)=some (sL gd ps.length cap)){i:Nat}{p:Duo}(hp:ps[i]? =some p)(a b d:Int)(s:ByteArray)(v:Nat→Int):
 Cl 36 #[iP w0.heap.size,.pointer (some (iA gd (i*3))),opV 14 a b d s v] w fun e w'=>e=rB true∧Next w0 w' n∧(∀(k:Nat) (cur:Array Value),tag k=.own→w.heap[k]? =some (.cells cur 79 (0,0))→w'.heap[k]? =some (.cells cur 79 (0,0)))∧w'.cell? (iA w0.heap.size 5)=w.cell? (iA w0.heap.size 5):=by
 have HOP:Hid (∀W',Below (w.alloc (.cells (opC 14 a b d s v) 79)).heap.size (w.alloc (.cells (opC 14 a b d s v) 79)) W'→(∀(k:Nat) (cur:Array Value),tag k=.own→w.heap[k]? =some (.cells cur 79 (0,0))→W'.heap[k]? =some (.cells cur 79 (0,0)))∧W'.cell? (iA w0.heap.size 5)=w.cell? (iA w0.heap.size 5)):=fun W' hb=>by
  have hb2:=(zA0 (w:=w) (.cells (opC 14 a b d s v) 79)).trans (hb.mono (by simp));exact⟨fun k cur _ h9=>OpK.below hb2 k cur h9,World.cell?_of_block (a:=(iA w0.heap.size 5)) (hb2.block _ h.lt)⟩
 have hsum:=h.sum;have hpall:=hall p (List.mem_of_getElem? hp);have h':=h.below (zA0 (w:=w) (.cells (opC 14 a b d s v) 79));have hc5':=h.cell5 (zA0 (w:=w) (.cells (opC 14 a b d s v) 79)) hc5;have hd:=h'.duos i p hp;obtain⟨c0,c1,c2⟩:=(h'.row hc5').2.2.2.2 i p hp;have hg:=hd.good;obtain⟨V,hV⟩:=Int.eq_ofNat_of_zero_le hg.v0;obtain⟨W,hW⟩:=Int.eq_ofNat_of_zero_le (Int.le_trans hg.v0 hg.w0);have hseq:p.e.seq≤100000:=by have:=hg.told;omega
 have hb1:W<4611686018427387904:=by have:=hg.w1;omega
 have hb2:V<4611686018427387904:=by have:=hg.v1;omega
 have hb3:0<V→0<W:=by have:=hg.w0;omega
 obtain⟨r,hr,hrr,hr32⟩:=zP7 (e:=p.e.hush) hV hW hb1 hb2 hb3;have HSN:Hid (∀W',Same (w.alloc (.cells (opC 14 a b d s v) 79)) W'→Next w0 W' n∧W'.cell? (iA gd (i*3+1))=some (iP p.db)∧Hid (Cl 81 #[iP p.db] W' fun en w'=>en=.returned (iV (r:Int))∧w'=W')):=fun W' hs=>by
  have hbw:Below (w.alloc (.cells (opC 14 a b d s v) 79)).heap.size (w.alloc (.cells (opC 14 a b d s v) 79)) W':=⟨hs.os,hs.tape,hs.output,by rw[hs.heap];exact Nat.le_refl _,fun k _=>by rw[hs.heap]⟩;refine⟨St.next ⟨tag,ps,h'.below hbw,hall⟩,?_,?_⟩
  ·rw[World.cell?_of_block (a:=(iA gd (i*3+1))) (w:=w.alloc (.cells (opC 14 a b d s v) 79)) (by rw[hs.heap])];exact c1
  ·refine(zNg (hd.doc.below hbw) V W hV hW hb1 hb2 hb3).mono ?_;rintro en w' ⟨rfl,rfl⟩;exact⟨by rw[hrr],rfl⟩
 have HDR:=hid (zNy hd.dsk hd.code hr hr32);go_enter Tryz.func36,Tryz.ntmps36;go_wp2_with fail;refine HDR.mono ?_;rintro en w1 ⟨rfl,hs⟩;obtain⟨hn1,d1,HA⟩:=HSN w1 hs;have HOP1:=hid (HOP w1 ⟨hs.os,hs.tape,hs.output,by rw[hs.heap];exact Nat.le_refl _,fun k _=>by rw[hs.heap]⟩);have HN:=hid hn1;go_wp2_with fail;refine HA.mono ?_;rintro en w2 ⟨rfl,rfl⟩;go_wp2;go_ret;exact⟨rfl,HN,HOP1⟩
end
end
section
open Go.Extern Go.RowKit
theorem Aud.back{gr:Nat}(h:Aud base w0 w v m gr):SR base w v m∧Below base w0 w:=⟨h.row,h.low⟩
theorem zH{B:Nat}{w':World}(h:Below B w w'):Below B w w'.drew:=⟨h.os,h.tape,h.output,h.size,h.block⟩
def TakeBack(base:Nat)(w0:World)(m:Nat)(e:Ending)(w':World):Prop:= ∃v' m' r,e=rV #[v',.bool r]∧m'≤m+1∧SR base w' v' m'∧Below base w0 w'
theorem SR.shape'(h:SR base w v m): ∃p cap,v=.slice p m cap∧(m=0∨∃g,p=some (iA g 0)∧base≤g∧IntBlock w g 229 (m*15)):=by
 rcases h.shape with⟨rfl,rfl⟩|⟨g,cap,rfl,h1,h2⟩
 ·exact⟨_,_,rfl,.inl rfl⟩
 ·exact⟨_,_,rfl,.inr ⟨g,rfl,h1,h2⟩⟩
theorem Tryz.infoStA:(Tryz.prog.info? 229).map (fun i=>(i.size,i.bytes))=some (15,120):=by kernel_rfl
theorem Tryz.zeroStA:(Tryz.prog.info? 229).map (fun i=>i.zero)=some (some (.agg #[iV 0,iV 0,iV 0,iV 0,iV 0,iV 0,iV 0,iV 0,iV 0,iV 0,iV 0,iV 0,iV 0,iV 0,iV 0])):=by kernel_rfl
theorem zQm(base:Nat)(w:World)(v:Value)(m gr:Nat)(h:Aud base w w v m gr)(hb:base≤w.heap.size)(hm:m≤100000000):
 Cl 162 #[v,iP gr] w fun e w'=>TakeBack base w m e w':=by
 obtain⟨i0,hi,hz0,hz1,hz2⟩:=zAa Tryz.infoStA Tryz.zeroStA;have HINF:Hid (Tryz.prog.info? 229=some i0∧i0.zero=some (.agg #[iV 0,iV 0,iV 0,iV 0,iV 0,iV 0,iV 0,iV 0,iV 0,iV 0,iV 0,iV 0,iV 0,iV 0,iV 0])∧i0.size=15∧i0.bytes=120):=⟨hi,hz0,hz1,hz2⟩;obtain⟨r2,cr2⟩:=h.rcd.cell 2 (by omega);obtain⟨r3,cr3⟩:=h.rcd.cell 3 (by omega);obtain⟨r4,cr4⟩:=h.rcd.cell 4 (by omega);obtain⟨r5,cr5⟩:=h.rcd.cell 5 (by omega);obtain⟨r6,cr6⟩:=h.rcd.cell 6 (by omega);have hgr:=h.rcd.lt;have HA:Hid (Aud base w w v m gr):=h;obtain⟨p,cap,rfl,hp⟩:=h.row.shape';go_enter Tryz.func162,Tryz.ntmps162;go_wp2;go_loopw [6] (fun i wr=> ∃k j:Nat,i=iV k∧k≤m∧wr=w.drewN j) (fun i _=>m - (intOf i).toNat)
 case atStart=>exact⟨0,0,rfl,Nat.zero_le _,rfl⟩
 case round=>
  obtain⟨k,j,rfl,hk,rfl⟩:=hrel;replace HA:Hid (Aud base w (w.drewN j) (.slice p m cap) m gr):=HA.drewN j;replace cr2:(w.drewN j).cell? (iA gr 2)=sI r2:=cr2;replace cr3:(w.drewN j).cell? (iA gr 3)=sI r3:=cr3;replace cr4:(w.drewN j).cell? (iA gr 4)=sI r4:=cr4;replace cr5:(w.drewN j).cell? (iA gr 5)=sI r5:=cr5;replace cr6:(w.drewN j).cell? (iA gr 6)=sI r6:=cr6;have hsz:(w.drewN j).heap.size=w.heap.size:=rfl;have HW:Hid (∃a,w.drewN j=w.drewN a):=⟨j,rfl⟩;have hp':m=0∨∃g,p=some (iA g 0)∧base≤g∧IntBlock (w.drewN j) g 229 (m*15):=hp;generalize w.drewN j=W at *;by_cases hlt:k<m
  ·have hkI:(k:Int)<(m:Int):=by omega
   obtain⟨g,rfl,hg,hib⟩:=hp'.resolve_left (by omega);obtain⟨x0,c0⟩:=hib.cell (k*15) (by omega);go_wp2_with fail;cases e0:(x0 == r2)
   ·go_quiet (fail);go_wp2;go_roundw
    case rel=>
     obtain⟨a,ha⟩:=HW;exact⟨k+1,a+nq,by go_num,by omega,by rw[ha,zB2]⟩
    case measure=>simp[intOf];omega
   ·go_quiet (fail);go_wp2;go_ret2;exact⟨_,_,_,rfl,Nat.le_succ _,(HA.drewN _).back⟩
  ·have hkM: ¬(k:Int)<(m:Int):=by omega
   go_wp2_with fail;cases q1:(r2 == 0)
   case true=>
    go_quiet (fail);go_wp2;go_ret2;exact⟨_,_,_,rfl,Nat.le_succ _,(HA.drewN _).back⟩
   by_cases q2:r3<1
   ·go_quiet (fail);go_wp2;go_ret2;exact⟨_,_,_,rfl,Nat.le_succ _,(HA.drewN _).back⟩
   by_cases q3:2<r3
   ·go_quiet (fail);go_wp2;go_ret2;exact⟨_,_,_,rfl,Nat.le_succ _,(HA.drewN _).back⟩
   by_cases q4:r6<1
   ·go_quiet (fail);go_wp2;go_ret2;exact⟨_,_,_,rfl,Nat.le_succ _,(HA.drewN _).back⟩
   by_cases q5:3<r6
   ·go_quiet (fail);go_wp2;go_ret2;exact⟨_,_,_,rfl,Nat.le_succ _,(HA.drewN _).back⟩
   cases q6:(r5 == 0)
   case true=>
    go_quiet (fail);go_wp2;go_ret2;exact⟨_,_,_,rfl,Nat.le_succ _,(HA.drewN _).back⟩
   cases q7:(r6 == 3)
   ·cases q8:(r4 == 0)
    ·go_quiet (fail);go_wp2_with fail;replace HA:Hid (Aud base w (W.drewN nq) (.slice p m cap) m gr):=HA.drewN nq;have d2:(W.drewN nq).cell? (iA gr 2)=sI r2:=cr2;have d3:(W.drewN nq).cell? (iA gr 3)=sI r3:=cr3;have d4:(W.drewN nq).cell? (iA gr 4)=sI r4:=cr4;have d5:(W.drewN nq).cell? (iA gr 5)=sI r5:=cr5;have d6:(W.drewN nq).cell? (iA gr 6)=sI r6:=cr6;have hs2:gr<(W.drewN nq).heap.size:=by show gr<W.heap.size;omega
     have hb2:base≤(W.drewN nq).heap.size:=by show base≤W.heap.size;omega
     generalize W.drewN nq=W2 at *;obtain⟨xs,hown,hints⟩:=HA.out.row;have HOWN:Hid (W2.ownsRow base 229 15 (.slice p m cap) m xs∧∀u∈xs,∃x,u=iV x):=⟨hown,hints⟩;have hrow:some gr≠(Value.slice p m cap).ownBlock:=fun e=>by
      obtain⟨cur,b1⟩:=zAk hown e.symm;obtain⟨cur',b2,_⟩:=HA.out.rcd;exact absurd (zAg b1 b2) (by decide)
     have HC1:Hid (∀(j:Nat) (u:Value),[iV r2,iV r3,iV r6,iV r5,iV 0,iV 0,iV 0,iV 0,iV 1,iV r4,iV r5,iV 0,iV 0,iV 0,iV 0][j]? =some u→(W2.alloc (.cells #[iV r2,iV r3,iV r6,iV r5,iV 0,iV 0,iV 0,iV 0,iV 1,iV r4,iV r5,iV 0,iV 0,iV 0,iV 0] 229)).drew.cell? (Addr.add (iA W2.heap.size 0) j)=some u):=fun j u hj=>by
      rw[Addr.add_lit,Nat.zero_add];exact zA W2 #[iV r2,iV r3,iV r6,iV r5,iV 0,iV 0,iV 0,iV 0,iV 1,iV r4,iV r5,iV 0,iV 0,iV 0,iV 0] 229 j u (by simp;exact hj)
     have HC2:Hid (∀u∈([iV r2,iV r3,iV r6,iV r5,iV 0,iV 0,iV 0,iV 0,iV 1,iV r4,iV r5,iV 0,iV 0,iV 0,iV 0]:List Value),∃x,u=iV x):=fun u hu=>by
      simp at hu;rcases hu with rfl|rfl|rfl|rfl|rfl|rfl|rfl|rfl|rfl<;>exact⟨_,rfl⟩
     have HC3:Hid (m+1≤maxLen∧(m+1)* 120≤140737488355328∧base≤(W2.alloc (.cells #[iV r2,iV r3,iV r6,iV r5,iV 0,iV 0,iV 0,iV 0,iV 1,iV r4,iV r5,iV 0,iV 0,iV 0,iV 0] 229)).drew.heap.size∧(W2.alloc (.cells #[iV r2,iV r3,iV r6,iV r5,iV 0,iV 0,iV 0,iV 0,iV 1,iV r4,iV r5,iV 0,iV 0,iV 0,iV 0] 229)).drew.heap.size=W2.heap.size+1):=⟨by unfold maxLen;omega,by omega,by show base≤(W2.alloc _).heap.size;simp;omega,by show(W2.alloc _).heap.size=_;simp⟩;have HW2:Hid ((W2.alloc (.cells #[iV r2,iV r3,iV r6,iV r5,iV 0,iV 0,iV 0,iV 0,iV 1,iV r4,iV r5,iV 0,iV 0,iV 0,iV 0] 229)).drew.ownsRow base 229 15 (.slice p m cap) m xs):=zC (World.ownsRow.alloc HOWN.1 _)
     have HNX:Hid (∀(g cap':Nat) (w1:World),w1.ownsRow base 229 15 (sL g (m+1) cap') (m+1) (xs++ [iV r2,iV r3,iV r6,iV r5,iV 0,iV 0,iV 0,iV 0,iV 1,iV r4,iV r5,iV 0,iV 0,iV 0,iV 0])→(W2.alloc (.cells #[iV r2,iV r3,iV r6,iV r5,iV 0,iV 0,iV 0,iV 0,iV 1,iV r4,iV r5,iV 0,iV 0,iV 0,iV 0] 229)).drew.grownBy w1 (Value.slice p m cap).ownBlock→(∀j u,W2.cell? (iA gr j)=some u→w1.cell? (iA gr j)=some u)∧Aud base w w1 (sL g (m+1) cap') (m+1) gr):=fun g cap' w1 hown1 hgrow=>⟨fun j u hj=>(hgrow.cell_far (iA gr j) (by show gr<(W2.alloc _).heap.size;simp;omega) hrow).trans ((World.cell?_alloc_lt W2 _ (iA gr j) hs2).trans hj),⟨⟨_,hown1,fun u hu=>by
      rcases List.mem_append.1 hu with hu|hu
      ·exact HOWN.2 u hu
      ·exact HC2 u hu⟩,(HA.rcd.alloc _).of_block (hgrow.block gr (by show gr<(W2.alloc _).heap.size;simp;omega) hrow),(zH (HA.low.alloc hb2 _)).grown (B:=base) hgrow HC3.2.2.1 (fun q hq=>(HOWN.1.lt q hq).1)⟩⟩
     go_region_held3(fun X=>X.cell? (iA gr 2)=sI r2∧X.cell? (iA gr 3)=sI r3∧X.cell? (iA gr 4)=sI r4∧X.cell? (iA gr 5)=sI r5∧X.cell? (iA gr 6)=sI r6) (first
      |exact⟨d2,d3,d4,d5,d6⟩
      |exact⟨(World.cell?_alloc_lt _ _ _ hs2).trans d2,(World.cell?_alloc_lt _ _ _ hs2).trans d3,(World.cell?_alloc_lt _ _ _ hs2).trans d4,(World.cell?_alloc_lt _ _ _ hs2).trans d5,(World.cell?_alloc_lt _ _ _ hs2).trans d6⟩
      |exact⟨hW1 2 _ d2,hW1 3 _ d3,hW1 4 _ d4,hW1 5 _ d5,hW1 6 _ d6⟩) ((
      refine step_append_lies _ (by rfl) _ _ 169 (by rfl) base 229 i0 _ 15 120 Tryz.underlying169 HINF.1 HINF.2.1 HINF.2.2.1 HINF.2.2.2 rfl (by decide) (.slice p m cap) m xs (by rfl) HW2 (iA W2.heap.size 0) 1 1 [iV r2,iV r3,iV r6,iV r5,iV 0,iV 0,iV 0,iV 0,iV 1,iV r4,iV r5,iV 0,iV 0,iV 0,iV 0] (by rfl) rfl HC1 (zEd HC2) (by decide) HC3.1 HC3.2.1 HC3.2.2.1 (W2.heap.size+1) HC3.2.2.2 ?_;intro g cap' w1 hown1 hgrow hat hltg;have hW1:=(HNX g cap' w1 hown1 hgrow).1;have HX:Hid (Aud base w w1 (sL g (m+1) cap') (m+1) gr):=(HNX g cap' w1 hown1 hgrow).2;clear hown1 hgrow hat hltg))
     go_wp2;go_ret2;exact⟨_,_,_,rfl,Nat.le_refl _,HX.back⟩
    ·go_quiet (fail);go_wp2;go_ret2;exact⟨_,_,_,rfl,Nat.le_succ _,(HA.drewN _).back⟩
   ·cases q8:(r4 == 0)
    ·go_quiet (fail);go_wp2;go_ret2;exact⟨_,_,_,rfl,Nat.le_succ _,(HA.drewN _).back⟩
    ·go_quiet (fail);go_wp2_with fail;replace HA:Hid (Aud base w (W.drewN nq) (.slice p m cap) m gr):=HA.drewN nq;have d2:(W.drewN nq).cell? (iA gr 2)=sI r2:=cr2;have d3:(W.drewN nq).cell? (iA gr 3)=sI r3:=cr3;have d4:(W.drewN nq).cell? (iA gr 4)=sI r4:=cr4;have d5:(W.drewN nq).cell? (iA gr 5)=sI r5:=cr5;have d6:(W.drewN nq).cell? (iA gr 6)=sI r6:=cr6;have hs2:gr<(W.drewN nq).heap.size:=by show gr<W.heap.size;omega
     have hb2:base≤(W.drewN nq).heap.size:=by show base≤W.heap.size;omega
     generalize W.drewN nq=W2 at *;obtain⟨xs,hown,hints⟩:=HA.out.row;have HOWN:Hid (W2.ownsRow base 229 15 (.slice p m cap) m xs∧∀u∈xs,∃x,u=iV x):=⟨hown,hints⟩;have hrow:some gr≠(Value.slice p m cap).ownBlock:=fun e=>by
      obtain⟨cur,b1⟩:=zAk hown e.symm;obtain⟨cur',b2,_⟩:=HA.out.rcd;exact absurd (zAg b1 b2) (by decide)
     have HC1:Hid (∀(j:Nat) (u:Value),[iV r2,iV r3,iV r6,iV r5,iV 0,iV 0,iV 0,iV 0,iV 1,iV r4,iV r5,iV 0,iV 0,iV 0,iV 0][j]? =some u→(W2.alloc (.cells #[iV r2,iV r3,iV r6,iV r5,iV 0,iV 0,iV 0,iV 0,iV 1,iV r4,iV r5,iV 0,iV 0,iV 0,iV 0] 229)).drew.cell? (Addr.add (iA W2.heap.size 0) j)=some u):=fun j u hj=>by
      rw[Addr.add_lit,Nat.zero_add];exact zA W2 #[iV r2,iV r3,iV r6,iV r5,iV 0,iV 0,iV 0,iV 0,iV 1,iV r4,iV r5,iV 0,iV 0,iV 0,iV 0] 229 j u (by simp;exact hj)
     have HC2:Hid (∀u∈([iV r2,iV r3,iV r6,iV r5,iV 0,iV 0,iV 0,iV 0,iV 1,iV r4,iV r5,iV 0,iV 0,iV 0,iV 0]:List Value),∃x,u=iV x):=fun u hu=>by
      simp at hu;rcases hu with rfl|rfl|rfl|rfl|rfl|rfl|rfl|rfl|rfl<;>exact⟨_,rfl⟩
     have HC3:Hid (m+1≤maxLen∧(m+1)* 120≤140737488355328∧base≤(W2.alloc (.cells #[iV r2,iV r3,iV r6,iV r5,iV 0,iV 0,iV 0,iV 0,iV 1,iV r4,iV r5,iV 0,iV 0,iV 0,iV 0] 229)).drew.heap.size∧(W2.alloc (.cells #[iV r2,iV r3,iV r6,iV r5,iV 0,iV 0,iV 0,iV 0,iV 1,iV r4,iV r5,iV 0,iV 0,iV 0,iV 0] 229)).drew.heap.size=W2.heap.size+1):=⟨by unfold maxLen;omega,by omega,by show base≤(W2.alloc _).heap.size;simp;omega,by show(W2.alloc _).heap.size=_;simp⟩;have HW2:Hid ((W2.alloc (.cells #[iV r2,iV r3,iV r6,iV r5,iV 0,iV 0,iV 0,iV 0,iV 1,iV r4,iV r5,iV 0,iV 0,iV 0,iV 0] 229)).drew.ownsRow base 229 15 (.slice p m cap) m xs):=zC (World.ownsRow.alloc HOWN.1 _)
     have HNX:Hid (∀(g cap':Nat) (w1:World),w1.ownsRow base 229 15 (sL g (m+1) cap') (m+1) (xs++ [iV r2,iV r3,iV r6,iV r5,iV 0,iV 0,iV 0,iV 0,iV 1,iV r4,iV r5,iV 0,iV 0,iV 0,iV 0])→(W2.alloc (.cells #[iV r2,iV r3,iV r6,iV r5,iV 0,iV 0,iV 0,iV 0,iV 1,iV r4,iV r5,iV 0,iV 0,iV 0,iV 0] 229)).drew.grownBy w1 (Value.slice p m cap).ownBlock→(∀j u,W2.cell? (iA gr j)=some u→w1.cell? (iA gr j)=some u)∧Aud base w w1 (sL g (m+1) cap') (m+1) gr):=fun g cap' w1 hown1 hgrow=>⟨fun j u hj=>(hgrow.cell_far (iA gr j) (by show gr<(W2.alloc _).heap.size;simp;omega) hrow).trans ((World.cell?_alloc_lt W2 _ (iA gr j) hs2).trans hj),⟨⟨_,hown1,fun u hu=>by
      rcases List.mem_append.1 hu with hu|hu
      ·exact HOWN.2 u hu
      ·exact HC2 u hu⟩,(HA.rcd.alloc _).of_block (hgrow.block gr (by show gr<(W2.alloc _).heap.size;simp;omega) hrow),(zH (HA.low.alloc hb2 _)).grown (B:=base) hgrow HC3.2.2.1 (fun q hq=>(HOWN.1.lt q hq).1)⟩⟩
     go_region_held3(fun X=>X.cell? (iA gr 2)=sI r2∧X.cell? (iA gr 3)=sI r3∧X.cell? (iA gr 4)=sI r4∧X.cell? (iA gr 5)=sI r5∧X.cell? (iA gr 6)=sI r6) (first
      |exact⟨d2,d3,d4,d5,d6⟩
      |exact⟨(World.cell?_alloc_lt _ _ _ hs2).trans d2,(World.cell?_alloc_lt _ _ _ hs2).trans d3,(World.cell?_alloc_lt _ _ _ hs2).trans d4,(World.cell?_alloc_lt _ _ _ hs2).trans d5,(World.cell?_alloc_lt _ _ _ hs2).trans d6⟩
      |exact⟨hW1 2 _ d2,hW1 3 _ d3,hW1 4 _ d4,hW1 5 _ d5,hW1 6 _ d6⟩) ((
      refine step_append_lies _ (by rfl) _ _ 169 (by rfl) base 229 i0 _ 15 120 Tryz.underlying169 HINF.1 HINF.2.1 HINF.2.2.1 HINF.2.2.2 rfl (by decide) (.slice p m cap) m xs (by rfl) HW2 (iA W2.heap.size 0) 1 1 [iV r2,iV r3,iV r6,iV r5,iV 0,iV 0,iV 0,iV 0,iV 1,iV r4,iV r5,iV 0,iV 0,iV 0,iV 0] (by rfl) rfl HC1 (zEd HC2) (by decide) HC3.1 HC3.2.1 HC3.2.2.1 (W2.heap.size+1) HC3.2.2.2 ?_;intro g cap' w1 hown1 hgrow hat hltg;have hW1:=(HNX g cap' w1 hown1 hgrow).1;have HX:Hid (Aud base w w1 (sL g (m+1) cap') (m+1) gr):=(HNX g cap' w1 hown1 hgrow).2;clear hown1 hgrow hat hltg))
     go_wp2;go_ret2;exact⟨_,_,_,rfl,Nat.le_refl _,HX.back⟩
theorem SomeBool.of{e:Ending}{r:Bool}(h:e=rB r):SomeBool e:=⟨r,h⟩
theorem zQn(base:Nat)(w:World)(v:Value)(m gr:Nat)(h:Aud base w w v m gr)(hb:base≤w.heap.size)(hm:m≤100000000)(h0:w.cell? (iA gr 0)=sI 1):
 Cl 147 #[v,iP gr] w fun e w'=>TakeBack base w m e w':=by
 obtain⟨p,cap,rfl,-⟩:=h.row.shape';have HA:=hid h;have HC:=hid (zQm base w _ m gr h hb hm);go_enter Tryz.func147,Tryz.ntmps147;go_wp2_with fail;refine HC.mono ?_;rintro e w1 ⟨v',m',r,rfl,h1,h2,h3⟩;have HX:Hid (m'≤m+1∧SR base w1 v' m'∧Below base w w1):=⟨h1,h2,h3⟩;go_wp2;go_ret2;exact⟨_,_,_,rfl,HX.1,HX.2⟩
theorem zQo(base:Nat)(w:World)(v:Value)(m gr:Nat)(h:Aud base w w v m gr)(hb:base≤w.heap.size)(hm:m≤100000000)(h0:w.cell? (iA gr 0)=sI 2):
 Cl 147 #[v,iP gr] w fun e w'=>TakeBack base w m e w':=by
 obtain⟨p,cap,rfl,-⟩:=h.row.shape';have HA:=hid h;obtain⟨r3,cr3⟩:=h.rcd.cell 3 (by omega);obtain⟨r4,cr4⟩:=h.rcd.cell 4 (by omega);obtain⟨r5,cr5⟩:=h.rcd.cell 5 (by omega);obtain⟨r6,cr6⟩:=h.rcd.cell 6 (by omega);go_enter Tryz.func147,Tryz.ntmps147;go_wp2_with fail;cases q1:(r3 == 0)
 case false=>
  go_quiet (fail);go_wp2;go_ret2;exact⟨_,_,_,rfl,Nat.le_succ _,(HA.drewN _).back⟩
 cases q2:(r4 == 0)
 case false=>
  go_quiet (fail);go_wp2;go_ret2;exact⟨_,_,_,rfl,Nat.le_succ _,(HA.drewN _).back⟩
 cases q3:(r5 == 0)
 case false=>
  go_quiet (fail);go_wp2;go_ret2;exact⟨_,_,_,rfl,Nat.le_succ _,(HA.drewN _).back⟩
 by_cases q4:1≤r6
 ·by_cases q5:r6≤10
  ·go_quiet (fail);go_wp2;go_ret2;exact⟨_,_,_,rfl,Nat.le_succ _,(HA.drewN _).back⟩
  ·go_quiet (fail);go_wp2;go_ret2;exact⟨_,_,_,rfl,Nat.le_succ _,(HA.drewN _).back⟩
 ·go_quiet (fail);go_wp2;go_ret2;exact⟨_,_,_,rfl,Nat.le_succ _,(HA.drewN _).back⟩
theorem zQp(base:Nat)(w:World)(v:Value)(m gr:Nat)(h:Aud base w w v m gr)(hb:base≤w.heap.size)(hm:m≤100000000)(h0:w.cell? (iA gr 0)=sI 3):
 Cl 147 #[v,iP gr] w fun e w'=>TakeBack base w m e w':=by
 obtain⟨p,cap,rfl,-⟩:=h.row.shape';have HA:=hid h;have HC:=hid (zQi base w _ m gr h.row h.rcd (by omega));go_enter Tryz.func147,Tryz.ntmps147;go_wp2_with fail;refine HC.mono ?_;rintro e w1 ⟨⟨r,rfl⟩,h2⟩;have HX:=hid h2;go_wp2;go_ret2;exact⟨_,_,_,rfl,Nat.le_succ _,HX⟩
theorem zQq(base:Nat)(w:World)(v:Value)(m gr:Nat)(h:Aud base w w v m gr)(hb:base≤w.heap.size)(hm:m≤100000000)(h0:w.cell? (iA gr 0)=sI 4):
 Cl 147 #[v,iP gr] w fun e w'=>TakeBack base w m e w':=by
 obtain⟨p,cap,rfl,-⟩:=h.row.shape';have HA:=hid h;obtain⟨r2,cr2⟩:=h.rcd.cell 2 (by omega);obtain⟨r3,cr3⟩:=h.rcd.cell 3 (by omega);obtain⟨r4,cr4⟩:=h.rcd.cell 4 (by omega);obtain⟨r5,cr5⟩:=h.rcd.cell 5 (by omega);obtain⟨r6,cr6⟩:=h.rcd.cell 6 (by omega);have HL:=hid (zC0 base w _ m r2 h.row (by omega));go_enter Tryz.func147,Tryz.ntmps147;go_wp2_with fail;refine HL.mono ?_;rintro e w1 ⟨h1,rfl⟩;rcases h1 with rfl|⟨i,hi,rfl⟩
 ·go_wp2;go_ret2;exact⟨_,_,_,rfl,Nat.le_succ _,HA.back⟩
 have hi0:decide ((i:Int)<0)=false:=decide_eq_false (by omega);have hiI:(i:Int)<(m:Int):=by omega
 cases e3:(r3 != 0)
 case true=>
  go_wp2;go_ret2;exact⟨_,_,_,rfl,Nat.le_succ _,HA.back⟩
 obtain⟨g,rfl⟩: ∃g,p=some (iA g 0):=by
  rcases HA.out.row.shape with⟨-,e⟩|⟨g,cap',e,_⟩
  ·omega
  ·injection e with e1 e2 e3;exact⟨g,e1⟩
 have hg:=HA.above;obtain⟨o2,c2⟩:=HA.out.block.cell (i*15+2) (by omega);obtain⟨o8,c8⟩:=HA.out.block.cell (i*15+8) (by omega);obtain⟨o9,c9⟩:=HA.out.block.cell (i*15+9) (by omega);obtain⟨o10,c10⟩:=HA.out.block.cell (i*15+10) (by omega);obtain⟨o12,c12⟩:=HA.out.block.cell (i*15+12) (by omega);obtain⟨o13,c13⟩:=HA.out.block.cell (i*15+13) (by omega);have f8:=HA.block.froz (i*15+8);have f9:=HA.block.froz (i*15+9);have f10:=HA.block.froz (i*15+10);have f12:=HA.block.froz (i*15+12);have f13:=HA.block.froz (i*15+13);go_wp2_with fail;cases q1:(r4 != 0)
 case true=>
  go_quiet (fail);go_wp2;go_ret2;refine⟨_,_,_,rfl,Nat.le_succ _,Aud.back (gr:=gr) ?_⟩;repeat(first|exact HA|refine Aud.set ?_ _ _ hg _|refine Aud.drewN ?_ _|refine Aud.drew ?_)
 cases q2:(r5 != o10)
 case true=>
  go_quiet (fail);go_wp2;go_ret2;refine⟨_,_,_,rfl,Nat.le_succ _,Aud.back (gr:=gr) ?_⟩;repeat(first|exact HA|refine Aud.set ?_ _ _ hg _|refine Aud.drewN ?_ _|refine Aud.drew ?_)
 by_cases q3:r6<1
 ·go_quiet (fail);go_wp2;go_ret2;refine⟨_,_,_,rfl,Nat.le_succ _,Aud.back (gr:=gr) ?_⟩;repeat(first|exact HA|refine Aud.set ?_ _ _ hg _|refine Aud.drewN ?_ _|refine Aud.drew ?_)
 by_cases q4:3<r6
 ·go_quiet (fail);go_wp2;go_ret2;refine⟨_,_,_,rfl,Nat.le_succ _,Aud.back (gr:=gr) ?_⟩;repeat(first|exact HA|refine Aud.set ?_ _ _ hg _|refine Aud.drewN ?_ _|refine Aud.drew ?_)
 ·go_quiet (fail);go_wp2;go_ret2;refine⟨_,_,_,rfl,Nat.le_succ _,Aud.back (gr:=gr) ?_⟩;repeat(first|exact HA|refine Aud.set ?_ _ _ hg _|refine Aud.drewN ?_ _|refine Aud.drew ?_)
theorem zQr(base:Nat)(w:World)(v:Value)(m gr:Nat)(h:Aud base w w v m gr)(hb:base≤w.heap.size)(hm:m≤100000000)(h0:w.cell? (iA gr 0)=sI 5):
 Cl 147 #[v,iP gr] w fun e w'=>TakeBack base w m e w':=by
 obtain⟨p,cap,rfl,-⟩:=h.row.shape';have HA:=hid h;obtain⟨r2,cr2⟩:=h.rcd.cell 2 (by omega);obtain⟨r3,cr3⟩:=h.rcd.cell 3 (by omega);obtain⟨r4,cr4⟩:=h.rcd.cell 4 (by omega);obtain⟨r5,cr5⟩:=h.rcd.cell 5 (by omega);obtain⟨r6,cr6⟩:=h.rcd.cell 6 (by omega);have HL:=hid (zC0 base w _ m r2 h.row (by omega));go_enter Tryz.func147,Tryz.ntmps147;go_wp2_with fail;refine HL.mono ?_;rintro e w1 ⟨h1,rfl⟩;rcases h1 with rfl|⟨i,hi,rfl⟩
 ·go_wp2;go_ret2;exact⟨_,_,_,rfl,Nat.le_succ _,HA.back⟩
 have hi0:decide ((i:Int)<0)=false:=decide_eq_false (by omega);have hiI:(i:Int)<(m:Int):=by omega
 cases e3:(r3 != 0)
 case true=>
  go_wp2;go_ret2;exact⟨_,_,_,rfl,Nat.le_succ _,HA.back⟩
 obtain⟨g,rfl⟩: ∃g,p=some (iA g 0):=by
  rcases HA.out.row.shape with⟨-,e⟩|⟨g,cap',e,_⟩
  ·omega
  ·injection e with e1 e2 e3;exact⟨g,e1⟩
 have hg:=HA.above;obtain⟨o2,c2⟩:=HA.out.block.cell (i*15+2) (by omega);obtain⟨o8,c8⟩:=HA.out.block.cell (i*15+8) (by omega);obtain⟨o9,c9⟩:=HA.out.block.cell (i*15+9) (by omega);obtain⟨o10,c10⟩:=HA.out.block.cell (i*15+10) (by omega);obtain⟨o12,c12⟩:=HA.out.block.cell (i*15+12) (by omega);obtain⟨o13,c13⟩:=HA.out.block.cell (i*15+13) (by omega);have f8:=HA.block.froz (i*15+8);have f9:=HA.block.froz (i*15+9);have f10:=HA.block.froz (i*15+10);have f12:=HA.block.froz (i*15+12);have f13:=HA.block.froz (i*15+13);have HC:=hid (zQj base w1 m gr g cap (i*15) HA (by omega));go_wp2_with fail;refine HC.mono ?_;rintro e w2 ⟨⟨r,rfl⟩,h2⟩;have HX:=hid h2;go_wp2;go_ret2;exact⟨_,_,_,rfl,Nat.le_succ _,HX.back⟩
theorem zQs(base:Nat)(w:World)(v:Value)(m gr:Nat)(h:Aud base w w v m gr)(hb:base≤w.heap.size)(hm:m≤100000000)(r0:Int)(h0:w.cell? (iA gr 0)=sI r0)(k1:r0≠1)(k2:r0≠2)(k3:r0≠3)(k4:r0≠4)(k5:r0≠5)(k6:r0≠6)(k7:r0≠7):
 Cl 147 #[v,iP gr] w fun e w'=>TakeBack base w m e w':=by
 obtain⟨p,cap,rfl,-⟩:=h.row.shape';have HA:=hid h;obtain⟨r2,cr2⟩:=h.rcd.cell 2 (by omega);obtain⟨r3,cr3⟩:=h.rcd.cell 3 (by omega);obtain⟨r4,cr4⟩:=h.rcd.cell 4 (by omega);obtain⟨r5,cr5⟩:=h.rcd.cell 5 (by omega);obtain⟨r6,cr6⟩:=h.rcd.cell 6 (by omega);have HL:=hid (zC0 base w _ m r2 h.row (by omega));have n1:=beq_eq_false_iff_ne.2 k1;have n2:=beq_eq_false_iff_ne.2 k2;have n3:=beq_eq_false_iff_ne.2 k3;have n4:=beq_eq_false_iff_ne.2 k4;have n5:=beq_eq_false_iff_ne.2 k5;have n6:=beq_eq_false_iff_ne.2 k6;have n7:=beq_eq_false_iff_ne.2 k7;go_enter Tryz.func147,Tryz.ntmps147;go_wp2_with fail;refine HL.mono ?_;rintro e w1 ⟨h1,rfl⟩;rcases h1 with rfl|⟨i,hi,rfl⟩
 ·go_wp2;go_ret2;exact⟨_,_,_,rfl,Nat.le_succ _,HA.back⟩
 have hi0:decide ((i:Int)<0)=false:=decide_eq_false (by omega);have hiI:(i:Int)<(m:Int):=by omega
 cases e3:(r3 != 0)
 case true=>
  go_wp2;go_ret2;exact⟨_,_,_,rfl,Nat.le_succ _,HA.back⟩
 obtain⟨g,rfl⟩: ∃g,p=some (iA g 0):=by
  rcases HA.out.row.shape with⟨-,e⟩|⟨g,cap',e,_⟩
  ·omega
  ·injection e with e1 e2 e3;exact⟨g,e1⟩
 have hg:=HA.above;obtain⟨o2,c2⟩:=HA.out.block.cell (i*15+2) (by omega);obtain⟨o8,c8⟩:=HA.out.block.cell (i*15+8) (by omega);obtain⟨o9,c9⟩:=HA.out.block.cell (i*15+9) (by omega);obtain⟨o10,c10⟩:=HA.out.block.cell (i*15+10) (by omega);obtain⟨o12,c12⟩:=HA.out.block.cell (i*15+12) (by omega);obtain⟨o13,c13⟩:=HA.out.block.cell (i*15+13) (by omega);have f8:=HA.block.froz (i*15+8);have f9:=HA.block.froz (i*15+9);have f10:=HA.block.froz (i*15+10);have f12:=HA.block.froz (i*15+12);have f13:=HA.block.froz (i*15+13);go_wp2;all_goals
  go_ret2;refine⟨_,_,_,rfl,Nat.le_succ _,Aud.back (gr:=gr) ?_⟩;repeat(first|exact HA|refine Aud.set ?_ _ _ hg _|refine Aud.drewN ?_ _|refine Aud.drew ?_)
theorem zQt(base:Nat)(w:World)(v:Value)(m gr:Nat)(h:Aud base w w v m gr)(hb:base≤w.heap.size)(hm:m≤100000000)(h0:w.cell? (iA gr 0)=sI 7):
 Cl 147 #[v,iP gr] w fun e w'=>TakeBack base w m e w':=by
 obtain⟨p,cap,rfl,-⟩:=h.row.shape';have HA:=hid h;obtain⟨r2,cr2⟩:=h.rcd.cell 2 (by omega);obtain⟨r3,cr3⟩:=h.rcd.cell 3 (by omega);obtain⟨r4,cr4⟩:=h.rcd.cell 4 (by omega);obtain⟨r5,cr5⟩:=h.rcd.cell 5 (by omega);obtain⟨r6,cr6⟩:=h.rcd.cell 6 (by omega);have HL:=hid (zC0 base w _ m r2 h.row (by omega));go_enter Tryz.func147,Tryz.ntmps147;go_wp2_with fail;refine HL.mono ?_;rintro e w1 ⟨h1,rfl⟩;rcases h1 with rfl|⟨i,hi,rfl⟩
 ·go_wp2;go_ret2;exact⟨_,_,_,rfl,Nat.le_succ _,HA.back⟩
 have hi0:decide ((i:Int)<0)=false:=decide_eq_false (by omega);have hiI:(i:Int)<(m:Int):=by omega
 cases e3:(r3 != 0)
 case true=>
  go_wp2;go_ret2;exact⟨_,_,_,rfl,Nat.le_succ _,HA.back⟩
 obtain⟨g,rfl⟩: ∃g,p=some (iA g 0):=by
  rcases HA.out.row.shape with⟨-,e⟩|⟨g,cap',e,_⟩
  ·omega
  ·injection e with e1 e2 e3;exact⟨g,e1⟩
 have hg:=HA.above;obtain⟨o2,c2⟩:=HA.out.block.cell (i*15+2) (by omega);obtain⟨o8,c8⟩:=HA.out.block.cell (i*15+8) (by omega);obtain⟨o9,c9⟩:=HA.out.block.cell (i*15+9) (by omega);obtain⟨o10,c10⟩:=HA.out.block.cell (i*15+10) (by omega);obtain⟨o12,c12⟩:=HA.out.block.cell (i*15+12) (by omega);obtain⟨o13,c13⟩:=HA.out.block.cell (i*15+13) (by omega);have f8:=HA.block.froz (i*15+8);have f9:=HA.block.froz (i*15+9);have f10:=HA.block.froz (i*15+10);have f12:=HA.block.froz (i*15+12);have f13:=HA.block.froz (i*15+13);go_wp2_with fail;cases q1:(o2 == 3)
 case false=>
  go_quiet (fail);go_wp2;go_ret2;refine⟨_,_,_,rfl,Nat.le_succ _,Aud.back (gr:=gr) ?_⟩;repeat(first|exact HA|refine Aud.set ?_ _ _ hg _|refine Aud.drewN ?_ _|refine Aud.drew ?_)
 cases q2:(r6 == 0)
 case false=>
  go_quiet (fail);go_wp2;go_ret2;refine⟨_,_,_,rfl,Nat.le_succ _,Aud.back (gr:=gr) ?_⟩;repeat(first|exact HA|refine Aud.set ?_ _ _ hg _|refine Aud.drewN ?_ _|refine Aud.drew ?_)
 by_cases q3:0<r4
 ·cases q4:(r4 != o9)
  ·go_quiet (fail);go_wp2;go_ret2;refine⟨_,_,_,rfl,Nat.le_succ _,Aud.back (gr:=gr) ?_⟩;repeat(first|exact HA|refine Aud.set ?_ _ _ hg _|refine Aud.drewN ?_ _|refine Aud.drew ?_)
  ·cases q5:(r5 == o10)
   ·go_quiet (fail);go_wp2;go_ret2;refine⟨_,_,_,rfl,Nat.le_succ _,Aud.back (gr:=gr) ?_⟩;repeat(first|exact HA|refine Aud.set ?_ _ _ hg _|refine Aud.drewN ?_ _|refine Aud.drew ?_)
   ·go_quiet (fail);go_wp2;go_ret2;refine⟨_,_,_,rfl,Nat.le_succ _,Aud.back (gr:=gr) ?_⟩;repeat(first|exact HA|refine Aud.set ?_ _ _ hg _|refine Aud.drewN ?_ _|refine Aud.drew ?_)
 ·go_quiet (fail);go_wp2;go_ret2;refine⟨_,_,_,rfl,Nat.le_succ _,Aud.back (gr:=gr) ?_⟩;repeat(first|exact HA|refine Aud.set ?_ _ _ hg _|refine Aud.drewN ?_ _|refine Aud.drew ?_)
theorem zQu(base:Nat)(w:World)(v:Value)(m gr:Nat)(h:Aud base w w v m gr)(hb:base≤w.heap.size)(hm:m≤100000000)(h0:w.cell? (iA gr 0)=sI 6):
 Cl 147 #[v,iP gr] w fun e w'=>TakeBack base w m e w':=by
 obtain⟨p,cap,rfl,-⟩:=h.row.shape';have HA:=hid h;obtain⟨r2,cr2⟩:=h.rcd.cell 2 (by omega);obtain⟨r3,cr3⟩:=h.rcd.cell 3 (by omega);obtain⟨r4,cr4⟩:=h.rcd.cell 4 (by omega);obtain⟨r5,cr5⟩:=h.rcd.cell 5 (by omega);obtain⟨r6,cr6⟩:=h.rcd.cell 6 (by omega);have HL:=hid (zC0 base w _ m r2 h.row (by omega));go_enter Tryz.func147,Tryz.ntmps147;go_wp2_with fail;refine HL.mono ?_;rintro e w1 ⟨h1,rfl⟩;rcases h1 with rfl|⟨i,hi,rfl⟩
 ·go_wp2;go_ret2;exact⟨_,_,_,rfl,Nat.le_succ _,HA.back⟩
 have hi0:decide ((i:Int)<0)=false:=decide_eq_false (by omega);have hiI:(i:Int)<(m:Int):=by omega
 cases e3:(r3 != 0)
 case true=>
  go_wp2;go_ret2;exact⟨_,_,_,rfl,Nat.le_succ _,HA.back⟩
 obtain⟨g,rfl⟩: ∃g,p=some (iA g 0):=by
  rcases HA.out.row.shape with⟨-,e⟩|⟨g,cap',e,_⟩
  ·omega
  ·injection e with e1 e2 e3;exact⟨g,e1⟩
 have hg:=HA.above;obtain⟨o2,c2⟩:=HA.out.block.cell (i*15+2) (by omega);obtain⟨o8,c8⟩:=HA.out.block.cell (i*15+8) (by omega);obtain⟨o9,c9⟩:=HA.out.block.cell (i*15+9) (by omega);obtain⟨o10,c10⟩:=HA.out.block.cell (i*15+10) (by omega);obtain⟨o12,c12⟩:=HA.out.block.cell (i*15+12) (by omega);obtain⟨o13,c13⟩:=HA.out.block.cell (i*15+13) (by omega);have f8:=HA.block.froz (i*15+8);have f9:=HA.block.froz (i*15+9);have f10:=HA.block.froz (i*15+10);have f12:=HA.block.froz (i*15+12);have f13:=HA.block.froz (i*15+13);go_wp2_with fail;cases e1:(r5 == o10)
 ·go_quiet (fail);replace HA:Hid (Aud base w1 (w1.drewN nq) (sL g m cap) m gr):=HA.drewN nq;replace cr5:(w1.drewN nq).cell? (iA gr 5)=sI r5:=cr5;replace c2:(w1.drewN nq).cell? (iA g (i*15+2))=sI o2:=c2;replace c10:(w1.drewN nq).cell? (iA g (i*15+10))=sI o10:=c10;replace c13:(w1.drewN nq).cell? (iA g (i*15+13))=sI o13:=c13;replace f13:(w1.drewN nq).frozen? (iA g (i*15+13))=false:=f13;generalize w1.drewN nq=WA at *;cases t2:(o2 == 2)
  ·go_wp2_with fail;replace HA:Hid (Aud base w1 (WA.setCell (iA g (i*15+13)) (iV r5)) (sL g m cap) m gr):=HA.set _ _ hg _;generalize WA.setCell (iA g (i*15+13)) (iV r5)=WC at *;obtain⟨y4,cy4⟩:=HA.out.rcd.cell 4 (by omega);obtain⟨y6,cy6⟩:=HA.out.rcd.cell 6 (by omega);obtain⟨z9,cz9⟩:=HA.out.block.cell (i*15+9) (by omega);go_quiet (fail);go_wp2;go_ret2;refine⟨_,_,_,rfl,Nat.le_succ _,Aud.back (gr:=gr) ?_⟩;repeat(first|exact HA|refine Aud.set ?_ _ _ hg _|refine Aud.drewN ?_ _|refine Aud.drew ?_)
  ·go_wp2_with fail;by_cases u1:1≤r5
   ·by_cases u2:r5≤o10
    ·go_quiet (fail);replace HA:Hid (Aud base w1 (WA.drewN nq) (sL g m cap) m gr):=HA.drewN nq;replace cr5:(WA.drewN nq).cell? (iA gr 5)=sI r5:=cr5;replace c2:(WA.drewN nq).cell? (iA g (i*15+2))=sI o2:=c2;replace c10:(WA.drewN nq).cell? (iA g (i*15+10))=sI o10:=c10;replace c13:(WA.drewN nq).cell? (iA g (i*15+13))=sI o13:=c13;replace f13:(WA.drewN nq).frozen? (iA g (i*15+13))=false:=f13;generalize WA.drewN nq=WB at *;go_wp2_with fail;replace HA:Hid (Aud base w1 (WB.setCell (iA g (i*15+13)) (iV r5)) (sL g m cap) m gr):=HA.set _ _ hg _;generalize WB.setCell (iA g (i*15+13)) (iV r5)=WC at *;obtain⟨y4,cy4⟩:=HA.out.rcd.cell 4 (by omega);obtain⟨y6,cy6⟩:=HA.out.rcd.cell 6 (by omega);obtain⟨z9,cz9⟩:=HA.out.block.cell (i*15+9) (by omega);cases v1:(y4 == z9)
     case false=>
      go_quiet (fail);go_wp2;go_ret2;refine⟨_,_,_,rfl,Nat.le_succ _,Aud.back (gr:=gr) ?_⟩;repeat(first|exact HA|refine Aud.set ?_ _ _ hg _|refine Aud.drewN ?_ _|refine Aud.drew ?_)
     by_cases v2:0<y4
     ·cases v3:(y6 == 0)
      ·go_quiet (fail);go_wp2;go_ret2;refine⟨_,_,_,rfl,Nat.le_succ _,Aud.back (gr:=gr) ?_⟩;repeat(first|exact HA|refine Aud.set ?_ _ _ hg _|refine Aud.drewN ?_ _|refine Aud.drew ?_)
      ·go_quiet (fail);go_wp2;go_ret2;refine⟨_,_,_,rfl,Nat.le_succ _,Aud.back (gr:=gr) ?_⟩;repeat(first|exact HA|refine Aud.set ?_ _ _ hg _|refine Aud.drewN ?_ _|refine Aud.drew ?_)
     ·go_quiet (fail);go_wp2;go_ret2;refine⟨_,_,_,rfl,Nat.le_succ _,Aud.back (gr:=gr) ?_⟩;repeat(first|exact HA|refine Aud.set ?_ _ _ hg _|refine Aud.drewN ?_ _|refine Aud.drew ?_)
    ·go_quiet (fail);replace HA:Hid (Aud base w1 (WA.drewN nq) (sL g m cap) m gr):=HA.drewN nq;replace cr5:(WA.drewN nq).cell? (iA gr 5)=sI r5:=cr5;replace c2:(WA.drewN nq).cell? (iA g (i*15+2))=sI o2:=c2;replace c10:(WA.drewN nq).cell? (iA g (i*15+10))=sI o10:=c10;replace c13:(WA.drewN nq).cell? (iA g (i*15+13))=sI o13:=c13;replace f13:(WA.drewN nq).frozen? (iA g (i*15+13))=false:=f13;generalize WA.drewN nq=WB at *;go_wp2_with fail;replace HA:Hid (Aud base w1 (WB.setCell (iA g (i*15+13)) (iV r5)) (sL g m cap) m gr):=HA.set _ _ hg _;generalize WB.setCell (iA g (i*15+13)) (iV r5)=WC at *;obtain⟨y4,cy4⟩:=HA.out.rcd.cell 4 (by omega);obtain⟨y6,cy6⟩:=HA.out.rcd.cell 6 (by omega);obtain⟨z9,cz9⟩:=HA.out.block.cell (i*15+9) (by omega);go_quiet (fail);go_wp2;go_ret2;refine⟨_,_,_,rfl,Nat.le_succ _,Aud.back (gr:=gr) ?_⟩
     repeat(first|exact HA|refine Aud.set ?_ _ _ hg _|refine Aud.drewN ?_ _|refine Aud.drew ?_)
   ·go_quiet (fail);replace HA:Hid (Aud base w1 (WA.drewN nq) (sL g m cap) m gr):=HA.drewN nq;replace cr5:(WA.drewN nq).cell? (iA gr 5)=sI r5:=cr5;replace c2:(WA.drewN nq).cell? (iA g (i*15+2))=sI o2:=c2;replace c10:(WA.drewN nq).cell? (iA g (i*15+10))=sI o10:=c10;replace c13:(WA.drewN nq).cell? (iA g (i*15+13))=sI o13:=c13;replace f13:(WA.drewN nq).frozen? (iA g (i*15+13))=false:=f13;generalize WA.drewN nq=WB at *;go_wp2_with fail;replace HA:Hid (Aud base w1 (WB.setCell (iA g (i*15+13)) (iV r5)) (sL g m cap) m gr):=HA.set _ _ hg _;generalize WB.setCell (iA g (i*15+13)) (iV r5)=WC at *;obtain⟨y4,cy4⟩:=HA.out.rcd.cell 4 (by omega);obtain⟨y6,cy6⟩:=HA.out.rcd.cell 6 (by omega);obtain⟨z9,cz9⟩:=HA.out.block.cell (i*15+9) (by omega);go_quiet (fail);go_wp2;go_ret2;refine⟨_,_,_,rfl,Nat.le_succ _,Aud.back (gr:=gr) ?_⟩
    repeat(first|exact HA|refine Aud.set ?_ _ _ hg _|refine Aud.drewN ?_ _|refine Aud.drew ?_)
 ·go_quiet (fail);replace HA:Hid (Aud base w1 (w1.drewN nq) (sL g m cap) m gr):=HA.drewN nq;replace cr5:(w1.drewN nq).cell? (iA gr 5)=sI r5:=cr5;replace c2:(w1.drewN nq).cell? (iA g (i*15+2))=sI o2:=c2;replace c10:(w1.drewN nq).cell? (iA g (i*15+10))=sI o10:=c10;replace c13:(w1.drewN nq).cell? (iA g (i*15+13))=sI o13:=c13;replace f13:(w1.drewN nq).frozen? (iA g (i*15+13))=false:=f13;generalize w1.drewN nq=WA at *;cases t2:(o2 == 2)
  ·go_wp2_with fail;replace HA:Hid (Aud base w1 (WA.setCell (iA g (i*15+13)) (iV r5)) (sL g m cap) m gr):=HA.set _ _ hg _;generalize WA.setCell (iA g (i*15+13)) (iV r5)=WC at *;obtain⟨y4,cy4⟩:=HA.out.rcd.cell 4 (by omega);obtain⟨y6,cy6⟩:=HA.out.rcd.cell 6 (by omega);obtain⟨z9,cz9⟩:=HA.out.block.cell (i*15+9) (by omega);cases v1:(y4 == z9)
   case false=>
    go_quiet (fail);go_wp2;go_ret2;refine⟨_,_,_,rfl,Nat.le_succ _,Aud.back (gr:=gr) ?_⟩;repeat(first|exact HA|refine Aud.set ?_ _ _ hg _|refine Aud.drewN ?_ _|refine Aud.drew ?_)
   by_cases v2:0<y4
   ·cases v3:(y6 == 0)
    ·go_quiet (fail);go_wp2;go_ret2;refine⟨_,_,_,rfl,Nat.le_succ _,Aud.back (gr:=gr) ?_⟩;repeat(first|exact HA|refine Aud.set ?_ _ _ hg _|refine Aud.drewN ?_ _|refine Aud.drew ?_)
    ·go_quiet (fail);go_wp2;go_ret2;refine⟨_,_,_,rfl,Nat.le_succ _,Aud.back (gr:=gr) ?_⟩;repeat(first|exact HA|refine Aud.set ?_ _ _ hg _|refine Aud.drewN ?_ _|refine Aud.drew ?_)
   ·go_quiet (fail);go_wp2;go_ret2;refine⟨_,_,_,rfl,Nat.le_succ _,Aud.back (gr:=gr) ?_⟩;repeat(first|exact HA|refine Aud.set ?_ _ _ hg _|refine Aud.drewN ?_ _|refine Aud.drew ?_)
  ·go_wp2_with fail;by_cases u1:1≤r5
   ·by_cases u2:r5≤o10
    ·go_quiet (fail);replace HA:Hid (Aud base w1 (WA.drewN nq) (sL g m cap) m gr):=HA.drewN nq;replace cr5:(WA.drewN nq).cell? (iA gr 5)=sI r5:=cr5;replace c2:(WA.drewN nq).cell? (iA g (i*15+2))=sI o2:=c2;replace c10:(WA.drewN nq).cell? (iA g (i*15+10))=sI o10:=c10;replace c13:(WA.drewN nq).cell? (iA g (i*15+13))=sI o13:=c13;replace f13:(WA.drewN nq).frozen? (iA g (i*15+13))=false:=f13;generalize WA.drewN nq=WB at *;go_wp2_with fail;replace HA:Hid (Aud base w1 (WB.setCell (iA g (i*15+13)) (iV r5)) (sL g m cap) m gr):=HA.set _ _ hg _;generalize WB.setCell (iA g (i*15+13)) (iV r5)=WC at *;obtain⟨y4,cy4⟩:=HA.out.rcd.cell 4 (by omega);obtain⟨y6,cy6⟩:=HA.out.rcd.cell 6 (by omega);obtain⟨z9,cz9⟩:=HA.out.block.cell (i*15+9) (by omega);cases v1:(y4 == z9)
     case false=>
      go_quiet (fail);go_wp2;go_ret2;refine⟨_,_,_,rfl,Nat.le_succ _,Aud.back (gr:=gr) ?_⟩;repeat(first|exact HA|refine Aud.set ?_ _ _ hg _|refine Aud.drewN ?_ _|refine Aud.drew ?_)
     by_cases v2:0<y4
     ·cases v3:(y6 == 0)
      ·go_quiet (fail);go_wp2;go_ret2;refine⟨_,_,_,rfl,Nat.le_succ _,Aud.back (gr:=gr) ?_⟩;repeat(first|exact HA|refine Aud.set ?_ _ _ hg _|refine Aud.drewN ?_ _|refine Aud.drew ?_)
      ·go_quiet (fail);go_wp2;go_ret2;refine⟨_,_,_,rfl,Nat.le_succ _,Aud.back (gr:=gr) ?_⟩;repeat(first|exact HA|refine Aud.set ?_ _ _ hg _|refine Aud.drewN ?_ _|refine Aud.drew ?_)
     ·go_quiet (fail);go_wp2;go_ret2;refine⟨_,_,_,rfl,Nat.le_succ _,Aud.back (gr:=gr) ?_⟩;repeat(first|exact HA|refine Aud.set ?_ _ _ hg _|refine Aud.drewN ?_ _|refine Aud.drew ?_)
    ·go_quiet (fail);replace HA:Hid (Aud base w1 (WA.drewN nq) (sL g m cap) m gr):=HA.drewN nq;replace cr5:(WA.drewN nq).cell? (iA gr 5)=sI r5:=cr5;replace c2:(WA.drewN nq).cell? (iA g (i*15+2))=sI o2:=c2;replace c10:(WA.drewN nq).cell? (iA g (i*15+10))=sI o10:=c10;replace c13:(WA.drewN nq).cell? (iA g (i*15+13))=sI o13:=c13;replace f13:(WA.drewN nq).frozen? (iA g (i*15+13))=false:=f13;generalize WA.drewN nq=WB at *;go_wp2_with fail;replace HA:Hid (Aud base w1 (WB.setCell (iA g (i*15+13)) (iV r5)) (sL g m cap) m gr):=HA.set _ _ hg _;generalize WB.setCell (iA g (i*15+13)) (iV r5)=WC at *;obtain⟨y4,cy4⟩:=HA.out.rcd.cell 4 (by omega);obtain⟨y6,cy6⟩:=HA.out.rcd.cell 6 (by omega);obtain⟨z9,cz9⟩:=HA.out.block.cell (i*15+9) (by omega);go_quiet (fail);go_wp2;go_ret2;refine⟨_,_,_,rfl,Nat.le_succ _,Aud.back (gr:=gr) ?_⟩
     repeat(first|exact HA|refine Aud.set ?_ _ _ hg _|refine Aud.drewN ?_ _|refine Aud.drew ?_)
   ·go_quiet (fail);replace HA:Hid (Aud base w1 (WA.drewN nq) (sL g m cap) m gr):=HA.drewN nq;replace cr5:(WA.drewN nq).cell? (iA gr 5)=sI r5:=cr5;replace c2:(WA.drewN nq).cell? (iA g (i*15+2))=sI o2:=c2;replace c10:(WA.drewN nq).cell? (iA g (i*15+10))=sI o10:=c10;replace c13:(WA.drewN nq).cell? (iA g (i*15+13))=sI o13:=c13;replace f13:(WA.drewN nq).frozen? (iA g (i*15+13))=false:=f13;generalize WA.drewN nq=WB at *;go_wp2_with fail;replace HA:Hid (Aud base w1 (WB.setCell (iA g (i*15+13)) (iV r5)) (sL g m cap) m gr):=HA.set _ _ hg _;generalize WB.setCell (iA g (i*15+13)) (iV r5)=WC at *;obtain⟨y4,cy4⟩:=HA.out.rcd.cell 4 (by omega);obtain⟨y6,cy6⟩:=HA.out.rcd.cell 6 (by omega);obtain⟨z9,cz9⟩:=HA.out.block.cell (i*15+9) (by omega);go_quiet (fail);go_wp2;go_ret2;refine⟨_,_,_,rfl,Nat.le_succ _,Aud.back (gr:=gr) ?_⟩
    repeat(first|exact HA|refine Aud.set ?_ _ _ hg _|refine Aud.drewN ?_ _|refine Aud.drew ?_)
theorem zQv(base:Nat)(w:World)(v:Value)(m gr:Nat)(h:Aud base w w v m gr)(hb:base≤w.heap.size)(hm:m≤100000000):
 Cl 147 #[v,iP gr] w fun e w'=>TakeBack base w m e w':=by
 obtain⟨r0,h0⟩:=h.rcd.cell 0 (by omega);by_cases k1:r0=1
 ·subst k1;exact zQn base w v m gr h hb hm h0
 by_cases k2:r0=2
 ·subst k2;exact zQo base w v m gr h hb hm h0
 by_cases k3:r0=3
 ·subst k3;exact zQp base w v m gr h hb hm h0
 by_cases k4:r0=4
 ·subst k4;exact zQq base w v m gr h hb hm h0
 by_cases k5:r0=5
 ·subst k5;exact zQr base w v m gr h hb hm h0
 by_cases k6:r0=6
 ·subst k6;exact zQu base w v m gr h hb hm h0
 by_cases k7:r0=7
 ·subst k7;exact zQt base w v m gr h hb hm h0
 exact zQs base w v m gr h hb hm r0 h0 k1 k2 k3 k4 k5 k6 k7
theorem SR.set15(h:SR base w v m)(b o:Nat)(x0 x1 x2 x3 x4 x5 x6 x7 x8 x9 x10 x11 x12 x13 x14:Int):SR base (((((((((((((((w.setCell (iA b o) (iV x0)).setCell (iA b (o+1)) (iV x1)).setCell (iA b (o+2)) (iV x2)).setCell (iA b (o+3)) (iV x3)).setCell (iA b (o+4)) (iV x4)).setCell (iA b (o+5)) (iV x5)).setCell (iA b (o+6)) (iV x6)).setCell (iA b (o+7)) (iV x7)).setCell (iA b (o+8)) (iV x8)).setCell (iA b (o+9)) (iV x9)).setCell (iA b (o+10)) (iV x10)).setCell (iA b (o+11)) (iV x11)).setCell (iA b (o+12)) (iV x12)).setCell (iA b (o+13)) (iV x13)).setCell (iA b (o+14)) (iV x14)) v m:=(((((((((((((((h.set b (o) x0).set b (o+1) x1).set b (o+2) x2).set b (o+3) x3).set b (o+4) x4).set b (o+5) x5).set b (o+6) x6).set b (o+7) x7).set b (o+8) x8).set b (o+9) x9).set b (o+10) x10).set b (o+11) x11).set b (o+12) x12).set b (o+13) x13).set b (o+14) x14)
theorem zSv{B:Nat}{a:World}(h:Below B a w)(b o:Nat)(hb:B≤b)(x0 x1 x2 x3 x4 x5 x6 x7 x8 x9 x10 x11 x12 x13 x14:Int):Below B a (((((((((((((((w.setCell (iA b o) (iV x0)).setCell (iA b (o+1)) (iV x1)).setCell (iA b (o+2)) (iV x2)).setCell (iA b (o+3)) (iV x3)).setCell (iA b (o+4)) (iV x4)).setCell (iA b (o+5)) (iV x5)).setCell (iA b (o+6)) (iV x6)).setCell (iA b (o+7)) (iV x7)).setCell (iA b (o+8)) (iV x8)).setCell (iA b (o+9)) (iV x9)).setCell (iA b (o+10)) (iV x10)).setCell (iA b (o+11)) (iV x11)).setCell (iA b (o+12)) (iV x12)).setCell (iA b (o+13)) (iV x13)).setCell (iA b (o+14)) (iV x14)):=(((((((((((((((h.setCell (p:=(iA b o)) hb _).setCell (p:=(iA b (o+1))) hb _).setCell (p:=(iA b (o+2))) hb _).setCell (p:=(iA b (o+3))) hb _).setCell (p:=(iA b (o+4))) hb _).setCell (p:=(iA b (o+5))) hb _).setCell (p:=(iA b (o+6))) hb _).setCell (p:=(iA b (o+7))) hb _).setCell (p:=(iA b (o+8))) hb _).setCell (p:=(iA b (o+9))) hb _).setCell (p:=(iA b (o+10))) hb _).setCell (p:=(iA b (o+11))) hb _).setCell (p:=(iA b (o+12))) hb _).setCell (p:=(iA b (o+13))) hb _).setCell (p:=(iA b (o+14))) hb _)
theorem zQw(B base:Nat)(w:World)(v:Value)(m:Nat)(h:SR base w v m)(hc:w.cell? (iA B 5)=some v)(hB:B<w.heap.size)(hm:m≤100000000):
 Cl 77 #[iP B] w fun e w'=> ∃v',e=.returned v'∧SR w.heap.size w' v' m∧Below w.heap.size w w':=by
 obtain⟨i0,hi,hz0,hz1,hz2⟩:=zAa Tryz.infoStA Tryz.zeroStA;have HINF:Hid (Tryz.prog.info? 229=some i0∧i0.zero=some (.agg #[iV 0,iV 0,iV 0,iV 0,iV 0,iV 0,iV 0,iV 0,iV 0,iV 0,iV 0,iV 0,iV 0,iV 0,iV 0])∧i0.size=15∧i0.bytes=120):=⟨hi,hz0,hz1,hz2⟩;obtain⟨p,cap,rfl,hp⟩:=h.shape';have HSR:=hid h;go_enter Tryz.func77,Tryz.ntmps77;go_wp2;go_loopw [3,4] (fun l i wr=> ∃k:Nat,i=iV k∧k≤m∧SR w.heap.size wr l k∧Bw w wr) (fun _ i _=>m - (intOf i).toNat)
 case atStart=>exact⟨0,rfl,Nat.zero_le _,SR.nil _ _,Below.refl _ _⟩
 case round=>
  obtain⟨k,rfl,hk,hsr,hbw⟩:=hrel;have hcr:wr.cell? (iA B 5)=some (.slice p m cap):=(hbw.cell (p:=(iA B 5)) hB).trans hc;have HBW:=hid hbw;have HL:=hid hsr;have hbs:=hbw.size;by_cases hlt:k<m
  ·have hkI:(k:Int)<(m:Int):=by omega
   obtain⟨g,rfl,hg,hib⟩:=hp.resolve_left (by omega);have hib':IntBlock wr g 229 (m*15):=hib.below HBW;obtain⟨e0,c0⟩:=hib'.cell (k*15+0) (by omega);obtain⟨e1,c1⟩:=hib'.cell (k*15+1) (by omega);obtain⟨e2,c2⟩:=hib'.cell (k*15+2) (by omega);obtain⟨e3,c3⟩:=hib'.cell (k*15+3) (by omega);obtain⟨e4,c4⟩:=hib'.cell (k*15+4) (by omega);obtain⟨e5,c5⟩:=hib'.cell (k*15+5) (by omega);obtain⟨e6,c6⟩:=hib'.cell (k*15+6) (by omega);obtain⟨e7,c7⟩:=hib'.cell (k*15+7) (by omega);obtain⟨e8,c8⟩:=hib'.cell (k*15+8) (by omega);obtain⟨e9,c9⟩:=hib'.cell (k*15+9) (by omega);obtain⟨e10,c10⟩:=hib'.cell (k*15+10) (by omega);obtain⟨e11,c11⟩:=hib'.cell (k*15+11) (by omega);obtain⟨e12,c12⟩:=hib'.cell (k*15+12) (by omega);obtain⟨e13,c13⟩:=hib'.cell (k*15+13) (by omega);obtain⟨e14,c14⟩:=hib'.cell (k*15+14) (by omega);rw[Nat.add_zero]at c0;obtain⟨xs,hown,hints⟩:=HL
   have HOWN:Hid (wr.ownsRow w.heap.size 229 15 u3 k xs∧∀u∈xs,∃x,u=iV x):=⟨hown,hints⟩;have HW2:Hid (∀o,(wr.alloc o).ownsRow w.heap.size 229 15 u3 k xs):=fun o=>hown.alloc o
   have HC1:Hid (∀(j:Nat) (u:Value),[iV e0,iV e1,iV e2,iV e3,iV e4,iV e5,iV e6,iV e7,iV e8,iV e9,iV e10,iV e11,iV e12,iV e13,iV e14][j]? =some u→(wr.alloc (.cells #[iV e0,iV e1,iV e2,iV e3,iV e4,iV e5,iV e6,iV e7,iV e8,iV e9,iV e10,iV e11,iV e12,iV e13,iV e14] 229)).cell? (Addr.add (iA wr.heap.size 0) j)=some u):=fun j u hj=>by
    rw[Addr.add_lit,Nat.zero_add];exact zA wr #[iV e0,iV e1,iV e2,iV e3,iV e4,iV e5,iV e6,iV e7,iV e8,iV e9,iV e10,iV e11,iV e12,iV e13,iV e14] 229 j u (by simp;exact hj)
   have HC2:Hid (∀u∈([iV e0,iV e1,iV e2,iV e3,iV e4,iV e5,iV e6,iV e7,iV e8,iV e9,iV e10,iV e11,iV e12,iV e13,iV e14]:List Value),∃x,u=iV x):=fun u hu=>by
    simp at hu;rcases hu with rfl|rfl|rfl|rfl|rfl|rfl|rfl|rfl|rfl|rfl|rfl|rfl|rfl|rfl|rfl<;>exact⟨_,rfl⟩
   have HC3:Hid (k+1≤maxLen∧(k+1)* 120≤140737488355328):=⟨by unfold maxLen;omega,by omega⟩;have HC5:Hid (∀o,w.heap.size≤(wr.alloc o).heap.size):=fun o=>by simp;omega
   have hltr:=hown.lt;go_wp2_with(at_builtin;refine wpList_append_own _ rfl _ _ 169 rfl w.heap.size 229 i0 _ 15 120 Tryz.underlying169 HINF.1 HINF.2.1 HINF.2.2.1 HINF.2.2.2 rfl (by decide) _ _ _ rfl (HW2 _) (iA wr.heap.size 0) 1 1 [iV e0,iV e1,iV e2,iV e3,iV e4,iV e5,iV e6,iV e7,iV e8,iV e9,iV e10,iV e11,iV e12,iV e13,iV e14] rfl rfl HC1 (zEd HC2) HC3.1 HC3.2 (HC5 _) ?_);intro v' w3 hown3 hgrow3 _;have hB3:Bw w w3:=(zA2 HBW _).grown hgrow3 (by simp;omega) (fun q hq=>(hltr q hq).1);have hS3:SR w.heap.size w3 v' (k+1):=⟨_,hown3,fun u hu=>by
    rcases List.mem_append.1 hu with hu|hu
    ·exact HOWN.2 u hu
    ·exact HC2 u hu⟩
   obtain⟨g',cap',rfl⟩: ∃g' cap',v'=sL g' (k+1) cap':=by
    rcases hown3.2 with⟨_,h⟩|⟨g,cap,cur,h,_⟩
    ·omega
    ·exact⟨g,cap,h⟩
   have HS3:Hid (SR w.heap.size w3 (sL g' (k+1) cap') (k+1)∧Bw w w3):=⟨hS3,hB3⟩;have hw1:wrap64 ((k:Int)+1 - 1)=(k:Int):=by unfold wrap64;omega
   go_wp2_with fail;go_loopw [5] (fun i wr2=> ∃q:Nat,i=iV q∧q≤k∧SR w.heap.size wr2 (sL g' (k+1) cap') (k+1)∧Bw w wr2) (fun i _=>(intOf i).toNat)
   case atStart=>exact⟨k,rfl,Nat.le_refl _,HS3.1,HS3.2⟩
   case round=>
    obtain⟨q,rfl,hq,hs2,hb2⟩:=hrel;have HR:Hid (SR w.heap.size wr (sL g' (k+1) cap') (k+1)∧Bw w wr):=⟨hs2,hb2⟩;have hB:IntBlock wr g' 229 ((k+1)* 15):=by
     rcases hs2.shape with⟨e,-⟩|⟨g2,cap2,e,_,hib2⟩
     ·cases e
     ·injection e with e1 e2 e3;injection e1 with e1;injection e1 with e1;subst e1;exact hib2
    have hg':w.heap.size≤g':=(hs2.lt g' rfl).1;rcases q with _|q
    ·go_wp2_with fail;go_quiet (fail);go_wp2;go_roundw
     case rel=>exact⟨k+1,by go_num,by omega,HR.1.drewN nq,⟨HR.2.os,HR.2.tape,HR.2.output,HR.2.size,HR.2.block⟩⟩
     case measure=>simp[intOf];omega
    ·have hq1:(q:Int)+1<(k:Int)+1:=by omega
     have hq2:(q:Int)<(k:Int)+1:=by omega
     have hq0:(0:Int)<(q:Int)+1:=by omega
     have hw2:IntKind.i64.wrap ((q:Int)+1 - 1)=(q:Int):=by simp only[IntKind.wrap,IntKind.bits,IntKind.signed];simp;omega
     have hw3:wrap64 ((q:Int)+1 - 1)=(q:Int):=by unfold wrap64;omega
     obtain⟨a0,ca0⟩:=hB.cell ((q+1)* 15+0) (by omega);have fa0:=hB.froz ((q+1)* 15+0);obtain⟨b0,cb0⟩:=hB.cell (q*15+0) (by omega);have fb0:=hB.froz (q*15+0);rw[Nat.add_zero]at ca0 cb0 fa0 fb0;have HBB:=hid hB;by_cases hlt2:a0<b0
     ·go_wp2_with fail;go_quiet (fail);replace HR:Hid (SR w.heap.size (wr.drewN nq) (sL g' (k+1) cap') (k+1)∧Bw w (wr.drewN nq)):=⟨HR.1.drewN nq,⟨HR.2.os,HR.2.tape,HR.2.output,HR.2.size,HR.2.block⟩⟩;have hB:IntBlock (wr.drewN nq) g' 229 ((k+1)* 15):=HBB;generalize wr.drewN nq=W at *;obtain⟨a0,ca0⟩:=hB.cell ((q+1)* 15+0) (by omega);have fa0:=hB.froz ((q+1)* 15+0);obtain⟨a1,ca1⟩:=hB.cell ((q+1)* 15+1) (by omega);have fa1:=hB.froz ((q+1)* 15+1);obtain⟨a2,ca2⟩:=hB.cell ((q+1)* 15+2) (by omega);have fa2:=hB.froz ((q+1)* 15+2);obtain⟨a3,ca3⟩:=hB.cell ((q+1)* 15+3) (by omega);have fa3:=hB.froz ((q+1)* 15+3);obtain⟨a4,ca4⟩:=hB.cell ((q+1)* 15+4) (by omega);have fa4:=hB.froz ((q+1)* 15+4);obtain⟨a5,ca5⟩:=hB.cell ((q+1)* 15+5) (by omega);have fa5:=hB.froz ((q+1)* 15+5);obtain⟨a6,ca6⟩:=hB.cell ((q+1)* 15+6) (by omega);have fa6:=hB.froz ((q+1)* 15+6);obtain⟨a7,ca7⟩:=hB.cell ((q+1)* 15+7) (by omega)
      have fa7:=hB.froz ((q+1)* 15+7);obtain⟨a8,ca8⟩:=hB.cell ((q+1)* 15+8) (by omega);have fa8:=hB.froz ((q+1)* 15+8);obtain⟨a9,ca9⟩:=hB.cell ((q+1)* 15+9) (by omega);have fa9:=hB.froz ((q+1)* 15+9);obtain⟨a10,ca10⟩:=hB.cell ((q+1)* 15+10) (by omega);have fa10:=hB.froz ((q+1)* 15+10);obtain⟨a11,ca11⟩:=hB.cell ((q+1)* 15+11) (by omega);have fa11:=hB.froz ((q+1)* 15+11);obtain⟨a12,ca12⟩:=hB.cell ((q+1)* 15+12) (by omega);have fa12:=hB.froz ((q+1)* 15+12);obtain⟨a13,ca13⟩:=hB.cell ((q+1)* 15+13) (by omega);have fa13:=hB.froz ((q+1)* 15+13);obtain⟨a14,ca14⟩:=hB.cell ((q+1)* 15+14) (by omega);have fa14:=hB.froz ((q+1)* 15+14);obtain⟨b0',cb0⟩:=hB.cell (q*15+0) (by omega);have fb0:=hB.froz (q*15+0);obtain⟨b1,cb1⟩:=hB.cell (q*15+1) (by omega);have fb1:=hB.froz (q*15+1);obtain⟨b2,cb2⟩:=hB.cell (q*15+2) (by omega);have fb2:=hB.froz (q*15+2);obtain⟨b3,cb3⟩:=hB.cell (q*15+3) (by omega)
      have fb3:=hB.froz (q*15+3);obtain⟨b4,cb4⟩:=hB.cell (q*15+4) (by omega);have fb4:=hB.froz (q*15+4);obtain⟨b5,cb5⟩:=hB.cell (q*15+5) (by omega);have fb5:=hB.froz (q*15+5);obtain⟨b6,cb6⟩:=hB.cell (q*15+6) (by omega);have fb6:=hB.froz (q*15+6);obtain⟨b7,cb7⟩:=hB.cell (q*15+7) (by omega);have fb7:=hB.froz (q*15+7);obtain⟨b8,cb8⟩:=hB.cell (q*15+8) (by omega);have fb8:=hB.froz (q*15+8);obtain⟨b9,cb9⟩:=hB.cell (q*15+9) (by omega);have fb9:=hB.froz (q*15+9);obtain⟨b10,cb10⟩:=hB.cell (q*15+10) (by omega);have fb10:=hB.froz (q*15+10);obtain⟨b11,cb11⟩:=hB.cell (q*15+11) (by omega);have fb11:=hB.froz (q*15+11);obtain⟨b12,cb12⟩:=hB.cell (q*15+12) (by omega);have fb12:=hB.froz (q*15+12);obtain⟨b13,cb13⟩:=hB.cell (q*15+13) (by omega);have fb13:=hB.froz (q*15+13);obtain⟨b14,cb14⟩:=hB.cell (q*15+14) (by omega);have fb14:=hB.froz (q*15+14);rw[Nat.add_zero]at ca0 fa0 cb0 fb0
      have hgl:g' < W.heap.size:=hB.lt;have hgn:g'≠W.heap.size:=Nat.ne_of_lt hgl;have hold: ∀o j,(W.alloc o).cell? (iA g' j)=W.cell? (iA g' j):=fun o j=>World.cell?_alloc_lt _ _ _ hgl
      have holf: ∀o j,(W.alloc o).frozen? (iA g' j)=W.frozen? (iA g' j):=fun o j=>World.frozen?_alloc_old _ _ _ hgn
      go_wp2;go_roundw
      case rel=>
       refine⟨q,by go_num,by omega,?_,?_⟩
       ·refine SR.below ?_ (zA0 _);iterate 30 (refine SR.set ?_ _ _ _)
        exact HR.1
       ·refine zA2 ?_ _;iterate 30 (refine Below.setCell ?_ hg' _)
        exact HR.2
      case measure=>simp[intOf]
     ·go_wp2_with fail;go_quiet (fail);go_wp2;go_roundw
      case rel=>exact⟨k+1,by go_num,by omega,HR.1.drewN nq,⟨HR.2.os,HR.2.tape,HR.2.output,HR.2.size,HR.2.block⟩⟩
      case measure=>simp[intOf];omega
  ·have hkM: ¬(k:Int)<(m:Int):=by omega
   have hkm:k=m:=by omega
   subst hkm;go_wp2;go_ret;exact⟨_,rfl,HL,HBW⟩
end
end Go.Proofs.YtilbfpnpkkkpgaaGreatDoor
