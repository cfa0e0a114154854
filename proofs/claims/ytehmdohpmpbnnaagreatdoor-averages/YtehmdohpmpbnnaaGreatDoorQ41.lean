import Derived.Test.YtehmdohpmpbnnaaGreatDoorQ00
import Derived.Test.YtehmdohpmpbnnaaGreatDoorQ33
import Derived.Test.YtehmdohpmpbnnaaGreatDoorQ39
import Derived.Test.YtehmdohpmpbnnaaGreatDoorQ40
import Derived.Deep.RegionHeld3
import Derived.Deep.RegionLaw
set_option linter.all false
set_option maxRecDepth 100000
set_option maxHeartbeats 8000000
namespace Go.Proofs.YtehmdohpmpbnnaaGreatDoor
variable{base m gr cap:Nat}{w0 w:World}{v:Value}
open Go.Proofs.Tryz
section
open Go.Extern Go.Maps Go.RowKit
section
variable {tag:Nat→Tag} {ps:List Duo} {w0 w:World} {n:Nat} {ws:List ByteArray} {left:Int}
theorem wu.qG(h:wu tag ps w0 w n ws left){w':World}(hb:Below w.heap.size w w')(hc5:w.cell? (iA w0.heap.size 5)=some v):w'.cell? (iA w0.heap.size 5)=some v:=(World.cell?_of_block (a:=(iA w0.heap.size 5)) (hb.block _ h.lt)).trans hc5
theorem zLo(h:wu tag ps w0 w n ws left)(hall:∀p∈ps,p.all.size≤sizes ws)(hn:n≤10000000)(hl:0<left){ad:Nat→Addr}{st:Nat→ByteArray}(hE:lq w0 ad st)(hW:qx w0){gd:Nat}(hc5:w.cell? (iA w0.heap.size 5)=some (sL gd ps.length cap)){i:Nat}{p:Duo}(hp:ps[i]? =some p)(a b d:Int)(s:ByteArray)(v:Nat→Int)(ha:dK a):
 Cl 22 #[iP w0.heap.size,.pointer (some (iA gd (i*3))),qJ 12 a b d s v] w fun e w'=>e=rB true∧Next w0 w' n∧(∀(k:Nat) (cur:Array Value),tag k=.own→w.heap[k]? =some (.cells cur 29 (0,0))→w'.heap[k]? =some (.cells cur 29 (0,0)))∧w'.cell? (iA w0.heap.size 5)=w.cell? (iA w0.heap.size 5):=by
 have C:Hd ((∀(k:Nat) (cur:Array Value),w.heap[k]? =some (.cells cur 29 (0,0))→(w.alloc (.cells (opC 12 a b d s v) 29)).heap[k]? =some (.cells cur 29 (0,0)))∧(w.alloc (.cells (opC 12 a b d s v) 29)).cell? (iA w0.heap.size 5)=w.cell? (iA w0.heap.size 5)):=⟨fun k cur hb=>OpK.below (gu _) k cur hb,World.cell?_of_block (a:=(iA w0.heap.size 5)) (Below.heap_alloc _ _ _ h.lt)⟩;have A0:=h.sum;have l:=ql ws a;have g:=hall p (List.mem_of_getElem? hp);have Z:Hd (wu tag ps w0 (w.alloc (.cells (opC 12 a b d s v) 29)) n ws left):=h.below (gu _);have L:Hd ((w.alloc (.cells (opC 12 a b d s v) 29)).cell? (iA w0.heap.size 5)=some (sL gd ps.length cap)):=h.qG (gu _) hc5;have V:Hd (ps[i]? =some p):=hp;have J:Hd (∀p∈ps,p.all.size≤sizes ws):=hall;have y:Hd (lq w0 ad st∧qx w0):=⟨hE,hW⟩;clear h hE hW hc5 hp hall;go_enter func22,ntmps22;go_wp2_with fail;refine(Z.word a (by omega) ha.1 ha.2).mono ?_
 rintro e w1 ⟨rfl,m,rfl⟩;have B:Hd (wu tag ps w0 ((w.alloc (.cells (opC 12 a b d s v) 29)).drewN m) n ws left):=Z.drewN m;have hc5:((w.alloc (.cells (opC 12 a b d s v) 29)).drewN m).cell? (iA w0.heap.size 5)=some (sL gd ps.length cap):=L.o;have D:Hd ((∀(k:Nat) (cur:Array Value),w.heap[k]? =some (.cells cur 29 (0,0))→((w.alloc (.cells (opC 12 a b d s v) 29)).drewN m).heap[k]? =some (.cells cur 29 (0,0)))∧((w.alloc (.cells (opC 12 a b d s v) 29)).drewN m).cell? (iA w0.heap.size 5)=w.cell? (iA w0.heap.size 5)):=C;clear C;generalize (w.alloc (.cells (opC 12 a b d s v) 29)).drewN m=W at *;obtain⟨t,j⟩:∃t,dU ws a=t:=⟨_,rfl⟩;rw[j]at l;rw[j];obtain⟨c0,c1,c2⟩:=(B.o.row hc5).2.2.2.2 i p V.o;have cE:=B.desk V.o;have K:=hid (B.apply_both y.1 y.2 hc5 V.o (by omega) t (by omega));have X:Hd ((p.told t).size≤100000000000):=by
  show(ba _).size≤_;rw[zx];have hg:=(B.duos i p V.o).good;have A3:t.data.toList.length=t.size:=by simp
  exact hg.out (by omega) t.data.toList (by omega)
 clear j hc5 L Z;generalize hO:p.told t=O at *;clear hO;go_wp2_with fail;refine K.mono ?_;rintro e w2 ⟨rfl,d1,z⟩;clear K c0 c1 c2 cE;go_wp2_with fail;refine z.mono ?_;rintro e w3 ⟨rfl,d2,f2,HZ⟩;clear z d1;obtain⟨⟨I,q,U,R⟩,G⟩:=HZ.o;have E:=hid G;clear G;have N:Hd (wu I (ps.set i q) w0 (w3.setCell (iA gd (i*3+2)) (.string (p.all++O))) n ws left):=R;have Y:Hd (q.all=p.all++O):=U;have A1:=X.o;have A2:(p.all++O).size≤100001048576:=by rw[ByteArray.size_append];omega
 clear R U HZ;go_wp2_with fail;refine(N.keepB (p.all++O) (by omega) (by omega) (by omega)).mono ?_;rintro e w4 ⟨rfl,S,_,H⟩;have c:=hid S;have F:=hid H;clear H;clear S N d2 f2;generalize hPO:p.all++O=PO at *;go_wp2_with fail;refine(c.keepB O (by omega) (by omega) (by omega)).mono ?_;rintro e u ⟨rfl,T,_,A⟩;have M:Hd ((∀(k:Nat) (cur:Array Value),tag k=.own→w.heap[k]? =some (.cells cur 29 (0,0))→u.heap[k]? =some (.cells cur 29 (0,0)))∧u.cell? (iA w0.heap.size 5)=w.cell? (iA w0.heap.size 5)):=⟨fun k cur ho hb=>A.1 k cur (F.1 k cur (E.1 k cur ho (D.1 k cur hb))),A.2.trans (F.2.trans (E.2.trans D.2))⟩;clear A;have HN:Hd (Next w0 u n):=⟨_,_,I,ps.set i q,T,fun x hx=>by
  rcases List.mem_or_eq_of_mem_set hx with f|f
  ·exact Nat.le_trans (J.o x f) (Nat.le_trans (zB2 _ _) (zB2 _ _))
  subst f;rw[Y.o,lH,lH];omega⟩
 clear T;go_wp2;go_ret;exact⟨rfl,HN.o,M.o⟩
end
end
section
open Go.Extern Go.RowKit
structure jg(base:Nat)(w0 w:World)(v:Value)(m gr:Nat):Prop where
 row:SR base w v m
 dA:jm w gr 143 7
 low:Below base w0 w
theorem jg.drew(h:jg base w0 w v m gr):jg base w0 w.drew v m gr:=⟨h.row,h.dA,⟨h.low.os,h.low.tape,h.low.output,h.low.size,h.low.block⟩⟩
theorem jg.drewN(h:jg base w0 w v m gr)(k:Nat):jg base w0 (w.drewN k) v m gr:=⟨h.row,h.dA,⟨h.low.os,h.low.tape,h.low.output,h.low.size,h.low.block⟩⟩
theorem jg.set(h:jg base w0 w v m gr)(g o:Nat)(hg:base≤g)(x:Int):jg base w0 (w.setCell (iA g o) (iV x)) v m gr:=⟨h.row.set g o x,h.dA.set g o x,h.low.setCell (p:=(iA g o)) hg _⟩
theorem jg.block{g:Nat}(h:jg base w0 w (sL g m cap) m gr):jm w g 155 (m*15):=by
 rcases h.row.shape with⟨e,-⟩|⟨F,C,e,_,B⟩
 ·cases e
 injection e with A D E;injection A with A;injection A with A;subst A;exact B
theorem pX{T G:Prop}(h:T→G)(t:T):G:=h t
theorem zLp(base:Nat)(w:World)(v:Value)(m gr:Nat)(h:SR base w v m)(hr:jm w gr 143 7)(hm:m≤1000000000):
 Cl 145 #[v,iP gr] w fun e w'=>lJ e∧SR base w' v m∧Below base w w':=by
 obtain⟨r2,A2⟩:=hr.cell 2 (by omega);obtain⟨r3,A3⟩:=hr.cell 3 (by omega);obtain⟨r4,A4⟩:=hr.cell 4 (by omega);obtain⟨U,A5⟩:=hr.cell 5 (by omega);obtain⟨r6,A6⟩:=hr.cell 6 (by omega);have N:Hd (∀id,Cl 146 #[v,iV id] w fun e w'=>(e=.returned (iV (-1))∨∃i:Nat,i<m∧e=.returned (iV (i:Int)))∧w'=w):=fun id=>oK base w v m id h hm
 have B:Hd (SR base w v m):=h;have z:Hd (jm w gr 143 7):=hr;go_enter func145,ntmps145;go_wp2_with fail;refine(N _).mono ?_;rintro e w1 ⟨h1,rfl⟩;rcases h1 with rfl|⟨i,hi,rfl⟩
 ·go_wp2_with fail;refine(N _).mono ?_;rintro e F ⟨O,rfl⟩;rcases O with rfl|⟨k,hk,rfl⟩;all_goals
   go_wp2;go_ret;exact⟨⟨_,rfl⟩,B,Below.refl _ _⟩
 go_wp2_with fail;refine(N _).mono ?_;rintro e F ⟨O,rfl⟩;rcases O with rfl|⟨k,hk,rfl⟩
 ·go_wp2;go_ret;exact⟨⟨_,rfl⟩,B,Below.refl _ _⟩
 rcases B.o.shape with⟨rfl,rfl⟩|⟨g,C,rfl,H,E⟩
 ·omega
 have Ad:decide ((i:Int)<0)=false:=decide_eq_false (by omega);have Af:decide ((k:Int)<0)=false:=decide_eq_false (by omega);have Ae:(i:Int)<(m:Int):=by omega
 have Ag:(k:Int)<(m:Int):=by omega
 cases Aa:((i:Int) == (k:Int))
 case true=>
  go_wp2;go_ret;exact⟨⟨_,rfl⟩,B,Below.refl _ _⟩
 cases e6:(r6 != 0)
 case true=>
  go_wp2;go_ret;exact⟨⟨_,rfl⟩,B,Below.refl _ _⟩
 obtain⟨o2,A0⟩:=E.cell (i*15+2) (by omega);obtain⟨R,V⟩:=E.cell (i*15+10) (by omega);obtain⟨S,X⟩:=E.cell (i*15+13) (by omega);obtain⟨p9,A1⟩:=E.cell (k*15+9) (by omega);obtain⟨T,Y⟩:=E.cell (k*15+13) (by omega);have u:Hd (jm F g 155 (m*15)):=E;go_wp2_with fail;cases q1:(o2 == 3)
 case true=>
  go_quiet (fail);go_wp2;go_ret;exact⟨⟨_,rfl⟩,B,⟨rfl,rfl,rfl,Nat.le_refl _,fun _ _=>rfl⟩⟩
 cases q2:(decide (0<S))
 case true=>
  go_quiet (fail);go_wp2;go_ret;exact⟨⟨_,rfl⟩,B,⟨rfl,rfl,rfl,Nat.le_refl _,fun _ _=>rfl⟩⟩
 cases q3:(r4 != p9)
 case true=>
  go_quiet (fail);go_wp2;go_ret;exact⟨⟨_,rfl⟩,B,⟨rfl,rfl,rfl,Nat.le_refl _,fun _ _=>rfl⟩⟩
 cases q4:(decide (U<1))
 case true=>
  go_quiet (fail);go_wp2;go_ret;exact⟨⟨_,rfl⟩,B,⟨rfl,rfl,rfl,Nat.le_refl _,fun _ _=>rfl⟩⟩
 cases q5:(decide (R<U))
 case true=>
  go_quiet (fail);go_wp2;go_ret;exact⟨⟨_,rfl⟩,B,⟨rfl,rfl,rfl,Nat.le_refl _,fun _ _=>rfl⟩⟩
 cases q6:(decide (T<U))
 case true=>
  go_quiet (fail);go_wp2;go_ret;exact⟨⟨_,rfl⟩,B,⟨rfl,rfl,rfl,Nat.le_refl _,fun _ _=>rfl⟩⟩
 go_quiet (fail);go_wp2_with fail;have A:Hd (jg base F (F.drewN nq) (sL g m C) m gr):=jg.drewN ⟨B,z,Below.refl _ _⟩ nq;generalize F.drewN nq=W at *;obtain⟨c,K⟩:=A.o.block.cell (i*15+10) (by omega);obtain⟨n,L⟩:=A.o.dA.cell 5 (by omega);have M:=A.block.dz (i*15+10);apply pX
 ·intro G;go_region_law(fail);all_goals exact G
 go_wp2_with fail;replace A:Hd (jg base F (W.setCell (iA g (i*15+10)) (iV (IntKind.i64.wrap (c - n)))).drew (sL g m C) m gr):=(A.set _ _ H _).drew;generalize (W.setCell (iA g (i*15+10)) (iV (IntKind.i64.wrap (c - n)))).drew=W1 at *;obtain⟨d,K⟩:=A.o.block.cell (i*15+11) (by omega);obtain⟨p,L⟩:=A.o.dA.cell 5 (by omega);have M:=A.block.dz (i*15+11);apply pX
 ·intro G;go_region_law(fail);all_goals exact G
 go_wp2_with fail;replace A:Hd (jg base F (W1.setCell (iA g (i*15+11)) (iV (IntKind.i64.wrap (d+p)))).drew (sL g m C) m gr):=(A.set _ _ H _).drew;generalize (W1.setCell (iA g (i*15+11)) (iV (IntKind.i64.wrap (d+p)))).drew=W2 at *;obtain⟨f,K⟩:=A.o.block.cell (k*15+10) (by omega);obtain⟨q,L⟩:=A.o.dA.cell 5 (by omega);have M:=A.block.dz (k*15+10);apply pX
 ·intro G;go_region_law(fail);all_goals exact G
 go_wp2_with fail;replace A:Hd (jg base F (W2.setCell (iA g (k*15+10)) (iV (IntKind.i64.wrap (f - q)))).drew (sL g m C) m gr):=(A.set _ _ H _).drew;generalize (W2.setCell (iA g (k*15+10)) (iV (IntKind.i64.wrap (f - q)))).drew=W3 at *;obtain⟨j,K⟩:=A.o.block.cell (k*15+11) (by omega);obtain⟨s,L⟩:=A.o.dA.cell 5 (by omega);have M:=A.block.dz (k*15+11);apply pX
 ·intro G;go_region_law(fail);all_goals exact G
 go_wp2_with fail;replace A:Hd (jg base F (W3.setCell (iA g (k*15+11)) (iV (IntKind.i64.wrap (j+s)))).drew (sL g m C) m gr):=(A.set _ _ H _).drew;generalize (W3.setCell (iA g (k*15+11)) (iV (IntKind.i64.wrap (j+s)))).drew=W4 at *;obtain⟨l,K⟩:=A.o.block.cell (k*15+13) (by omega);obtain⟨t,L⟩:=A.o.dA.cell 5 (by omega);have M:=A.block.dz (k*15+13);apply pX
 ·intro G;go_region_law(fail);all_goals exact G
 replace A:Hd (jg base F (W4.setCell (iA g (k*15+13)) (iV (IntKind.i64.wrap (l - t)))).drew (sL g m C) m gr):=(A.set _ _ H _).drew;generalize (W4.setCell (iA g (k*15+13)) (iV (IntKind.i64.wrap (l - t)))).drew=W5 at *;obtain⟨x,K⟩:=A.o.block.cell (i*15+10) (by omega);obtain⟨s1,A7⟩:=A.o.block.cell (i*15+8) (by omega);have Ab:=A.block.dz (i*15+8);obtain⟨y,L⟩:=A.o.block.cell (k*15+10) (by omega);obtain⟨s2,A8⟩:=A.o.block.cell (k*15+8) (by omega);have Ac:=A.block.dz (k*15+8);have D:Hd (jg base F (W5.setCell (iA g (i*15+8)) (iV 2)) (sL g m C) m gr):=A.set _ _ H _;have I:Hd (jg base F (W5.setCell (iA g (k*15+8)) (iV 2)) (sL g m C) m gr):=A.set _ _ H _;have J:Hd (jg base F ((W5.setCell (iA g (i*15+8)) (iV 2)).setCell (iA g (k*15+8)) (iV 2)) (sL g m C) m gr):=D.set _ _ H _;obtain⟨y',A9⟩:=D.o.block.cell (k*15+10) (by omega);obtain⟨Ah,Z⟩:=D.o.block.cell (k*15+8) (by omega);have b:=D.block.dz (k*15+8)
 cases ex:(x == 0)
 ·cases ey:(y == 0)
  ·go_wp2;go_ret;exact⟨⟨_,rfl⟩,A.row,A.low⟩
  go_wp2;go_ret;exact⟨⟨_,rfl⟩,I.row,I.low⟩
 cases ey:(y' == 0)
 ·go_wp2;go_ret;exact⟨⟨_,rfl⟩,D.row,D.low⟩
 go_wp2;go_ret;exact⟨⟨_,rfl⟩,J.row,J.low⟩
theorem jg.above{g:Nat}(h:jg base w0 w (sL g m cap) m gr):base≤g:=by
 rcases h.row.shape with⟨e,-⟩|⟨F,B,e,C,_⟩
 ·cases e
 injection e with A D E;injection A with A;injection A with A;subst A;exact C
def RepBack(base:Nat)(w0:World)(v:Value)(m gr:Nat)(e:Ending)(w':World):Prop:=lJ e∧jg base w0 w' v m gr
theorem zLq(base:Nat)(w:World)(m gr g cap off:Nat)(h:jg base w w (sL g m cap) m gr)(ho:off+15≤m*15):
 Cl 147 #[.pointer (some (iA g off)),iP gr] w fun e w'=>RepBack base w (sL g m cap) m gr e w':=by
 obtain⟨r4,E⟩:=h.dA.cell 4 (by omega);obtain⟨r5,B⟩:=h.dA.cell 5 (by omega);obtain⟨r6,F⟩:=h.dA.cell 6 (by omega);obtain⟨l,c2⟩:=h.block.cell (off+2) (by omega);obtain⟨q3,K⟩:=h.block.cell (off+3) (by omega);obtain⟨p,q⟩:=h.block.cell (off+9) (by omega);obtain⟨f11,D⟩:=h.block.cell (off+11) (by omega);have C:=h.above;have A:Hd (jg base w w (sL g m cap) m gr):=h;clear h;go_enter func147,ntmps147;go_wp2_with fail;by_cases s:r5≤q3;case' pos=>
  cases n:(l == 3);case' false=>
   cases t:(r4 == p);rotate_left
   ·go_quiet (fail);replace A:Hd (jg base w (w.drewN nq) (sL g m cap) m gr):=A.drewN nq;replace E:(w.drewN nq).cell? (iA gr 4)=sI r4:=E;replace B:(w.drewN nq).cell? (iA gr 5)=sI r5:=B;replace F:(w.drewN nq).cell? (iA gr 6)=sI r6:=F;replace K:(w.drewN nq).cell? (iA g (off+3))=sI q3:=K;replace D:(w.drewN nq).cell? (iA g (off+11))=sI f11:=D;generalize w.drewN nq=WA at *;go_wp2_with fail;by_cases Y:r5≤f11
    ·go_quiet (fail);go_wp2;go_ret;refine⟨⟨_,rfl⟩,?_⟩;repeat(first|exact A.o|refine jg.set ?_ _ _ C _|refine jg.drewN ?_ _|refine jg.drew ?_)
    cases Z:(r4 == 0)
    ·by_cases b:1<r6
     ·go_quiet (fail);go_wp2;go_ret;refine⟨⟨_,rfl⟩,?_⟩;repeat(first|exact A.o|refine jg.set ?_ _ _ C _|refine jg.drewN ?_ _|refine jg.drew ?_)
     cases c:(r6 == 1)
     ·go_quiet (fail);go_wp2;go_ret;refine⟨⟨_,rfl⟩,?_⟩;repeat(first|exact A.o|refine jg.set ?_ _ _ C _|refine jg.drewN ?_ _|refine jg.drew ?_)
     go_quiet (fail);replace A:Hd (jg base w (WA.drewN nq) (sL g m cap) m gr):=A.drewN nq;replace B:(WA.drewN nq).cell? (iA gr 5)=sI r5:=B;replace K:(WA.drewN nq).cell? (iA g (off+3))=sI q3:=K;generalize WA.drewN nq=WB at *;clear E F D Y b Z c;have M:=A.block.dz (off+3);go_wp2_with fail;replace A:Hd (jg base w (WB.setCell (iA g (off+3)) (iV r5)) (sL g m cap) m gr):=A.set _ _ C _;clear K B M;generalize WB.setCell (iA g (off+3)) (iV r5)=WC at *;obtain⟨J,H⟩:=A.o.block.cell (off+11) (by omega);obtain⟨i,G⟩:=A.o.block.cell (off+10) (by omega);obtain⟨T,L⟩:=A.o.dA.cell 5 (by omega);have I:=A.block.dz (off+10);apply pX
     ·intro f;go_region_law(fail);all_goals exact f
     replace A:Hd (jg base w (WC.setCell (iA g (off+10)) (iV (IntKind.i64.wrap (T - J)))).drew (sL g m cap) m gr):=(A.set _ _ C _).drew;clear H G L I;generalize (WC.setCell (iA g (off+10)) (iV (IntKind.i64.wrap (T - J)))).drew=WD at *;obtain⟨N,R⟩:=A.o.block.cell (off+13) (by omega);obtain⟨z10,O⟩:=A.o.block.cell (off+10) (by omega);obtain⟨j,V⟩:=A.o.block.cell (off+2) (by omega);obtain⟨z9,X⟩:=A.o.block.cell (off+9) (by omega);obtain⟨k,U⟩:=A.o.dA.cell 4 (by omega);have S:=A.block.dz (off+13);have d:=A.block.dz (off+9);go_wp2_with fail;by_cases u1:z10<N
     ·go_quiet (fail);go_wp2;go_ret;refine⟨⟨_,rfl⟩,?_⟩;repeat(first|exact A.o|refine jg.set ?_ _ _ C _|refine jg.drewN ?_ _|refine jg.drew ?_)
     by_cases u2:0<N
     ·cases u3:(j != 2)
      ·go_quiet (fail);go_wp2;go_ret;refine⟨⟨_,rfl⟩,?_⟩;repeat(first|exact A.o|refine jg.set ?_ _ _ C _|refine jg.drewN ?_ _|refine jg.drew ?_)
      go_quiet (fail);go_wp2;go_ret;refine⟨⟨_,rfl⟩,?_⟩;repeat(first|exact A.o|refine jg.set ?_ _ _ C _|refine jg.drewN ?_ _|refine jg.drew ?_)
     go_quiet (fail);go_wp2;go_ret;refine⟨⟨_,rfl⟩,?_⟩;repeat(first|exact A.o|refine jg.set ?_ _ _ C _|refine jg.drewN ?_ _|refine jg.drew ?_)
    go_quiet (fail);go_wp2;go_ret;refine⟨⟨_,rfl⟩,?_⟩;repeat(first|exact A.o|refine jg.set ?_ _ _ C _|refine jg.drewN ?_ _|refine jg.drew ?_)
  case' true=>
   go_quiet (fail);replace A:Hd (jg base w (w.drewN nq) (sL g m cap) m gr):=A.drewN nq;replace E:(w.drewN nq).cell? (iA gr 4)=sI r4:=E;replace B:(w.drewN nq).cell? (iA gr 5)=sI r5:=B;replace F:(w.drewN nq).cell? (iA gr 6)=sI r6:=F;replace K:(w.drewN nq).cell? (iA g (off+3))=sI q3:=K;replace D:(w.drewN nq).cell? (iA g (off+11))=sI f11:=D;generalize w.drewN nq=WA at *;go_wp2_with fail;by_cases Y:r5≤f11
   ·go_quiet (fail);go_wp2;go_ret;refine⟨⟨_,rfl⟩,?_⟩;repeat(first|exact A.o|refine jg.set ?_ _ _ C _|refine jg.drewN ?_ _|refine jg.drew ?_)
   cases Z:(r4 == 0)
   ·go_quiet (fail);go_wp2;go_ret;refine⟨⟨_,rfl⟩,?_⟩;repeat(first|exact A.o|refine jg.set ?_ _ _ C _|refine jg.drewN ?_ _|refine jg.drew ?_)
   by_cases b:1<r6
   ·go_quiet (fail);go_wp2;go_ret;refine⟨⟨_,rfl⟩,?_⟩;repeat(first|exact A.o|refine jg.set ?_ _ _ C _|refine jg.drewN ?_ _|refine jg.drew ?_)
   cases c:(r6 == 1)
   ·go_quiet (fail);go_wp2;go_ret;refine⟨⟨_,rfl⟩,?_⟩;repeat(first|exact A.o|refine jg.set ?_ _ _ C _|refine jg.drewN ?_ _|refine jg.drew ?_)
   go_quiet (fail);replace A:Hd (jg base w (WA.drewN nq) (sL g m cap) m gr):=A.drewN nq;replace B:(WA.drewN nq).cell? (iA gr 5)=sI r5:=B;replace K:(WA.drewN nq).cell? (iA g (off+3))=sI q3:=K;generalize WA.drewN nq=WB at *;clear E F D Y b Z c;have M:=A.block.dz (off+3);go_wp2_with fail;replace A:Hd (jg base w (WB.setCell (iA g (off+3)) (iV r5)) (sL g m cap) m gr):=A.set _ _ C _;clear K B M;generalize WB.setCell (iA g (off+3)) (iV r5)=WC at *;obtain⟨J,H⟩:=A.o.block.cell (off+11) (by omega);obtain⟨i,G⟩:=A.o.block.cell (off+10) (by omega);obtain⟨T,L⟩:=A.o.dA.cell 5 (by omega);have I:=A.block.dz (off+10);apply pX
   ·intro f;go_region_law(fail);all_goals exact f
   replace A:Hd (jg base w (WC.setCell (iA g (off+10)) (iV (IntKind.i64.wrap (T - J)))).drew (sL g m cap) m gr):=(A.set _ _ C _).drew;clear H G L I;generalize (WC.setCell (iA g (off+10)) (iV (IntKind.i64.wrap (T - J)))).drew=WD at *;obtain⟨N,R⟩:=A.o.block.cell (off+13) (by omega);obtain⟨z10,O⟩:=A.o.block.cell (off+10) (by omega);obtain⟨j,V⟩:=A.o.block.cell (off+2) (by omega);obtain⟨z9,X⟩:=A.o.block.cell (off+9) (by omega);obtain⟨k,U⟩:=A.o.dA.cell 4 (by omega);have S:=A.block.dz (off+13);have d:=A.block.dz (off+9);go_wp2_with fail;by_cases u1:z10<N
   ·go_quiet (fail);go_wp2;go_ret;refine⟨⟨_,rfl⟩,?_⟩;repeat(first|exact A.o|refine jg.set ?_ _ _ C _|refine jg.drewN ?_ _|refine jg.drew ?_)
   by_cases u2:0<N
   ·cases u3:(j != 2)
    ·go_quiet (fail);go_wp2;go_ret;refine⟨⟨_,rfl⟩,?_⟩;repeat(first|exact A.o|refine jg.set ?_ _ _ C _|refine jg.drewN ?_ _|refine jg.drew ?_)
    go_quiet (fail);go_wp2;go_ret;refine⟨⟨_,rfl⟩,?_⟩;repeat(first|exact A.o|refine jg.set ?_ _ _ C _|refine jg.drewN ?_ _|refine jg.drew ?_)
   go_quiet (fail);go_wp2;go_ret;refine⟨⟨_,rfl⟩,?_⟩;repeat(first|exact A.o|refine jg.set ?_ _ _ C _|refine jg.drewN ?_ _|refine jg.drew ?_)
 case' neg=>
  cases n:(l == 3);rotate_left
  ·go_quiet (fail);replace A:Hd (jg base w (w.drewN nq) (sL g m cap) m gr):=A.drewN nq;replace E:(w.drewN nq).cell? (iA gr 4)=sI r4:=E;replace B:(w.drewN nq).cell? (iA gr 5)=sI r5:=B;replace F:(w.drewN nq).cell? (iA gr 6)=sI r6:=F;replace K:(w.drewN nq).cell? (iA g (off+3))=sI q3:=K;replace D:(w.drewN nq).cell? (iA g (off+11))=sI f11:=D;generalize w.drewN nq=WA at *;go_wp2_with fail;by_cases Y:r5≤f11
   ·go_quiet (fail);go_wp2;go_ret;refine⟨⟨_,rfl⟩,?_⟩;repeat(first|exact A.o|refine jg.set ?_ _ _ C _|refine jg.drewN ?_ _|refine jg.drew ?_)
   cases Z:(r4 == 0)
   ·go_quiet (fail);go_wp2;go_ret;refine⟨⟨_,rfl⟩,?_⟩;repeat(first|exact A.o|refine jg.set ?_ _ _ C _|refine jg.drewN ?_ _|refine jg.drew ?_)
   by_cases b:1<r6
   ·go_quiet (fail);go_wp2;go_ret;refine⟨⟨_,rfl⟩,?_⟩;repeat(first|exact A.o|refine jg.set ?_ _ _ C _|refine jg.drewN ?_ _|refine jg.drew ?_)
   cases c:(r6 == 1)
   ·go_quiet (fail);replace A:Hd (jg base w (WA.drewN nq) (sL g m cap) m gr):=A.drewN nq;replace B:(WA.drewN nq).cell? (iA gr 5)=sI r5:=B;replace K:(WA.drewN nq).cell? (iA g (off+3))=sI q3:=K;generalize WA.drewN nq=WB at *;clear E F D Y b Z c;have M:=A.block.dz (off+3);go_wp2_with fail;replace A:Hd (jg base w (WB.setCell (iA g (off+3)) (iV r5)) (sL g m cap) m gr):=A.set _ _ C _;clear K B M;generalize WB.setCell (iA g (off+3)) (iV r5)=WC at *;obtain⟨J,H⟩:=A.o.block.cell (off+11) (by omega);obtain⟨i,G⟩:=A.o.block.cell (off+10) (by omega);obtain⟨T,L⟩:=A.o.dA.cell 5 (by omega);have I:=A.block.dz (off+10);apply pX
    ·intro f;go_region_law(fail);all_goals exact f
    replace A:Hd (jg base w (WC.setCell (iA g (off+10)) (iV (IntKind.i64.wrap (T - J)))).drew (sL g m cap) m gr):=(A.set _ _ C _).drew;clear H G L I;generalize (WC.setCell (iA g (off+10)) (iV (IntKind.i64.wrap (T - J)))).drew=WD at *;obtain⟨N,R⟩:=A.o.block.cell (off+13) (by omega);obtain⟨z10,O⟩:=A.o.block.cell (off+10) (by omega);obtain⟨j,V⟩:=A.o.block.cell (off+2) (by omega);obtain⟨z9,X⟩:=A.o.block.cell (off+9) (by omega);obtain⟨k,U⟩:=A.o.dA.cell 4 (by omega);have S:=A.block.dz (off+13);have d:=A.block.dz (off+9);go_wp2_with fail;go_quiet (fail);go_wp2;go_ret;refine⟨⟨_,rfl⟩,?_⟩;repeat(first|exact A.o|refine jg.set ?_ _ _ C _|refine jg.drewN ?_ _|refine jg.drew ?_)
   go_quiet (fail);go_wp2;go_ret;refine⟨⟨_,rfl⟩,?_⟩;repeat(first|exact A.o|refine jg.set ?_ _ _ C _|refine jg.drewN ?_ _|refine jg.drew ?_)
 all_goals
  go_quiet (fail);replace A:Hd (jg base w (w.drewN nq) (sL g m cap) m gr):=A.drewN nq;replace E:(w.drewN nq).cell? (iA gr 4)=sI r4:=E;replace B:(w.drewN nq).cell? (iA gr 5)=sI r5:=B;replace F:(w.drewN nq).cell? (iA gr 6)=sI r6:=F;replace K:(w.drewN nq).cell? (iA g (off+3))=sI q3:=K;replace D:(w.drewN nq).cell? (iA g (off+11))=sI f11:=D;generalize w.drewN nq=WA at *;go_wp2_with fail;by_cases Y:r5≤f11
  ·go_quiet (fail);go_wp2;go_ret;refine⟨⟨_,rfl⟩,?_⟩;repeat(first|exact A.o|refine jg.set ?_ _ _ C _|refine jg.drewN ?_ _|refine jg.drew ?_)
  cases Z:(r4 == 0)
  ·by_cases b:1<r6
   ·go_quiet (fail);go_wp2;go_ret;refine⟨⟨_,rfl⟩,?_⟩;repeat(first|exact A.o|refine jg.set ?_ _ _ C _|refine jg.drewN ?_ _|refine jg.drew ?_)
   cases c:(r6 == 1)
   ·go_quiet (fail);replace A:Hd (jg base w (WA.drewN nq) (sL g m cap) m gr):=A.drewN nq;replace B:(WA.drewN nq).cell? (iA gr 5)=sI r5:=B;replace K:(WA.drewN nq).cell? (iA g (off+3))=sI q3:=K;generalize WA.drewN nq=WB at *;clear E F D Y b Z c;have M:=A.block.dz (off+3);go_wp2_with fail;replace A:Hd (jg base w (WB.setCell (iA g (off+3)) (iV r5)) (sL g m cap) m gr):=A.set _ _ C _;clear K B M;generalize WB.setCell (iA g (off+3)) (iV r5)=WC at *;obtain⟨J,H⟩:=A.o.block.cell (off+11) (by omega);obtain⟨i,G⟩:=A.o.block.cell (off+10) (by omega);obtain⟨T,L⟩:=A.o.dA.cell 5 (by omega);have I:=A.block.dz (off+10);apply pX
    ·intro f;go_region_law(fail);all_goals exact f
    replace A:Hd (jg base w (WC.setCell (iA g (off+10)) (iV (IntKind.i64.wrap (T - J)))).drew (sL g m cap) m gr):=(A.set _ _ C _).drew;clear H G L I;generalize (WC.setCell (iA g (off+10)) (iV (IntKind.i64.wrap (T - J)))).drew=WD at *;obtain⟨N,R⟩:=A.o.block.cell (off+13) (by omega);obtain⟨z10,O⟩:=A.o.block.cell (off+10) (by omega);obtain⟨j,V⟩:=A.o.block.cell (off+2) (by omega);obtain⟨z9,X⟩:=A.o.block.cell (off+9) (by omega);obtain⟨k,U⟩:=A.o.dA.cell 4 (by omega);have S:=A.block.dz (off+13);have d:=A.block.dz (off+9);go_wp2_with fail;go_quiet (fail);go_wp2;go_ret;refine⟨⟨_,rfl⟩,?_⟩;repeat(first|exact A.o|refine jg.set ?_ _ _ C _|refine jg.drewN ?_ _|refine jg.drew ?_)
   go_quiet (fail);go_wp2;go_ret;refine⟨⟨_,rfl⟩,?_⟩;repeat(first|exact A.o|refine jg.set ?_ _ _ C _|refine jg.drewN ?_ _|refine jg.drew ?_)
  go_quiet (fail);go_wp2;go_ret;refine⟨⟨_,rfl⟩,?_⟩;repeat(first|exact A.o|refine jg.set ?_ _ _ C _|refine jg.drewN ?_ _|refine jg.drew ?_)
end
end Go.Proofs.YtehmdohpmpbnnaaGreatDoor
