import Derived.Test.YtehmdohpmpbnnaaGreatDoorQ00
import Derived.Test.YtehmdohpmpbnnaaGreatDoorQ11
import Derived.Test.YtehmdohpmpbnnaaGreatDoorQ30
import Derived.Test.YtehmdohpmpbnnaaGreatDoorQ38
import Derived.Test.YtehmdohpmpbnnaaGreatDoorQ39
import Derived.Deep.QuietTactic
import Derived.BigQuiet
import Derived.Laws.AppendOwnNone
set_option linter.all false
set_option maxRecDepth 100000
set_option maxHeartbeats 8000000
namespace Go.Proofs.YtehmdohpmpbnnaaGreatDoor
variable{w w':World}{v v':Value}{m base:Nat}{F:Nat→Prop}{tag:Nat→Tag}{f:Nat→Int}
open Go.Proofs.Tryz
section
open Go.Extern Go.Maps Go.RowKit
def Duo.told(p:Duo)(t:ByteArray):ByteArray:=ba (p.e.apply t.data.toList).out
theorem zDc(t:ByteArray):ba t.data.toList=t:=by cases t;simp[ba]
theorem zLj(e:bf)(t:List UInt8):e.hush.apply t=e.apply t:=rfl
section
variable {tag:Nat→Tag} {ps:List Duo} {w0 w:World} {n:Nat} {ws:List ByteArray} {left:Int}
theorem Touch.cell{a b:World}(h:Touch F a b){g:Nat}(hg:g<a.heap.size)(hF:¬F g)(j:Nat):b.cell? (iA g j)=a.cell? (iA g j):=World.cell?_of_block (a:=(iA g j)) (h.block g hg hF)
theorem Touch.dz{a b:World}(h:Touch F a b){g:Nat}(hg:g<a.heap.size)(hF:¬F g)(j:Nat):b.frozen? (iA g j)=a.frozen? (iA g j):=World.frozen?_of_block (a:=(iA g j)) (h.block g hg hF)
theorem wu.row(h:wu tag ps w0 w n ws left){gd cap:Nat}(hc5:w.cell? (iA w0.heap.size 5)=some (sL gd ps.length cap)):gd<w.heap.size∧w0.heap.size<gd∧tag gd=.own∧(∀j,w.frozen? (iA gd j)=false)∧∀i p,ps[i]? =some p→w.cell? (iA gd (i*3))=some (iP p.nb)∧w.cell? (iA gd (i*3+1))=some (iP p.db)∧w.cell? (iA gd (i*3+2))=some (.string p.all):=by
 obtain⟨v,C,A,D⟩:=h.jH;obtain rfl:=Option.some.inj (hc5.symm.trans C);have G:=A.lt gd rfl;obtain⟨E,F⟩:=cB A (g:=gd) rfl;have B:∀j u,(ps.flatMap Duo.cells)[j]? =some u→w.cell? (iA gd j)=some u:=fun j u hu=>by
  have:=World.ownsRow.cells A (g:=gd) rfl j u hu;rw[Addr.add_lit]at this;simpa using this
 refine⟨G.2,by omega,D gd rfl,fun j=>by simp[World.frozen?,F],fun i p hp=>⟨B _ _ ?_,B _ _ ?_,B _ _ ?_⟩⟩
 ·have:=zB3 ps i p hp 0 (by omega);simpa [Duo.cells] using this
 ·have:=zB3 ps i p hp 1 (by omega);simpa [Duo.cells] using this
 have:=zB3 ps i p hp 2 (by omega);simpa [Duo.cells] using this
theorem wu.desk(h:wu tag ps w0 w n ws left){i:Nat}{p:Duo}(hp:ps[i]? =some p):w.cell? (iA p.nb 0)=some (iP p.eb):=by
 have A:=(h.duos i p hp).dsk;simp[World.cell?,A]
theorem wu.apply_both(h:wu tag ps w0 w n ws left){ad:Nat→Addr}{st:Nat→ByteArray}(hE:lq w0 ad st)(hW:qx w0){gd cap:Nat}(hc5:w.cell? (iA w0.heap.size 5)=some (sL gd ps.length cap)){i:Nat}{p:Duo}(hp:ps[i]? =some p)(hs:p.all.size≤1048576)(t:ByteArray)(ht:t.size≤1048576):
 Cl 18 #[iP p.eb,.string t] w fun en w1=>en=.returned (.string (p.told t))∧w1.cell? (iA gd (i*3+1))=some (iP p.db)∧
  Hd (Cl 41 #[iP p.db,.string t] w1 fun en w2=>en=.returned (.string (p.told t))∧w2.cell? (iA gd (i*3+2))=some (.string p.all)∧w2.frozen? (iA gd (i*3+2))=false∧
   Hd ((∃tag' p',p'.all=p.all++p.told t∧wu tag' (ps.set i p') w0 (w2.setCell (iA gd (i*3+2)) (.string (p.all++p.told t))) n ws left)∧(∀(k:Nat) (cur:Array Value),tag k=.own→w.heap[k]? =some (.cells cur 29 (0,0))→(w2.setCell (iA gd (i*3+2)) (.string (p.all++p.told t))).heap[k]? =some (.cells cur 29 (0,0)))∧(w2.setCell (iA gd (i*3+2)) (.string (p.all++p.told t))).cell? (iA w0.heap.size 5)=w.cell? (iA w0.heap.size 5))):=by
 have J:=h.duos i p hp;obtain⟨O,g2,Z,m,s⟩:=h.row hc5;obtain⟨c0,c1,c2⟩:=s i p hp;have H:=J.good;have X:t.data.toList.length≤1048576:=by simpa using ht
 have I:=H.taking hs t.data.toList X;obtain⟨u,_⟩:=H.apply t.data.toList;have V:(p.all++p.told t).size=p.all.size+(p.e.apply t.data.toList).out.length:=by
  rw[ByteArray.size_append];unfold Duo.told;rw[zx]
 have T:=h.lt;have R:∀k,(tag k=.code i∨w.heap.size≤k)→w0.heap.size≤k:=fun k A=>by
  rcases A with A|A
  ·rcases Nat.lt_or_ge k w0.heap.size with b|b
   ·rw[h.jG k (by omega)]at A;cases A
   exact b
  omega
 have E:¬(tag gd=.code i∨w.heap.size≤gd):=fun hc=>hc.elim (fun e=>by rw[Z]at e;cases e) (fun e=>by omega)
 have M:=zDa (w0:=w0) (F:=fun k=>tag k=.code i∨w.heap.size≤k) (ad:=ad) (st:=st) ⟨hE,hW,R⟩ J.code (J.holds.vz rfl) (H.pegs.vz rfl) rfl h.low t.data.toList I (by show p.e.all.length+(p.e.rest++t.data.toList).length≤_;rw[List.length_append];have:=H.len;have:=H.told;have:=H.rest;omega);rw[zDc]at M;refine M.mono ?_;rintro en w1 ⟨rfl,y⟩;obtain⟨⟨g',S',d,f,G,z,q5⟩,qB⟩:=y.out;rw[zLj]at d f;have s1:=G.size;have U:dn (fun k=>tag k=.doc i∨w1.heap.size≤k) p.base2 w1 p.db p.e p.dv p.av:=J.doc.move (fun q hq=>.inl (J.tdv q hq)) s1 (fun k A hF=>by
  have L:=hF.resolve_right (by omega);exact⟨G.block k A (fun hc=>hc.elim (fun e=>by rw[L]at e;cases e) (fun e=>by omega)),.inl L⟩) (fun k A=>.inr A)
 refine⟨rfl,(G.cell O E _).trans c1,?_⟩;have C:=zJ t.data.toList U I;rw[zDc]at C;refine C.mono ?_;rintro en w2 ⟨rfl,⟨j,r1⟩,N⟩;have B:¬(tag gd=.doc i∨w1.heap.size≤gd):=fun hc=>hc.elim (fun e=>by rw[Z]at e;cases e) (fun e=>by omega)
 refine⟨rfl,(N.cell (by omega) B _).trans ((G.cell O E _).trans c2),(N.dz (by omega) B _).trans ((G.dz O E _).trans (m _)),?_⟩;have D:∀k,k<w.heap.size→tag k=.own→w2.heap[k]? =w.heap[k]? :=fun k A ho=>(N.block k (by omega) (fun hc=>hc.elim (fun e=>by rw[ho]at e;cases e) (fun e=>by omega))).trans (G.block k A (fun hc=>hc.elim (fun e=>by rw[ho]at e;cases e) (fun e=>by omega)))
 refine⟨h.applied hp hc5 G d z (f.vz rfl) N r1 (by rw[V];exact u),fun k cur ho hb=>?_,?_⟩
 ·have S:k<w.heap.size:=(Array.getElem?_eq_some_iff.1 hb).1;obtain⟨v,Y,K,x⟩:=h.jH;obtain rfl:=Option.some.inj (hc5.symm.trans Y);rw[Below.heap_setCell _ _ _ _ (fun e=>?_),D k S ho]
  ·exact hb
  have e:k=gd:=e;obtain⟨c,l⟩:=cB K (g:=gd) rfl;rw[e]at hb;exact absurd (xu l hb) (by decide)
 rw[World.cell?_setCell_other _ _ _ _ (by intro e;injection e with ea eb;omega)];exact World.cell?_of_block (a:=(iA w0.heap.size 5)) (D _ T (h.jG _ (Nat.le_refl _)))
end
end
section
open Go.Extern Go.RowKit
def SR(base:Nat)(w:World)(v:Value)(m:Nat):Prop:= ∃xs,w.ownsRow base 155 15 v m xs∧∀u∈xs,∃x,u=iV x
theorem SR.nil(base:Nat)(w:World):SR base w (.slice none 0 0) 0:=⟨[],World.ownsRow_nil _ _ _ _,fun u h=>by cases h⟩
theorem SR.shape(h:SR base w v m):(v=.slice none 0 0∧m=0)∨∃g cap,v=sL g m cap∧base≤g∧jm w g 155 (m*15):=by
 obtain⟨E,A,C⟩:=h;rcases A.2 with h|⟨g,cap,B,rfl,D,_⟩
 ·exact .inl h
 exact .inr ⟨g,cap,rfl,D,jm.of_row A C⟩
theorem SR.block(h:SR base w v m)(hb:∀q,v.ownBlock=some q→w'.heap[q]? =w.heap[q]?):SR base w' v m:=by
 obtain⟨C,A,B⟩:=h;exact⟨C,qz A hb,B⟩
theorem SR.below(h:SR base w v m)(hb:Below w.heap.size w w'):SR base w' v m:=by
 obtain⟨C,A,B⟩:=h;exact⟨C,qz A (fun q hq=>hb.block q (A.lt q hq).2),B⟩
theorem SR.drewN(h:SR base w v m)(k:Nat):SR base (w.drewN k) v m:=h
theorem SR.drew(h:SR base w v m):SR base w.drew v m:=h
theorem SR.lt(h:SR base w v m):∀q,v.ownBlock=some q→base≤q∧q<w.heap.size:=by
 obtain⟨B,A,_⟩:=h;exact A.lt
theorem SR.set(h:SR base w v m)(b o:Nat)(x:Int):SR base (w.setCell (iA b o) (iV x)) v m:=by
 obtain⟨M,⟨J,H⟩,I⟩:=h;rcases H with H|⟨g,E,A,rfl,K,L,B,F,C,G⟩
 ·exact⟨M,⟨J,.inl H⟩,I⟩
 by_cases e:g=b
 ·subst e;refine⟨(A.setIfInBounds o (iV x)).toList.take (m*15),⟨?_,.inr ⟨g,E,_,rfl,K,ja _ _ _ _ _ _ _ L,B,F,by simpa using C,rfl⟩⟩,fun u D=>?_⟩
  ·have:m*15≤A.size:=by rw[C];exact Nat.mul_le_mul_right _ B
   simp;omega
  rw[Array.toList_setIfInBounds,List.take_set]at D;rw[G]at D;rcases List.mem_or_eq_of_mem_set D with D|D
  ·exact I u D
  exact⟨x,D⟩
 exact⟨M,⟨J,.inr ⟨g,E,A,rfl,K,(Below.heap_setCell _ _ _ _ e).trans L,B,F,C,G⟩⟩,I⟩
theorem oK(base:Nat)(w:World)(v:Value)(m:Nat)(id:Int)(h:SR base w v m)(hm:m≤1000000000):
 Cl 146 #[v,iV id] w fun e w'=>(e=.returned (iV (-1))∨∃i:Nat,i<m∧e=.returned (iV (i:Int)))∧w'=w:=by
 rcases h.shape with⟨rfl,rfl⟩|⟨g,D,rfl,L,B⟩
 ·go_enter func146,ntmps146;go_wp2;go_loopw [5] (fun i wr=>i=iV 0∧wr=w) (fun _ _=>0)
  case atStart=>exact⟨rfl,rfl⟩
  case round=>
   obtain⟨rfl,rfl⟩:=hrel;go_wp2;go_ret;exact⟨.inl rfl,rfl⟩
 have A:=hid B;go_enter func146,ntmps146;go_wp2;go_loopw [5] (fun i wr=> ∃k:Nat,i=iV k∧k≤m∧wr=w) (fun i _=>m - (intOf i).toNat)
 case atStart=>exact⟨0,rfl,Nat.zero_le _,rfl⟩
 case round=>
  obtain⟨k,rfl,M,rfl⟩:=hrel;by_cases C:k<m
  ·have E:(k:Int)<(m:Int):=by omega
   obtain⟨G,c0⟩:=A.o.cell (k*15) (by omega);obtain⟨H,I⟩:=A.o.cell (k*15+8) (by omega);cases J:(G == id)
   ·go_wp2;go_roundw
    case rel=>exact⟨k+1,by go_num,by omega,by first|rfl|trivial⟩
    case measure=>simp[intOf];omega
   cases K:(H == 1)
   ·go_wp2;go_roundw
    case rel=>exact⟨k+1,by go_num,by omega,by first|rfl|trivial⟩
    case measure=>simp[intOf];omega
   go_wp2;go_ret;exact⟨.inr ⟨k,C,rfl⟩,rfl⟩
  have F:¬(k:Int)<(m:Int):=by omega
  go_wp2;go_ret;exact⟨.inl rfl,rfl⟩
theorem zPb(p p':Option Addr)(c c' m n:Nat)(w:World)(h:m≠n)(hm:m≤1000000000)(hn:n≤1000000000):
 Cl 25 #[.slice p m c,.slice p' n c'] w fun e w'=>e=rB false∧∃k,w'=w.drewN k:=by
 have A:=beq_eq_false_iff_ne.2 (by omega);go_enter func25,ntmps25;go_wp2;go_ret;exact⟨rfl,0,rfl⟩
theorem gN(p p':Option Addr)(c c':Nat)(w:World):
 Cl 25 #[.slice p 0 c,.slice p' 0 c'] w fun e w'=>e=rB true∧∃k,w'=w.drewN k:=by
 go_enter func25,ntmps25;go_wp2;go_loopw [5] (fun i wr=>i=iV 0∧wr=w) (fun _ _=>0)
 case atStart=>exact⟨rfl,rfl⟩
 case round=>
  obtain⟨rfl,rfl⟩:=hrel;go_wp2;go_ret;exact⟨rfl,0,rfl⟩
theorem zLk{ta tb:Tag}(hm:m≤1000000000)(h:fK tag ta 55 w v m f)(h':fK tag tb 55 w v' m f)(k:Nat):Cl 25 #[v,v'] (w.drewN k) fun e w'=>e=rB true∧∃j,w'=(w.drewN k).drewN j:=by
 obtain⟨p,c,rfl,h⟩:=h;obtain⟨E,A,rfl,h'⟩:=h';by_cases z:m=0
 ·subst z;exact gN p E c A _
 obtain⟨g,rfl,-,C⟩:=h.resolve_left z;obtain⟨B,rfl,-,D⟩:=h'.resolve_left z;refine(qU g B c A m f f (w.drewN k) hm (fun j hj=>C.cell j hj) (fun j hj=>D.cell j hj)).mono ?_;rintro e w' ⟨rfl,h⟩;exact⟨by rw[decide_eq_true (fun _ _=>rfl)],h⟩
theorem zLl(p p':Option Addr)(c c' m n:Nat)(w:World)(h:m≠n)(hm:m≤1000000000)(hn:n≤1000000000):
 Cl 26 #[.slice p m c,.slice p' n c'] w fun e w'=>e=rB false∧∃k,w'=w.drewN k:=by
 have A:=beq_eq_false_iff_ne.2 (by omega);go_enter func26,ntmps26;go_wp2;go_ret;exact⟨rfl,0,rfl⟩
theorem zLm(p p':Option Addr)(c c':Nat)(w:World):
 Cl 26 #[.slice p 0 c,.slice p' 0 c'] w fun e w'=>e=rB true∧∃k,w'=w.drewN k:=by
 go_enter func26,ntmps26;go_wp2;go_loopw [5] (fun i wr=>i=iV 0∧wr=w) (fun _ _=>0)
 case atStart=>exact⟨rfl,rfl⟩
 case round=>
  obtain⟨rfl,rfl⟩:=hrel;go_wp2;go_ret;exact⟨rfl,0,rfl⟩
theorem qF(w:World)(p p':Option Addr)(c c' m n:Nat)(X Y:Nat→Int)(hm:m≤1000000000)(hn:n≤1000000000)(hx:m=0∨∃g,p=some (iA g 0)∧∀j,j<7*m→w.cell? (iA g j)=sI (X j))(hy:n=0∨∃g,p'=some (iA g 0)∧∀j,j<7*n→w.cell? (iA g j)=sI (Y j))(k:Nat):
 Cl 26 #[.slice p m c,.slice p' n c'] (w.drewN k) fun e w'=>e=.returned (.bool (decide (m=n∧∀j,j<7*m→X j=Y j)))∧∃j,w'=(w.drewN k).drewN j:=by
 by_cases e:m=n
 ·subst e;by_cases z:m=0
  ·subst z;refine(zLm p p' c c' _).mono ?_;rintro e w' ⟨rfl,h⟩;exact⟨by rw[decide_eq_true ⟨rfl,fun j hj=>absurd hj (by omega)⟩],h⟩
  obtain⟨g,rfl,B⟩:=hx.resolve_left z;obtain⟨A,rfl,C⟩:=hy.resolve_left z;refine(zF g A c c' m X Y (w.drewN k) hm (fun j hj=>B j hj) (fun j hj=>C j hj)).mono ?_;rintro e w' ⟨rfl,h⟩;refine⟨?_,h⟩;by_cases q:∀j,j<7*m→X j=Y j
  ·rw[decide_eq_true q,decide_eq_true ⟨rfl,q⟩]
  rw[decide_eq_false q,decide_eq_false (fun h=>q h.2)]
 refine(zLl p p' c c' m n _ e hm hn).mono ?_;rintro D w' ⟨rfl,h⟩;exact⟨by rw[decide_eq_false (fun h=>e h.1)],h⟩
theorem zLn{ta tb:Tag}(hm:m≤1000000000)(h:fK tag ta 121 w v m f)(h':fK tag tb 121 w v' m f)(k:Nat):Cl 26 #[v,v'] (w.drewN k) fun e w'=>e=rB true∧∃j,w'=(w.drewN k).drewN j:=by
 obtain⟨p,c,rfl,h⟩:=h;obtain⟨B,A,rfl,h'⟩:=h';refine(qF w p B c A m m f f hm hm (h.imp id fun⟨g,e,_,i⟩=>⟨g,e,fun j hj=>i.cell j hj⟩) (h'.imp id fun⟨g,e,_,i⟩=>⟨g,e,fun j hj=>i.cell j hj⟩) k).mono ?_;rintro e w' ⟨rfl,h⟩;exact⟨by rw[decide_eq_true ⟨rfl,fun _ _=>rfl⟩],h⟩
theorem pV{xs:List Value}(h:∀u∈xs,∃x,u=iV x):∀u∈xs,u.oneCell'=true:=fun u hu=>by obtain⟨x,rfl⟩:=h u hu;rfl
def lJ(e:Ending):Prop:= ∃r:Bool,e=rB r
def AlikeL(w:World)(r t s u:Value):Prop:=(∀k,Cl 25 #[r,t] (w.drewN k) fun e w'=>e=rB true∧∃j,w'=(w.drewN k).drewN j)∧∀k,Cl 26 #[s,u] (w.drewN k) fun e w'=>e=rB true∧∃j,w'=(w.drewN k).drewN j
theorem zDd{w0:World}{n:Nat}{ws:List ByteArray}{left:Int}(h:St w0 w n ws left)(hn:n≤1000000000):
 Cl 15 #[iP w0.heap.size] w fun e w'=>e=rB true∧∃k,w'=w.drewN k:=by
 obtain⟨A5,ps,h,_⟩:=h;obtain⟨v,m,xs,A⟩:=h.lx;have hc:=A.cell;have hm:=A.len;by_cases hz:m=0
 ·subst hz;rcases A.row.2 with⟨rfl,-⟩|⟨g,E,b,rfl,hg,hh,p,y,B,R⟩;all_goals
   try clear hh R B
   go_enter func15,ntmps15;go_wp2;go_loopw [3] (fun i wr=>i=iV 0∧wr=w) (fun _ _=>0)
   case atStart=>exact⟨rfl,rfl⟩
   case round=>
    obtain⟨rfl,rfl⟩:=hrel;go_wp2;go_ret;exact⟨rfl,0,rfl⟩
 rcases A.row.2 with⟨rfl,z⟩|⟨g,E,b,rfl,hg,hh,p,y,B,R⟩
 ·exact absurd z hz
 have HL:Hd (∀q,q<m→∃J S H K T I C F c1 D G c2,w.cell? (iA g (q*4))=some (.slice J S H)∧w.cell? (iA g (q*4+1))=some (.slice K T I)∧w.cell? (iA g (q*4+2))=some (.slice C F c1)∧w.cell? (iA g (q*4+3))=some (.slice D G c2)∧AlikeL w (.slice J S H) (.slice K T I) (.slice C F c1) (.slice D G c2)):=fun q hq=>by
  obtain⟨r,t,s,u,a1,a2,a3,a4,M,f,M',f',hM,c,h1,h2,h3,h4⟩:=A.ok q hq;have b1:=A.cells _ _ a1;have b2:=A.cells _ _ a2;have b3:=A.cells _ _ a3;have b4:=A.cells _ _ a4;rw[Nat.mul_comm]at b1 b2 b3 b4;have d:AlikeL w r t s u:=⟨fun k=>zLk hM h1 h2 k,fun k=>zLn c h3 h4 k⟩;obtain⟨J,H,rfl,_⟩:=h1;obtain⟨K,I,rfl,_⟩:=h2;obtain⟨C,c1,rfl,_⟩:=h3;obtain⟨D,c2,rfl,_⟩:=h4;exact⟨_,_,_,_,_,_,_,_,_,_,_,_,b1,b2,b3,b4,d⟩
 go_enter func15,ntmps15;go_wp2;go_loopw [3] (fun i wr=> ∃k j:Nat,i=iV k∧k≤m∧wr=w.drewN j) (fun i _=>m - (intOf i).toNat)
 case atStart=>exact⟨0,0,rfl,Nat.zero_le _,rfl⟩
 case round=>
  obtain⟨k,j,rfl,hk,rfl⟩:=hrel;by_cases x:k<m
  ·have A1:(k:Int)<(m:Int):=by omega
   obtain⟨J,S,H,K,T,I,C,F,c1,D,G,c2,k1,k2,k3,k4,N,O⟩:=HL k x;have k1:(w.drewN j).cell? (iA g (k*4))=some (.slice J S H):=k1;have k2:(w.drewN j).cell? (iA g (k*4+1))=some (.slice K T I):=k2;have k3:(w.drewN j).cell? (iA g (k*4+2))=some (.slice C F c1):=k3;have k4:(w.drewN j).cell? (iA g (k*4+3))=some (.slice D G c2):=k4;have l:(w.drewN j).cell? (iA w0.heap.size 6)=some (sL g m E):=hc;have HW:Hd (∃a,w.drewN j=w.drewN a):=⟨j,rfl⟩;have U:Hd (∀k,Cl 25 #[.slice J S H,.slice K T I] ((w.drewN j).drewN k) fun e w'=>e=rB true∧∃i,w'=((w.drewN j).drewN k).drewN i):=fun k=>by rw[fB];exact N _
   have V:Hd (∀k,Cl 26 #[.slice C F c1,.slice D G c2] ((w.drewN j).drewN k) fun e w'=>e=rB true∧∃i,w'=((w.drewN j).drewN k).drewN i):=fun k=>by rw[fB];exact O _
   generalize w.drewN j=W at *;go_wp2_with fail;go_quiet ((go_at_call 25;refine Calls.quiet_of (U _)));go_wp2_with fail;have A3:(W.drewN nq).cell? (iA g (k*4+2))=some (.slice C F c1):=k3;have A4:(W.drewN nq).cell? (iA g (k*4+3))=some (.slice D G c2):=k4;have A0:(W.drewN nq).cell? (iA w0.heap.size 6)=some (sL g m E):=l;have Y:Hd (∃a,W.drewN nq=w.drewN a):=by
    obtain⟨a,L⟩:=HW;exact⟨a+nq,by rw[L,fB]⟩
   have X:Hd (∀k,Cl 26 #[.slice C F c1,.slice D G c2] ((W.drewN nq).drewN k) fun e w'=>e=rB true∧∃i,w'=((W.drewN nq).drewN k).drewN i):=fun k=>by rw[fB];exact V _
   generalize W.drewN nq=W2 at *;go_quiet ((go_at_call 26;refine Calls.quiet_of (X _)));have Z:Hd (∃a,W2.drewN nq=w.drewN a):=by
    obtain⟨a,L⟩:=Y;exact⟨a+nq,by rw[L,fB]⟩
   generalize W2.drewN nq=W3 at *;go_wp2;go_roundw
   case rel=>
    obtain⟨a,L⟩:=Z;exact⟨k+1,a,by go_num,by omega,L⟩
   case measure=>simp[intOf];omega
  have A2:¬(k:Int)<(m:Int):=by omega
  go_wp2;go_ret;exact⟨rfl,j,rfl⟩
end
end Go.Proofs.YtehmdohpmpbnnaaGreatDoor
