import Derived.Test.YtehmdohpmpbnnaaGreatDoorQ00
import Derived.Test.YtehmdohpmpbnnaaGreatDoorQ16
import Derived.Test.YtehmdohpmpbnnaaGreatDoorQ36
import Derived.Test.YtehmdohpmpbnnaaGreatDoorQ39
import Derived.Test.YtehmdohpmpbnnaaGreatDoorQ40
import Derived.Deep.AppendLies
import Derived.Deep.RegionHeld
set_option linter.all false
set_option maxRecDepth 100000
set_option maxHeartbeats 8000000
namespace Go.Proofs.YtehmdohpmpbnnaaGreatDoor
variable{w w0:World}{n:Nat}{ws:List ByteArray}{left:Int}{ds:List Int}{tag:Nat→Tag}{ps:List Duo}{ad:Nat→Addr}{st:Nat→ByteArray}
open Go.Proofs.Tryz
open Go.Extern Go.Maps Go.RowKit
theorem Tryz.infoPair:(prog.info? 60).map (fun i=>(i.size,i.bytes))=some (3,32):=by kernel_rfl
theorem Tryz.zeroPair:(prog.info? 60).map (fun i=>i.zero)=some (some (.agg #[.pointer none,.pointer none,.string ⟨#[]⟩])):=by kernel_rfl
theorem zDf{B:Nat}{a:World}(h:Below B a w):Below B a w.drew:=⟨h.os,h.tape,h.output,h.size,h.block⟩
theorem jV.grow{w':World}{nb:Nat}{a b c:Int}(h:jV w w' nb a b c ds):Below w.heap.size w w':=by
 obtain⟨B,g,_,_,_,_,_,A⟩:=h;exact A
theorem wu.more{W W1 W2:World}(h:wu tag ps w0 W n ws left){nb db:Nat}{a b c:Int}{dv:Value}(hok:dV a b c=true)(hds:ds.length≤1000000000)(hdb:∀x∈ds,-9223372036854775808≤x∧x≤9223372036854775807)
 (hD:jV W W1 nb a b c ds) (hR:dn (fun k=>W1.heap.size≤k) W1.heap.size W2 db (dG a b c ds) dv (.slice none 0 0)) (hB:Below W1.heap.size W1 W2):
 ∃tag' p,wu tag' ps w0 W2 n ws left∧DuoOk tag' ps.length W2 p∧p.nb=nb∧p.db=db∧p.all=⟨#[]⟩:=by
 obtain⟨I,g,K,E,F,H,L,B⟩:=hD;have B:Bw W W1:=B;have M:=B.size;have N:=hB.size;have D:nb<W1.heap.size:=(Array.getElem?_eq_some_iff.1 E).1;have C:Bw W W2:=B.trans (hB.mono B.size);refine⟨fun k=>if k<W.heap.size then tag k else if k=nb then .dsk ps.length else if k<W1.heap.size then .code ps.length else if k<W2.heap.size then .doc ps.length else .own,⟨nb,I,db,W.heap.size+1,W1.heap.size,⟨#[]⟩,dG a b c ds,g,mX,dv,.slice none 0 0⟩,h.below' C (fun k hk=>if_pos hk) (fun k hk=>?_),⟨(hB.block nb D).trans E,?_,F.move hB.size (fun k hk A=>⟨hB.block k hk,.inl ?_⟩) (fun k hk=>.inr hk),?_,fun q hq=>?_,H,zCi hok hds hdb⟩,rfl,rfl,rfl⟩
 ·show(if k<W.heap.size then _ else _)=_;rw[if_neg (by omega),if_neg (by omega),if_neg (by omega),if_neg (by omega)]
 ·show(if nb<W.heap.size then _ else _)=_;rw[if_neg (by omega),if_pos rfl]
 ·show(if k<W.heap.size then _ else _)=_;rw[if_neg (by have:=A.1;omega),if_neg A.2,if_pos hk]
 ·have A:=hR.wider (G:=fun k=>W1.heap.size≤k) (fun _ h=>h);refine A.move (fun q hq=>(hR.dr.lt q hq).1) (Nat.le_refl _) (fun k hk A=>⟨rfl,.inl ?_⟩) (fun k hk=>.inr hk);have A:W1.heap.size≤k:=A;show(if k<W.heap.size then _ else _)=_;rw[if_neg (by omega),if_neg (by omega),if_neg (by omega),if_pos hk]
 have J:=hR.dr.lt q hq;show(if q<W.heap.size then _ else _)=_;rw[if_neg (by omega),if_neg (by omega),if_neg (by omega),if_pos J.2]
theorem wu.store{W w1:World}(h:wu tag ps w0 W n ws left){p:Duo}(hp:DuoOk tag ps.length W p){v v':Value}(hc5:W.cell? (iA w0.heap.size 5)=some v)(ho:W.ownsRow (w0.heap.size+1) 60 3 v ps.length (ps.flatMap Duo.cells))(hg:Grown tag v W w1 v')(ho':w1.ownsRow (w0.heap.size+1) 60 3 v' (ps.length+1) (ps.flatMap Duo.cells++p.cells)):wu tag (ps++ [p]) w0 (w1.setCell (iA w0.heap.size 5) v') (n+1) ws left:=by
 have C:=hg.keeps h 5 v';have A:W.heap.size≤(w1.setCell (iA w0.heap.size 5) v').heap.size:=by simpa using hg.size
 refine h.put_desks hc5 ho hg (by rw[List.length_append,List.flatMap_append,List.flatMap_singleton];exact ho') (by rw[List.length_append];have:=h.tN;simp;omega) fun i x hx=>?_
 by_cases e:i<ps.length
 ·rw[List.getElem?_append_left e]at hx;exact h.gM A C i x hx
 have D:=(List.getElem?_eq_some_iff.1 hx).1;rw[List.length_append]at D;have:i=ps.length:=by simp at D;omega
 subst this;rw[List.getElem?_append_right (Nat.le_refl _),Nat.sub_self]at hx;obtain rfl:p=x:=by simpa using hx
 exact hp.move A fun k hk1 B=>C k hk1 (by rcases B with B|B|B<;>rw[B]<;>exact fun e=>by cases e)
def NewOut(a b c:Int)(ds:List Int)(X w':World)(dp:Option Addr)(nn:Int):Prop:=(dV a b c=false∧dp=none∧nn=1)∨(dV a b c=true∧nn=0∧∃nb,dp=some (iA nb 0)∧jV X w' nb a b c ds)
theorem zM3(a b c:Int)(dv:Value)(base:Nat)(ds:List Int)(w:World)(hE:lq w ad st)(hown:w.ownsRow base 3 1 dv ds.length (ds.map (iV)))(hm:ds.length≤1000000000):
 Cl 16 #[.agg #[iV a,iV b,iV c],dv] w fun en w'=> ∃dp nn,en=rV #[.pointer dp,iV nn]∧Below w.heap.size w w'∧Hd (NewOut a b c ds w w' dp nn):=by
 cases A:dV a b c
 ·refine(zKg a b c dv base ds w hE hown hm A).mono ?_;rintro en w' ⟨rfl,B⟩;exact⟨none,1,rfl,B.out,.inl ⟨A,rfl,rfl⟩⟩
 refine(zD5 a b c dv base ds w hown hm A).mono ?_;rintro en w' ⟨C,rfl,B⟩;exact⟨_,0,rfl,B.out.grow,.inr ⟨A,rfl,C,rfl,B.out⟩⟩
def EngOut(a b c:Int)(ds:List Int)(W1 w':World)(dv:Value)(dp:Option Addr)(r:Bool):Prop:=(dV a b c=false∧dp=none∧r=false)∨(dV a b c=true∧r=true∧∃db,dp=some (iA db 0)∧dn (fun k=>W1.heap.size≤k) W1.heap.size w' db (dG a b c ds) dv (.slice none 0 0))
theorem zDg(a b c:Int)(ds:List Int)(W1 w:World)(dv:Value)(hb:W1.heap.size≤w.heap.size)(hd:w.ownsRow W1.heap.size 3 1 dv ds.length (ds.map (iV))):
 Cl 40 #[.agg #[iV a,iV b,iV c],dv] w fun en w'=> ∃dp r,en=rV #[.pointer dp,.bool r]∧Below w.heap.size w w'∧Hd (EngOut a b c ds W1 w' dv dp r):=by
 refine(zFc W1.heap.size a b c ds dv w hb hd).mono ?_;rintro en w' (⟨A,rfl,B⟩|⟨A,F,rfl,B,D,E⟩)
 ·exact⟨none,false,rfl,B,.inl ⟨A,rfl,rfl⟩⟩
 exact⟨_,true,rfl,E,.inr ⟨A,rfl,F,rfl,D.wider fun k C=>by have C:w.heap.size≤k:=C;show W1.heap.size≤k;omega⟩⟩
theorem zM4(h:St w0 w n ws left)(hn:n≤100000000)(hE:lq w0 ad st):
 Cl 21 #[iP w0.heap.size] w fun e w'=>e=rB true∧Next w0 w' n:=by
 obtain⟨N,E,h,Ap⟩:=h;have m:Hd (∀p∈E,p.all.size≤sizes ws):=Ap;obtain⟨x0,Aj⟩:=h.c0;obtain⟨x1,Ak⟩:=h.c1;obtain⟨x2,Al⟩:=h.c2;obtain⟨dv,L,B6,Aq,_,Ad,Bp⟩:=h.gz;have HS:Hd (wu N E w0 w n ws left):=h;have M:=h.lt;have Ao:Hd (w.ownsRow (w0.heap.size+1) 3 1 dv L.length (L.map (iV))):=Aq;have B2:Hd (∀x∈L,-9223372036854775808≤x∧x≤9223372036854775807):=Ad;have HE:Hd (∀W n ws left,wu N E w0 W n ws left→lq W ad st):=fun W _ _ _ hW=>hE.below hW.low
 clear h Aq Ad Ap hE;go_enter func21,ntmps21;go_wp2_with fail
 go_region_held (fun X=>cI X w0.heap.size 0 x0∧cI X w0.heap.size 1 x1∧cI X w0.heap.size 2 x2) (first
  |exact⟨Aj,Ak,Al⟩
  |exact⟨(World.cell?_alloc_lt _ _ _ M).trans Aj,(World.cell?_alloc_lt _ _ _ M).trans Ak,(World.cell?_alloc_lt _ _ _ M).trans Al⟩
  |exact⟨(World.cell?_setCell_other _ _ _ _ (by intro e;injection e with ea eb;omega)).trans ((World.cell?_alloc_lt _ _ _ M).trans Aj),(World.cell?_setCell_other _ _ _ _ (by intro e;injection e with ea eb;omega)).trans ((World.cell?_alloc_lt _ _ _ M).trans Ak),(World.cell?_setCell_other _ _ _ _ (by intro e;injection e with ea eb;omega)).trans ((World.cell?_alloc_lt _ _ _ M).trans Al)⟩) (fail)
 go_wp2_with fail;have Am:Hd (wu N E w0 (w.alloc (.cells #[iV x0,iV x1,iV x2] 43)).drew n ws left):=(HS.below (gu _)).drew;have t:Hd ((w.alloc (.cells #[iV x0,iV x1,iV x2] 43)).drew.ownsRow (w0.heap.size+1) 3 1 dv L.length (L.map (iV))):=kG (Ao.alloc _);have d0:(w.alloc (.cells #[iV x0,iV x1,iV x2] 43)).drew.cell? (iA w.heap.size 0)=sI x0:=fw w _ _ 0 _ rfl;have d1:(w.alloc (.cells #[iV x0,iV x1,iV x2] 43)).drew.cell? (iA w.heap.size 1)=sI x1:=fw w _ _ 1 _ rfl;have d2:(w.alloc (.cells #[iV x0,iV x1,iV x2] 43)).drew.cell? (iA w.heap.size 2)=sI x2:=fw w _ _ 2 _ rfl;have d3:(w.alloc (.cells #[iV x0,iV x1,iV x2] 43)).drew.cell? (iA w0.heap.size 3)=some dv:=(World.cell?_alloc_lt w _ (iA w0.heap.size 3) M).trans B6;have e0:(w.alloc (.cells #[iV x0,iV x1,iV x2] 43)).drew.cell? (iA w0.heap.size 0)=sI x0:=(World.cell?_alloc_lt w _ (iA w0.heap.size 0) M).trans Aj
 have e1:(w.alloc (.cells #[iV x0,iV x1,iV x2] 43)).drew.cell? (iA w0.heap.size 1)=sI x1:=(World.cell?_alloc_lt w _ (iA w0.heap.size 1) M).trans Ak;have e2:(w.alloc (.cells #[iV x0,iV x1,iV x2] 43)).drew.cell? (iA w0.heap.size 2)=sI x2:=(World.cell?_alloc_lt w _ (iA w0.heap.size 2) M).trans Al;have y:w.heap.size<(w.alloc (.cells #[iV x0,iV x1,iV x2] 43)).drew.heap.size:=by
  show w.heap.size<(w.alloc _).heap.size;simp
 clear Aj Ak Al B6 Ao HS;generalize (w.alloc (.cells #[iV x0,iV x1,iV x2] 43)).drew=W at *;have R:w0.heap.size<W.heap.size:=by omega
 obtain⟨i1,hj,B9,Ba,Bb⟩:=qh Tryz.infoPair Tryz.zeroPair;have D:Hd (prog.info? 60=some i1∧i1.zero=some (.agg #[.pointer none,.pointer none,.string ⟨#[]⟩])∧i1.size=3∧i1.bytes=32):=⟨hj,B9,Ba,Bb⟩;clear hj B9 Ba Bb;have An:Hd (∀X:World,Same W X→Cl 16 #[.agg #[iV x0,iV x1,iV x2],dv] X fun en w'=> ∃dp nn,en=rV #[.pointer dp,iV nn]∧Bw X w'∧Hd (NewOut x0 x1 x2 L W.drew w' dp nn)):=fun X hX=>by
  have Bj:Bw W X:=⟨hX.os,hX.tape,hX.output,by rw[hX.heap];exact Nat.le_refl _,fun k _=>by rw[hX.heap]⟩;have Bi:=Am.below Bj;refine(zM3 x0 x1 x2 dv (w0.heap.size+1) L X (HE.o X _ _ _ Bi) (qz t.o fun q _=>by rw[hX.heap]) (by omega)).mono ?_;rintro en w' ⟨dp,nn,rfl,hb,hd⟩;refine⟨dp,nn,rfl,hb,?_⟩;rcases hd.out with h1|⟨h1,h2,nb,h3,eb,g,k1,k2,k3,k4,k5,k6⟩
  ·exact .inl h1
  have hz:W.drew.heap.size=X.heap.size:=by rw[hX.heap];rfl
  refine .inr ⟨h1,h2,nb,h3,eb,g,by rw[hz];exact k1,k2,by rw[hz];exact k3,k4,k5,?_⟩;have k6:Bw X w':=k6;show Below W.drew.heap.size W.drew w';exact⟨k6.os.trans hX.os,k6.tape.trans hX.tape,k6.output.trans hX.output,by rw[hz];exact k6.size,fun k hk=>by
   rw[k6.block k (by rw[←hz];exact hk),hX.heap];rfl⟩
 go_region_held (fun X=>cI X w.heap.size 0 x0∧cI X w.heap.size 1 x1∧cI X w.heap.size 2 x2∧X.cell? (iA w0.heap.size 3)=some dv) (first
  |exact⟨d0,d1,d2,d3⟩
  |exact⟨(B.cell (p:=(iA w.heap.size 0)) y).trans d0,(B.cell (p:=(iA w.heap.size 1)) y).trans d1,(B.cell (p:=(iA w.heap.size 2)) y).trans d2,(B.cell (p:=(iA w0.heap.size 3)) R).trans d3⟩) ((go_at_call 16;refine(An.o _ (Same.refl _).drew).mono ?_;rintro e w' ⟨dp,nn,rfl,B,HD⟩))
 have Ax:Hd (wu N E w0 w' n ws left):=Am.drew.below B;have v:Hd (w'.ownsRow (w0.heap.size+1) 3 1 dv L.length (L.map (iV))):=qz (kG t.o) (fun q hq=>B.block q ((kG t.o).lt q hq).2);have f0:=(B.cell (p:=(iA w0.heap.size 0)) R).trans e0;have f1:=(B.cell (p:=(iA w0.heap.size 1)) R).trans e1;have f2:=(B.cell (p:=(iA w0.heap.size 2)) R).trans e2;have f3:=(B.cell (p:=(iA w0.heap.size 3)) R).trans d3;have O:=Ax.lt;clear d0 d1 d2 d3 e0 e1 e2 B t y R An;obtain⟨i0,hi,Bc,Bd,Be⟩:=qh Tryz.infoIntC Tryz.zeroIntC;have s:Hd (prog.info? 3=some i0∧i0.zero=sI 0∧i0.size=1∧i0.bytes=8):=⟨hi,Bc,Bd,Be⟩;have HX:Hd (∀u∈L.map (iV),u.oneCell'=true):=fun u hu=>by
  obtain⟨x,_,rfl⟩:=List.mem_map.1 hu;rfl
 have B0:=fun g hg=>World.ownsRow.cells v.o (g:=g) hg
 have Ae:=v.1;have Af:=v.lt;have A6:Hd ((w'.alloc (.cells #[] 3)).ownsRow w'.heap.size 3 1 (sL w'.heap.size 0 0) 0 []):=World.ownsRow_made (base:=w'.heap.size) (e:=3) (size:=1) w' #[] 0 (Nat.le_refl _) (by unfold maxLen;omega) (by simp);clear hi Bc Bd Be;obtain⟨md,S⟩:∃md,md=L.length:=⟨_,rfl⟩;have Bg:Hd (md=L.length):=S;have B4:Hd (w'.ownsRow (w0.heap.size+1) 3 1 dv md (L.map (iV))):=by show World.ownsRow _ _ _ _ _ _ _;rw[S];exact v.o
 rcases B4.o.2 with⟨rfl,B7⟩|⟨g,B5,Bh,rfl,hg,hh,Bo,Bq,B8,Bn⟩
 ·have Bf:Hd (L= []):=List.length_eq_zero_iff.1 (by rw[←S];exact B7);clear B0 Ae Af B7 S;go_wp2_with fail;have A9:Hd (wu N E w0 (w'.alloc (.cells #[] 3)) n ws left):=Ax.below (gu _);have f:Hd (Bw w' (w'.alloc (.cells #[] 3))):=gu _;have A4:Hd (∀X:World,Same (w'.alloc (.cells #[] 3)) X→Cl 40 #[.agg #[iV x0,iV x1,iV x2],sL w'.heap.size 0 0] X fun en F=> ∃dp r,en=rV #[.pointer dp,.bool r]∧Bw X F∧Hd (EngOut x0 x1 x2 L w' F (sL w'.heap.size 0 0) dp r)):=fun X hX=>zDg x0 x1 x2 L w' X _ (by rw[hX.heap];exact f.size) (by rw[Bf.o];exact qz A6.o fun q _=>by rw[hX.heap])
  have g0:=(World.cell?_alloc_lt w' (.cells #[] 3) (iA w0.heap.size 0) O).trans f0;have g1:=(World.cell?_alloc_lt w' (.cells #[] 3) (iA w0.heap.size 1) O).trans f1;have g2:=(World.cell?_alloc_lt w' (.cells #[] 3) (iA w0.heap.size 2) O).trans f2;clear f0 f1 f2 f3;generalize w'.alloc (.cells #[] 3)=W4 at *;have J:=A9.lt
  go_region_held (fun X=>cI X w0.heap.size 0 x0∧cI X w0.heap.size 1 x1∧cI X w0.heap.size 2 x2) (first
   |exact⟨g0,g1,g2⟩
   |exact⟨(B.cell (p:=(iA w0.heap.size 0)) J).trans g0,(B.cell (p:=(iA w0.heap.size 1)) J).trans g1,(B.cell (p:=(iA w0.heap.size 2)) J).trans g2⟩) ((go_at_call 40;refine(A4.o _ (Same.refl _).drew).mono ?_;rintro e F ⟨ep,r,rfl,B,HR⟩))
  have Ay:Hd (wu N E w0 F n ws left):=A9.drew.below B;have Ar:Hd (Bw w' F):=(zDf f.o).trans (Below.mono B f.size);clear g0 g1 g2 B;rcases HR.o with⟨H,rfl,rfl⟩|⟨H,rfl,db,rfl,Ai⟩
  ·rcases HD.o with⟨_,rfl,rfl⟩|⟨I,_⟩
   ·have Au:Hd (Next w0 F n):=St.next ⟨N,E,Ay.o,m.o⟩;clear H;go_wp2;go_ret;exact⟨rfl,Au.o⟩
   rw[H]at I;cases I
  rcases HD.o with⟨I,_⟩|⟨_,rfl,nb,rfl,Ab⟩
  ·rw[H]at I;cases I
  obtain⟨d,pd,G,Ah,Ag,Aa,i⟩:=Am.o.drew.more H (by omega) B2.o Ab Ai Ar.o;have Az:=hid G;have Aw:=hid Ah;have A7:Hd (pd.cells= [iP nb,iP db,.string ⟨#[]⟩]∧pd.all=⟨#[]⟩):=⟨by unfold Duo.cells;rw[Ag,Aa,i],i⟩;obtain⟨v5,l,C,c⟩:=G.jH;have A8:Hd (F.ownsRow (w0.heap.size+1) 60 3 v5 E.length (E.flatMap Duo.cells)∧∀q,v5.ownBlock=some q→d q=.own):=⟨C,c⟩;have A3:=hid l;have Bk:=G.tN;have B1:=G.dz 5;have Z:=G.lt;have V:Hd (some w0.heap.size≠v5.ownBlock):=fun e=>by have:=(C.lt _ e.symm).1;omega
  have Av:Hd (∀o,(F.alloc o).ownsRow (w0.heap.size+1) 60 3 v5 E.length (E.flatMap Duo.cells)):=fun o=>C.alloc o
  have A0:Hd (∀(j:Nat) (u:Value),[iP nb,iP db,.string ⟨#[]⟩][j]? =some u→(F.alloc (.cells #[iP nb,iP db,.string ⟨#[]⟩] 60)).cell? (Addr.add (iA F.heap.size 0) j)=some u):=fun j u hj=>by
   rw[Addr.add_lit,Nat.zero_add,World.cell?_alloc_at _ _ _ _ rfl];simpa using hj
  have As:Hd (∀u∈([iP nb,iP db,.string ⟨#[]⟩]:List Value),u.oneCell'=true):=List.forall_mem_cons.2 ⟨rfl,List.forall_mem_cons.2 ⟨rfl,List.forall_mem_cons.2 ⟨rfl,fun u hu=>by cases hu⟩⟩⟩;have A1:Hd (E.length+1≤maxLen):=by show E.length+1≤maxLen;unfold maxLen;omega
  have A2:Hd ((E.length+1)* 32≤140737488355328):=by show(E.length+1)* 32≤140737488355328;omega
  have At:Hd (∀o,w0.heap.size+1≤(F.alloc o).heap.size):=fun o=>by simp;omega
  clear G Ah Ag Aa i C c Ab Ai H;go_wp2_with(at_builtin;refine wpList_append_lies _ rfl _ _ 34 rfl (w0.heap.size+1) 60 i1 (.agg #[.pointer none,.pointer none,.string ⟨#[]⟩]) 3 32 underlying34 D.1 D.2.1 D.2.2.1 D.2.2.2 rfl (by decide) _ _ _ rfl (Av.o _) (iA F.heap.size 0) 1 1 [iP nb,iP db,.string ⟨#[]⟩] rfl rfl A0.o As.o (by decide) A1.o A2.o (At.o _) (F.heap.size+1) (by simp) ?_);intro g' cap' w6 K A Y _;have T:∀b,b<F.heap.size→some b≠v5.ownBlock→w6.heap[b]? =F.heap[b]? :=fun b h1 h2=>(A.block b (by simp;omega) h2).trans (Below.heap_alloc _ _ _ h1)
  have Bl:w6.cell? (iA w0.heap.size 5)=some v5:=(World.cell?_of_block (a:=(iA w0.heap.size 5)) (T _ Z V.o)).trans l;have Bm:w6.frozen? (iA w0.heap.size 5)=false:=(World.frozen?_of_block (a:=(iA w0.heap.size 5)) (T _ Z V.o)).trans B1;have A5:Hd (Next w0 (w6.setCell (iA w0.heap.size 5) (sL g' (E.length+1) cap')) n):=by
   refine Next.of ⟨d,E++ [pd],Az.store Aw.o A3.o A8.1 ⟨A8.2,A.os,A.tape,A.output,Nat.le_trans (by simp) A.size,T,fun q hq=>?_⟩ (by rw[A7.1];exact K),fun x hx=>?_⟩
   ·have:g'=q:=by simpa [Value.ownBlock] using hq
    subst this;rcases Y with h|h
    ·exact .inl h
    exact .inr (by omega)
   rcases List.mem_append.1 hx with h|h
   ·exact m.o x h
   obtain rfl:x=pd:=by simpa using h
   rw[A7.o.2];exact Nat.zero_le _
  clear K A T Y l;go_wp2;go_ret;exact⟨rfl,A5.o⟩
 have A0:Hd (∀(j:Nat) (u:Value),(L.map (iV))[j]? =some u→(w'.alloc (.cells #[] 3)).cell? (Addr.add (iA g 0) j)=some u):=fun j u hj=>by
  have h1:=B0 g rfl j u hj;have h2:=(Af g rfl).2;rw[Addr.add_lit]at h1⊢;rw[World.cell?_alloc_lt _ _ _ h2];exact h1
 have A1:Hd (0+md≤maxLen):=by show 0+md≤maxLen;unfold maxLen;omega
 have A2:Hd ((0+md)* 8≤140737488355328):=by show(0+md)* 8≤140737488355328;omega
 have A3:Hd (w'.heap.size≤(w'.alloc (.cells #[] 3)).heap.size):=by
  show w'.heap.size≤(w'.alloc _).heap.size;simp
 have B3:Hd ((L.map (iV)).length=md*1):=by show _=_;rw[S];exact Ae
 clear B0 hh Bn B8 Af Ae S;go_wp2_with(at_builtin;refine wpList_append_own _ rfl _ _ 32 rfl w'.heap.size 3 i0 (iV 0) 1 8 underlying32 s.1 s.2.1 s.2.2.1 s.2.2.2 rfl (by decide) _ _ _ rfl A6.o (iA g 0) md B5 (L.map (iV)) rfl B3.o A0.o HX.o A1.o A2.o A3.o ?_);intro v' W4 U Ac _;have z:Bw w' W4:=(fu (Below.refl _ _) _).grown Ac (by simp) (fun q hq=>by simp[Value.ownBlock]at hq;omega);have f:=hid z;have A9:Hd (wu N E w0 W4 n ws left):=Ax.below z;have A4:Hd (∀X:World,Same W4 X→Cl 40 #[.agg #[iV x0,iV x1,iV x2],v'] X fun en F=> ∃dp r,en=rV #[.pointer dp,.bool r]∧Bw X F∧Hd (EngOut x0 x1 x2 L w' F v' dp r)):=fun X hX=>zDg x0 x1 x2 L w' X _ (by rw[hX.heap];exact f.size) (by
  rw[Bg.o]at U;exact qz U fun q _=>by rw[hX.heap])
 have g0:=(z.cell (p:=(iA w0.heap.size 0)) O).trans f0;have g1:=(z.cell (p:=(iA w0.heap.size 1)) O).trans f1;have g2:=(z.cell (p:=(iA w0.heap.size 2)) O).trans f2;obtain⟨p',n',cap',rfl⟩:∃p' n' cap',v'=.slice p' n' cap':=by
  rcases U.2 with⟨rfl,_⟩|⟨g,B5,Bh,h,_⟩
  ·exact⟨_,_,_,rfl⟩
  exact⟨_,_,_,h⟩
 clear U Ac f0 f1 f2 f3 z;go_wp2_with fail;have J:=A9.lt
 go_region_held (fun X=>cI X w0.heap.size 0 x0∧cI X w0.heap.size 1 x1∧cI X w0.heap.size 2 x2) (first
  |exact⟨g0,g1,g2⟩
  |exact⟨(B.cell (p:=(iA w0.heap.size 0)) J).trans g0,(B.cell (p:=(iA w0.heap.size 1)) J).trans g1,(B.cell (p:=(iA w0.heap.size 2)) J).trans g2⟩) ((go_at_call 40;refine(A4.o _ (Same.refl _).drew).mono ?_;rintro e F ⟨ep,r,rfl,B,HR⟩))
 have Ay:Hd (wu N E w0 F n ws left):=A9.drew.below B;have Ar:Hd (Bw w' F):=(zDf f.o).trans (Below.mono B f.size);clear g0 g1 g2 B;rcases HR.o with⟨H,rfl,rfl⟩|⟨H,rfl,db,rfl,Ai⟩
 ·rcases HD.o with⟨_,rfl,rfl⟩|⟨I,_⟩
  ·have Au:Hd (Next w0 F n):=St.next ⟨N,E,Ay.o,m.o⟩;clear H;go_wp2;go_ret;exact⟨rfl,Au.o⟩
  rw[H]at I;cases I
 rcases HD.o with⟨I,_⟩|⟨_,rfl,nb,rfl,Ab⟩
 ·rw[H]at I;cases I
 obtain⟨d,pd,G,Ah,Ag,Aa,i⟩:=Am.o.drew.more H (by omega) B2.o Ab Ai Ar.o;have Az:=hid G;have Aw:=hid Ah;have A7:Hd (pd.cells= [iP nb,iP db,.string ⟨#[]⟩]∧pd.all=⟨#[]⟩):=⟨by unfold Duo.cells;rw[Ag,Aa,i],i⟩;obtain⟨v5,l,C,c⟩:=G.jH;have A8:Hd (F.ownsRow (w0.heap.size+1) 60 3 v5 E.length (E.flatMap Duo.cells)∧∀q,v5.ownBlock=some q→d q=.own):=⟨C,c⟩;have A3:=hid l;have Bk:=G.tN;have B1:=G.dz 5;have Z:=G.lt;have V:Hd (some w0.heap.size≠v5.ownBlock):=fun e=>by have:=(C.lt _ e.symm).1;omega
 have Av:Hd (∀o,(F.alloc o).ownsRow (w0.heap.size+1) 60 3 v5 E.length (E.flatMap Duo.cells)):=fun o=>C.alloc o
 have A0:Hd (∀(j:Nat) (u:Value),[iP nb,iP db,.string ⟨#[]⟩][j]? =some u→(F.alloc (.cells #[iP nb,iP db,.string ⟨#[]⟩] 60)).cell? (Addr.add (iA F.heap.size 0) j)=some u):=fun j u hj=>by
  rw[Addr.add_lit,Nat.zero_add,World.cell?_alloc_at _ _ _ _ rfl];simpa using hj
 have As:Hd (∀u∈([iP nb,iP db,.string ⟨#[]⟩]:List Value),u.oneCell'=true):=List.forall_mem_cons.2 ⟨rfl,List.forall_mem_cons.2 ⟨rfl,List.forall_mem_cons.2 ⟨rfl,fun u hu=>by cases hu⟩⟩⟩;have A1:Hd (E.length+1≤maxLen):=by show E.length+1≤maxLen;unfold maxLen;omega
 have A2:Hd ((E.length+1)* 32≤140737488355328):=by show(E.length+1)* 32≤140737488355328;omega
 have At:Hd (∀o,w0.heap.size+1≤(F.alloc o).heap.size):=fun o=>by simp;omega
 clear G Ah Ag Aa i C c Ab Ai H;go_wp2_with(at_builtin;refine wpList_append_lies _ rfl _ _ 34 rfl (w0.heap.size+1) 60 i1 (.agg #[.pointer none,.pointer none,.string ⟨#[]⟩]) 3 32 underlying34 D.1 D.2.1 D.2.2.1 D.2.2.2 rfl (by decide) _ _ _ rfl (Av.o _) (iA F.heap.size 0) 1 1 [iP nb,iP db,.string ⟨#[]⟩] rfl rfl A0.o As.o (by decide) A1.o A2.o (At.o _) (F.heap.size+1) (by simp) ?_);intro g' cap' w6 K A Y _;have T:∀b,b<F.heap.size→some b≠v5.ownBlock→w6.heap[b]? =F.heap[b]? :=fun b h1 h2=>(A.block b (by simp;omega) h2).trans (Below.heap_alloc _ _ _ h1)
 have Bl:w6.cell? (iA w0.heap.size 5)=some v5:=(World.cell?_of_block (a:=(iA w0.heap.size 5)) (T _ Z V.o)).trans l;have Bm:w6.frozen? (iA w0.heap.size 5)=false:=(World.frozen?_of_block (a:=(iA w0.heap.size 5)) (T _ Z V.o)).trans B1;have A5:Hd (Next w0 (w6.setCell (iA w0.heap.size 5) (sL g' (E.length+1) cap')) n):=by
  refine Next.of ⟨d,E++ [pd],Az.store Aw.o A3.o A8.1 ⟨A8.2,A.os,A.tape,A.output,Nat.le_trans (by simp) A.size,T,fun q hq=>?_⟩ (by rw[A7.1];exact K),fun x hx=>?_⟩
  ·have:g'=q:=by simpa [Value.ownBlock] using hq
   subst this;rcases Y with h|h
   ·exact .inl h
   exact .inr (by omega)
  rcases List.mem_append.1 hx with h|h
  ·exact m.o x h
  obtain rfl:x=pd:=by simpa using h
  rw[A7.o.2];exact Nat.zero_le _
 clear K A T Y l;go_wp2;go_ret;exact⟨rfl,A5.o⟩
end Go.Proofs.YtehmdohpmpbnnaaGreatDoor
