import Derived.Test.YtehmdohpmpbnnaaGreatDoorQ00
import Derived.Test.YtehmdohpmpbnnaaGreatDoorQ09
import Derived.Test.YtehmdohpmpbnnaaGreatDoorQ21
import Derived.Test.YtehmdohpmpbnnaaGreatDoorQ26
import Derived.Test.YtehmdohpmpbnnaaGreatDoorQ27
import Derived.Test.YtehmdohpmpbnnaaGreatDoorQ29
import Derived.Deep.LoopGhost
set_option linter.all false
set_option maxRecDepth 100000
set_option maxHeartbeats 8000000
namespace Go.Proofs.YtehmdohpmpbnnaaGreatDoor
variable{F:Nat→Prop}{w:World}{base b vb:Nat}{e:bf}{dv av:Value}
open Go.Proofs.Tryz
open Go.Extern Go.RowKit
theorem dn.shrink(h:dn F base w b e dv av)(h1:vb<w.heap.size)(h2:vb≠b)(h3:av.ownBlock≠some vb):dn (fun k=>F k∧k≠vb) base w b e dv av:=
 ⟨h.blk,⟨h.own,fun e=>h2 e.symm⟩,fun k hk=>⟨h.up k hk,by omega⟩,h.low,h.dr,h.al,fun q hq=>⟨h.alF q hq,fun e=>h3 (e▸hq)⟩⟩
theorem dn.own_lt(h:dn F base w b e dv av):∀q,av.ownBlock=some q→q<w.heap.size:=by
 intro q A;rcases h.al.2 with D|⟨g,B,C,G,H,E,r⟩
 ·rw[D.1]at A;exact absurd A (by simp[Value.ownBlock])
 rw[G]at A;have:g=q:=by simpa [Value.ownBlock] using A
 subst this;exact(Array.getElem?_eq_some_iff.1 E).1
theorem dn.qD(h:dn (fun k=>F k∧k≠vb) base w b e dv av):dn F base w b e dv av:=
 ⟨h.blk,h.own.1,fun k hk=>(h.up k hk).1,h.low,h.dr,h.al,fun q hq=>(h.alF q hq).1⟩
theorem Touch.qD{w':World}(h:Touch (fun k=>F k∧k≠vb) w w'):Touch F w w':=⟨h.os,h.tape,h.output,h.size,fun k hk hf=>h.block k hk (fun hc=>hf hc.1)⟩
theorem zHy(l:List UInt8)(m:Nat)(w:World)(h:m≤l.length):
 (Instr.slice 9 (.string (ba l)) (sI (m:Int)) none none).run prog w=.ok (.string ⟨(l.drop m).toArray⟩) w:=by
 have A:m≤(ba l).size:=by rw[zx];exact h
 rw[run_slice_string_from_if w 9 (ba l) .i64 (m:Int) underlying9,if_pos (by omega)]
 congr 2
 apply ByteArray.ext;rw[ByteArray.data_extract];apply Array.toList_inj.1;rw[Array.toList_extract,List.extract_eq_take_drop,Int.toNat_natCast];refine(List.take_of_length_le ?_).trans ?_
 ·rw[zx];simp[ba]
 simp[ba]
def FollowSaid:Prop:= ∀(F:Nat→Prop) (base:Nat) (w:World) (b:Nat) (e:bf) (dv av:Value),dn F base w b e dv av→bf.fe e→Room 100 e→
 Calls prog 72 #[.pointer (some ⟨b,0,none⟩)] w fun en w'=>en=.returned (.tuple #[])∧dn F base w' b e.follow dv av∧Touch F w w'
theorem zHz(HFO:FollowSaid)(t:List UInt8)(h:dn F base w b e dv av)(hT:eF (e.qc t) (e.qc t)):
 Cl 41 #[iP b,.string (ba t)] w fun en w'=>en=.returned (.string (ba (e.apply t).out))∧(∃av',dn F base w' b (e.apply t) dv av')∧Touch F w w':=by
 have u:w.cell? (iA b 6)=some (.string ⟨e.rest.toArray⟩):=h.cell 6;have U:w.cell? (iA b 10)=some (.string ⟨e.out.toArray⟩):=h.cell 10;have x:=h.dz 6;have A2:=h.dz 10;have A5:e.rest.length+t.length≤1000000000:=by
  have:=hT.sz;have e1:(e.qc t).rest.length=e.rest.length+t.length:=by(show(e.rest++t).length=_);simp
  omega
 have A6:Hd (e.apply t=bf.steps (e.qc t).rest.length (e.qc t)):=by
  show _=_;unfold bf.apply;have e1:(e.qc t).rest.length=e.rest.length+t.length:=by show(e.rest++t).length=_;simp
  rw[e1]
 have A8:Hd (dn F base ((w.setCell (iA b 6) (.string ⟨(e.rest++t).toArray⟩)).setCell (iA b 10) (.string ⟨#[]⟩)) b (e.qc t) dv av):=
  (h.set 6 (.string ⟨(e.rest++t).toArray⟩) { e with rest:=e.rest++t } rfl rfl rfl).set 10 (.string ⟨#[]⟩) (e.qc t) rfl rfl rfl
 have Aa:Hd (Touch F w ((w.setCell (iA b 6) (.string ⟨(e.rest++t).toArray⟩)).setCell (iA b 10) (.string ⟨#[]⟩))):=((Touch.refl F w).set b _ _ h.own).set b _ _ h.own;have Ab:=hid hT;have Ae:(⟨e.rest.toArray⟩:ByteArray)++ba t=⟨(e.rest++t).toArray⟩:=aZ e.rest t;have Af:(ba t).size≤1000000000:=by rw[zx];omega
 have Ag:(⟨e.rest.toArray⟩:ByteArray).size≤1000000000:=by have:=zx e.rest;unfold ba at this;omega
 clear h hT;go_enter func41,ntmps41;go_wp2_with fail;clear u U x A2 Ae Af Ag;generalize (w.setCell (iA b 6) (.string ⟨(e.rest++t).toArray⟩)).setCell (iA b 10) (.string ⟨#[]⟩)=W1 at *;have A7:Hd (∀E:bf,eF (e.qc t) E→jy (ba E.rest)=4→e.apply t=E):=fun E hE hn=>by rw[A6.o];exact hE.done hn
 generalize e.qc t=e0 at *
 go_loopg [5,6,7] e0.rest.length (fun k _ _ _ wr=> ∃(E:bf) (av':Value),k=E.rest.length∧dn F base wr b E dv av'∧Touch F w wr∧eF e0 E)
 case atStart=>exact⟨e0,av,rfl,A8.o,Aa.o,Ab.o⟩
 case round=>
  obtain⟨E,av',rfl,Y,hT,hK⟩:=hrel;have A9:=hid Y;have Ac:=hid hT;have HK:=hid hK;have u:wr.cell? (iA b 6)=some (.string (ba E.rest)):=Y.cell 6;have x:=Y.dz 6;have A3:=Y.lt;have A5:(ba E.rest).size≤1000000000:=by rw[zx];exact hK.sz
  have y:Hd (∀W,Cl 37 #[.string (ba E.rest)] W fun e w'=>e=rV #[dD (qm (ba E.rest)) (ku (ba E.rest)),iV (tq (ba E.rest)),iV (jy (ba E.rest))]∧Bw W w'):=fun W=>zBu (ba E.rest) W A5
  have U:wr.cell? (iA b 10)=some (.string ⟨E.out.toArray⟩):=Y.cell 10;have Ai:=hid Y.up;have z:=hid Y.own;clear Y hT hK;go_wp2_with fail;refine(y.o wr).mono ?_;rintro en G ⟨rfl,X⟩;have C:=hid (A9.below X);have I:=hid (Ac.below X);have Ah:Hd (wr.heap.size≤G.heap.size):=X.size;clear X u x U A3 y;have u:G.cell? (iA b 6)=some (.string (ba E.rest)):=C.cell 6;have x:=C.dz 6;have A3:=C.lt;cases q4:(jy (ba E.rest) == 4);rotate_left
  ·have HX:=hid (A7.o E HK.o (by simpa using q4));have U:G.cell? (iA b 10)=some (.string ⟨E.out.toArray⟩):=C.cell 10;have A2:=C.dz 10;go_wp2_with fail;refine bodyPost_ret (v:=.string ⟨E.out.toArray⟩) (by simp[results,Tryz.results41,go_sem]) rfl ?_;exact⟨by rw[HX.o];rfl,⟨av',by rw[HX.o];exact C.alloc _⟩,I.alloc _⟩
  have f:Hd (jy (ba E.rest)≠4):=by show _≠_;simpa using q4
  obtain⟨m1,m2⟩:=xC (ba E.rest) f.o;rw[zx]at m2;have D:Hd (E.cut={ E with rest:=E.rest.drop (tq (ba E.rest)).toNat }):=rfl;have H:=hid (HK.step f.o);have Ad:=hid (kV (ba E.rest));have A0:=hid (kU (ba E.rest) 3 (by decide));have A1:=hid (kU (ba E.rest) 4 (by decide));have S:Hd (E.frame=if jy (ba E.rest)=5 then E.cut.ny 0 1 else E.cut.run (qm (ba E.rest)) (ku (ba E.rest))):=rfl;have B:=hid (HK.mid f.o);obtain⟨m,hm⟩:∃m:Nat,tq (ba E.rest)=(m:Int):=⟨_,(Int.toNat_of_nonneg (by omega)).symm⟩;rw[hm]at D m2;have Z:=fun W=>zHy E.rest m W (by omega)
  generalize tq (ba E.rest)=M at *;subst hm;generalize jy (ba E.rest)=EE at *;generalize qm (ba E.rest)=KK at *;generalize ku (ba E.rest)=V at *;clear m1 m2;cases q5:(EE == 5)
  ·have d:Hd (E.frame=E.cut.run KK V):=by show _=_;rw[S.o,if_neg (by simpa using q5)]
   clear S;go_wp2_with fail;have hC:dn F base (G.setCell (iA b 6) (.string ⟨(E.rest.drop m).toArray⟩)) b E.cut dv av':=C.set 6 _ E.cut (by rw[D.o];rfl) (by rw[D.o]) (by rw[D.o]);have K:Touch F w (G.setCell (iA b 6) (.string ⟨(E.rest.drop m).toArray⟩)):=I.set b _ _ z.o;have c:(G.setCell (iA b 6) (.string ⟨(E.rest.drop m).toArray⟩)).heap.size=G.heap.size:=by simp
   generalize G.setCell (iA b 6) (.string ⟨(E.rest.drop m).toArray⟩)=W4 at *;have s:=hid hC;have J:=hid K;have T:=hid c;clear hC K c u x Z;have A:∀o:Obj,(W4.alloc o).heap[G.heap.size]? =some o:=fun o=>by rw[←T.o];exact heap_alloc_new W4 o
   have p:∀o:Obj,G.heap.size<(W4.alloc o).heap.size:=fun o=>by rw[←T.o];simp
   have A4:G.heap.size≠b:=by omega
   refine(zHr KK ((s.alloc _).shrink (vb:=G.heap.size) (p _) A4 (fun hq=>absurd (s.own_lt _ hq) (by rw[T.o];omega))) (by simp[World.cell?,A]) (v:=V) ⟨by simp[World.cell?,A],by simp[World.cell?,A],by simp[World.cell?,A],by simp[World.cell?,A],by simp[World.cell?,A],by simp[World.cell?,A],by simp[World.cell?,A],by simp[World.cell?,A],by simp[World.cell?,A]⟩ (fun hc=>hc.2 rfl) (p _) B.2.2.2.2.1 Ad.o ⟨A0.1,by have:=A0.2;omega⟩ ⟨A1.1,by have:=A1.2;omega⟩ B.1 B.2.1 B.2.2.1 B.2.2.2.1).mono ?_;rintro en q ⟨rfl,⟨n,L⟩,O⟩;have g:Hd (dn F base q b E.frame dv n):=by show dn _ _ _ _ _ _ _;rw[d.o];exact L.qD
   have j:Hd (Touch F w q):=(J.alloc _).trans O.qD;clear L O A p A4 J s T I C;go_wp2_with fail;refine(HFO F base q b E.frame dv n g.o B.2.2.2.2.2.1 B.2.2.2.2.2.2).mono ?_;rintro en w6 ⟨rfl,N,R⟩;have i:=hid N;have l:=hid (j.trans R);clear N R;go_wp2
   go_roundg E.frame.follow.rest.length
   case measure=>exact H.2
   case rel=>exact⟨_,n,rfl,i.o,l.o,H.1⟩
  have d:Hd (E.frame=E.cut.ny 0 1):=by show _=_;rw[S.o,if_pos (by simpa using q5)]
  clear S;go_wp2_with fail;have hC:dn F base (G.setCell (iA b 6) (.string ⟨(E.rest.drop m).toArray⟩)) b E.cut dv av':=C.set 6 _ E.cut (by rw[D.o];rfl) (by rw[D.o]) (by rw[D.o]);have K:Touch F w (G.setCell (iA b 6) (.string ⟨(E.rest.drop m).toArray⟩)):=I.set b _ _ z.o;generalize G.setCell (iA b 6) (.string ⟨(E.rest.drop m).toArray⟩)=W4 at *;have s:=hid hC;have J:=hid K;clear hC K u x Z;refine(cZ (s.alloc _) 0 1 (B.1.mono (by omega)) (n63 _ (by omega) (by omega)) (n63 _ (by omega) (by omega))).mono ?_;rintro en q ⟨rfl,L,O⟩;have g:Hd (dn F base q b E.frame dv av'):=by show dn _ _ _ _ _ _ _;rw[d.o];exact L
  have j:Hd (Touch F w q):=(J.alloc _).trans O;clear L O J s I C;go_wp2_with fail;refine(HFO F base q b E.frame dv av' g.o B.2.2.2.2.2.1 B.2.2.2.2.2.2).mono ?_;rintro en w6 ⟨rfl,N,R⟩;have i:=hid N;have l:=hid (j.trans R);clear N R;go_wp2
  go_roundg E.frame.follow.rest.length
  case measure=>exact H.2
  case rel=>exact⟨_,av',rfl,i.o,l.o,H.1⟩
theorem zJ(t:List UInt8)(h:dn F base w b e dv av)(hT:eF (e.qc t) (e.qc t)):
 Cl 41 #[iP b,.string (ba t)] w fun en w'=>en=.returned (.string (ba (e.apply t).out))∧(∃av',dn F base w' b (e.apply t) dv av')∧Touch F w w':=
 zHz (fun _ _ _ _ _ _ _ h1 h2 h3=>zHk h1 h2 h3) t h hT
theorem zJ0(h:dn F base w b e dv av)(hm:e.all.length≤1000000000):
 Cl 44 #[iP b] w fun en w'=> ∃v' l,en=.returned v'∧OR w.heap.size w' v' l∧l.Perm e.all∧Sorted l∧Below w.heap.size w w':=by
 obtain⟨i0,hi,Ap,Aq,Ar⟩:=qh Tryz.infoSt Tryz.zeroSt;have E:Hd (prog.info? 155=some i0∧i0.zero=some (.agg #[iV 0,iV 0,iV 0,iV 0,iV 0,iV 0,iV 0,iV 0,iV 0,iV 0,iV 0,iV 0,iV 0,iV 0,iV 0])∧i0.size=15∧i0.bytes=120):=⟨hi,Ap,Aq,Ar⟩;obtain⟨p,N,rfl⟩:=h.slice;have HR:=hid h;have hc:w.cell? (iA b 5)=some (.slice p e.all.length N):=h.cell 5;have hB:=h.lt;generalize hl:e.all=al at *;generalize hme:al.length=m at *;have HL:=hid hl;have U:=hid hme;go_enter func44,ntmps44;go_wp2;go_loopw [3,4] (fun l i wr=> ∃(k:Nat) (L:List Ord),i=iV k∧k≤m∧OR w.heap.size wr l L∧L.Perm (al.take k)∧Sorted L∧Bw w wr) (fun _ i _=>m - (intOf i).toNat)
 case atStart=>exact⟨0,[],rfl,Nat.zero_le _,OR.nil _ _,by simp,List.Pairwise.nil,Below.refl _ _⟩
 case round=>
  obtain⟨k,L,rfl,hk,An,A0,Ao,X⟩:=hrel;have C1:wr.cell? (iA b 5)=some (.slice p m N):=(X.cell (p:=(iA b 5)) hB).trans hc;have S:Hd (Bw w wr):=X;have V:=hid An;have f:=hid A0;have n:=hid Ao;have C0:=X.size;have T:Hd (L.length=k):=by show _=_;rw[A0.length_eq,List.length_take,U.o];omega
  by_cases Al:k<m
  ·have C3:(k:Int)<(m:Int):=by omega
   have C2:¬(k:Int)<0:=by omega
   obtain⟨o,ho⟩:∃o,al[k]? =some o:=⟨al[k]'(by rw[U.o];exact Al),List.getElem?_eq_getElem _⟩;have Y:e.all[k]? =some o:=by rw[HL.o];exact ho
   obtain⟨g,rfl⟩:∃g,p=some (iA g 0):=by
    rcases HR.o.shape with⟨G,h2⟩|⟨g,cp,G,_⟩
    ·rw[h2]at Y;simp at Y
    injection G with G _ _;exact⟨g,G⟩
   have Aa:Hd (al.take (k+1)=al.take k++ [o]):=by show _=_;rw[List.take_add_one,ho];rfl
   have O:g<w.heap.size:=by
    rcases HR.o.shape with⟨G,h2⟩|⟨g2,cp,G,_,_,_,h5⟩
    ·cases G
    injection G with G _ _;injection G with G;injection G with G;subst G;exact h5
   obtain⟨c0,c1,c2,c3,c4,c5,c6,c7,c8,c9,B9,Ba,Bb,Bc,Bd⟩:=(HR.o.jc.1.below S.o O).c15 k o Y;have Ab:Hd (∀ob,(wr.alloc ob).ownsRow w.heap.size 155 15 u3 k (rows L)):=fun ob=>by have q:=V.alloc ob;unfold OR at q;rw[T.o]at q;exact q
   have A3:Hd (∀(j:Nat) (u:Value),[iV o.id,iV o.side,iV o.typ,iV o.mg,iV o.jw,iV o.off,iV o.jr,iV o.time,iV o.dm,iV o.bn,iV o.opn,iV o.bu,iV o.cancelled,iV o.bg,iV o.dh][j]? =some u→(wr.alloc (.cells #[iV o.id,iV o.side,iV o.typ,iV o.mg,iV o.jw,iV o.off,iV o.jr,iV o.time,iV o.dm,iV o.bn,iV o.opn,iV o.bu,iV o.cancelled,iV o.bg,iV o.dh] 155)).cell? (Addr.add (iA wr.heap.size 0) j)=some u):=fun j u hj=>by
    rw[Addr.add_lit,Nat.zero_add];exact cellNew wr #[iV o.id,iV o.side,iV o.typ,iV o.mg,iV o.jw,iV o.off,iV o.jr,iV o.time,iV o.dm,iV o.bn,iV o.opn,iV o.bu,iV o.cancelled,iV o.bg,iV o.dh] 155 j u (by rw[←hj];simp)
   have A4:Hd (∀u∈([iV o.id,iV o.side,iV o.typ,iV o.mg,iV o.jw,iV o.off,iV o.jr,iV o.time,iV o.dm,iV o.bn,iV o.opn,iV o.bu,iV o.cancelled,iV o.bg,iV o.dh]:List Value),u.oneCell'=true):=fun u hu=>by
    simp at hu;rcases hu with rfl|rfl|rfl|rfl|rfl|rfl|rfl|rfl|rfl|rfl|rfl|rfl|rfl|rfl|rfl<;>rfl
   have Z:Hd (k+1≤maxLen∧(k+1)* 120≤140737488355328):=⟨by unfold maxLen;omega,by omega⟩;have A5:Hd (∀ob,w.heap.size≤(wr.alloc ob).heap.size):=fun ob=>by simp;omega
   have z:=hid V.lt;go_wp2_with(at_builtin;refine wpList_append_own _ rfl _ _ 112 rfl w.heap.size 155 i0 _ 15 120 underlying112 E.1 E.2.1 E.2.2.1 E.2.2.2 rfl (by decide) _ _ _ rfl (Ab.o _) (iA wr.heap.size 0) 1 1 [iV o.id,iV o.side,iV o.typ,iV o.mg,iV o.jw,iV o.off,iV o.jr,iV o.time,iV o.dm,iV o.bn,iV o.opn,iV o.bu,iV o.cancelled,iV o.bg,iV o.dh] rfl rfl A3.o A4.o Z.1 Z.2 (A5.o _) ?_);intro v' w3 K R _;have Ae:Bw w w3:=(fu S.o _).grown R (by simp;omega) (fun q hq=>(z.out q hq).1);have Af:OR w.heap.size w3 v' (L++o::[]):=by
    unfold OR;rw[zCs,List.length_append,T.o];exact K
   obtain⟨H,cap',rfl⟩:∃H cap',v'=sL H (k+1) cap':=by
    rcases K.2 with⟨_,h⟩|⟨g,N,Bg,h,_⟩
    ·omega
    exact⟨g,N,h⟩
   have A9:=hid Af;have A2:=hid Ae;have A6:Hd (Moving (al.take (k+1)) k L [] o):=⟨T.o,by rw[List.append_nil];exact n.o,fun _ hc=>absurd hc List.not_mem_nil,by rw[Aa.o];exact f.append_right _⟩;have C8:wrap64 ((k:Int)+1 - 1)=(k:Int):=by unfold wrap64;omega
   go_wp2_with fail;go_loopw [5] (fun i wr2=> ∃(q:Nat) (A B:List Ord) (x:Ord),i=iV q∧q≤k∧Moving (al.take (k+1)) q A B x∧OR w.heap.size wr2 (sL H (k+1) cap') (A++x::B)∧Bw w wr2) (fun i _=>(intOf i).toNat)
   case atStart=>exact⟨k,L,[],o,rfl,Nat.le_refl _,A6.o,A9.o,A2.o⟩
   case round=>
    obtain⟨q,A,B,x,rfl,hq,Am,A1,Ag⟩:=hrel;have M:=hid Am;have C:=hid A1;have D:=hid Ag;have Ah:w.heap.size≤H:=(A1.lt H rfl).1;rcases q with _|q
    ·have HA:Hd (A= []):=List.length_eq_zero_iff.1 M.len;go_wp2_with fail;go_quiet (fail);go_wp2;go_roundw
     case rel=>exact⟨k+1,A++x::B,by go_num,by omega,C.drewN nq,M.prm,by have q1:=M.srt;have q2:=M.top;rw[HA.o]at q1⊢;exact zHm q1 q2,⟨D.os,D.tape,D.output,D.size,D.block⟩⟩
     case measure=>simp[intOf];omega
    have C6:(q:Int)+1<(k:Int)+1:=by omega
    have C7:(q:Int)<(k:Int)+1:=by omega
    have C5:(0:Int)<(q:Int)+1:=by omega
    have C9:IntKind.i64.wrap ((q:Int)+1 - 1)=(q:Int):=by simp only[IntKind.wrap,IntKind.bits,IntKind.signed];simp;omega
    have Ca:wrap64 ((q:Int)+1 - 1)=(q:Int):=by unfold wrap64;omega
    obtain⟨I,y,rfl⟩:∃I y,A=I ++ [y]:=by
     rcases List.eq_nil_or_concat A with h0|⟨I,y,h0⟩
     ·have:=M.len;rw[h0]at this;simp at this
     exact⟨I,y,by simpa using h0⟩
    have J:I.length=q:=by have:=M.len;simpa using this
    have s:Hd ((I ++ [y] ++x::B)[q+1]? =some x):=by show _=_;rw[List.getElem?_append_right (by simp[J])];simp[J]
    have t:Hd ((I ++ [y] ++x::B)[q]? =some y):=by show _=_;rw[List.append_assoc,List.getElem?_append_right (by simp[J])];simp[J]
    have c:=hid J;have Be:=C.jc.1.cell0 (q+1) x s.o;have Ac:=C.jc.1.dz ((q+1)* 15);have Bf:=C.jc.1.cell0 q y t.o;have Ad:=C.jc.1.dz (q*15);by_cases v:x.id<y.id
    ·go_wp2_with fail;go_quiet (fail);replace C:Hd (OR w.heap.size (wr.drewN nq) (sL H (k+1) cap') (I ++ [y] ++x::B)):=C.drewN nq;replace D:Hd (Bw w (wr.drewN nq)):=⟨D.os,D.tape,D.output,D.size,D.block⟩;generalize wr.drewN nq=W at *;obtain⟨a0,a1,a2,a3,a4,a5,a6,a7,a8,a9,B4,B5,B6,B7,B8⟩:=C.o.jc.1.c15 (q+1) x s.o;obtain⟨y0,y1,y2,y3,y4,y5,y6,y7,y8,y9,Cb,Cc,Cd,Ce,Cf⟩:=C.o.jc.1.c15 q y t.o;have Ac:=C.jc.1.dz ((q+1)* 15);have Ad:=C.jc.1.dz (q*15);have Bh:=C.jc.1.dz ((q+1)* 15+1);have Bq:=C.jc.1.dz (q*15+1);have Bi:=C.jc.1.dz ((q+1)* 15+2);have Br:=C.jc.1.dz (q*15+2);have Bj:=C.jc.1.dz ((q+1)* 15+3);have Bs:=C.jc.1.dz (q*15+3);have Bk:=C.jc.1.dz ((q+1)* 15+4);have Bt:=C.jc.1.dz (q*15+4);have Bl:=C.jc.1.dz ((q+1)* 15+5);have Bu:=C.jc.1.dz (q*15+5);have Bm:=C.jc.1.dz ((q+1)* 15+6);have Bv:=C.jc.1.dz (q*15+6);have Bn:=C.jc.1.dz ((q+1)* 15+7);have Bx:=C.jc.1.dz (q*15+7)
     have Bo:=C.jc.1.dz ((q+1)* 15+8);have By:=C.jc.1.dz (q*15+8);have Bp:=C.jc.1.dz ((q+1)* 15+9);have Bz:=C.jc.1.dz (q*15+9);have As:=C.jc.1.dz ((q+1)* 15+10);have Ax:=C.jc.1.dz (q*15+10);have At:=C.jc.1.dz ((q+1)* 15+11);have Ay:=C.jc.1.dz (q*15+11);have Au:=C.jc.1.dz ((q+1)* 15+12);have Az:=C.jc.1.dz (q*15+12);have Av:=C.jc.1.dz ((q+1)* 15+13);have B0:=C.jc.1.dz (q*15+13);have Aw:=C.jc.1.dz ((q+1)* 15+14);have B1:=C.jc.1.dz (q*15+14);have O:H < W.heap.size:=(C.lt H rfl).2;have Aj:H≠W.heap.size:=Nat.ne_of_lt O;have B2:∀o j,(W.alloc o).cell? (iA H j)=W.cell? (iA H j):=fun o j=>World.cell?_alloc_lt _ _ _ O
     have B3:∀o j,(W.alloc o).frozen? (iA H j)=W.frozen? (iA H j):=fun o j=>World.frozen?_alloc_old _ _ _ Aj
     have A7:=hid (OR.put (I ++ [y]) B x y (q+1) (by simp[c.o]) C.o);have d:=A7.o;rw[List.append_assoc]at d;have A8:=hid (OR.put I ([] ++y::B) y x q c.o d);go_wp2;go_roundw
     case rel=>
      refine⟨q,I,y::B,x,by go_num,by omega,M.down v,?_,?_⟩
      ·refine OR.alloc ?_ _;exact A8.o
      refine fu ?_ _;iterate 30 (refine Below.setCell ?_ Ah _)
      exact D.o
     case measure=>simp[intOf]
    have Ai:y.id≤x.id:=by omega
    go_wp2_with fail;go_quiet (fail);go_wp2;go_roundw
    case rel=>exact⟨k+1,_,by go_num,by omega,C.drewN nq,M.prm,zHn M.srt M.top Ai,⟨D.os,D.tape,D.output,D.size,D.block⟩⟩
    case measure=>simp[intOf];omega
  have C4:¬(k:Int)<(m:Int):=by omega
  have Ak:k=m:=by omega
  subst Ak;have HF:Hd (L.Perm al):=by
   have q:=f.o;rw[List.take_of_length_le (by rw[U.o];exact Nat.le_refl _)]at q;exact q
  go_wp2;go_ret;exact⟨_,rfl,L,V.o,HF.o,n.o,S.o⟩
end Go.Proofs.YtehmdohpmpbnnaaGreatDoor
