import Derived.Test.YtehmdohpmpbnnaaGreatDoorQ00
import Derived.Test.YtehmdohpmpbnnaaGreatDoorQ11
import Derived.Test.YtehmdohpmpbnnaaGreatDoorQ33
import Derived.Test.YtehmdohpmpbnnaaGreatDoorQ36
import Derived.Test.YtehmdohpmpbnnaaGreatDoorQ38
import Derived.Test.YtehmdohpmpbnnaaGreatDoorQ41
import Derived.Test.YtehmdohpmpbnnaaGreatDoorQ45
set_option linter.all false
set_option maxRecDepth 100000
set_option maxHeartbeats 8000000
namespace Go.Proofs.YtehmdohpmpbnnaaGreatDoor
open Go.Proofs.Tryz
open Go.Extern Go.Maps Go.RowKit
section
variable {tag:Nat→Tag} {ps:List Duo} {w0 w:World} {n:Nat} {ws:List ByteArray} {left:Int}
theorem zMc{e:bf}(inv:bf.fe e){M l:List Ord}(h1:M.Perm e.all)(h2:M.Pairwise fun x y=>x.id≤y.id)(h3:l.Perm e.all)(h4:Sorted l):M=l:=by
 refine List.Perm.eq_of_pairwise (fun a b ha hb hab hba=>?_) h2 h4 (h1.trans h3.symm);obtain⟨i,A⟩:=List.getElem?_of_mem (h1.mem_iff.1 ha);obtain⟨j,B⟩:=List.getElem?_of_mem (h3.mem_iff.1 hb);have:i=j:=inv.ids i j a b A B (Int.le_antisymm hab hba);subst this;exact Option.some.inj (A.symm.trans B)
theorem zMd(h:wu tag ps w0 w n ws left)(hall:∀p∈ps,p.all.size≤sizes ws){gd cap:Nat}(hc5:w.cell? (iA w0.heap.size 5)=some (sL gd ps.length cap)){i:Nat}{p:Duo}(hp:ps[i]? =some p)(a b d:Int)(s:ByteArray)(v:Nat→Int):
 Cl 22 #[iP w0.heap.size,.pointer (some (iA gd (i*3))),qJ 15 a b d s v] w fun e w'=>e=rB true∧Next w0 w' n∧(∀(k:Nat) (cur:Array Value),tag k=.own→w.heap[k]? =some (.cells cur 29 (0,0))→w'.heap[k]? =some (.cells cur 29 (0,0)))∧w'.cell? (iA w0.heap.size 5)=w.cell? (iA w0.heap.size 5):=by
 have D:Hd (∀W',Below (w.alloc (.cells (opC 15 a b d s v) 29)).heap.size (w.alloc (.cells (opC 15 a b d s v) 29)) W'→(∀(k:Nat) (cur:Array Value),tag k=.own→w.heap[k]? =some (.cells cur 29 (0,0))→W'.heap[k]? =some (.cells cur 29 (0,0)))∧W'.cell? (iA w0.heap.size 5)=w.cell? (iA w0.heap.size 5)):=fun W' hb=>by
  have F:=(gu (w:=w) (.cells (opC 15 a b d s v) 29)).trans (hb.mono (by simp));exact⟨fun k cur _ h9=>OpK.below F k cur h9,World.cell?_of_block (a:=(iA w0.heap.size 5)) (F.block _ h.lt)⟩
 have G:=h.below (gu (w:=w) (.cells (opC 15 a b d s v) 29));have A:=h.qG (gu (w:=w) (.cells (opC 15 a b d s v) 29)) hc5;have H:=G.duos i p hp;obtain⟨c0,c1,c2⟩:=(G.row A).2.2.2.2 i p hp;have I:Hd (Next w0 (w.alloc (.cells (opC 15 a b d s v) 29)) n):=(St.next ⟨tag,ps,G,hall⟩);have C:=hid (zJw H.dsk H.code);have J:(w.alloc (.cells (opC 15 a b d s v) 29)).cell? (iA p.db 4)=sI (p.e.drawn:Int):=H.doc.cell 4;have B:Hd (p.e.hush.drawn=p.e.drawn):=rfl;rw[B.o]at C;clear h G hc5 A H hp hall B;generalize p.e.drawn=dr at *;go_enter func22,ntmps22;go_wp2_with fail;refine C.mono ?_;rintro K L ⟨rfl,rfl⟩;have E:=hid (D.o _ (Below.refl _ _));clear D;go_wp2;go_ret;exact⟨rfl,I.o,E.o⟩
theorem zMe(h:wu tag ps w0 w n ws left)(hall:∀p∈ps,p.all.size≤sizes ws)(hn:n≤10000000)(hl:0<left){gd cap:Nat}(hc5:w.cell? (iA w0.heap.size 5)=some (sL gd ps.length cap)){i:Nat}{p:Duo}(hp:ps[i]? =some p)(a b d:Int)(s:ByteArray)(v:Nat→Int):
 Cl 22 #[iP w0.heap.size,.pointer (some (iA gd (i*3))),qJ 13 a b d s v] w fun e w'=>e=rB true∧Next w0 w' n∧(∀(k:Nat) (cur:Array Value),tag k=.own→w.heap[k]? =some (.cells cur 29 (0,0))→w'.heap[k]? =some (.cells cur 29 (0,0)))∧w'.cell? (iA w0.heap.size 5)=w.cell? (iA w0.heap.size 5):=by
 have A3:Hd (∀W',Below (w.alloc (.cells (opC 13 a b d s v) 29)).heap.size (w.alloc (.cells (opC 13 a b d s v) 29)) W'→(∀(k:Nat) (cur:Array Value),tag k=.own→w.heap[k]? =some (.cells cur 29 (0,0))→W'.heap[k]? =some (.cells cur 29 (0,0)))∧W'.cell? (iA w0.heap.size 5)=w.cell? (iA w0.heap.size 5)):=fun W' hb=>by
  have z:=(gu (w:=w) (.cells (opC 13 a b d s v) 29)).trans (hb.mono (by simp));exact⟨fun k cur _ h9=>OpK.below z k cur h9,World.cell?_of_block (a:=(iA w0.heap.size 5)) (z.block _ h.lt)⟩
 have A0:=h.sum;have L:=hall p (List.mem_of_getElem? hp);have K:=h.below (gu (w:=w) (.cells (opC 13 a b d s v) 29));have G:=h.qG (gu (w:=w) (.cells (opC 13 a b d s v) 29)) hc5;have hd:=K.duos i p hp;obtain⟨g1,g2,g3,g4,g5⟩:=K.row G;obtain⟨c0,c1,c2⟩:=g5 i p hp;have cE:=K.desk hp;have hg:=hd.good;have H:p.e.all.length≤100000:=by have:=hg.len;have:=hg.told;omega
 have HS:Hd (wu tag ps w0 (w.alloc (.cells (opC 13 a b d s v) 29)) n ws left):=K;have O:Hd (∀p∈ps,p.all.size≤sizes ws):=hall;have T:Hd (∀W',Below (w.alloc (.cells (opC 13 a b d s v) 29)).heap.size (w.alloc (.cells (opC 13 a b d s v) 29)) W'→W'.cell? (iA gd (i*3+1))=some (iP p.db)):=fun W' hb=>(World.cell?_of_block (a:=(iA gd (i*3+1))) (hb.block gd g1)).trans c1
 have V:=hid (zJn hd.code (hg.inv.vz rfl rfl rfl rfl rfl rfl) (hd.holds.vz rfl) (by show p.e.all.length≤_;omega));have X:Hd (∀W',Below (w.alloc (.cells (opC 13 a b d s v) 29)).heap.size (w.alloc (.cells (opC 13 a b d s v) 29)) W'→Cl 44 #[iP p.db] W' fun N w'=> ∃v' l,N=.returned v'∧OR W'.heap.size w' v' l∧l.Perm p.e.all∧Sorted l∧Bw W' w'):=fun W' hb=>zJ0 (hd.doc.below hb) (by omega)
 have Y:=hid hg.inv;have F:=hid H;have A6:=K.lt;have q:Hd (∀g,(w.alloc (.cells (opC 13 a b d s v) 29)).heap.size≤g→tag g=.own):=K.tup;clear h K hc5 G hd hp hall g4 g5 c1 c2 hg L A0 H;go_enter func22,ntmps22;go_wp2_with fail;generalize w.alloc (.cells (opC 13 a b d s v) 29)=W at *;refine V.mono ?_;rintro N w1 ⟨t,M,rfl,m1,m2,m3,m4⟩;have E:Hd (M.Perm p.e.all∧M.Pairwise (fun x y=>x.id≤y.id)∧M.length≤100000):=⟨m1,m2,by rw[m1.length_eq];exact F.o⟩;have R:=hid m4;have I:Hd (mZ W.heap.size w1 (some (iA t 0)) M.length M.length M):=mZ.of rfl m3;have d1:=T.o w1 m4;have U:=hid (X.o w1 m4);obtain⟨D,B⟩:∃D,D=M.length:=⟨_,rfl⟩;have A2:Hd (D=M.length):=B;rw[←B]at I;rw[←B];clear m1 m2 m3 m4 T X V c0 cE B;go_wp2_with fail;refine U.mono ?_;rintro N w2 ⟨vl,l,rfl,k1,k2,k3,k4⟩;have HL:Hd (l.Perm p.e.all∧Sorted l∧l.length≤100000):=⟨k2,k3,by rw[k2.length_eq];exact F.o⟩
 have S:Hd (Bw W w2):=R.trans (k4.mono R.size);have c:Hd (mZ W.heap.size w2 (some (iA t 0)) D D M):=I.below k4;have f:=hid (zDn w1.heap.size w2 vl l k1 (by have:=HL.2.2;omega));obtain⟨pl,nl,cl,rfl⟩:∃pl nl cl,vl=.slice pl nl cl:=by
  rcases k1.2 with⟨rfl,_⟩|⟨g,cap,cur,h,_⟩
  ·exact⟨_,_,_,rfl⟩
  exact⟨_,_,_,h⟩
 clear k1 k2 k3 k4 I U d1;go_wp2_with fail;refine f.mono ?_;rintro N w3 ⟨pb,mb,cb,rfl,HZ⟩;have A:Hd (Bw W w3):=S.trans (HZ.2.mono S.size);have J:Hd (mZ W.heap.size w3 (some (iA t 0)) D D M):=c.below HZ.2;have m:=hid (zDm (by have:=E.2.2;omega) (by have:=HL.2.2;omega) J.o HZ.1);clear f c;go_wp2_with fail;refine m.mono ?_;rintro N w4 ⟨⟨r,rfl,hr⟩,j,rfl⟩;obtain rfl:r=true:=hr (zMc Y.o E.o.1 E.o.2.1 HL.o.1 HL.o.2.1);have A5:Hd (wu tag ps w0 (w3.drewN j) n ws left):=(HS.below A.o).drewN j;have A4:Hd (mZ W.heap.size (w3.drewN j) (some (iA t 0)) D D M):=J.below ⟨rfl,rfl,rfl,Nat.le_refl _,fun _ _=>rfl⟩;have B:D≤1000000000:=by have h1:=E.2.2;have h2:=A2.o;omega
 clear hr m J;go_wp2_with fail;refine(vK A5.o (by omega) (some (iA t 0)) D (stX M) B (A4.free A6 q.o) (fun e=>by cases e)).mono ?_;rintro N w5 ⟨rfl,⟨A1,u⟩,C⟩;have Z:Hd ((∀(k:Nat) (cur:Array Value),tag k=.own→w.heap[k]? =some (.cells cur 29 (0,0))→w5.heap[k]? =some (.cells cur 29 (0,0)))∧w5.cell? (iA w0.heap.size 5)=w.cell? (iA w0.heap.size 5)):=by
  obtain⟨o1,o2⟩:=A3.o (w3.drewN j) ⟨A.o.os,A.o.tape,A.o.output,A.o.size,A.o.block⟩;exact⟨fun k cur ho hb=>C.1 k cur (o1 k cur ho hb),C.2.trans o2⟩
 clear C;have HN:Hd (Next w0 w5 n):=Next.of ⟨A1,ps,u,O.o⟩;clear u;go_wp2;go_ret;exact⟨rfl,HN.o,Z.o⟩
end
def alV(i:Nat):Int:=match i with|0=>7|1=>1|2=>1|3=>5|4=>3|7=>2|_=>0
def alT:List UInt8:=(jl 1 alV).1
def alE:bf:=dG 1 9 9 []
def alO:List UInt8:=(alE.apply alT).out
theorem zDo:alT.length≤100:=by decide +kernel
theorem zMg:(jl 1 alV).2=(0,-1):=by decide +kernel
theorem zAi:alO= [1,0,0,0,1,0,0,0,7,0,0,0,1,0,0,0,5,0,0,0,3,1,6,0,0,0,2,0,0,0,7,0,0,0,0,0,0,0,5,0,0,0,3,0]:=by decide +kernel
theorem zMh:aS (ba alO) 2 0:=by
 rw[zAi];refine⟨fun i hi=>?_,.inl ⟨rfl,by decide +kernel⟩⟩;obtain rfl|rfl:i=0∨i=1:=by omega
 ·refine⟨by decide +kernel,by decide +kernel,by decide +kernel⟩
 refine⟨by decide +kernel,by decide +kernel,by decide +kernel⟩
theorem zMi:(xA (ba alO) (22*0))[0]? =some 1∧(xA (ba alO) (22*0))[2]? =some 7:=by rw[zAi];decide +kernel
theorem zMj:(xA (ba alO) (22*1))[0]? =some 6∧(xA (ba alO) (22*1))[5]? =some 3:=by rw[zAi];decide +kernel
theorem zMk:Good alE 0:=zCi (by decide) (by decide) (fun x hx=>by cases hx)
theorem zMl(w:World){ad:Nat→Addr}{st:Nat→ByteArray}(hE:lq w ad st)(hW:qx w):
 Cl 13 #[] w fun e w'=>e=rB true∧Below w.heap.size w w':=by
 have I:=hid (zD5 1 9 9 (.slice none 0 0) 0 [] w (World.ownsRow_nil _ _ _ _) (by decide) (by decide));have R:Hd (∀W,Bw w W→lq W ad st∧qx W):=fun W hb=>⟨hE.below hb,hW.below hb⟩
 have H:Hd (lq w ad st∧qx w):=⟨hE,hW⟩;go_enter func13,ntmps13;go_wp2_with fail;refine I.mono ?_;rintro e w1 ⟨G,rfl,n⟩;obtain⟨U,g,d1,h,q,s,t,b⟩:=n;have B:Bw w w1:=b;have c:G<w1.heap.size:=(Array.getElem?_eq_some_iff.1 h).1;have c0:w1.cell? (iA G 0)=some (iP U):=by simp[World.cell?,h]
 have C:=hid (qA ad st 1 alV w1 (R w1 B).1 (R w1 B).2 (fun i hi=>by
  unfold alV;split<;>omega))
 rw[zMg]at C;have M:Hd (∀W,Bw w1 W→W.cell? (iA G 0)=some (iP U)∧Hd (Cl 18 #[iP U,.string (ba alT)] W fun j w'=>j=.returned (.string (ba alO))∧Hd (Bw w w'))):=fun W hb=>by
  have V:Bw w W:=B.trans (hb.mono B.size);refine⟨(World.cell?_of_block (a:=(iA G 0)) (hb.block G c)).trans c0,?_⟩;have x:=q.below hb;refine(zDa (w0:=w) (F:=fun k=>w.heap.size≤k∧k≠G) (ad:=ad) (st:=st) ⟨H.1,H.2,fun k hk=>hk.1⟩ x s t rfl V alT (zMk.taking (by omega) alT (by have:=zDo;omega)) ?_).mono ?_
  ·have h9:=zDo;show([]:List Ord).length+(([]:List UInt8)++alT).length≤_;simp;omega
  rintro j w' ⟨rfl,hz⟩;exact⟨rfl,hz.out.2⟩
 have m:=hid B;go_wp2_with fail;refine C.mono ?_;rintro e w2 ⟨rfl,X⟩;obtain⟨c2,L⟩:=M w2 X;have Z:(⟨(jl 1 alV).1.toArray⟩:ByteArray)=ba alT:=rfl;rw[Z];generalize ba alT=T at *;go_wp2_with fail;refine L.mono ?_;rintro e l ⟨rfl,D⟩;have J:=hid (nU ad st (ba alO) l (R l D).1 (by rw[zx,zAi];decide));have S:=hid zMh;have K:=hid (And.intro zMi zMj);generalize ba alO=O at *;go_wp2_with fail;refine J.mono ?_;rintro e w4 ⟨k,nn,y,Y,E⟩;obtain⟨rfl,rfl⟩:=S.o.uniq y;have N:=hid (D.trans (Y.mono D.size));rcases E with⟨_,v,rfl,z⟩|⟨d,_⟩
 ·rcases z with⟨_,u⟩|⟨g,rfl,p,A⟩
  ·cases u
  have q0:=aL A 0 (by omega) 0 (by omega) 1 K.1.1;have q2:=aL A 0 (by omega) 2 (by omega) 7 K.1.2;have q7:=aL A 1 (by omega) 0 (by omega) 6 K.2.1;have f:=aL A 1 (by omega) 5 (by omega) 3 K.2.2;simp only[Nat.zero_mul,Nat.one_mul,Nat.zero_add,Nat.add_zero]at q0 q2 q7 f;go_wp2;go_ret;exact⟨rfl,N⟩
 exact absurd rfl d
end Go.Proofs.YtehmdohpmpbnnaaGreatDoor
