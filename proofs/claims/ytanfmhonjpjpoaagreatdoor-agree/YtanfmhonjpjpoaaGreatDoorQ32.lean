import Derived.Test.YtanfmhonjpjpoaaGreatDoorQ00
import Derived.Test.YtanfmhonjpjpoaaGreatDoorQ10
import Derived.Test.YtanfmhonjpjpoaaGreatDoorQ26
import Derived.Test.YtanfmhonjpjpoaaGreatDoorQ27
import Derived.Test.YtanfmhonjpjpoaaGreatDoorQ28
import Derived.Deep.RegionHeld3
import Derived.LaidEqlPtr
set_option linter.all false
set_option maxRecDepth 100000
set_option maxHeartbeats 8000000
namespace Go.Proofs.YtanfmhonjpjpoaaGreatDoor
variable{rb:Nat}{w0:World}{k:Nat→Int}{l:List Ent}
open Go.Extern Go.Maps Go.RowKit
section
variable {pr:Nat→Option (Array Value×TypeId)} {base:Nat} {w w':World} {ab lm em n:Nat} {q p:Nat} {o o' x:Ord}
theorem Tryz.sizeOrdA:(Tryz.prog.info? 234).map (fun i=>i.size)=some 13:=by kernel_rfl
theorem zQi(n a c:Int):Calls Tryz.prog 145 #[.int .i64 n,.int .i64 a,.int .i64 c] w fun en w'=> ∃r,en=.returned (.bool r)∧Hid (r=Eng.inn n a c)∧w'=w:=by
 refine(zBy n a c).mono ?_;rintro en w' ⟨rfl,rfl⟩;exact⟨_,rfl,rfl,rfl⟩
end
section
variable {pr:Nat→Option (Array Value×TypeId)} {base:Nat} {w w':World} {ab lm em n:Nat} {L:List (Int×Option Nat)} {E:List (Int×List Int)} {B:List Ent} {i j q p:Nat} {o x:Ord} {y z:Ent}
structure TrX(pr:Nat→Option (Array Value×TypeId))(base:Nat)(w0:World)(ab lm em n:Nat)(L:List (Int×Option Nat))(E:List (Int×List Int))(B:List Ent)(q p rb:Nat)(o x:Ord)(k:Nat→Int)(X:World):Prop where
 ag:AX pr base X ab lm em n L E B
 oq:OA X q 0 o
 op:OA X p 0 x
 rb:RB X rb k
 low:Below base w0 X
theorem TrX.below{X Y:World}(h:TrX pr base w0 ab lm em n L E B q p rb o x k X)(hb:Below X.heap.size X Y):TrX pr base w0 ab lm em n L E B q p rb o x k Y:=⟨h.ag.below hb,h.oq.below hb,h.op.below hb,h.rb.below hb,h.low.trans (hb.mono h.ag.lw)⟩
theorem TrX.same{X Y:World}(h:TrX pr base w0 ab lm em n L E B q p rb o x k X)(hs:Same X Y):TrX pr base w0 ab lm em n L E B q p rb o x k Y:=⟨h.ag.same hs,h.oq.same hs,h.op.same hs,h.rb.same hs,h.low.trans hs.low⟩
structure TrF(k:Nat→Int)(i j:Nat)(y z:Ent)(L:List (Int×Option Nat))(B:List Ent)(q p:Nat):Prop where
 hy:B[i]? =some y
 yl:y.live=true
 ym:(y.id,some q)∈L
 hz:B[j]? =some z
 zl:z.live=true
 zm:(z.id,some p)∈L
 ij:i≠j
 ht:y.kind≠3
 hs:y.shown=0
 h5:1≤k 5∧k 5≤y.qty - y.filled∧k 5≤z.shown
 yo:y.opn=y.qty - y.filled∧y.gone=0
 zo:z.opn=z.qty - z.filled∧z.gone=0
theorem zQj{U:World}(k:Nat→Int)(hn:n≤100000000)(F:TrF k i j y z L B q p)(hq:base≤q)(hp:base≤p)(hky:AOk y.ao)(hkz:AOk z.ao)(hA:AX pr base U ab lm em n L E B)(hoq:OA U q 0 y.ao)(hop:OA U p 0 z.ao)(hrb:RB U rb k)(hlow:Below base w U):
 Calls Tryz.prog 226 #[.pointer (some ⟨ab,0,none⟩),.pointer (some ⟨q,0,none⟩),.int .i64 (k 5)] (U.setCell ⟨p,11,none⟩ (.int .i64 (z.shown - k 5))).drew fun en w1=>en=.returned (.tuple #[])∧w1.cell? ⟨rb,5,none⟩=some (.int .i64 (k 5))∧Hid (Calls Tryz.prog 226 #[.pointer (some ⟨ab,0,none⟩),.pointer (some ⟨p,0,none⟩),.int .i64 (k 5)] w1 fun en w2=>en=.returned (.tuple #[])∧Hid (∃L' E',AX pr base w2 ab lm em (n+2) L' E' ((B.set i (y.fill (k 5))).set j (Ent.fill { z with shown:=z.shown - k 5 } (k 5)))∧Below base w w2)):=by
 obtain⟨b1,b2,b3⟩:=F.h5;have a1:0≤z.filled∧z.filled≤z.qty∧z.qty≤4294967295:=hkz.fil;have a2:0≤z.shown∧z.shown≤z.qty - z.filled:=hkz.sh;have hs:=F.hs;have hpq:p≠q:=hA.apart F.hz F.zl F.zm F.hy F.yl F.ym (fun e=>F.ij e.symm);have hxo:AOk ({ z with shown:=z.shown - k 5 }:Ent).ao:=⟨hkz.id,hkz.fil,⟨by show 0≤z.shown - k 5;omega,by show z.shown - k 5≤z.qty - z.filled;omega⟩,fun t3 p0=>by have h0:z.shown=0:=hkz.peg t3 p0;omega⟩;have ch:ACh p U (U.setCell ⟨p,11,none⟩ (.int .i64 (z.shown - k 5))).drew:=((ACh.refl p U).set 11 _).same (Same.refl _).drew;have o1:OA (U.setCell ⟨p,11,none⟩ (.int .i64 (z.shown - k 5))).drew p 0 ({ z with shown:=z.shown - k 5 }:Ent).ao:=(hop.wr 11 _ _ (by simp[Ord.code,Ent.ao])).drew;have g1:=hA.chg (x':={ z with shown:=z.shown - k 5 }) F.hz F.zl F.zm ch o1 hxo rfl F.zl
 have oq1:OA (U.setCell ⟨p,11,none⟩ (.int .i64 (z.shown - k 5))).drew q 0 y.ao:=⟨by rw[ch.block q hoq.lt (fun e=>hpq e.symm)];exact hoq.blk⟩;have hrp:rb≠p:=fun e=>by
  have h1:=hrb.blk;rw[e,hop.blk]at h1;injection h1 with h1;injection h1 with _ h1 _;exact absurd h1 (by decide)
 have hrq:rb≠q:=fun e=>by
  have h1:=hrb.blk;rw[e,hoq.blk]at h1;injection h1 with h1;injection h1 with _ h1 _;exact absurd h1 (by decide)
 have r1:RB (U.setCell ⟨p,11,none⟩ (.int .i64 (z.shown - k 5))).drew rb k:=⟨by rw[ch.block rb hrb.lt hrp];exact hrb.blk⟩;have lw1:Below base w (U.setCell ⟨p,11,none⟩ (.int .i64 (z.shown - k 5))).drew:=hlow.trans (ch.low hp hA.lw);generalize (U.setCell ⟨p,11,none⟩ (.int .i64 (z.shown - k 5))).drew=V at *;have hyV:(B.set j { z with shown:=z.shown - k 5 })[i]? =some y:=zBm F.hy F.ij;refine(zHn (k 5) g1 (by omega) hyV F.yl F.ym oq1 hq hky (by omega) (by rw[hs];omega) F.yo.1 F.yo.2).mono ?_;rintro en w1 ⟨rfl,HZ⟩;obtain⟨L1,E1,v1,v2,v3,v4⟩:=HZ.out;have r2:RB w1 rb k:=⟨v4 rb _ _ _ hrq r1.blk⟩;refine⟨rfl,r2.cell 5,?_⟩;have hzy:z.id≠y.id:=fun e=>F.ij (hA.ids i j y z F.hy F.hz e.symm)
 have hz1:((B.set j { z with shown:=z.shown - k 5 }).set i (y.fill (k 5)))[j]? =some { z with shown:=z.shown - k 5 }:=zBm (zB F.hz) (fun e=>F.ij e.symm);have op2:OA w1 p 0 ({ z with shown:=z.shown - k 5 }:Ent).ao:=⟨v4 p _ _ _ hpq o1.blk⟩;refine(zHn (x:={ z with shown:=z.shown - k 5 }) (k 5) v1 (by omega) hz1 F.zl (v2 _ F.zm hzy) op2 hp hxo (by omega) (by show k 5≤z.qty - z.filled - (z.shown - k 5);omega) F.zo.1 F.zo.2).mono ?_;rintro en w2 ⟨rfl,HZ2⟩;obtain⟨L2,E2,u1,u2,u3,u4⟩:=HZ2.out;refine⟨rfl,hid ⟨L2,E2,?_,(lw1.trans v3).trans u3⟩⟩;have e:((B.set j { z with shown:=z.shown - k 5 }).set i (y.fill (k 5))).set j (Ent.fill { z with shown:=z.shown - k 5 } (k 5))=(B.set i (y.fill (k 5))).set j (Ent.fill { z with shown:=z.shown - k 5 } (k 5)):=by
  rw[List.set_comm _ _ F.ij,List.set_set,List.set_comm _ _ (fun e=>F.ij e.symm)]
 rw[←e];exact u1
theorem zQk(k:Nat→Int)(hkk:KOk k)(h:AX pr base w ab lm em n L E B)(hn:n≤100000000)(F:TrF k i j y z L B q p)(hd:k 0=3∧k 1=0∧k 2=y.id∧k 3=z.id∧k 4=z.price∧k 6=0)(hO:OA w q 0 y.ao)(hq:base≤q)(hk:AOk y.ao)(hO2:OA w p 0 z.ao)(hp:base≤p)(hk2:AOk z.ao):
 Calls Tryz.prog 180 #[.pointer (some ⟨ab,0,none⟩),.pointer (some ⟨q,0,none⟩),recW (k 0) (k 1) (k 2) (k 3) (k 4) (k 5) (k 6)] w fun en w'=>en=.returned (.bool true)∧Hid (∃L' E',AX pr base w' ab lm em (n+2) L' E' ((B.set i (y.fill (k 5))).set j (Ent.fill { z with shown:=z.shown - k 5 } (k 5)))∧Below base w w'):=by
 have hb0:Below w.heap.size w (w.alloc (.cells #[.int .i64 (k 0),.int .i64 (k 1),.int .i64 (k 2),.int .i64 (k 3),.int .i64 (k 4),.int .i64 (k 5),.int .i64 (k 6)] 73)):=(Below.refl w.heap.size w).alloc (Nat.le_refl _) _;have hrb:RB (w.alloc (.cells #[.int .i64 (k 0),.int .i64 (k 1),.int .i64 (k 2),.int .i64 (k 3),.int .i64 (k 4),.int .i64 (k 5),.int .i64 (k 6)] 73)) w.heap.size k:=⟨heap_alloc_new w _⟩;have HQ:Hid (base≤q∧AOk y.ao∧KOk k∧n≤100000000):=⟨hq,hk,hkk,hn⟩;have HP:Hid (base≤p∧AOk z.ao):=⟨hp,hk2⟩;have HF:=hid F;have HX:Hid (TrX pr base w ab lm em n L E B q p w.heap.size y.ao z.ao k (w.alloc (.cells #[.int .i64 (k 0),.int .i64 (k 1),.int .i64 (k 2),.int .i64 (k 3),.int .i64 (k 4),.int .i64 (k 5),.int .i64 (k 6)] 73))):=⟨h.below hb0,hO.below hb0,hO2.below hb0,hrb,hb0.mono h.lw⟩;have HPQ:Hid (¬p=q):=h.apart F.hz F.zl F.zm F.hy F.yl F.ym (fun e=>F.ij e.symm)
 have HC5:Hid ((!(k 0 == 3 && k 1 == 0 && k 2 == y.ao.id && k 3 == z.ao.id && k 4 == z.ao.price && k 5 == k 5 && k 6 == 0))=false):=by
  show(!(k 0 == 3 && k 1 == 0 && k 2 == y.id && k 3 == z.id && k 4 == z.price && k 5 == k 5 && k 6 == 0))=false;obtain⟨d0,d1,d2,d3,d4,d6⟩:=hd;simp[d0,d1,d2,d3,d4,d6]
 have K3:Hid (k 3=z.id):=hd.2.2.2.1;clear hb0 hrb h hkk hn hO hq hk F hd hO2 hp hk2;obtain⟨o,hoy⟩: ∃o,y.ao=o:=⟨_,rfl⟩;obtain⟨x,hxz⟩: ∃x,z.ao=x:=⟨_,rfl⟩;have HOY:=hid (And.intro hoy hxz);rw[hoy,hxz]at HX HC5;rw[hoy]at HQ;rw[hxz]at HP;have HN:Hid (o.typ≠3∧o.shown=0∧1≤k 5∧k 5≤o.qty - o.filled∧k 5≤x.shown):=by
  rw[←hoy,←hxz];exact⟨HF.out.ht,HF.out.hs,HF.out.h5⟩
 clear hoy hxz;go_enter Tryz.func180,Tryz.ntmps180;go_wp2_with fail;generalize w.alloc (.cells #[.int .i64 (k 0),.int .i64 (k 1),.int .i64 (k 2),.int .i64 (k 3),.int .i64 (k 4),.int .i64 (k 5),.int .i64 (k 6)] 73)=W at *;generalize w.heap.size=rb at *;have a0:=HX.out.ag.aw.c0;have y3:W.cell? ⟨rb,3,none⟩=some (.int .i64 (k 3)):=HX.out.rb.cell 3;have hl:(Instr.lookup 110 (.map (some lm)) (.int .i64 (k 3)) true).run Tryz.prog W.drew=.ok (.tuple #[.pointer (some ⟨p,0,none⟩),.bool true]) W.drew:=by
  have h63:r63 (k 3):=by obtain⟨q1,q2⟩:=HQ.out.2.2.1 3;exact⟨by omega,by omega⟩
  have hm:=HF.out.zm;rw[←K3.out]at hm;exact(HX.out.ag.same (Same.refl W).drew).aw.live.hit (v:=some p) keyedInt Tryz.underlying3 Tryz.underlying110 (zeroPtr _) hm (wf63 h63)
 have HT:Hid (TrX pr base w ab lm em n L E B q p rb o x k W.drew):=HX.out.same (Same.refl W).drew;clear HX;go_region_held3(fun X=>X.cell? ⟨ab,0,none⟩=some (.map (some lm))∧X.cell? ⟨rb,3,none⟩=some (.int .i64 (k 3))) (go_keep) (fail);clear a0 y3 hl;generalize W.drew=V at *;have x2:V.cell? ⟨q,2,none⟩=some (.int .i64 o.typ):=HT.out.oq.cell 2;have x11:V.cell? ⟨q,11,none⟩=some (.int .i64 o.shown):=HT.out.oq.cell 11;have hneq:=fun W=>neqRec (k 0) (k 1) (k 2) (k 3) (k 4) (k 5) (k 6) 3 0 o.id x.id x.price (k 5) 0 W
 have hgd:=Tryz.recGuard;generalize hcc:(!(k 0 == 3 && k 1 == 0 && k 2 == o.id && k 3 == x.id && k 4 == x.price && k 5 == k 5 && k 6 == 0))=c at hneq;obtain rfl:c=false:=hcc.symm.trans HC5.out;clear hcc HC5;have hpq: ¬p=q:=HPQ.out;have heq:(binOp .eql 158 (.pointer (some ⟨p,0,none⟩)) (.pointer (some ⟨q,0,none⟩))).run Tryz.prog V=.ok (.bool false) V:=by
  obtain⟨j,hj,hjs⟩:=Option.map_eq_some_iff.1 Tryz.sizeOrdA;exact run_eql_ptr_other (P:=Tryz.prog) V Tryz.underlying158 hj (by rw[hjs];decide) (fun e=>hpq (by injection e)) HT.out.op.blk HT.out.oq.blk
 have ht: ¬o.typ=3:=HN.out.1;have hs: ¬0<o.shown:=by have:=HN.out.2.1;omega
 go_wp2_with fail;clear x2 x11;have c0:V.cell? ⟨q,0,none⟩=some (.int .i64 o.id):=HT.out.oq.cell 0;have p0:V.cell? ⟨p,0,none⟩=some (.int .i64 x.id):=HT.out.op.cell 0;have p3:V.cell? ⟨p,3,none⟩=some (.int .i64 x.price):=HT.out.op.cell 3;have r5:V.cell? ⟨rb,5,none⟩=some (.int .i64 (k 5)):=HT.out.rb.cell 5;have n1:=World.new_ne V _ (hid c0).out;have n2:=World.new_ne V _ (hid p0).out;have n3:=World.new_ne V _ (hid r5).out;go_region_held3(fun X=>X.cell? ⟨q,0,none⟩=some (.int .i64 o.id)∧X.cell? ⟨p,0,none⟩=some (.int .i64 x.id)∧X.cell? ⟨p,3,none⟩=some (.int .i64 x.price)∧X.cell? ⟨rb,5,none⟩=some (.int .i64 (k 5))) (go_keep) (fail)
 have HD:Hid (TrX pr base w ab lm em n L E B q p rb o x k (V.alloc (.cells #[.int .i64 3,.int .i64 0,.int .i64 o.id,.int .i64 x.id,.int .i64 x.price,.int .i64 (k 5),.int .i64 0] 73)).drew∧RB (V.alloc (.cells #[.int .i64 3,.int .i64 0,.int .i64 o.id,.int .i64 x.id,.int .i64 x.price,.int .i64 (k 5),.int .i64 0] 73)).drew V.heap.size (dueF 3 0 o.id x.id x.price (k 5) 0)):=⟨(HT.out.below ((Below.refl V.heap.size V).alloc (Nat.le_refl _) _)).same (Same.refl _).drew,⟨heap_alloc_new V _⟩⟩;generalize (V.alloc (.cells #[.int .i64 3,.int .i64 0,.int .i64 o.id,.int .i64 x.id,.int .i64 x.price,.int .i64 (k 5),.int .i64 0] 73)).drew=Y at *;generalize V.heap.size=db at *;clear HT c0 p0 p3 r5 n1 n2 n3;have y0:Y.cell? ⟨rb,0,none⟩=some (.int .i64 (k 0)):=HD.out.1.rb.cell 0;have y1:Y.cell? ⟨rb,1,none⟩=some (.int .i64 (k 1)):=HD.out.1.rb.cell 1
 have y2:Y.cell? ⟨rb,2,none⟩=some (.int .i64 (k 2)):=HD.out.1.rb.cell 2;have y3:Y.cell? ⟨rb,3,none⟩=some (.int .i64 (k 3)):=HD.out.1.rb.cell 3;have y4:Y.cell? ⟨rb,4,none⟩=some (.int .i64 (k 4)):=HD.out.1.rb.cell 4;have y5:Y.cell? ⟨rb,5,none⟩=some (.int .i64 (k 5)):=HD.out.1.rb.cell 5;have y6:Y.cell? ⟨rb,6,none⟩=some (.int .i64 (k 6)):=HD.out.1.rb.cell 6;have z0:Y.cell? ⟨db,0,none⟩=some (.int .i64 3):=HD.out.2.cell 0;have z1:Y.cell? ⟨db,1,none⟩=some (.int .i64 0):=HD.out.2.cell 1;have z2:Y.cell? ⟨db,2,none⟩=some (.int .i64 o.id):=HD.out.2.cell 2;have z3:Y.cell? ⟨db,3,none⟩=some (.int .i64 x.id):=HD.out.2.cell 3;have z4:Y.cell? ⟨db,4,none⟩=some (.int .i64 x.price):=HD.out.2.cell 4;have z5:Y.cell? ⟨db,5,none⟩=some (.int .i64 (k 5)):=HD.out.2.cell 5;have z6:Y.cell? ⟨db,6,none⟩=some (.int .i64 0):=HD.out.2.cell 6;have x11:Y.cell? ⟨p,11,none⟩=some (.int .i64 x.shown):=HD.out.1.op.cell 11
 have HOPD:Hid (∀X,OA X q 0 o→Calls Tryz.prog 124 #[.pointer (some ⟨q,0,none⟩)] X fun en w1=>en=.returned (.int .i64 (o.qty - o.filled))∧∃m,w1=X.drewN m):=fun X hX=>zCa hX HQ.out.2.1.opn
 by_cases hm:o.qty - o.filled≤x.shown;all_goals(
  go_wp2_with fail;go_region_held3(fun X=>X.cell? ⟨rb,0,none⟩=some (.int .i64 (k 0))∧X.cell? ⟨rb,1,none⟩=some (.int .i64 (k 1))∧X.cell? ⟨rb,2,none⟩=some (.int .i64 (k 2))∧X.cell? ⟨rb,3,none⟩=some (.int .i64 (k 3))∧X.cell? ⟨rb,4,none⟩=some (.int .i64 (k 4))∧X.cell? ⟨rb,5,none⟩=some (.int .i64 (k 5))∧X.cell? ⟨rb,6,none⟩=some (.int .i64 (k 6))∧X.cell? ⟨db,0,none⟩=some (.int .i64 3)∧X.cell? ⟨db,1,none⟩=some (.int .i64 0)∧X.cell? ⟨db,2,none⟩=some (.int .i64 o.id)∧X.cell? ⟨db,3,none⟩=some (.int .i64 x.id)∧X.cell? ⟨db,4,none⟩=some (.int .i64 x.price)∧X.cell? ⟨db,5,none⟩=some (.int .i64 (k 5))∧X.cell? ⟨db,6,none⟩=some (.int .i64 0)∧X.cell? ⟨p,11,none⟩=some (.int .i64 x.shown)) (go_keep) (first|(go_at_call 124;refine(HOPD.out _ (by exact HD.out.1.oq.drew)).mono ?_;rintro en w7 ⟨rfl,m7,rfl⟩)|(go_at_call 145;refine(zQi _ _ _).mono ?_;rintro en w8 ⟨r8,rfl,HR8,rfl⟩))
  have HTZ:Hid (TrX pr base w ab lm em n L E B q p rb o x k (Y.drewN (1+m7))):=HD.out.1.same ((Same.refl Y).drewN (1+m7));clear HD y0 y1 y2 y3 y4 y5 y6 z0 z1 z2 z3 z4 z5 z6 x11 hneq HOPD;generalize Y.drewN (1+m7)=Z at *;obtain rfl:r8=true:=by
   rw[HR8.out];obtain⟨_,_,u1,u2,u3⟩:=HN.out;unfold Eng.inn;simp;omega
  have hwx:IntKind.i64.wrap (x.shown - k 5)=x.shown - k 5:=by
   obtain⟨_,_,q1,q2,q3⟩:=HN.out;have q4:=HP.out.2.sh;have q5:=HP.out.2.fil;exact zA8 _ (by omega) (by omega)
  have hwx':wrap64 (x.shown - k 5)=x.shown - k 5:=by
   obtain⟨_,_,q1,q2,q3⟩:=HN.out;have q4:=HP.out.2.sh;have q5:=HP.out.2.fil;unfold wrap64;omega
  have p11:Z.cell? ⟨p,11,none⟩=some (.int .i64 x.shown):=HTZ.out.op.cell 11;have f11:=HTZ.out.op.froz 11;have r5:Z.cell? ⟨rb,5,none⟩=some (.int .i64 (k 5)):=HTZ.out.rb.cell 5;clear HR8 hm hs ht heq hpq;go_wp2_with fail;go_region_law(fail);all_goals(
   have HC:Hid (Calls Tryz.prog 226 #[.pointer (some ⟨ab,0,none⟩),.pointer (some ⟨q,0,none⟩),.int .i64 (k 5)] (Z.setCell ⟨p,11,none⟩ (.int .i64 (x.shown - k 5))).drew fun en w1=>en=.returned (.tuple #[])∧w1.cell? ⟨rb,5,none⟩=some (.int .i64 (k 5))∧Hid (Calls Tryz.prog 226 #[.pointer (some ⟨ab,0,none⟩),.pointer (some ⟨p,0,none⟩),.int .i64 (k 5)] w1 fun en w2=>en=.returned (.tuple #[])∧Hid (∃L' E',AX pr base w2 ab lm em (n+2) L' E' ((B.set i (y.fill (k 5))).set j (Ent.fill { z with shown:=z.shown - k 5 } (k 5)))∧Below base w w2))):=by
    obtain⟨u1,u2,u3,u4,u5⟩:=HTZ.out;obtain⟨v1,v2,v3,v4⟩:=HQ.out;obtain⟨s1,s2⟩:=HP.out;obtain⟨hoy,hxz⟩:=HOY.out;rw[←hoy]at u2 v2;rw[←hxz]at u3 s2;have e:x.shown=z.shown:=by rw[←hxz];rfl
    rw[e];exact zQj k v4 HF.out v1 s1 v2 s2 u1 u2 u3 u4 u5
   have r5':(Z.setCell ⟨p,11,none⟩ (.int .i64 (x.shown - k 5))).drew.cell? ⟨rb,5,none⟩=some (.int .i64 (k 5)):=by
    have hrp:rb≠p:=fun e=>by
     have h1:=HTZ.out.rb.blk;rw[e,HTZ.out.op.blk]at h1;injection h1 with h1;injection h1 with _ h1 _;exact absurd h1 (by decide)
    exact(World.cell?_of_block (a:=⟨rb,5,none⟩) (Below.heap_setCell _ _ _ _ hrp)).trans r5
   clear p11 f11 r5 hwx hwx' HTZ;generalize (Z.setCell ⟨p,11,none⟩ (.int .i64 (x.shown - k 5))).drew=U at *;go_wp2_with fail;refine HC.out.mono ?_;rintro en w1 ⟨rfl,r51,HC2⟩;clear HC r5';go_wp2_with fail;refine HC2.out.mono ?_;rintro en w2 ⟨rfl,HZ⟩;clear HC2 r51;go_wp2;go_ret;exact⟨rfl,HZ⟩))
end
section
variable {pr:Nat→Option (Array Value×TypeId)} {base:Nat} {w w' V:World} {ab lm em n:Nat} {L:List (Int×Option Nat)} {E:List (Int×List Int)} {B:List Ent} {i j q p:Nat} {x x':Ent} {b b':Book} {r:Rcd} {off:Int} {k:Nat→Int}
def FG(pr:Nat→Option (Array Value×TypeId))(base:Nat)(w:World)(ab lm em n:Nat)(B':List Ent)(en:Ending)(w':World):Prop:=en=.returned (.bool true)∧Hid (∃L' E',AX pr base w' ab lm em (n+2) L' E' B'∧Below base w w')
structure KR7(k:Nat→Int)(r:Rcd):Prop where
 k0:k 0=r.kind
 k1:k 1=0
 k2:k 2=r.id
 k3:k 3=r.other
 k4:k 4=r.price
 k5:k 5=r.qty
 k6:k 6=r.reason
theorem OA.cong{o o':Ord}(h:OA w q 0 o)(e:o.code 0=o'.code 0):OA w q 0 o':=⟨by rw[←e];exact h.blk⟩
theorem FX.fg{o':Ord}{en:Ending}(hf:FX q V o' en w')(h:AX pr base V ab lm em n L E B)(hx:B[i]? =some x)(hl:x.live=true)(hm:(x.id,some q)∈L)(hq:base≤q)(hlow:Below base w V)(hk:AOk x'.ao)(hid':x'.id=x.id)(hl':x'.live=true)(he:o'.code 0=x'.ao.code 0):FG pr base w ab lm em n (B.set i x') en w':=by
 obtain⟨e,H⟩:=hf;exact⟨e,hid ⟨L,E,(h.chg hx hl hm H.out.2 (H.out.1.cong he) hk hid' hl').more (by omega),hlow.trans (H.out.2.low hq h.lw)⟩⟩
theorem AOk.of_eb(h:EB x)(hid:0≤x.id∧x.id≤4294967295)(hp:x.kind=3→x.price=0→x.shown=0):AOk x.ao:=by
 obtain⟨h1,h2,h3,h4,h5,h6,h7,h8⟩:=h;exact⟨hid,⟨h3,by show x.filled≤x.qty;omega,h6⟩,⟨h1,by show x.shown≤x.qty - x.filled;omega⟩,hp⟩
theorem zB8{f:Ent→Ent}(h:l[i]? =some x):l.modify i f=l.set i (f x):=by
 apply List.ext_getElem?;intro j;rw[List.getElem?_modify];by_cases c:i=j
 ·subst c;rw[List.getElem?_set_self',h];simp
 ·rw[List.getElem?_set_ne c];simp[c]
theorem zBo(h:b.find r.id=some i)(hx:b.l[i]? =some x):x.id=r.id:=by
 unfold Book.find at h;rw[List.findIdx?_eq_some_iff_getElem]at h;obtain⟨hl,h1,_⟩:=h;rw[List.getElem?_eq_getElem hl]at hx;obtain rfl:=Option.some.inj hx;simpa using h1
theorem find_no{id:Int}(h:b.find id=none): ∀y∈b.l,y.id≠id:=fun y hy=>by
 unfold Book.find at h;rw[List.findIdx?_eq_none_iff]at h;have:=h y hy;simpa using this
theorem zD3{side:Int}: ∀{n c:Nat},Book.firstTo l side n=some c→∃x,l[c]? =some x∧Book.rests side x=true
 |0,c,h=>by cases h
 |n+1,c,h=>by
  unfold Book.firstTo at h;cases hx:l[n]? with
  |none=>rw[hx]at h;exact zD3 h
  |some x=>
   rw[hx]at h;simp only at h;by_cases hr:Book.rests side x=true
   ·rw[if_pos hr]at h;cases h1:Book.firstTo l side n with
    |none=>
     rw[h1]at h;obtain rfl:=Option.some.inj h;exact⟨x,hx,hr⟩
    |some d=>
     rw[h1]at h;simp only at h;have hcd:n=c∨d=c:=by
      split at h;all_goals(try split at h)
      all_goals first
       |exact .inl (Option.some.inj h)
       |exact .inr (Option.some.inj h)
     rcases hcd with rfl|rfl
     ·exact⟨x,hx,hr⟩
     ·exact zD3 h1
   ·rw[if_neg hr]at h;exact zD3 h
structure Ask(b:Book)(r:Rcd)(off:Int)(b':Book):Prop where
 tk:Book.Took b r off b'
 can:b.Can r
 fits:r.Fits
 eb: ∀(j:Nat) (x:Ent),b.l[j]? =some x→EB x
theorem Ask.eb'(h:Ask b r off b'): ∀(j:Nat) (x:Ent),b'.l[j]? =some x→EB x:=Book.took_eb h.tk h.fits h.eb
theorem KR7.ok(h:KR7 k r)(hf:r.Fits)(hr: ∀j,7≤j→k j=0):KOk k:=fun j=>by
 obtain⟨f1,f2,f3,f4,f5,f6,f7,f8,f9,f10,f11,f12⟩:=hf;obtain⟨g0,g1,g2,g3,g4,g5,g6⟩:=h
 match j with
 |0=>rw[g0];omega
 |1=>rw[g1];omega
 |2=>rw[g2];omega
 |3=>rw[g3];omega
 |4=>rw[g4];omega
 |5=>rw[g5];omega
 |6=>rw[g6];omega
 |j+7=>rw[hr (j+7) (by omega)];omega
theorem zQl(hK:KR7 k r)(hA:Ask b r off b')(h2:r.kind=2)(h:AX pr base V ab lm em n L E b.l)(hlow:Below base w V):
 Calls Tryz.prog 179 #[recW (k 0) (k 1) (k 2) (k 3) (k 4) (k 5) (k 6)] V fun en w'=>FG pr base w ab lm em n b'.l en w':=by
 obtain⟨c1,c2,c3,c4,c5⟩:=hA.can.k2 h2;refine(zNw k ⟨by rw[hK.k0,h2],hK.k1,by rw[hK.k3,c1],by rw[hK.k4,c2],by rw[hK.k5,c3]⟩ (by rw[hK.k6];exact⟨c4,c5⟩)).mono ?_;rintro en w' ⟨rfl,hb⟩;have hbb:b'=b:=by
  rcases hA.tk with⟨_,e⟩|⟨e,_⟩|⟨_,_,_,_,_,⟨e,_⟩|⟨e,_⟩|⟨e,_⟩|⟨e,_⟩|⟨e,_⟩|⟨e,_⟩⟩
  ·exact e
  all_goals omega
 rw[hbb];exact⟨rfl,hid ⟨L,E,(h.below hb).more (by omega),hlow.trans (hb.mono h.lw)⟩⟩
theorem zQm(hK:KR7 k r)(hkk:KOk k)(hA:Ask b r off b')(h1:r.kind=1)(h:AX pr base V ab lm em n L E b.l)(hn:n≤100000000)(hlow:Below base w V):
 Calls Tryz.prog 178 #[.pointer (some ⟨ab,0,none⟩),recW (k 0) (k 1) (k 2) (k 3) (k 4) (k 5) (k 6)] V fun en w'=>FG pr base w ab lm em n b'.l en w':=by
 obtain⟨c1,c2,c3,c4,c5⟩:=hA.can.k1 h1;have hbb:b.find r.id=none∧b'={ b with l:=b.l++ [⟨r.id,r.other,r.reason,r.qty,off,r.price,r.qty,0,0,0,0,true⟩] }:=by
  rcases hA.tk with⟨e,_⟩|⟨_,e,e2⟩|⟨_,_,_,_,_,⟨e,_⟩|⟨e,_⟩|⟨e,_⟩|⟨e,_⟩|⟨e,_⟩|⟨e,_⟩⟩
  ·omega
  ·exact⟨e,e2⟩
  all_goals omega
 rw[hbb.2];refine(zPj (x:=⟨r.id,r.other,r.reason,r.qty,off,r.price,r.qty,0,0,0,0,true⟩) k hkk h (by omega) (by rw[hK.k2];exact find_no hbb.1) ⟨hK.k2.symm,hK.k3.symm,hK.k6.symm,hK.k4.symm,hK.k5.symm,rfl,rfl,rfl⟩ (by rw[hK.k2];exact c1) (by rw[hK.k3];exact c2) (by rw[hK.k6];exact c3) (by rw[hK.k5];exact c4) (by rw[hK.k6,hK.k4];exact c5)).mono ?_;rintro en w' ⟨rfl,HZ⟩;obtain⟨L',E',z1,z2⟩:=HZ.out;exact⟨rfl,hid ⟨L',E',z1.more (by omega),hlow.trans z2⟩⟩
structure Nam(b:Book)(r:Rcd)(i:Nat)(x:Ent)(L:List (Int×Option Nat))(base:Nat)(V:World)(q:Nat):Prop where
 fnd:b.find r.id=some i
 at':b.l[i]? =some x
 liv:x.live=true
 mem:(x.id,some q)∈L
 lo:base≤q
 oa:OA V q 0 x.ao
 ok:AOk x.ao
theorem zQn(hK:KR7 k r)(hA:Ask b r off b')(h4:r.kind=4)(h:AX pr base V ab lm em n L E b.l)(hn:n≤100000000)(N:Nam b r i x L base V q)(hlow:Below base w V):
 Calls Tryz.prog 181 #[.pointer (some ⟨ab,0,none⟩),.pointer (some ⟨q,0,none⟩),recW (k 0) (k 1) (k 2) (k 3) (k 4) (k 5) (k 6)] V fun en w'=>FG pr base w ab lm em n b'.l en w':=by
 obtain⟨c1,c2,c3,c4⟩:=(hA.can.at' (by omega) (by omega) i x N.fnd N.at').k4 h4;have hid':=zBo N.fnd N.at';obtain⟨e1,e2,e3,e4,e5,e6,e7,e8⟩:=hA.eb i x N.at';have hg:=e8 (.inl N.liv);have hbb:r.qty=x.opn∧1≤r.qty∧b'=b.set i fun x=>{ x with gone:=r.qty,opn:=0,shown:=0,live:=false }:=by
  rcases hA.tk with⟨e,_⟩|⟨e,_⟩|⟨i',x',f1,f2,_,⟨e,_⟩|⟨_,e1,e2,e3⟩|⟨e,_⟩|⟨e,_⟩|⟨e,_⟩|⟨e,_⟩⟩
  ·omega
  ·omega
  ·omega
  ·obtain rfl:=Option.some.inj (N.fnd.symm.trans f1);obtain rfl:=Option.some.inj (N.at'.symm.trans f2);exact⟨e1,e2,e3⟩
  all_goals omega
 obtain⟨g1,g2,g3⟩:=hbb;have hbl:b'.l=b.l.set i { x with gone:=r.qty,opn:=0,shown:=0,live:=false }:=by rw[g3];exact zB8 N.at'
 rw[hbl];refine(zNx (x':={ x with gone:=r.qty,opn:=0,shown:=0,live:=false }) k h (by omega) N.at' N.liv N.mem rfl N.oa N.lo N.ok ⟨by rw[hK.k0,h4],hK.k1,by rw[hK.k2];exact hid'.symm,by rw[hK.k3,c1],by rw[hK.k4,c2],by rw[hK.k5];show r.qty=x.qty - x.filled;omega⟩ (by rw[hK.k6];exact⟨c3,c4⟩) rfl rfl ?_).mono ?_
 ·have hne:r.qty≠0:=by omega
  have e9:r.qty=x.qty - x.filled:=by omega
  show(Ent.so { x with gone:=r.qty,opn:=0,shown:=0,live:=false }).state= [x.id,3,x.price,0,x.filled,x.qty - x.filled,0];rw[←e9];simp[Ent.so,Ord.state,hne]
 ·rintro en w' ⟨rfl,HZ⟩;obtain⟨L',E',z1,z2⟩:=HZ.out;exact⟨rfl,hid ⟨L',E',z1.more (by omega),hlow.trans z2⟩⟩
theorem zQo(hK:KR7 k r)(hA:Ask b r off b')(h5:r.kind=5)(h:AX pr base V ab lm em n L E b.l)(N:Nam b r i x L base V q)(hlow:Below base w V):
 Calls Tryz.prog 182 #[.pointer (some ⟨q,0,none⟩),recW (k 0) (k 1) (k 2) (k 3) (k 4) (k 5) (k 6)] V fun en w'=>FG pr base w ab lm em n b'.l en w':=by
 obtain⟨c1,c2,c3⟩:=(hA.can.at' (by omega) (by omega) i x N.fnd N.at').k5 h5;have hid':=zBo N.fnd N.at';have hbb:x.filled<r.qty∧r.reason=(if Book.keeps x r then 1 else 0)∧b'=b.set i (Book.replaced r):=by
  rcases hA.tk with⟨e,_⟩|⟨e,_⟩|⟨i',x',f1,f2,_,⟨e,_⟩|⟨e,_⟩|⟨_,e1,e2,e3⟩|⟨e,_⟩|⟨e,_⟩|⟨e,_⟩⟩
  ·omega
  ·omega
  ·omega
  ·omega
  ·obtain rfl:=Option.some.inj (N.fnd.symm.trans f1);obtain rfl:=Option.some.inj (N.at'.symm.trans f2);exact⟨e1,e2,e3⟩
  all_goals omega
 obtain⟨g1,g2,g3⟩:=hbb;have hbl:b'.l=b.l.set i (Book.replaced r x):=by rw[g3];exact zB8 N.at'
 have hx':b'.l[i]? =some (Book.replaced r x):=by rw[hbl];exact zB N.at'
 have heb:=hA.eb' i _ hx';rw[hbl];have hkp:(decide (k 5≤x.ao.qty) && (x.ao.typ == 3 || k 4 == x.ao.price))=Book.keeps x r:=by
  rw[hK.k5,hK.k4];unfold Book.keeps;show(decide (r.qty≤x.qty) && (x.kind == 3 || r.price == x.price))=_;exact Bool.and_comm _ _
 have hpeg:x.kind=3→x.price=0→x.shown=0:=N.ok.peg;have hn0:0<r.qty - x.filled:=by omega
 have e0:=(hA.eb i x N.at').shn0;refine(zNy k (Book.keeps x r) N.oa N.ok (by rw[hK.k5];have:=hA.fits.q1;omega) hkp ⟨by rw[hK.k0,h5],hK.k1,by rw[hK.k2];exact hid'.symm,by rw[hK.k3,c1],by rw[hK.k6];exact g2⟩ (by rw[hK.k5];exact g1) (by rw[hK.k4];exact c2)).mono ?_;intro en w' hf;cases hkb:Book.keeps x r with
 |false=>
  rw[hkb]at hf;have hr0:r.reason=0:=by rw[g2,hkb];rfl
  by_cases h3:x.kind=3
  ·have er:Book.replaced r x={ x with qty:=r.qty,opn:=r.qty - x.filled,live:=decide (0<r.qty - x.filled) }:=zFz hr0 h3;rw[er]at heb⊢;refine hf.fg h N.at' N.liv N.mem N.lo hlow (AOk.of_eb heb N.ok.id hpeg) rfl (decide_eq_true hn0) ?_;have e5:repX x.ao k false={ x.ao with qty:=k 5 }:=by unfold repX;rw[if_neg (by decide),if_pos (show x.ao.typ=3 from h3)]
   rw[e5];simp[Ord.code,Ent.ao,hK.k5]
  ·have er:Book.replaced r x={ x with qty:=r.qty,opn:=r.qty - x.filled,price:=r.price,shown:=0,live:=decide (0<r.qty - x.filled) }:=zFy hr0 h3;rw[er]at heb⊢;refine hf.fg h N.at' N.liv N.mem N.lo hlow (AOk.of_eb heb N.ok.id (fun _ _=>rfl)) rfl (decide_eq_true hn0) ?_;have e5:repX x.ao k false={ x.ao with qty:=k 5,price:=k 4,shown:=0 }:=by unfold repX;rw[if_neg (by decide),if_neg (show¬x.ao.typ=3 from h3)]
   rw[e5];simp[Ord.code,Ent.ao,hK.k5,hK.k4]
 |true=>
  rw[hkb]at hf;have hr1:r.reason=1:=by rw[g2,hkb];rfl
  have er:=zFx (r:=r) (o:=x) hr1;have hsh:Ord.left { x.ao with qty:=k 5 }=if(r.qty - x.filled<x.shown∨(0<x.shown∧x.kind≠2)) then r.qty - x.filled else x.shown:=by
   unfold Ord.left Ord.isThere;show(if x.kind=2 then(if k 5 - x.filled<x.shown then k 5 - x.filled else x.shown) else if(if x.kind=3 then !(x.price == 0) else decide (0<x.shown))=true then k 5 - x.filled else x.shown)=_;rw[hK.k5];by_cases t2:x.kind=2
   ·rw[if_pos t2];by_cases c:r.qty - x.filled<x.shown
    ·rw[if_pos c,if_pos (.inl c)]
    ·rw[if_neg c,if_neg (fun d=>d.elim c (fun d=>d.2 t2))]
   ·rw[if_neg t2];by_cases s0:0<x.shown
    ·rw[if_pos (Or.inr ⟨s0,t2⟩)];by_cases t3:x.kind=3
     ·rw[if_pos t3];have:x.price≠0:=fun c=>by have:=hpeg t3 c;omega
      rw[if_pos (by simp[this])]
     ·rw[if_neg t3,if_pos (by simp[s0])]
    ·rw[if_neg (show¬(r.qty - x.filled<x.shown∨(0<x.shown∧x.kind≠2)) from fun d=>d.elim (fun d=>by omega) (fun d=>s0 d.1))];by_cases t3:x.kind=3
     ·rw[if_pos t3];have:x.price=0:=Classical.byContradiction fun c=>s0 (c3 t3 c)
      rw[if_neg (by simp[this])]
     ·rw[if_neg t3,if_neg (by simp[s0])]
  rw[er]at heb⊢;refine hf.fg h N.at' N.liv N.mem N.lo hlow (AOk.of_eb heb N.ok.id (fun t3 p0=>?_)) rfl (decide_eq_true hn0) ?_
  ·have:=hpeg t3 p0;show(if(r.qty - x.filled<x.shown∨(0<x.shown∧x.kind≠2)) then r.qty - x.filled else x.shown)=0;rw[if_neg (fun d=>d.elim (fun d=>by omega) (fun d=>by omega))];exact this
  ·have e5:repX x.ao k true={ x.ao with qty:=k 5,shown:=Ord.left { x.ao with qty:=k 5 } }:=by unfold repX;rw[if_pos rfl]
   rw[e5,hsh];simp[Ord.code,Ent.ao,hK.k5]
theorem zQp(hK:KR7 k r)(hA:Ask b r off b')(h6:r.kind=6)(h:AX pr base V ab lm em n L E b.l)(N:Nam b r i x L base V q)(hlow:Below base w V):
 Calls Tryz.prog 183 #[.pointer (some ⟨q,0,none⟩),recW (k 0) (k 1) (k 2) (k 3) (k 4) (k 5) (k 6)] V fun en w'=>FG pr base w ab lm em n b'.l en w':=by
 obtain⟨c1,c2,c3,c4⟩:=(hA.can.at' (by omega) (by omega) i x N.fnd N.at').k6 h6;have hid':=zBo N.fnd N.at';obtain⟨e1,e2,e3,e4,e5,e6,e7,e8⟩:=hA.eb i x N.at';have hg:=e8 (.inl N.liv);have hbb:r.price=x.price∧1≤r.qty∧r.qty≤x.opn∧b'=b.lay i r.qty:=by
  rcases hA.tk with⟨e,_⟩|⟨e,_⟩|⟨i',x',f1,f2,_,⟨e,_⟩|⟨e,_⟩|⟨e,_⟩|⟨_,e1,e2,e3,e4⟩|⟨e,_⟩|⟨e,_⟩⟩
  ·omega
  ·omega
  ·omega
  ·omega
  ·omega
  ·obtain rfl:=Option.some.inj (N.fnd.symm.trans f1);obtain rfl:=Option.some.inj (N.at'.symm.trans f2);exact⟨e1,e2,e3,e4⟩
  all_goals omega
 obtain⟨g1,g2,g3,g4⟩:=hbb;have hbl:b'.l=b.l.set i { x with place:=b.place+1,shown:=r.qty }:=by rw[g4];exact zB8 N.at'
 have hx':b'.l[i]? =some { x with place:=b.place+1,shown:=r.qty }:=by rw[hbl];exact zB N.at'
 have heb:=hA.eb' i _ hx';rw[hbl];refine(zP k N.oa N.ok ⟨by rw[hK.k0,h6],hK.k1,by rw[hK.k2];exact hid'.symm,by rw[hK.k3,c1],by rw[hK.k4];exact g1,by rw[hK.k6,c2]⟩ (by rw[hK.k4];exact c3) (by rw[hK.k5];exact g2) (by rw[hK.k5];show r.qty≤x.qty - x.filled;omega) (fun c=>by rw[hK.k5];have:=c4 c;show r.qty=x.qty - x.filled;omega)).mono ?_;intro en w' hf;refine hf.fg h N.at' N.liv N.mem N.lo hlow (AOk.of_eb heb N.ok.id (fun _ p0=>absurd (g1.trans p0) c3)) rfl N.liv ?_;simp[Ord.code,Ent.ao,hK.k5]
theorem zQq(hK:KR7 k r)(hA:Ask b r off b')(h7:r.kind=7)(h:AX pr base V ab lm em n L E b.l)(N:Nam b r i x L base V q)(hlow:Below base w V):
 Calls Tryz.prog 184 #[.pointer (some ⟨q,0,none⟩),recW (k 0) (k 1) (k 2) (k 3) (k 4) (k 5) (k 6)] V fun en w'=>FG pr base w ab lm em n b'.l en w':=by
 obtain⟨c1,c2,c3,c4,c5⟩:=(hA.can.at' (by omega) (by omega) i x N.fnd N.at').k7 h7;have hid':=zBo N.fnd N.at';obtain⟨e1,e2,e3,e4,e5,e6,e7,e8⟩:=hA.eb i x N.at';have hg:=e8 (.inl N.liv);have hbb:r.qty=x.opn∧b'=(b.set i fun x=>{ x with price:=r.price }).lay i r.qty:=by
  rcases hA.tk with⟨e,_⟩|⟨e,_⟩|⟨i',x',f1,f2,_,⟨e,_⟩|⟨e,_⟩|⟨e,_⟩|⟨e,_⟩|⟨_,e1,e2⟩|⟨e,_⟩⟩
  ·omega
  ·omega
  ·omega
  ·omega
  ·omega
  ·omega
  ·obtain rfl:=Option.some.inj (N.fnd.symm.trans f1);obtain rfl:=Option.some.inj (N.at'.symm.trans f2);exact⟨e1,e2⟩
  all_goals omega
 obtain⟨g1,g2⟩:=hbb;have hbl:b'.l=b.l.set i { x with price:=r.price,place:=b.place+1,shown:=r.qty }:=by
  rw[g2];show(b.l.modify i _).modify i _=_;rw[zB8 N.at',zB8 (zB N.at'),List.set_set];rfl
 have hx':b'.l[i]? =some { x with price:=r.price,place:=b.place+1,shown:=r.qty }:=by rw[hbl];exact zB N.at'
 have heb:=hA.eb' i _ hx';rw[hbl];refine(zNz k N.oa N.ok ⟨by rw[hK.k0,h7],hK.k1,by rw[hK.k2];exact hid'.symm,by rw[hK.k3,c1],by rw[hK.k5];show r.qty=x.qty - x.filled;omega,by rw[hK.k6,c2]⟩ c3 (by rw[hK.k4];exact c4) (by rw[hK.k4];exact c5)).mono ?_;intro en w' hf;refine hf.fg h N.at' N.liv N.mem N.lo hlow (AOk.of_eb heb N.ok.id (fun _ p0=>absurd p0 c4)) rfl N.liv ?_;simp[Ord.code,Ent.ao,hK.k5,hK.k4]
theorem zQr(hK:KR7 k r)(hA:Ask b r off b')(h8:r.kind=8)(h:AX pr base V ab lm em n L E b.l)(N:Nam b r i x L base V q)(hlow:Below base w V):
 Calls Tryz.prog 185 #[.pointer (some ⟨q,0,none⟩),recW (k 0) (k 1) (k 2) (k 3) (k 4) (k 5) (k 6)] V fun en w'=>FG pr base w ab lm em n b'.l en w':=by
 obtain⟨c1,c2,c3,c4,c5,c6⟩:=(hA.can.at' (by omega) (by omega) i x N.fnd N.at').k8 h8;have hid':=zBo N.fnd N.at';have hbb:b'=b.set i fun x=>{ x with price:=0,shown:=0 }:=by
  rcases hA.tk with⟨e,_⟩|⟨e,_⟩|⟨i',x',f1,f2,_,⟨e,_⟩|⟨e,_⟩|⟨e,_⟩|⟨e,_⟩|⟨e,_⟩|⟨_,e1⟩⟩
  ·omega
  ·omega
  ·omega
  ·omega
  ·omega
  ·omega
  ·omega
  ·obtain rfl:=Option.some.inj (N.fnd.symm.trans f1);exact e1
 have hbl:b'.l=b.l.set i { x with price:=0,shown:=0 }:=by rw[hbb];exact zB8 N.at'
 have hx':b'.l[i]? =some { x with price:=0,shown:=0 }:=by rw[hbl];exact zB N.at'
 have heb:=hA.eb' i _ hx';rw[hbl];refine(zNv k N.oa N.ok ⟨by rw[hK.k0,h8],hK.k1,by rw[hK.k2];exact hid'.symm,by rw[hK.k3,c1],by rw[hK.k4,c2],by rw[hK.k5,c3],by rw[hK.k6,c4]⟩ c5 c6).mono ?_;intro en w' hf;refine hf.fg h N.at' N.liv N.mem N.lo hlow (AOk.of_eb heb N.ok.id (fun _ _=>rfl)) rfl N.liv ?_;simp[Ord.code,Ent.ao]
theorem zQs(hK:KR7 k r)(hkk:KOk k)(hA:Ask b r off b')(h3:r.kind=3)(h:AX pr base V ab lm em n L E b.l)(hn:n≤100000000)(N:Nam b r i x L base V q)(hlow:Below base w V):
 Calls Tryz.prog 180 #[.pointer (some ⟨ab,0,none⟩),.pointer (some ⟨q,0,none⟩),recW (k 0) (k 1) (k 2) (k 3) (k 4) (k 5) (k 6)] V fun en w'=>FG pr base w ab lm em n b'.l en w':=by
 obtain⟨c1,c2,c3⟩:=(hA.can.at' (by omega) (by omega) i x N.fnd N.at').k3 h3;have hid':=zBo N.fnd N.at';have hbb: ∃j z,Book.Trades b i j x z r∧b'=b.swap i j (Book.qty x z):=by
  rcases hA.tk with⟨e,_⟩|⟨e,_⟩|⟨i',x',f1,f2,_,⟨_,j,z,e1,e2⟩|⟨e,_⟩|⟨e,_⟩|⟨e,_⟩|⟨e,_⟩|⟨e,_⟩⟩
  ·omega
  ·omega
  ·obtain rfl:=Option.some.inj (N.fnd.symm.trans f1);obtain rfl:=Option.some.inj (N.at'.symm.trans f2);exact⟨j,z,e1,e2⟩
  all_goals omega
 obtain⟨j,z,T,g2⟩:=hbb;obtain⟨z',hz',hrz⟩:=zD3 T.fst;obtain rfl:=Option.some.inj (T.at'.symm.trans hz');have zl:z.live=true:=by unfold Book.rests at hrz;simp at hrz;exact hrz.1.1
 have kx:=hA.eb i x N.at';have kz:=hA.eb j z T.at';have hij:i≠j:=fun e=>by
  subst e;obtain rfl:=Option.some.inj (N.at'.symm.trans T.at');exact T.side rfl
 obtain⟨n0,n1,n2⟩:=Book.qty_le kx kz;have gx:=kx.liv (.inl N.liv);have gz:=kz.liv (.inl zl);have sx:=kx.sum;have sz:=kz.sum;have x0:=kx.shn0;have x1:=T.shn;have hq5:k 5=Book.qty x z:=by rw[hK.k5,T.qty]
 obtain⟨p,m1,m2,m3,m4⟩:=h.own T.at' zl;have hzid:z.id=r.other:=by
  have:=T.fnd;unfold Book.find at this;rw[List.findIdx?_eq_some_iff_getElem]at this;obtain⟨hl,h1,_⟩:=this;have h2:=T.at';rw[List.getElem?_eq_getElem hl]at h2;obtain rfl:=Option.some.inj h2;simpa using h1
 have F:TrF k i j x z L b.l q p:=⟨N.at',N.liv,N.mem,T.at',zl,m1,hij,c1,by omega,⟨by rw[hK.k5];exact c3,by rw[hq5];omega,by rw[hq5];exact n2⟩,⟨by omega,gx⟩,⟨by omega,gz⟩⟩;have hbl:b'.l=(b.l.set i (x.fill (k 5))).set j (Ent.fill { z with shown:=z.shown - k 5 } (k 5)):=by
  rw[g2,hq5];show(b.l.modify i _).modify j _=_;rw[zB8 N.at',zB8 (zBm T.at' (fun e=>hij e.symm))];rfl
 rw[hbl];refine(zQk k hkk h hn F ⟨by rw[hK.k0,h3],hK.k1,by rw[hK.k2];exact hid'.symm,by rw[hK.k3];exact hzid.symm,by rw[hK.k4];exact T.prc,by rw[hK.k6,c2]⟩ N.oa N.lo N.ok m3 m2 m4).mono ?_;rintro en w' ⟨rfl,HZ⟩;obtain⟨L',E',z1,z2⟩:=HZ.out;exact⟨rfl,hid ⟨L',E',z1,hlow.trans z2⟩⟩
end
section
variable {pr:Nat→Option (Array Value×TypeId)} {base:Nat} {w w':World} {ab lm em n:Nat} {L:List (Int×Option Nat)} {E:List (Int×List Int)} {b b':Book} {r:Rcd} {off:Int}
theorem zQt(k:Nat→Int)(hkk:KOk k)(hK:KR7 k r)(hA:Ask b r off b')(h:AX pr base w ab lm em n L E b.l)(hn:n≤100000000):
 Calls Tryz.prog 131 #[.pointer (some ⟨ab,0,none⟩),recW (k 0) (k 1) (k 2) (k 3) (k 4) (k 5) (k 6)] w fun en w'=>FG pr base w ab lm em n b'.l en w':=by
 have hb0:Below w.heap.size w (w.alloc (.cells #[.int .i64 (k 0),.int .i64 (k 1),.int .i64 (k 2),.int .i64 (k 3),.int .i64 (k 4),.int .i64 (k 5),.int .i64 (k 6)] 73)):=(Below.refl w.heap.size w).alloc (Nat.le_refl _) _;have hrb:RB (w.alloc (.cells #[.int .i64 (k 0),.int .i64 (k 1),.int .i64 (k 2),.int .i64 (k 3),.int .i64 (k 4),.int .i64 (k 5),.int .i64 (k 6)] 73)) w.heap.size k:=⟨heap_alloc_new w _⟩;have HQ:Hid (KOk k∧n≤100000000∧KR7 k r∧Ask b r off b'):=⟨hkk,hn,hK,hA⟩
 have HX:Hid (AX pr base (w.alloc (.cells #[.int .i64 (k 0),.int .i64 (k 1),.int .i64 (k 2),.int .i64 (k 3),.int .i64 (k 4),.int .i64 (k 5),.int .i64 (k 6)] 73)) ab lm em n L E b.l∧RB (w.alloc (.cells #[.int .i64 (k 0),.int .i64 (k 1),.int .i64 (k 2),.int .i64 (k 3),.int .i64 (k 4),.int .i64 (k 5),.int .i64 (k 6)] 73)) w.heap.size k∧Below base w (w.alloc (.cells #[.int .i64 (k 0),.int .i64 (k 1),.int .i64 (k 2),.int .i64 (k 3),.int .i64 (k 4),.int .i64 (k 5),.int .i64 (k 6)] 73))):=⟨h.below hb0,hrb,hb0.mono h.lw⟩;have HK8:Hid (1≤k 0∧k 0≤8):=by have:=hA.fits.k0;have:=hA.fits.k1;have:=hK.k0;exact⟨by omega,by omega⟩
 clear hb0 hrb h hkk hn hK hA;by_cases e1:k 0=1
 ·go_enter Tryz.func131,Tryz.ntmps131;go_wp2_with fail;have HC:Hid (Calls Tryz.prog 178 #[.pointer (some ⟨ab,0,none⟩),recW (k 0) (k 1) (k 2) (k 3) (k 4) (k 5) (k 6)] (w.alloc (.cells #[.int .i64 (k 0),.int .i64 (k 1),.int .i64 (k 2),.int .i64 (k 3),.int .i64 (k 4),.int .i64 (k 5),.int .i64 (k 6)] 73)) fun en w'=>FG pr base w ab lm em n b'.l en w'):=zQm HQ.out.2.2.1 HQ.out.1 HQ.out.2.2.2 (HQ.out.2.2.1.k0.symm.trans e1) HX.out.1 HQ.out.2.1 HX.out.2.2;rw[e1]at HC;refine HC.out.mono ?_;rintro en w9 ⟨rfl,HZ⟩;clear HC HX;go_wp2;go_ret;exact⟨rfl,HZ⟩
 by_cases e2:k 0=2
 ·go_enter Tryz.func131,Tryz.ntmps131;go_wp2_with fail;have HC:Hid (Calls Tryz.prog 179 #[recW (k 0) (k 1) (k 2) (k 3) (k 4) (k 5) (k 6)] (w.alloc (.cells #[.int .i64 (k 0),.int .i64 (k 1),.int .i64 (k 2),.int .i64 (k 3),.int .i64 (k 4),.int .i64 (k 5),.int .i64 (k 6)] 73)) fun en w'=>FG pr base w ab lm em n b'.l en w'):=zQl HQ.out.2.2.1 HQ.out.2.2.2 (HQ.out.2.2.1.k0.symm.trans e2) HX.out.1 HX.out.2.2;rw[e2]at HC;refine HC.out.mono ?_;rintro en w9 ⟨rfl,HZ⟩;clear HC HX;go_wp2;go_ret;exact⟨rfl,HZ⟩
 obtain⟨i,x,hf,hx,hl⟩: ∃i x,b.find r.id=some i∧b.l[i]? =some x∧x.live=true:=by
  have h0:=HQ.out.2.2.1.k0;rcases HQ.out.2.2.2.tk with⟨e,_⟩|⟨e,_⟩|⟨i,x,f1,f2,f3,_⟩
  ·exact absurd (h0.trans e) e2
  ·exact absurd (h0.trans e) e1
  ·exact⟨i,x,f1,f2,f3⟩
 go_enter Tryz.func131,Tryz.ntmps131;go_wp2_with fail;generalize w.alloc (.cells #[.int .i64 (k 0),.int .i64 (k 1),.int .i64 (k 2),.int .i64 (k 3),.int .i64 (k 4),.int .i64 (k 5),.int .i64 (k 6)] 73)=W at *;generalize w.heap.size=rb at *;have a0:=HX.out.1.aw.c0;have y2:W.cell? ⟨rb,2,none⟩=some (.int .i64 (k 2)):=HX.out.2.1.cell 2;have hA2:=HX.out.1.same (Same.refl W).drew;obtain⟨p,m1,m2,m3,m4⟩:=hA2.own hx hl;have hidx:=zBo hf hx;have hlk:(Instr.lookup 110 (.map (some lm)) (.int .i64 (k 2)) true).run Tryz.prog W.drew=.ok (.tuple #[.pointer (some ⟨p,0,none⟩),.bool true]) W.drew:=by
  have h63:r63 (k 2):=by obtain⟨q1,q2⟩:=HQ.out.1 2;exact⟨by omega,by omega⟩
  have hm:(k 2,some p)∈L:=by rw[HQ.out.2.2.1.k2,←hidx];exact m1
  exact hA2.aw.live.hit (v:=some p) keyedInt Tryz.underlying3 Tryz.underlying110 (zeroPtr _) hm (wf63 h63)
 have HT:Hid (AX pr base W.drew ab lm em n L E b.l∧Nam b r i x L base W.drew p∧RB W.drew rb k∧Below base w W.drew):=⟨hA2,⟨hf,hx,hl,m1,m2,m3,m4⟩,HX.out.2.1.same (Same.refl W).drew,HX.out.2.2.trans (Same.refl W).drew.low⟩;clear HX hf hx hl hA2 m1 m2 m3 m4 hidx;go_region_held3(fun X=>X.cell? ⟨ab,0,none⟩=some (.map (some lm))∧X.cell? ⟨rb,2,none⟩=some (.int .i64 (k 2))) (go_keep) (fail);clear a0 y2 hlk;generalize W.drew=V at *;have y0:V.cell? ⟨rb,0,none⟩=some (.int .i64 (k 0)):=HT.out.2.2.1.cell 0;have y1:V.cell? ⟨rb,1,none⟩=some (.int .i64 (k 1)):=HT.out.2.2.1.cell 1;have y2:V.cell? ⟨rb,2,none⟩=some (.int .i64 (k 2)):=HT.out.2.2.1.cell 2;have y3:V.cell? ⟨rb,3,none⟩=some (.int .i64 (k 3)):=HT.out.2.2.1.cell 3;have y4:V.cell? ⟨rb,4,none⟩=some (.int .i64 (k 4)):=HT.out.2.2.1.cell 4;have y5:V.cell? ⟨rb,5,none⟩=some (.int .i64 (k 5)):=HT.out.2.2.1.cell 5
 have y6:V.cell? ⟨rb,6,none⟩=some (.int .i64 (k 6)):=HT.out.2.2.1.cell 6;by_cases e3:k 0=3
 ·go_wp2_with fail;have HC:Hid (Calls Tryz.prog 180 #[.pointer (some ⟨ab,0,none⟩),.pointer (some ⟨p,0,none⟩),recW (k 0) (k 1) (k 2) (k 3) (k 4) (k 5) (k 6)] V fun en w'=>FG pr base w ab lm em n b'.l en w'):=zQs HQ.out.2.2.1 HQ.out.1 HQ.out.2.2.2 (HQ.out.2.2.1.k0.symm.trans e3) HT.out.1 HQ.out.2.1 HT.out.2.1 HT.out.2.2.2;rw[e3]at HC;refine HC.out.mono ?_;rintro en w9 ⟨rfl,HZ⟩;clear HC y0 y1 y2 y3 y4 y5 y6;go_wp2;go_ret;exact⟨rfl,HZ⟩
 by_cases e4:k 0=4
 ·go_wp2_with fail;have HC:Hid (Calls Tryz.prog 181 #[.pointer (some ⟨ab,0,none⟩),.pointer (some ⟨p,0,none⟩),recW (k 0) (k 1) (k 2) (k 3) (k 4) (k 5) (k 6)] V fun en w'=>FG pr base w ab lm em n b'.l en w'):=zQn HQ.out.2.2.1 HQ.out.2.2.2 (HQ.out.2.2.1.k0.symm.trans e4) HT.out.1 HQ.out.2.1 HT.out.2.1 HT.out.2.2.2;rw[e4]at HC;refine HC.out.mono ?_;rintro en w9 ⟨rfl,HZ⟩;clear HC y0 y1 y2 y3 y4 y5 y6;go_wp2;go_ret;exact⟨rfl,HZ⟩
 by_cases e5:k 0=5
 ·go_wp2_with fail;have HC:Hid (Calls Tryz.prog 182 #[.pointer (some ⟨p,0,none⟩),recW (k 0) (k 1) (k 2) (k 3) (k 4) (k 5) (k 6)] V fun en w'=>FG pr base w ab lm em n b'.l en w'):=zQo HQ.out.2.2.1 HQ.out.2.2.2 (HQ.out.2.2.1.k0.symm.trans e5) HT.out.1 HT.out.2.1 HT.out.2.2.2;rw[e5]at HC;refine HC.out.mono ?_;rintro en w9 ⟨rfl,HZ⟩;clear HC y0 y1 y2 y3 y4 y5 y6;go_wp2;go_ret;exact⟨rfl,HZ⟩
 by_cases e6:k 0=6
 ·go_wp2_with fail;have HC:Hid (Calls Tryz.prog 183 #[.pointer (some ⟨p,0,none⟩),recW (k 0) (k 1) (k 2) (k 3) (k 4) (k 5) (k 6)] V fun en w'=>FG pr base w ab lm em n b'.l en w'):=zQp HQ.out.2.2.1 HQ.out.2.2.2 (HQ.out.2.2.1.k0.symm.trans e6) HT.out.1 HT.out.2.1 HT.out.2.2.2;rw[e6]at HC;refine HC.out.mono ?_;rintro en w9 ⟨rfl,HZ⟩;clear HC y0 y1 y2 y3 y4 y5 y6;go_wp2;go_ret;exact⟨rfl,HZ⟩
 by_cases e7:k 0=7
 ·go_wp2_with fail;have HC:Hid (Calls Tryz.prog 184 #[.pointer (some ⟨p,0,none⟩),recW (k 0) (k 1) (k 2) (k 3) (k 4) (k 5) (k 6)] V fun en w'=>FG pr base w ab lm em n b'.l en w'):=zQq HQ.out.2.2.1 HQ.out.2.2.2 (HQ.out.2.2.1.k0.symm.trans e7) HT.out.1 HT.out.2.1 HT.out.2.2.2;rw[e7]at HC;refine HC.out.mono ?_;rintro en w9 ⟨rfl,HZ⟩;clear HC y0 y1 y2 y3 y4 y5 y6;go_wp2;go_ret;exact⟨rfl,HZ⟩
 by_cases e8:k 0=8
 ·go_wp2_with fail;have HC:Hid (Calls Tryz.prog 185 #[.pointer (some ⟨p,0,none⟩),recW (k 0) (k 1) (k 2) (k 3) (k 4) (k 5) (k 6)] V fun en w'=>FG pr base w ab lm em n b'.l en w'):=zQr HQ.out.2.2.1 HQ.out.2.2.2 (HQ.out.2.2.1.k0.symm.trans e8) HT.out.1 HT.out.2.1 HT.out.2.2.2;rw[e8]at HC;refine HC.out.mono ?_;rintro en w9 ⟨rfl,HZ⟩;clear HC y0 y1 y2 y3 y4 y5 y6;go_wp2;go_ret;exact⟨rfl,HZ⟩
 have:=HK8.out;omega
end
section
variable {pr:Nat→Option (Array Value×TypeId)} {base:Nat} {w w':World} {ab lm em n:Nat} {L:List (Int×Option Nat)} {E:List (Int×List Int)} {b b':Book} {r:Rcd} {off:Int}
theorem zQu(seq:Int)(k:Nat→Int)(hkk:KOk k)(hK:KR7 (noSeq k) r)(hA:Ask b r off b')(h:AX pr base w ab lm em n L E b.l)(hn:n≤100000000)(e1:k 1=seq):
 Calls Tryz.prog 83 #[.pointer (some ⟨ab,0,none⟩),.int .i64 seq,recW (k 0) (k 1) (k 2) (k 3) (k 4) (k 5) (k 6)] w fun en w'=>en=.returned .nilIface∧Hid (∃L' E',AX pr base w' ab lm em (n+2) L' E' b'.l∧Below base w w'):=by
 have HC:Hid (Calls Tryz.prog 131 #[.pointer (some ⟨ab,0,none⟩),recW (k 0) 0 (k 2) (k 3) (k 4) (k 5) (k 6)] (w.alloc (.cells #[.int .i64 (k 0),.int .i64 0,.int .i64 (k 2),.int .i64 (k 3),.int .i64 (k 4),.int .i64 (k 5),.int .i64 (k 6)] 73)) fun en w'=>en=.returned (.bool true)∧Hid (∃L' E',AX pr base w' ab lm em (n+2) L' E' b'.l∧Below base w w')):=by
  have hb1:Below w.heap.size w (w.alloc (.cells #[.int .i64 (k 0),.int .i64 0,.int .i64 (k 2),.int .i64 (k 3),.int .i64 (k 4),.int .i64 (k 5),.int .i64 (k 6)] 73)):=(Below.refl w.heap.size w).alloc (Nat.le_refl _) _;refine(zQt (noSeq k) (zPh hkk) hK hA (h.below hb1) hn).mono ?_;rintro en w' ⟨rfl,HZ⟩;obtain⟨L',E',u1,u2⟩:=HZ.out;exact⟨rfl,hid ⟨L',E',u1,(hb1.mono h.lw).trans u2⟩⟩
 clear h hkk hn hA hK;go_enter Tryz.func83,Tryz.ntmps83;go_wp2_with fail;refine HC.out.mono ?_;rintro en w9 ⟨rfl,HZ⟩;clear HC;go_wp2;go_ret;exact⟨rfl,HZ⟩
theorem zQv(ad:Nat→Addr)(st:Nat→ByteArray)(seq:Int)(k:Nat→Int)(hE:Errs w ad st)(e1:k 1≠seq):
 Calls Tryz.prog 83 #[.pointer (some ⟨ab,0,none⟩),.int .i64 seq,recW (k 0) (k 1) (k 2) (k 3) (k 4) (k 5) (k 6)] w fun en w'=>en=.returned (.iface 325 (.pointer (some (ad 6))))∧Below w.heap.size w w':=by
 have hb0:Below w.heap.size w (w.alloc (.cells #[.int .i64 (k 0),.int .i64 (k 1),.int .i64 (k 2),.int .i64 (k 3),.int .i64 (k 4),.int .i64 (k 5),.int .i64 (k 6)] 73)):=(Below.refl w.heap.size w).alloc (Nat.le_refl _) _;have g6:=(hE.below hb0).c6;have HB:=hid hb0;clear hE hb0;go_enter Tryz.func83,Tryz.ntmps83;go_wp2;go_ret;exact⟨rfl,HB.out⟩
end
end Go.Proofs.YtanfmhonjpjpoaaGreatDoor
