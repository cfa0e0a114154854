import Derived.Test.YtanfmhonjpjpoaaGreatDoorQ00
import Derived.Test.YtanfmhonjpjpoaaGreatDoorQ18
import Derived.Test.YtanfmhonjpjpoaaGreatDoorQ26
import Derived.Test.YtanfmhonjpjpoaaGreatDoorQ27
import Derived.Deep.RegionHeld3
import Derived.Deep.LoopGhost
set_option linter.all false
set_option maxRecDepth 100000
set_option maxHeartbeats 8000000
namespace Go.Proofs.YtanfmhonjpjpoaaGreatDoor
variable{E:Eng}{i:Nat}{o:Ord}
section
open Go.Extern Go.Maps Go.RowKit
section
variable {pr:Nat→Option (Array Value×TypeId)} {base:Nat} {w w':World} {ab lm em n:Nat} {q:Nat} {o o':Ord}
def KOk(k:Nat→Int):Prop:= ∀j,0≤k j∧k j≤4294967295
end
section
variable {pr:Nat→Option (Array Value×TypeId)} {base:Nat} {w w':World} {ab lm em n:Nat}
def noSeq(k:Nat→Int):Nat→Int
 |1=>0
 |j=>k j
theorem zPh{k:Nat→Int}(h:KOk k):KOk (noSeq k):=fun j=>by
 unfold noSeq;split
 ·exact⟨Int.le_refl _,Int.natCast_nonneg 4294967295⟩
 ·exact h j
end
section
variable {pr:Nat→Option (Array Value×TypeId)} {base:Nat} {w w':World} {ab lm em n:Nat} {L:List (Int×Option Nat)} {E:List (Int×List Int)} {B:List Ent} {i q:Nat} {o:Ord} {x x':Ent}
theorem zPi(id:Int)(h63:r63 id)(h:AX pr base w ab lm em n L E B)(h0:id≠0)(hB: ∀y∈B,y.id≠id):
 Calls Tryz.prog 224 #[.pointer (some ⟨ab,0,none⟩),.int .i64 id] w fun en w'=>en=.returned (.bool true)∧Below w.heap.size w w':=by
 have a0:=h.aw.c0;have a1:=h.aw.c1;have hL:=h.aw.live.miss keyedInt Tryz.underlying3 Tryz.underlying110 (zeroPtr w) (fun p hp e=>by obtain⟨i,y,h1,_,h3⟩:=h.ol p hp;exact hB y (List.mem_of_getElem? h1) (h3.trans e)) (wf63 h63);have hE:=h.aw.ended.miss keyedInt Tryz.underlying3 Tryz.underlying113 (zeroStC w) (fun p hp e=>by obtain⟨i,y,h1,_,h3⟩:=h.oe p hp;exact hB y (List.mem_of_getElem? h1) (h3.trans e)) (wf63 h63);have hL':(Instr.lookup 110 (.map (some lm)) (.int .i64 id) true).run Tryz.prog w=.ok (.tuple #[.pointer none,.bool false]) w:=hL;have hE':(Instr.lookup 113 (.map (some em)) (.int .i64 id) true).run Tryz.prog w=.ok (.tuple #[.agg #[.int .i64 0,.int .i64 0,.int .i64 0,.int .i64 0,.int .i64 0,.int .i64 0,.int .i64 0],.bool false]) w:=hE;have e0:(id != 0)=true:=by simp[h0]
 have e1:(id == 0)=false:=by simp[h0]
 clear h h63 hB hL hE;go_enter Tryz.func224,Tryz.ntmps224;go_wp2;go_ret;exact⟨rfl,(Below.refl _ _).alloc (Nat.le_refl _) _⟩
theorem AX.enter{X:World}{rb:Nat}(k:Nat→Int)(hr:RB X rb k)(hk:KOk k)(h:AX pr base X ab lm em n L E B)(hn:n≤1000000000)(hB: ∀y∈B,y.id≠k 2)(hx:x.id=k 2∧x.side=k 3∧x.kind=k 6∧x.price=k 4∧x.qty=k 5∧x.filled=0∧x.shown=0∧x.live=true):
 ∃w2,(Instr.mapUpdate 110 (.map (some lm)) (.int .i64 (k 2)) (.pointer (some ⟨X.heap.size,0,none⟩))).run Tryz.prog (X.alloc (.cells #[.int .i64 (k 2),.int .i64 (k 3),.int .i64 (k 6),.int .i64 (k 4),.int .i64 (k 5),.int .i64 0,.int .i64 0,.int .i64 0,.int .i64 0,.int .i64 0,.int .i64 0,.int .i64 0,.int .i64 0] 234)).drew=.ok () w2∧Hid (AX pr base w2 ab lm em (n+1) (strike L (k 2)++ [(k 2,some X.heap.size)]) E (B++ [x])∧Below base X w2)∧Hid (RB w2 rb k):=by
 have h63:r63 (k 2):=by obtain⟨q1,q2⟩:=hk 2;exact⟨by omega,by omega⟩
 have hb:Below X.heap.size X (X.alloc (.cells #[.int .i64 (k 2),.int .i64 (k 3),.int .i64 (k 6),.int .i64 (k 4),.int .i64 (k 5),.int .i64 0,.int .i64 0,.int .i64 0,.int .i64 0,.int .i64 0,.int .i64 0,.int .i64 0,.int .i64 0] 234)).drew:=by
  have:=(Below.refl X.heap.size X).alloc (Nat.le_refl _) (.cells #[.int .i64 (k 2),.int .i64 (k 3),.int .i64 (k 6),.int .i64 (k 4),.int .i64 (k 5),.int .i64 0,.int .i64 0,.int .i64 0,.int .i64 0,.int .i64 0,.int .i64 0,.int .i64 0,.int .i64 0] 234);exact⟨this.os,this.tape,this.output,this.size,this.block⟩
 have hlw:base≤X.heap.size:=h.lw;obtain⟨x1,x2,x3,x4,x5,x6,x7,x8⟩:=hx;have hO:OA (X.alloc (.cells #[.int .i64 (k 2),.int .i64 (k 3),.int .i64 (k 6),.int .i64 (k 4),.int .i64 (k 5),.int .i64 0,.int .i64 0,.int .i64 0,.int .i64 0,.int .i64 0,.int .i64 0,.int .i64 0,.int .i64 0] 234)).drew X.heap.size 0 x.ao:=⟨by
  have e:(Ord.code 0 x.ao)=#[.int .i64 (k 2),.int .i64 (k 3),.int .i64 (k 6),.int .i64 (k 4),.int .i64 (k 5),.int .i64 0,.int .i64 0,.int .i64 0,.int .i64 0,.int .i64 0,.int .i64 0,.int .i64 0,.int .i64 0]:=by
   simp[Ord.code,Ent.ao,x1,x2,x3,x4,x5,x6,x7]
  rw[e];exact heap_alloc_new X _⟩
 have hW:=h.below hb;obtain⟨w2,r1,r2,r3⟩:=hW.aw.live.put keyedInt Tryz.underlying3 Tryz.underlying110 (by have:=h.aw.ll;unfold maxLen;omega) (wf63 h63) (some X.heap.size);have t4:=Turned.of r3;have hAO:AOk x.ao:=⟨by show 0≤x.id∧x.id≤_;rw[x1];exact hk 2,by show 0≤x.filled∧x.filled≤x.qty∧x.qty≤_;rw[x6,x5];exact⟨Int.le_refl _,(hk 5).1,(hk 5).2⟩,by show 0≤x.shown∧x.shown≤x.qty - x.filled;rw[x7,x6,x5];have:=(hk 5).1;exact⟨Int.le_refl _,by omega⟩,fun _ _=>x7⟩;have hAW:AW pr base w2 ab lm em (n+1) (strike L (k 2)++ [(k 2,some X.heap.size)]) E:=hW.aw.turn_live (m:=n+1) t4 r2 (fun p hp=>by
  rcases List.mem_append.1 hp with hp|hp
  ·exact hW.aw.ords p (zBx hp)
  ·rw[List.mem_singleton]at hp;exact⟨X.heap.size,_,by rw[hp],hlw,hO,hAO⟩) (by
  rw[List.length_append];have:=zE4 L (k 2);have:=h.aw.ll;simp;omega) (by omega)
 have app: ∀(j:Nat) (y:Ent),(B++ [x])[j]? =some y→(B[j]? =some y)∨(j=B.length∧y=x):=fun j y hy=>by
  by_cases c:j<B.length
  ·rw[List.getElem?_append_left c]at hy;exact .inl hy
  ·rw[List.getElem?_append_right (by omega)]at hy;have h1:=List.mem_singleton.1 (List.mem_of_getElem? hy);have h2:=(List.getElem?_eq_some_iff.1 hy).1;simp at h2;exact .inr ⟨by omega,h1⟩
 have inl: ∀(j:Nat) (y:Ent),B[j]? =some y→(B++ [x])[j]? =some y:=fun j y hy=>by
  rw[List.getElem?_append_left (List.getElem?_eq_some_iff.1 hy).1];exact hy
 have nw:(B++ [x])[B.length]? =some x:=by simp
 refine⟨w2,r1,⟨⟨hAW,fun j y hy hyl=>?_,fun j y hy hyl=>?_,fun p hp=>?_,fun p hp=>?_,fun j l y z hy hz e=>?_⟩,?_⟩,⟨t4.cells (hr.below hb).blk⟩⟩
 ·rcases app j y hy with hy|⟨_,rfl⟩
  ·obtain⟨q1,m1,o1⟩:=hW.lv j y hy hyl;exact⟨q1,List.mem_append_left _ (zD m1 (hB y (List.mem_of_getElem? hy))),⟨t4.cells o1.blk⟩⟩
  ·exact⟨X.heap.size,List.mem_append_right _ (by rw[x1];exact List.mem_singleton.2 rfl),⟨t4.cells hO.blk⟩⟩
 ·rcases app j y hy with hy|⟨_,rfl⟩
  ·exact h.en j y hy hyl
  ·rw[x8]at hyl;cases hyl
 ·rcases List.mem_append.1 hp with hp|hp
  ·obtain⟨j,y,h1,h2,h3⟩:=h.ol p (zBx hp);exact⟨j,y,inl j y h1,h2,h3⟩
  ·rw[List.mem_singleton]at hp;exact⟨B.length,x,nw,x8,by rw[hp,x1]⟩
 ·obtain⟨j,y,h1,h2,h3⟩:=h.oe p hp;exact⟨j,y,inl j y h1,h2,h3⟩
 ·rcases app j y hy with hy1|⟨hj,hy2⟩
  ·rcases app l z hz with hz1|⟨hl,hz2⟩
   ·exact h.ids j l y z hy1 hz1 e
   ·exact absurd (e.trans (by rw[hz2];exact x1)) (hB y (List.mem_of_getElem? hy1))
  ·rcases app l z hz with hz1|⟨hl,hz2⟩
   ·exact absurd (e.symm.trans (by rw[hy2];exact x1)) (hB z (List.mem_of_getElem? hz1))
   ·rw[hj,hl]
 ·exact(hb.mono hlw).trans (t4.low h.aw.lo.2.1 (Nat.le_trans hlw hb.size))
theorem zPj(k:Nat→Int)(hk:KOk k)(h:AX pr base w ab lm em n L E B)(hn:n≤1000000000)(hB: ∀y∈B,y.id≠k 2)(hx:x.id=k 2∧x.side=k 3∧x.kind=k 6∧x.price=k 4∧x.qty=k 5∧x.filled=0∧x.shown=0∧x.live=true)(h2:k 2≠0)(h3:k 3=1∨k 3=2)(h6:k 6=1∨k 6=2∨k 6=3)(h5:k 5≠0)(hpc:k 6=3↔k 4=0):
 Calls Tryz.prog 178 #[.pointer (some ⟨ab,0,none⟩),recW (k 0) (k 1) (k 2) (k 3) (k 4) (k 5) (k 6)] w fun en w'=>en=.returned (.bool true)∧Hid (∃L' E',AX pr base w' ab lm em (n+1) L' E' (B++ [x])∧Below base w w'):=by
 have hb0:Below w.heap.size w (w.alloc (.cells #[.int .i64 (k 0),.int .i64 (k 1),.int .i64 (k 2),.int .i64 (k 3),.int .i64 (k 4),.int .i64 (k 5),.int .i64 (k 6)] 73)):=(Below.refl w.heap.size w).alloc (Nat.le_refl _) _;have hrb:RB (w.alloc (.cells #[.int .i64 (k 0),.int .i64 (k 1),.int .i64 (k 2),.int .i64 (k 3),.int .i64 (k 4),.int .i64 (k 5),.int .i64 (k 6)] 73)) w.heap.size k:=⟨heap_alloc_new w _⟩;have HX:Hid (AX pr base (w.alloc (.cells #[.int .i64 (k 0),.int .i64 (k 1),.int .i64 (k 2),.int .i64 (k 3),.int .i64 (k 4),.int .i64 (k 5),.int .i64 (k 6)] 73)) ab lm em n L E B∧Below base w (w.alloc (.cells #[.int .i64 (k 0),.int .i64 (k 1),.int .i64 (k 2),.int .i64 (k 3),.int .i64 (k 4),.int .i64 (k 5),.int .i64 (k 6)] 73))∧KOk k∧n≤1000000000):=⟨h.below hb0,hb0.mono h.lw,hk,hn⟩;have h63:Hid (r63 (k 2)):=⟨by have:=(hk 2).1;omega,by have:=(hk 2).2;omega⟩;have HRB:=hid hrb
 have HBX:=hid (And.intro hB (And.intro hx h2));have E1:Hid (Eng.inn (k 3) 1 2=true):=by show Eng.inn (k 3) 1 2=true;unfold Eng.inn;rcases h3 with c|c<;>simp[c]
 have E2:Hid (Eng.inn (k 6) 1 3=true):=by show Eng.inn (k 6) 1 3=true;unfold Eng.inn;rcases h6 with c|c|c<;>simp[c]
 have E3:=hid h5;have HPC:=hid hpc;clear hb0 hrb h hk hn hB hx h2 h3 h6 h5 hpc;go_enter Tryz.func178,Tryz.ntmps178;go_wp2_with fail;generalize w.alloc (.cells #[.int .i64 (k 0),.int .i64 (k 1),.int .i64 (k 2),.int .i64 (k 3),.int .i64 (k 4),.int .i64 (k 5),.int .i64 (k 6)] 73)=W at *;generalize w.heap.size=rb at *;refine(zPi (k 2) h63.out HX.out.1 HBX.out.2.2 HBX.out.1).mono ?_;rintro en w1 ⟨rfl,hb1⟩;have HRB1:=hid (HRB.out.below hb1);have HX1:Hid (AX pr base w1 ab lm em n L E B∧Below base w w1∧KOk k∧n≤1000000000):=⟨HX.out.1.below hb1,HX.out.2.1.trans (hb1.mono HX.out.1.lw),HX.out.2.2⟩;clear hb1 HX HRB;have y2:w1.cell? ⟨rb,2,none⟩=some (.int .i64 (k 2)):=HRB1.out.cell 2;have y3:w1.cell? ⟨rb,3,none⟩=some (.int .i64 (k 3)):=HRB1.out.cell 3;have y4:w1.cell? ⟨rb,4,none⟩=some (.int .i64 (k 4)):=HRB1.out.cell 4;have y5:w1.cell? ⟨rb,5,none⟩=some (.int .i64 (k 5)):=HRB1.out.cell 5
 have y6:w1.cell? ⟨rb,6,none⟩=some (.int .i64 (k 6)):=HRB1.out.cell 6;have a0:=HX1.out.1.aw.c0;have n1:=World.new_ne w1 _ (hid y2).out;have n2:=World.new_ne w1 _ (hid a0).out;go_wp2_with fail;refine(zBy _ _ _).mono ?_;rintro en w5 ⟨rfl,rfl⟩;rw[E1.out];go_wp2_with fail;refine(zBy _ _ _).mono ?_;rintro en w5 ⟨rfl,rfl⟩;rw[E2.out];have e3:=E3.out;go_wp2_with fail;refine(zEc HPC.out).mono ?_;rintro en w5 ⟨rfl,rfl⟩;obtain⟨w2,hw2,HZ,HR2⟩:=AX.enter k HRB1.out HX1.out.2.2.1 HX1.out.1 HX1.out.2.2.2 HBX.out.1 HBX.out.2.1;have b0:=HZ.out.1.aw.c0;have x2:w2.cell? ⟨rb,2,none⟩=some (.int .i64 (k 2)):=HR2.out.cell 2;have x3:w2.cell? ⟨rb,3,none⟩=some (.int .i64 (k 3)):=HR2.out.cell 3;have x4:w2.cell? ⟨rb,4,none⟩=some (.int .i64 (k 4)):=HR2.out.cell 4;have x5:w2.cell? ⟨rb,5,none⟩=some (.int .i64 (k 5)):=HR2.out.cell 5;have x6:w2.cell? ⟨rb,6,none⟩=some (.int .i64 (k 6)):=HR2.out.cell 6;go_wp2_with fail
 go_region_held3(fun X=>X.cell? ⟨ab,0,none⟩=some (.map (some lm))∧X.cell? ⟨rb,2,none⟩=some (.int .i64 (k 2))∧X.cell? ⟨rb,3,none⟩=some (.int .i64 (k 3))∧X.cell? ⟨rb,4,none⟩=some (.int .i64 (k 4))∧X.cell? ⟨rb,5,none⟩=some (.int .i64 (k 5))∧X.cell? ⟨rb,6,none⟩=some (.int .i64 (k 6))) (go_keep) (fail);clear b0 x2 x3 x4 x5 x6;all_goals(
  go_wp2;go_ret;exact⟨rfl,hid ⟨_,_,HZ.out.1,HX1.out.2.1.trans HZ.out.2⟩⟩)
end
end
section
open Go.Extern Go.RowKit
theorem zPk(ho:E.all[i]? =some o)(hf:E.first (3 - o.side)=none):E.mate i=none:=by
 unfold Eng.mate;rw[ho];simp only[hf];split<;>rfl
theorem zHq(ho:E.all[i]? =some o)(h0: ¬0<o.opn):E.mate i=none:=by
 unfold Eng.mate;rw[ho];simp only;rw[if_neg h0]
theorem zPl{k:Nat}{r:Ord}(ho:E.all[i]? =some o)(h0:0<o.opn)(hf:E.first (3 - o.side)=some k)(hk:E.all[k]? =some r):E.mate i=if Eng.meets o r.price then some k else none:=by
 unfold Eng.mate;rw[ho];simp only[hf,hk];rw[if_pos h0]
theorem zT3{F:Nat→Prop}{base:Nat}{w:World}{b:Nat}{e:Eng}{dv:Value}{g cap:Nat}(i:Nat)(o:Ord)(h:RefRep F base w b e dv (sL g e.all.length cap))(hI:Eng.EInv e)(ho:e.all[i]? =some o)(hos:o.status=1)(hsh:o.shown=0)(htp:o.typ≠3)(hr:Room 2001 e)(hsu:Sums 1000 e)(hd:Dr e):
 Cl 192 #[iP b,iV i] w fun en w'=>en=rV #[]∧RefRep F base w' b (e.sweep i) dv (sL g e.all.length cap)∧Touch F w w':=by
 have hi:i<e.all.length:=(List.getElem?_eq_some_iff.1 ho).1;have hiI:(i:Int)<(e.all.length:Int):=by omega
 have hle:=hr.len;have HSt:=hid (Sweeping.start hI ho hos hsh hr hsu hd);have HR:=hid h;generalize hn:e.all.length=n at *;go_enter Tryz.func192,Tryz.ntmps192;go_wp2_with fail
 go_loopg [4] o.opn.toNat (fun k _ wr=> ∃(E:Eng) (x:Ord),k=x.opn.toNat∧RefRep F base wr b E dv (sL g n cap)∧Touch F w wr∧Sweeping e i E x∧Eng.Kin o x)
 case atStart=>exact⟨e,o,rfl,HR,Touch.refl F w,HSt,Eng.Kin.refl o⟩
 case round=>
  obtain⟨E,x,rfl,hR,hT,hS,hK⟩:=hrel;have hlen:E.all.length=n:=hS.len.trans hn;obtain⟨hO,hF,hgb,-⟩:=hR.ords;have c5:wr.cell? (iA b 5)=some (sL g n cap):=hR.cell 5;have x10:=hO.cell i 10 x _ hS.at_ rfl;have HO:=hid hO;have HRr:=hid hR;have HTr:=hid hT;have HS:=hid hS;have HK:=hid hK;have kx:=hS.inv.ok i x hS.at_;have hsd:=kx.side;have hqs:x.opn≤1000:=by have:=kx.sum;have:=kx.fil0;have:=kx.can0;have:=kx.qty1;omega
  have HX:=hid kx;have HSD:=hid hsd;have HQS:=hid hqs;have HHN:=hid hn;by_cases hop:0<x.opn
  ·have x1:=HO.cell i 1 x _ HS.at_ rfl;have HFst:=hid (zLz HRr (3 - x.side) (by have:=HS.len.trans HHN;omega));have hsw:wrap64 (3 - x.side)=3 - x.side:=by have:=HSD;unfold wrap64;omega
   go_wp2_with fail;refine HFst.mono ?_;rintro en w1 ⟨rfl,hb1⟩;have HR1:=hid (HRr.below hb1);have HT1:=hid (HTr.below hb1);have c5:w1.cell? (iA b 5)=some (sL g n cap):=HR1.cell 5;have HO1:=hid HR1.ords.1;rcases hf:E.first (3 - x.side) with _|k
   ·have HM:Hid (E.mate i=none):=zPk HS.at_ hf;have hix:idxV none= -1:=rfl;have hqs2:=HQS;go_wp2_with fail;go_quiet (fail);have HR2:=hid (HR1.drewN nq);have HT2:=hid (HT1.drewN nq);generalize w1.drewN nq=W2 at *;have HO2:=hid HR2.ords.1;have c5:W2.cell? (iA b 5)=some (sL g n cap):=HR2.cell 5;have x10:=HO2.cell i 10 x _ HS.at_ rfl;have x2:=HO2.cell i 2 x _ HS.at_ rfl;have x4:=HO2.cell i 4 x _ HS.at_ rfl;have h0:x.opn≠0:=by omega
    have h0b:(x.opn == 0)=false:=by simpa using h0
    have HD:=hid (HS.done HM);have HE:Hid (Eng.swept E i=E.lay i (Eng.atRest x)):=by
     show _=_;unfold Eng.swept;rw[HS.out.at_];simp only;rw[if_neg h0]
    have HSH:=hid (fun(m:Int) (hm:nat63 m)=>zC4 (w:=W2) (F:=F) (base:=base) (b:=b) (e:=E) (dv:=dv) (g:=g) (cap:=cap) i m x (by have q:=HR2;rw[←HS.len.trans HHN.out]at q;exact q) HS.at_ HS.room.len (by have:=HS.room.seq;omega) (by have:=HS.room.stm;omega) (by have:=HS.room.out;omega) (n63 _ (by have:=HX.id0;omega) (by have:=HX.id1;omega)) (n63 _ HX.prc0 (by have:=HX.prc1;have:=HS.inv.mp1;omega)) hm);have HFIN:Hid (∀W3:World,RefRep F base W3 b (E.lay i (Eng.atRest x)) dv (sL g E.all.length cap)→RefRep F base W3 b (e.sweep i) dv (sL g n cap)):=fun W3 hW=>by
     rw[HD.out,HE.out];rw[HS.out.len.trans HHN.out]at hW;exact hW
    cases ht2:(x.typ == 2)
    ·have hat:Hid (Eng.atRest x=x.opn):=by
      show _=_;unfold Eng.atRest;rw[if_neg (fun hc=>by simp[hc.1]at ht2)]
     go_wp2_with fail;refine(HSH x.opn ⟨by omega,by omega⟩).mono ?_;rintro en w3 ⟨rfl,hr3,ht3⟩;rw[←hat.out]at hr3;have HR3:=hid (HFIN w3 hr3);have HT3:=hid (HT2.trans ht3);go_wp2;go_end0;exact⟨rfl,HR3,HT3⟩
    ·by_cases hpk:x.peak<x.opn
     ·have hat:Hid (Eng.atRest x=x.peak):=by
       show _=_;unfold Eng.atRest;rw[if_pos ⟨by simpa using ht2,hpk⟩]
      have hp0:=(HX.peak (by simpa using ht2)).1;go_wp2_with fail;refine(HSH x.peak ⟨by omega,by omega⟩).mono ?_;rintro en w3 ⟨rfl,hr3,ht3⟩;rw[←hat.out]at hr3;have HR3:=hid (HFIN w3 hr3);have HT3:=hid (HT2.trans ht3);go_wp2;go_end0;exact⟨rfl,HR3,HT3⟩
     ·have hat:Hid (Eng.atRest x=x.opn):=by
       show _=_;unfold Eng.atRest;rw[if_neg (fun hc=>hpk hc.2)]
      go_wp2_with fail;refine(HSH x.opn ⟨by omega,by omega⟩).mono ?_;rintro en w3 ⟨rfl,hr3,ht3⟩;rw[←hat.out]at hr3;have HR3:=hid (HFIN w3 hr3);have HT3:=hid (HT2.trans ht3);go_wp2;go_end0;exact⟨rfl,HR3,HT3⟩
   ·obtain⟨hklt,r,hk,hrr⟩:=Eng.firstTo_some hf;obtain⟨hrs1,hrs2⟩:=Eng.rests_shown hrr;have hix:idxV (some k)=(k:Int):=rfl;have hkn:k<n:=by have:=HS.len.trans HHN;omega
    have hkI:(k:Int)<(n:Int):=by omega
    have hk0: ¬(k:Int)<0:=by omega
    have HMA:=hid (zPl HS.at_ hop hf hk);have HKK:=hid hk;have HRS:=hid (And.intro hrs1 hrs2);have x1:=HO1.cell i 1 x _ HS.at_ rfl;have x9:=HO1.cell i 9 x _ HS.at_ rfl;have r9:=HO1.cell k 9 r _ HKK rfl;have hqs2:=HQS;have HTR:Hid (Eng.meets x r.price=true→∀W:World,RefRep F base W b E dv (sL g n cap)→Touch F w W→Cl 230 #[iP b,iV i,iV k] W fun en w'=>en=rV #[]∧∃(E':Eng) (x':Ord),x'.opn.toNat<x.opn.toNat∧RefRep F base w' b E' dv (sL g n cap)∧Touch F w w'∧Sweeping e i E' x'∧Eng.Kin o x'):=fun hmt W hW hTW=>by
     have hm:E.mate i=some k:=by rw[HMA.out,if_pos hmt]
     obtain⟨r',hr',hne,hop',hr1,hst,hr2,hmt',i1,et,i2,hi',hlt',h0'⟩:=Eng.trade_step HS.out.inv HS.out.at_ HS.out.st HS.out.sh hm;obtain rfl:r'=r:=Option.some.inj (hr'.symm.trans HKK);have hl:=HS.len.trans HHN;have hsu:=HS.sums;have kx:=HX;refine(zM4 i k x r' (by rw[hl];exact hW) HS.inv HS.at_ HKK hne HS.st HS.sh hop hr1 hst (HS.room.mono (by omega)) hsu.v0 (by have:=hsu.v1;omega) hsu.w0 (by have:=hsu.w1;omega) HS.dr.len HS.dr.bd).mono ?_;rintro en w' ⟨e1,h1,h2⟩;obtain⟨hst',hlt''⟩:=HS.out.step hm HKK;refine⟨e1,E.trade i k,Eng.tradeO x r',?_,by rw[hl]at h1;exact h1,hTW.trans h2,hst',HK.trans (Eng.tradeO_kin x r')⟩;omega
    cases hs1:(x.side == 1)
    ·have h1:x.side≠1:=by simpa using hs1
     have hsd2:=HSD;have hside:Hid (x.side=2):=by show _=_;omega
     have hs2:(x.side == 2)=true:=by simpa using hside.out
     by_cases hpr:r.price<x.price
     ·have HM:Hid (E.mate i=none):=by
       show _=_;rw[HMA.out,if_neg (by unfold Eng.meets;rw[hside.out,if_neg (by decide)];simp;omega)]
      have hk0b:decide ((k:Int)<0)=false:=by simp
      have hprb:decide (r.price<x.price)=true:=by simpa using hpr
      go_wp2_with fail;go_quiet (fail);have HR2:=hid (HR1.drewN nq);have HT2:=hid (HT1.drewN nq);generalize w1.drewN nq=W2 at *;have HO2:=hid HR2.ords.1;have c5:W2.cell? (iA b 5)=some (sL g n cap):=HR2.cell 5;have x10:=HO2.cell i 10 x _ HS.at_ rfl;have x2:=HO2.cell i 2 x _ HS.at_ rfl;have x4:=HO2.cell i 4 x _ HS.at_ rfl;have h0:x.opn≠0:=by omega
      have h0b:(x.opn == 0)=false:=by simpa using h0
      have HD:=hid (HS.done HM);have HE:Hid (Eng.swept E i=E.lay i (Eng.atRest x)):=by
       show _=_;unfold Eng.swept;rw[HS.out.at_];simp only;rw[if_neg h0]
      have HSH:=hid (fun(m:Int) (hm:nat63 m)=>zC4 (w:=W2) (F:=F) (base:=base) (b:=b) (e:=E) (dv:=dv) (g:=g) (cap:=cap) i m x (by have q:=HR2;rw[←HS.len.trans HHN.out]at q;exact q) HS.at_ HS.room.len (by have:=HS.room.seq;omega) (by have:=HS.room.stm;omega) (by have:=HS.room.out;omega) (n63 _ (by have:=HX.id0;omega) (by have:=HX.id1;omega)) (n63 _ HX.prc0 (by have:=HX.prc1;have:=HS.inv.mp1;omega)) hm);have HFIN:Hid (∀W3:World,RefRep F base W3 b (E.lay i (Eng.atRest x)) dv (sL g E.all.length cap)→RefRep F base W3 b (e.sweep i) dv (sL g n cap)):=fun W3 hW=>by
       rw[HD.out,HE.out];rw[HS.out.len.trans HHN.out]at hW;exact hW
      cases ht2:(x.typ == 2)
      ·have hat:Hid (Eng.atRest x=x.opn):=by
        show _=_;unfold Eng.atRest;rw[if_neg (fun hc=>by simp[hc.1]at ht2)]
       go_wp2_with fail;refine(HSH x.opn ⟨by omega,by omega⟩).mono ?_;rintro en w3 ⟨rfl,hr3,ht3⟩;rw[←hat.out]at hr3;have HR3:=hid (HFIN w3 hr3);have HT3:=hid (HT2.trans ht3);go_wp2;go_end0;exact⟨rfl,HR3,HT3⟩
      ·by_cases hpk:x.peak<x.opn
       ·have hat:Hid (Eng.atRest x=x.peak):=by
         show _=_;unfold Eng.atRest;rw[if_pos ⟨by simpa using ht2,hpk⟩]
        have hp0:=(HX.peak (by simpa using ht2)).1;go_wp2_with fail;refine(HSH x.peak ⟨by omega,by omega⟩).mono ?_;rintro en w3 ⟨rfl,hr3,ht3⟩;rw[←hat.out]at hr3;have HR3:=hid (HFIN w3 hr3);have HT3:=hid (HT2.trans ht3);go_wp2;go_end0;exact⟨rfl,HR3,HT3⟩
       ·have hat:Hid (Eng.atRest x=x.opn):=by
         show _=_;unfold Eng.atRest;rw[if_neg (fun hc=>hpk hc.2)]
        go_wp2_with fail;refine(HSH x.opn ⟨by omega,by omega⟩).mono ?_;rintro en w3 ⟨rfl,hr3,ht3⟩;rw[←hat.out]at hr3;have HR3:=hid (HFIN w3 hr3);have HT3:=hid (HT2.trans ht3);go_wp2;go_end0;exact⟨rfl,HR3,HT3⟩
     ·have HMT:Hid (Eng.meets x r.price=true):=by
       show _=_;unfold Eng.meets;rw[hside.out,if_neg (by decide)];simp;omega
      have hk0b:decide ((k:Int)<0)=false:=by simp
      have hprb:decide (r.price<x.price)=false:=by simpa using hpr
      go_wp2_with fail;go_quiet (fail);have HR2:=hid (HR1.drewN nq);have HT2:=hid (HT1.drewN nq);generalize w1.drewN nq=W2 at *;go_wp2_with fail;refine(HTR HMT W2 HR2 HT2).mono ?_;rintro en w3 ⟨rfl,hex⟩;have HEX:=hid hex;go_wp2;obtain⟨E',x',hlt3,hR3,hT3,hS3,hK3⟩:=HEX
      go_roundg x'.opn.toNat
      case measure=>exact hlt3
      case rel=>exact⟨E',x',rfl,hR3,hT3,hS3,hK3⟩
    ·have hside:Hid (x.side=1):=by show _=_;simpa using hs1
     have hs2:(x.side == 2)=false:=by rw[hside.out];rfl
     by_cases hpr:x.price<r.price
     ·have HM:Hid (E.mate i=none):=by
       show _=_;rw[HMA.out,if_neg (by unfold Eng.meets;rw[hside.out,if_pos rfl];simp;omega)]
      have hk0b:decide ((k:Int)<0)=false:=by simp
      have hprb:decide (x.price<r.price)=true:=by simpa using hpr
      go_wp2_with fail;go_quiet (fail);have HR2:=hid (HR1.drewN nq);have HT2:=hid (HT1.drewN nq);generalize w1.drewN nq=W2 at *;have HO2:=hid HR2.ords.1;have c5:W2.cell? (iA b 5)=some (sL g n cap):=HR2.cell 5;have x10:=HO2.cell i 10 x _ HS.at_ rfl;have x2:=HO2.cell i 2 x _ HS.at_ rfl;have x4:=HO2.cell i 4 x _ HS.at_ rfl;have h0:x.opn≠0:=by omega
      have h0b:(x.opn == 0)=false:=by simpa using h0
      have HD:=hid (HS.done HM);have HE:Hid (Eng.swept E i=E.lay i (Eng.atRest x)):=by
       show _=_;unfold Eng.swept;rw[HS.out.at_];simp only;rw[if_neg h0]
      have HSH:=hid (fun(m:Int) (hm:nat63 m)=>zC4 (w:=W2) (F:=F) (base:=base) (b:=b) (e:=E) (dv:=dv) (g:=g) (cap:=cap) i m x (by have q:=HR2;rw[←HS.len.trans HHN.out]at q;exact q) HS.at_ HS.room.len (by have:=HS.room.seq;omega) (by have:=HS.room.stm;omega) (by have:=HS.room.out;omega) (n63 _ (by have:=HX.id0;omega) (by have:=HX.id1;omega)) (n63 _ HX.prc0 (by have:=HX.prc1;have:=HS.inv.mp1;omega)) hm);have HFIN:Hid (∀W3:World,RefRep F base W3 b (E.lay i (Eng.atRest x)) dv (sL g E.all.length cap)→RefRep F base W3 b (e.sweep i) dv (sL g n cap)):=fun W3 hW=>by
       rw[HD.out,HE.out];rw[HS.out.len.trans HHN.out]at hW;exact hW
      cases ht2:(x.typ == 2)
      ·have hat:Hid (Eng.atRest x=x.opn):=by
        show _=_;unfold Eng.atRest;rw[if_neg (fun hc=>by simp[hc.1]at ht2)]
       go_wp2_with fail;refine(HSH x.opn ⟨by omega,by omega⟩).mono ?_;rintro en w3 ⟨rfl,hr3,ht3⟩;rw[←hat.out]at hr3;have HR3:=hid (HFIN w3 hr3);have HT3:=hid (HT2.trans ht3);go_wp2;go_end0;exact⟨rfl,HR3,HT3⟩
      ·by_cases hpk:x.peak<x.opn
       ·have hat:Hid (Eng.atRest x=x.peak):=by
         show _=_;unfold Eng.atRest;rw[if_pos ⟨by simpa using ht2,hpk⟩]
        have hp0:=(HX.peak (by simpa using ht2)).1;go_wp2_with fail;refine(HSH x.peak ⟨by omega,by omega⟩).mono ?_;rintro en w3 ⟨rfl,hr3,ht3⟩;rw[←hat.out]at hr3;have HR3:=hid (HFIN w3 hr3);have HT3:=hid (HT2.trans ht3);go_wp2;go_end0;exact⟨rfl,HR3,HT3⟩
       ·have hat:Hid (Eng.atRest x=x.opn):=by
         show _=_;unfold Eng.atRest;rw[if_neg (fun hc=>hpk hc.2)]
        go_wp2_with fail;refine(HSH x.opn ⟨by omega,by omega⟩).mono ?_;rintro en w3 ⟨rfl,hr3,ht3⟩;rw[←hat.out]at hr3;have HR3:=hid (HFIN w3 hr3);have HT3:=hid (HT2.trans ht3);go_wp2;go_end0;exact⟨rfl,HR3,HT3⟩
     ·have HMT:Hid (Eng.meets x r.price=true):=by
       show _=_;unfold Eng.meets;rw[hside.out,if_pos rfl];simp;omega
      have hk0b:decide ((k:Int)<0)=false:=by simp
      have hprb:decide (x.price<r.price)=false:=by simpa using hpr
      go_wp2_with fail;go_quiet (fail);have HR2:=hid (HR1.drewN nq);have HT2:=hid (HT1.drewN nq);generalize w1.drewN nq=W2 at *;go_wp2_with fail;refine(HTR HMT W2 HR2 HT2).mono ?_;rintro en w3 ⟨rfl,hex⟩;have HEX:=hid hex;go_wp2;obtain⟨E',x',hlt3,hR3,hT3,hS3,hK3⟩:=HEX
      go_roundg x'.opn.toNat
      case measure=>exact hlt3
      case rel=>exact⟨E',x',rfl,hR3,hT3,hS3,hK3⟩
  ·have HM:Hid (E.mate i=none):=zHq HS.at_ hop;have h0:x.opn=0:=by have:=HX.opn0;omega
   have HD:=hid (HS.done HM);have f8:=HO.froz (i*15+8);have x8:=HO.cell i 8 x _ HS.at_ rfl;have HE:Hid (Eng.swept E i=E.upd i fun _=>{ x with status:=2 }):=by
    show _=_;unfold Eng.swept;rw[HS.out.at_];simp only;rw[if_pos h0];exact Eng.upd_congr _ i _ _ (fun y hy=>by obtain rfl:x=y:=Option.some.inj (HS.at_.symm.trans hy);rfl)
   have HR2:Hid (RefRep F base (wr.setCell (iA g (i*15+8)) (iV 2)) b (E.upd i fun _=>{ x with status:=2 }) dv (sL g n cap)):=HRr.setO i 8 2 _ _ HS.at_ rfl (by omega);rw[h0]at x10;go_wp2;refine bodyPost_ret (v:=.tuple #[]) (by simp[results,Tryz.results192,go_sem]) rfl ⟨rfl,?_⟩;rw[HD.out,HE.out];exact⟨HR2,HTr.set g _ _ hF⟩
end
end Go.Proofs.YtanfmhonjpjpoaaGreatDoor
