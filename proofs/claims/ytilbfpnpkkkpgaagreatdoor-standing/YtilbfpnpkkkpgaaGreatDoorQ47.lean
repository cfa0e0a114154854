import Derived.Test.YtilbfpnpkkkpgaaGreatDoorQ00
import Derived.Test.YtilbfpnpkkkpgaaGreatDoorQ39
import Derived.Test.YtilbfpnpkkkpgaaGreatDoorQ42
import Derived.Test.YtilbfpnpkkkpgaaGreatDoorQ43
import Derived.Test.YtilbfpnpkkkpgaaGreatDoorQ44
import Derived.Test.YtilbfpnpkkkpgaaGreatDoorQ45
import Derived.Test.YtilbfpnpkkkpgaaGreatDoorQ46
set_option linter.all false
set_option maxRecDepth 100000
set_option maxHeartbeats 8000000
namespace Go.Proofs.YtilbfpnpkkkpgaaGreatDoor
open Go.Extern Go.RowKit
def AudOk(w0:World):Prop:= ∀(w:World) (n:Nat) (ws:List ByteArray) (left:Int) (t:ByteArray),St w0 w n ws left→n≤100000000→t.size≤100000000→
 Cl 72 #[iP w0.heap.size,.string t] w fun e w'=>SomeBool e∧Next w0 w' n
section
variable {w0 w:World} {n:Nat} {ws:List ByteArray} {left:Int}
theorem zRf(h:St w0 w n ws left)(hn:n≤10000000)(hl:0<left)(ad:Nat→Addr)(st:Nat→ByteArray)(hE:Errs w ad st)(hW:Wids w)(a b d:Int)(s:ByteArray)(v:Nat→Int)(ha:I64 a)(hb:I64 b)(hv: ∀i,i<9→-9223372036854775808≤v i∧v i≤9223372036854775807)(hs:s.size≤1000000000):
 Cl 34 #[iP w0.heap.size,opV 3 a b d s v] w fun e w'=>e=rB true∧Next w0 w' n:=by
 have HS:Hid (St w0 (w.alloc (.cells (opC 3 a b d s v) 79)) n ws left):=h.below (zA0 _);have HE:Hid (Errs (w.alloc (.cells (opC 3 a b d s v) 79)) ad st):=hE.below (zA0 _);have HW:Hid (Wids (w.alloc (.cells (opC 3 a b d s v) 79))):=hW.below (zA0 _);have hsum:=h.sum;have hz1:=zAc ws a;go_enter Tryz.func34,Tryz.ntmps34;go_wp2_with fail;refine(zQ8 HS (by omega) hl ad st HE HW 3 a b d s v hv).mono ?_;rintro e w1 ⟨rfl,hN⟩;have HN:Hid (Next w0 w1 n):=hN;go_wp2;go_ret;exact⟨rfl,HN⟩
theorem zRg(h:St w0 w n ws left)(hn:n≤10000000)(hl:0<left)(ad:Nat→Addr)(st:Nat→ByteArray)(hE:Errs w ad st)(hW:Wids w)(a b d:Int)(s:ByteArray)(v:Nat→Int)(ha:I64 a)(hb:I64 b)(hv: ∀i,i<9→-9223372036854775808≤v i∧v i≤9223372036854775807)(hs:s.size≤1000000000):
 Cl 34 #[iP w0.heap.size,opV 10 a b d s v] w fun e w'=>e=rB true∧Next w0 w' n:=by
 have HS:Hid (St w0 (w.alloc (.cells (opC 10 a b d s v) 79)) n ws left):=h.below (zA0 _);have HE:Hid (Errs (w.alloc (.cells (opC 10 a b d s v) 79)) ad st):=hE.below (zA0 _);have HW:Hid (Wids (w.alloc (.cells (opC 10 a b d s v) 79))):=hW.below (zA0 _);have hsum:=h.sum;have hz1:=zAc ws a;go_enter Tryz.func34,Tryz.ntmps34;go_wp2_with fail;refine(HS.word a (by omega) ha.1 ha.2).mono ?_;rintro e w1 ⟨rfl,m,rfl⟩;have HS1:Hid (St w0 ((w.alloc (.cells (opC 10 a b d s v) 79)).drewN m) n ws left):=HS.drewN m;have HE1:Hid (Errs ((w.alloc (.cells (opC 10 a b d s v) 79)).drewN m) ad st):=HE.below ⟨rfl,rfl,rfl,Nat.le_refl _,fun _ _=>rfl⟩;generalize wordAt ws a=ta at *;go_wp2_with fail;refine(zR0 HS1 (by omega) ad st HE1 ta (by omega)).mono ?_;rintro e w2 ⟨rfl,hN⟩;have HN:Hid (Next w0 w2 n):=Next.of hN;go_wp2;go_ret;exact⟨rfl,HN⟩
theorem zRh(hA:AudOk w0)(h:St w0 w n ws left)(hn:n≤10000000)(hl:0<left)(ad:Nat→Addr)(st:Nat→ByteArray)(hE:Errs w ad st)(hW:Wids w)(a b d:Int)(s:ByteArray)(v:Nat→Int)(ha:I64 a)(hb:I64 b)(hv: ∀i,i<9→-9223372036854775808≤v i∧v i≤9223372036854775807)(hs:s.size≤1000000000):
 Cl 34 #[iP w0.heap.size,opV 16 a b d s v] w fun e w'=>SomeBool e∧Next w0 w' n:=by
 have HS:Hid (St w0 (w.alloc (.cells (opC 16 a b d s v) 79)) n ws left):=h.below (zA0 _);have HE:Hid (Errs (w.alloc (.cells (opC 16 a b d s v) 79)) ad st):=hE.below (zA0 _);have HW:Hid (Wids (w.alloc (.cells (opC 16 a b d s v) 79))):=hW.below (zA0 _);have hsum:=h.sum;have hz1:=zAc ws a;have HA:=hid hA;go_enter Tryz.func34,Tryz.ntmps34;go_wp2_with fail;refine(HS.word a (by omega) ha.1 ha.2).mono ?_;rintro e w1 ⟨rfl,m,rfl⟩;have HS1:Hid (St w0 ((w.alloc (.cells (opC 16 a b d s v) 79)).drewN m) n ws left):=HS.drewN m;have HE1:Hid (Errs ((w.alloc (.cells (opC 16 a b d s v) 79)).drewN m) ad st):=HE.below ⟨rfl,rfl,rfl,Nat.le_refl _,fun _ _=>rfl⟩;generalize wordAt ws a=ta at *;go_wp2_with fail;refine(HA _ _ _ _ ta HS1 (by omega) (by omega)).mono ?_;rintro e w2 ⟨⟨r,rfl⟩,hN⟩;have HN:Hid (Next w0 w2 n):=hN;go_wp2;go_ret;exact⟨⟨_,rfl⟩,HN⟩
theorem zRi(h:St w0 w n ws left)(hn:n≤10000000)(hl:0<left)(ad:Nat→Addr)(st:Nat→ByteArray)(hE:Errs w0 ad st)(hW:Wids w0)(a b d:Int)(s:ByteArray)(v:Nat→Int)(ha:I64 a)(hb:I64 b)(hd:I64 d)(hv: ∀i,i<9→-9223372036854775808≤v i∧v i≤9223372036854775807)(hs:s.size≤1000000000):
 Cl 22 #[iP w0.heap.size,opV 3 a b d s v] w fun e w'=>e=rB true∧Next w0 w' n:=by
 have HS:Hid (St w0 (w.alloc (.cells (opC 3 a b d s v) 79)) n ws left):=h.below (zA0 _);have HE:Hid (Errs (w.alloc (.cells (opC 3 a b d s v) 79)) ad st):=hE.below HS.low;have HW:Hid (Wids (w.alloc (.cells (opC 3 a b d s v) 79))):=hW.below HS.low;have HE0:=hid hE;go_enter Tryz.func22,Tryz.ntmps22;go_wp2_with fail;refine(zRf HS hn hl ad st HE HW a b d s v ha hb hv hs).mono ?_;rintro e w1 ⟨rfl,hN⟩;have HN:Hid (Next w0 w1 n):=hN;go_wp2;go_ret;exact⟨rfl,HN⟩
theorem zRj(h:St w0 w n ws left)(hn:n≤10000000)(hl:0<left)(ad:Nat→Addr)(st:Nat→ByteArray)(hE:Errs w0 ad st)(hW:Wids w0)(a b d:Int)(s:ByteArray)(v:Nat→Int)(ha:I64 a)(hb:I64 b)(hd:I64 d)(hv: ∀i,i<9→-9223372036854775808≤v i∧v i≤9223372036854775807)(hs:s.size≤1000000000):
 Cl 22 #[iP w0.heap.size,opV 9 a b d s v] w fun e w'=>e=rB true∧Next w0 w' n:=by
 have HS:Hid (St w0 (w.alloc (.cells (opC 9 a b d s v) 79)) n ws left):=h.below (zA0 _);have HE:Hid (Errs (w.alloc (.cells (opC 9 a b d s v) 79)) ad st):=hE.below HS.low;have HW:Hid (Wids (w.alloc (.cells (opC 9 a b d s v) 79))):=hW.below HS.low;have HE0:=hid hE;go_enter Tryz.func22,Tryz.ntmps22;go_wp2_with fail;refine(zQk HS (by omega) hl ad st HE HW a b d s v ha).mono ?_;rintro e w1 ⟨rfl,hN⟩;have HN:Hid (Next w0 w1 n):=hN;go_wp2;go_ret;exact⟨rfl,HN⟩
theorem zRk(h:St w0 w n ws left)(hn:n≤10000000)(hl:0<left)(ad:Nat→Addr)(st:Nat→ByteArray)(hE:Errs w0 ad st)(hW:Wids w0)(a b d:Int)(s:ByteArray)(v:Nat→Int)(ha:I64 a)(hb:I64 b)(hd:I64 d)(hv: ∀i,i<9→-9223372036854775808≤v i∧v i≤9223372036854775807)(hs:s.size≤1000000000):
 Cl 22 #[iP w0.heap.size,opV 10 a b d s v] w fun e w'=>e=rB true∧Next w0 w' n:=by
 have HS:Hid (St w0 (w.alloc (.cells (opC 10 a b d s v) 79)) n ws left):=h.below (zA0 _);have HE:Hid (Errs (w.alloc (.cells (opC 10 a b d s v) 79)) ad st):=hE.below HS.low;have HW:Hid (Wids (w.alloc (.cells (opC 10 a b d s v) 79))):=hW.below HS.low;have HE0:=hid hE;go_enter Tryz.func22,Tryz.ntmps22;go_wp2_with fail;refine(zRg HS hn hl ad st HE HW a b d s v ha hb hv hs).mono ?_;rintro e w1 ⟨rfl,hN⟩;have HN:Hid (Next w0 w1 n):=hN;go_wp2;go_ret;exact⟨rfl,HN⟩
theorem zRl(hA:AudOk w0)(h:St w0 w n ws left)(hn:n≤10000000)(hl:0<left)(ad:Nat→Addr)(st:Nat→ByteArray)(hE:Errs w0 ad st)(hW:Wids w0)(a b d:Int)(s:ByteArray)(v:Nat→Int)(ha:I64 a)(hb:I64 b)(hd:I64 d)(hv: ∀i,i<9→-9223372036854775808≤v i∧v i≤9223372036854775807)(hs:s.size≤1000000000):
 Cl 22 #[iP w0.heap.size,opV 16 a b d s v] w fun e w'=>SomeBool e∧Next w0 w' n:=by
 have HS:Hid (St w0 (w.alloc (.cells (opC 16 a b d s v) 79)) n ws left):=h.below (zA0 _);have HE:Hid (Errs (w.alloc (.cells (opC 16 a b d s v) 79)) ad st):=hE.below HS.low;have HW:Hid (Wids (w.alloc (.cells (opC 16 a b d s v) 79))):=hW.below HS.low;have HE0:=hid hE;have HA:=hid hA;go_enter Tryz.func22,Tryz.ntmps22;go_wp2_with fail;refine(zRh HA HS hn hl ad st HE HW a b d s v ha hb hv hs).mono ?_;rintro e w1 ⟨⟨r,rfl⟩,hN⟩;have HN:Hid (Next w0 w1 n):=hN;go_wp2;go_ret;exact⟨⟨_,rfl⟩,HN⟩
theorem zRm(h:St w0 w n ws left)(hn:n≤10000000)(hl:0<left)(ad:Nat→Addr)(st:Nat→ByteArray)(hE:Errs w0 ad st)(hW:Wids w0)(a b d:Int)(s:ByteArray)(v:Nat→Int)(ha:I64 a)(hb:I64 b)(hd:I64 d)(hv: ∀i,i<9→-9223372036854775808≤v i∧v i≤9223372036854775807)(hs:s.size≤1000000000):
 Cl 22 #[iP w0.heap.size,opV 11 a b d s v] w fun e w'=>e=rB true∧Next w0 w' n:=by
 have HS:Hid (St w0 (w.alloc (.cells (opC 11 a b d s v) 79)) n ws left):=h.below (zA0 _);have HE:Hid (Errs (w.alloc (.cells (opC 11 a b d s v) 79)) ad st):=hE.below HS.low;have HW:Hid (Wids (w.alloc (.cells (opC 11 a b d s v) 79))):=hW.below HS.low;have HE0:=hid hE;go_enter Tryz.func22,Tryz.ntmps22;go_wp2_with fail;refine(zQy HS (by omega) HE0).mono ?_;rintro e w1 ⟨rfl,hN⟩;have HN:Hid (Next w0 w1 n):=hN;go_wp2;go_ret;exact⟨rfl,HN⟩
theorem zRn(h:St w0 w n ws left)(hn:n≤10000000)(hl:0<left)(ad:Nat→Addr)(st:Nat→ByteArray)(hE:Errs w0 ad st)(hW:Wids w0)(a b d:Int)(s:ByteArray)(v:Nat→Int)(ha:I64 a)(hb:I64 b)(hd:I64 d)(hv: ∀i,i<9→-9223372036854775808≤v i∧v i≤9223372036854775807)(hs:s.size≤1000000000):
 Cl 22 #[iP w0.heap.size,opV 12 a b d s v] w fun e w'=>e=rB true∧Next w0 w' n:=by
 obtain⟨tag,ps,h0,hall⟩:=h;have h:=h0.below (zA0 (w:=w) (.cells (opC 12 a b d s v) 79));have HN0:Hid (Next w0 (w.alloc (.cells (opC 12 a b d s v) 79)) n):=St.next ⟨tag,ps,h,hall⟩;obtain⟨v5,hc5,hrow,_⟩:=h.desks;have hpl:=h.plen;by_cases hz:ps.length=0
 ·have: ∃p c,v5=.slice p 0 c:=by
   rcases hrow.2 with⟨rfl,_⟩|⟨g,cap,cur,rfl,_⟩
   ·exact⟨_,_,rfl⟩
   ·exact⟨_,_,by rw[hz]⟩
  obtain⟨p,c,rfl⟩:=this;clear h h0 hall hrow hE hW hz hpl;go_enter Tryz.func22,Tryz.ntmps22;go_wp2;go_ret;exact⟨rfl,HN0.out⟩
 ·obtain⟨gd,cap,rfl⟩: ∃gd cap,v5=sL gd ps.length cap:=by
   rcases hrow.2 with⟨rfl,h0⟩|⟨g,cap,cur,rfl,_⟩
   ·exact absurd h0 hz
   ·exact⟨_,_,rfl⟩
  have hp:=zBs d ps.length (by omega);have hpb:=zAm d ps.length (by omega);have hpk:=fun W=>zAs d (ps.length:Int) W hd.1 hd.2 (by omega) (by omega)
  obtain⟨q,hq⟩: ∃q:Nat,pickN d ps.length=q:=⟨(pickN d ps.length).toNat,by omega⟩;rw[hq]at hp hpb hpk;have hqm:q<ps.length:=by simpa using hp
  have hqI:(q:Int)<(ps.length:Int):=by omega
  have hne:((ps.length:Int) == 0)=false:=beq_eq_false_iff_ne.2 (by omega);have hpq:ps[q]? =some ps[q]:=List.getElem?_eq_getElem hqm;have HPQ:Hid (∀W,Cl 37 #[iV d,iV (ps.length:Int)] W fun e w'=>e=.returned (iV (q:Int))∧w'=W):=hpk;have HDK:Hid (∀X,Same (w.alloc (.cells (opC 12 a b d s v) 79)) X→Cl 36 #[iP w0.heap.size,.pointer (some (iA gd (q*3))),opV 12 a b d s v] X fun e w'=>e=rB true∧(w'.cell? (iA w0.heap.size 5)=some (sL gd ps.length cap)∧cI w' w.heap.size 0 12∧cI w' w.heap.size 1 a∧cI w' w.heap.size 2 b∧cI w' w.heap.size 3 d∧w'.cell? (iA w.heap.size 4)=some (.string s)∧cI w' w.heap.size 5 (v 0)∧cI w' w.heap.size 6 (v 1)∧cI w' w.heap.size 7 (v 2)∧cI w' w.heap.size 8 (v 3)∧cI w' w.heap.size 9 (v 4)∧cI w' w.heap.size 10 (v 5)∧cI w' w.heap.size 11 (v 6)∧cI w' w.heap.size 12 (v 7)∧cI w' w.heap.size 13 (v 8))∧Hid (Next w0 w' n)):=fun X hX=>by
   have hbw:Below (w.alloc (.cells (opC 12 a b d s v) 79)).heap.size (w.alloc (.cells (opC 12 a b d s v) 79)) X:=⟨hX.os,hX.tape,hX.output,by rw[hX.heap];exact Nat.le_refl _,fun k _=>by rw[hX.heap]⟩;refine(zQh (h.below hbw) hall hn hl hE hW (h.cell5 hbw hc5) hpq a b d s v ha).mono ?_;rintro e w' ⟨rfl,h1,h2,h3⟩;have hbx:=h2 w.heap.size _ (h0.tup _ (Nat.le_refl _)) ((hbw.block w.heap.size (by simp)).trans (heap_alloc_new w _));have hcx: ∀j u,(opC 12 a b d s v)[j]? =some u→w'.cell? (iA w.heap.size j)=some u:=fun j u hj=>by simp only[World.cell?,hbx];simpa using hj
   exact⟨rfl,⟨h3.trans (h.cell5 hbw hc5),hcx 0 _ rfl,hcx 1 _ rfl,hcx 2 _ rfl,hcx 3 _ rfl,hcx 4 _ rfl,hcx 5 _ rfl,hcx 6 _ rfl,hcx 7 _ rfl,hcx 8 _ rfl,hcx 9 _ rfl,hcx 10 _ rfl,hcx 11 _ rfl,hcx 12 _ rfl,hcx 13 _ rfl⟩,h1⟩
  have hlt:=h.lt;have b0:(w.alloc (.cells (opC 12 a b d s v) 79)).cell? (iA w.heap.size 0)=sI 12:=zA w _ _ 0 _ rfl;have b1:(w.alloc (.cells (opC 12 a b d s v) 79)).cell? (iA w.heap.size 1)=sI a:=zA w _ _ 1 _ rfl;have b2:(w.alloc (.cells (opC 12 a b d s v) 79)).cell? (iA w.heap.size 2)=sI b:=zA w _ _ 2 _ rfl;have b3:(w.alloc (.cells (opC 12 a b d s v) 79)).cell? (iA w.heap.size 3)=sI d:=zA w _ _ 3 _ rfl;have b4:(w.alloc (.cells (opC 12 a b d s v) 79)).cell? (iA w.heap.size 4)=some (.string s):=zA w _ _ 4 _ rfl;have b5:(w.alloc (.cells (opC 12 a b d s v) 79)).cell? (iA w.heap.size 5)=sI (v 0):=zA w _ _ 5 _ rfl;have b6:(w.alloc (.cells (opC 12 a b d s v) 79)).cell? (iA w.heap.size 6)=sI (v 1):=zA w _ _ 6 _ rfl;have b7:(w.alloc (.cells (opC 12 a b d s v) 79)).cell? (iA w.heap.size 7)=sI (v 2):=zA w _ _ 7 _ rfl
  have b8:(w.alloc (.cells (opC 12 a b d s v) 79)).cell? (iA w.heap.size 8)=sI (v 3):=zA w _ _ 8 _ rfl;have b9:(w.alloc (.cells (opC 12 a b d s v) 79)).cell? (iA w.heap.size 9)=sI (v 4):=zA w _ _ 9 _ rfl;have b10:(w.alloc (.cells (opC 12 a b d s v) 79)).cell? (iA w.heap.size 10)=sI (v 5):=zA w _ _ 10 _ rfl;have b11:(w.alloc (.cells (opC 12 a b d s v) 79)).cell? (iA w.heap.size 11)=sI (v 6):=zA w _ _ 11 _ rfl;have b12:(w.alloc (.cells (opC 12 a b d s v) 79)).cell? (iA w.heap.size 12)=sI (v 7):=zA w _ _ 12 _ rfl;have b13:(w.alloc (.cells (opC 12 a b d s v) 79)).cell? (iA w.heap.size 13)=sI (v 8):=zA w _ _ 13 _ rfl;clear h h0 hall hrow hE hW hz hpl hp hpb hpk hq hpq HN0;generalize ps.length=ml at *;go_enter Tryz.func22,Tryz.ntmps22;go_wp2_with fail;generalize (w.alloc (.cells (opC 12 a b d s v) 79))=W at *
  go_region_held3(fun X=>X.cell? (iA w0.heap.size 5)=some (sL gd ml cap)∧X.cell? (iA w.heap.size 0)=sI 12∧X.cell? (iA w.heap.size 1)=sI a∧X.cell? (iA w.heap.size 2)=sI b∧X.cell? (iA w.heap.size 3)=sI d∧X.cell? (iA w.heap.size 4)=some (.string s)∧X.cell? (iA w.heap.size 5)=sI (v 0)∧X.cell? (iA w.heap.size 6)=sI (v 1)∧X.cell? (iA w.heap.size 7)=sI (v 2)∧X.cell? (iA w.heap.size 8)=sI (v 3)∧X.cell? (iA w.heap.size 9)=sI (v 4)∧X.cell? (iA w.heap.size 10)=sI (v 5)∧X.cell? (iA w.heap.size 11)=sI (v 6)∧X.cell? (iA w.heap.size 12)=sI (v 7)∧X.cell? (iA w.heap.size 13)=sI (v 8)) (first|exact⟨hc5,b0,b1,b2,b3,b4,b5,b6,b7,b8,b9,b10,b11,b12,b13⟩|exact hS1) (first|(go_at_call 37;refine(HPQ.out _).mono ?_;rintro e w' ⟨rfl,rfl⟩)|(go_at_call 36;refine(HDK.out _ (Same.refl _).drew).mono ?_;rintro e w1 ⟨rfl,hS1,HN⟩));clear hS1;go_wp2;go_ret;exact⟨rfl,HN.out⟩
theorem zRo(h:St w0 w n ws left)(hn:n≤10000000)(hl:0<left)(ad:Nat→Addr)(st:Nat→ByteArray)(hE:Errs w0 ad st)(hW:Wids w0)(a b d:Int)(s:ByteArray)(v:Nat→Int)(ha:I64 a)(hb:I64 b)(hd:I64 d)(hv: ∀i,i<9→-9223372036854775808≤v i∧v i≤9223372036854775807)(hs:s.size≤1000000000):
 Cl 22 #[iP w0.heap.size,opV 13 a b d s v] w fun e w'=>e=rB true∧Next w0 w' n:=by
 obtain⟨tag,ps,h0,hall⟩:=h;have h:=h0.below (zA0 (w:=w) (.cells (opC 13 a b d s v) 79));have HN0:Hid (Next w0 (w.alloc (.cells (opC 13 a b d s v) 79)) n):=St.next ⟨tag,ps,h,hall⟩;obtain⟨v5,hc5,hrow,_⟩:=h.desks;have hpl:=h.plen;by_cases hz:ps.length=0
 ·have: ∃p c,v5=.slice p 0 c:=by
   rcases hrow.2 with⟨rfl,_⟩|⟨g,cap,cur,rfl,_⟩
   ·exact⟨_,_,rfl⟩
   ·exact⟨_,_,by rw[hz]⟩
  obtain⟨p,c,rfl⟩:=this;clear h h0 hall hrow hE hW hz hpl;go_enter Tryz.func22,Tryz.ntmps22;go_wp2;go_ret;exact⟨rfl,HN0.out⟩
 ·obtain⟨gd,cap,rfl⟩: ∃gd cap,v5=sL gd ps.length cap:=by
   rcases hrow.2 with⟨rfl,h0⟩|⟨g,cap,cur,rfl,_⟩
   ·exact absurd h0 hz
   ·exact⟨_,_,rfl⟩
  have hp:=zBs d ps.length (by omega);have hpb:=zAm d ps.length (by omega);have hpk:=fun W=>zAs d (ps.length:Int) W hd.1 hd.2 (by omega) (by omega)
  obtain⟨q,hq⟩: ∃q:Nat,pickN d ps.length=q:=⟨(pickN d ps.length).toNat,by omega⟩;rw[hq]at hp hpb hpk;have hqm:q<ps.length:=by simpa using hp
  have hqI:(q:Int)<(ps.length:Int):=by omega
  have hne:((ps.length:Int) == 0)=false:=beq_eq_false_iff_ne.2 (by omega);have hpq:ps[q]? =some ps[q]:=List.getElem?_eq_getElem hqm;have HPQ:Hid (∀W,Cl 37 #[iV d,iV (ps.length:Int)] W fun e w'=>e=.returned (iV (q:Int))∧w'=W):=hpk;have HDK:Hid (∀X,Same (w.alloc (.cells (opC 13 a b d s v) 79)) X→Cl 36 #[iP w0.heap.size,.pointer (some (iA gd (q*3))),opV 13 a b d s v] X fun e w'=>e=rB true∧(w'.cell? (iA w0.heap.size 5)=some (sL gd ps.length cap)∧cI w' w.heap.size 0 13∧cI w' w.heap.size 1 a∧cI w' w.heap.size 2 b∧cI w' w.heap.size 3 d∧w'.cell? (iA w.heap.size 4)=some (.string s)∧cI w' w.heap.size 5 (v 0)∧cI w' w.heap.size 6 (v 1)∧cI w' w.heap.size 7 (v 2)∧cI w' w.heap.size 8 (v 3)∧cI w' w.heap.size 9 (v 4)∧cI w' w.heap.size 10 (v 5)∧cI w' w.heap.size 11 (v 6)∧cI w' w.heap.size 12 (v 7)∧cI w' w.heap.size 13 (v 8))∧Hid (Next w0 w' n)):=fun X hX=>by
   have hbw:Below (w.alloc (.cells (opC 13 a b d s v) 79)).heap.size (w.alloc (.cells (opC 13 a b d s v) 79)) X:=⟨hX.os,hX.tape,hX.output,by rw[hX.heap];exact Nat.le_refl _,fun k _=>by rw[hX.heap]⟩;refine(zR7 (h.below hbw) hall hn hl (h.cell5 hbw hc5) hpq a b d s v).mono ?_;rintro e w' ⟨rfl,h1,h2,h3⟩;have hbx:=h2 w.heap.size _ (h0.tup _ (Nat.le_refl _)) ((hbw.block w.heap.size (by simp)).trans (heap_alloc_new w _));have hcx: ∀j u,(opC 13 a b d s v)[j]? =some u→w'.cell? (iA w.heap.size j)=some u:=fun j u hj=>by simp only[World.cell?,hbx];simpa using hj
   exact⟨rfl,⟨h3.trans (h.cell5 hbw hc5),hcx 0 _ rfl,hcx 1 _ rfl,hcx 2 _ rfl,hcx 3 _ rfl,hcx 4 _ rfl,hcx 5 _ rfl,hcx 6 _ rfl,hcx 7 _ rfl,hcx 8 _ rfl,hcx 9 _ rfl,hcx 10 _ rfl,hcx 11 _ rfl,hcx 12 _ rfl,hcx 13 _ rfl⟩,h1⟩
  have hlt:=h.lt;have b0:(w.alloc (.cells (opC 13 a b d s v) 79)).cell? (iA w.heap.size 0)=sI 13:=zA w _ _ 0 _ rfl;have b1:(w.alloc (.cells (opC 13 a b d s v) 79)).cell? (iA w.heap.size 1)=sI a:=zA w _ _ 1 _ rfl;have b2:(w.alloc (.cells (opC 13 a b d s v) 79)).cell? (iA w.heap.size 2)=sI b:=zA w _ _ 2 _ rfl;have b3:(w.alloc (.cells (opC 13 a b d s v) 79)).cell? (iA w.heap.size 3)=sI d:=zA w _ _ 3 _ rfl;have b4:(w.alloc (.cells (opC 13 a b d s v) 79)).cell? (iA w.heap.size 4)=some (.string s):=zA w _ _ 4 _ rfl;have b5:(w.alloc (.cells (opC 13 a b d s v) 79)).cell? (iA w.heap.size 5)=sI (v 0):=zA w _ _ 5 _ rfl;have b6:(w.alloc (.cells (opC 13 a b d s v) 79)).cell? (iA w.heap.size 6)=sI (v 1):=zA w _ _ 6 _ rfl;have b7:(w.alloc (.cells (opC 13 a b d s v) 79)).cell? (iA w.heap.size 7)=sI (v 2):=zA w _ _ 7 _ rfl
  have b8:(w.alloc (.cells (opC 13 a b d s v) 79)).cell? (iA w.heap.size 8)=sI (v 3):=zA w _ _ 8 _ rfl;have b9:(w.alloc (.cells (opC 13 a b d s v) 79)).cell? (iA w.heap.size 9)=sI (v 4):=zA w _ _ 9 _ rfl;have b10:(w.alloc (.cells (opC 13 a b d s v) 79)).cell? (iA w.heap.size 10)=sI (v 5):=zA w _ _ 10 _ rfl;have b11:(w.alloc (.cells (opC 13 a b d s v) 79)).cell? (iA w.heap.size 11)=sI (v 6):=zA w _ _ 11 _ rfl;have b12:(w.alloc (.cells (opC 13 a b d s v) 79)).cell? (iA w.heap.size 12)=sI (v 7):=zA w _ _ 12 _ rfl;have b13:(w.alloc (.cells (opC 13 a b d s v) 79)).cell? (iA w.heap.size 13)=sI (v 8):=zA w _ _ 13 _ rfl;clear h h0 hall hrow hE hW hz hpl hp hpb hpk hq hpq HN0;generalize ps.length=ml at *;go_enter Tryz.func22,Tryz.ntmps22;go_wp2_with fail;generalize (w.alloc (.cells (opC 13 a b d s v) 79))=W at *
  go_region_held3(fun X=>X.cell? (iA w0.heap.size 5)=some (sL gd ml cap)∧X.cell? (iA w.heap.size 0)=sI 13∧X.cell? (iA w.heap.size 1)=sI a∧X.cell? (iA w.heap.size 2)=sI b∧X.cell? (iA w.heap.size 3)=sI d∧X.cell? (iA w.heap.size 4)=some (.string s)∧X.cell? (iA w.heap.size 5)=sI (v 0)∧X.cell? (iA w.heap.size 6)=sI (v 1)∧X.cell? (iA w.heap.size 7)=sI (v 2)∧X.cell? (iA w.heap.size 8)=sI (v 3)∧X.cell? (iA w.heap.size 9)=sI (v 4)∧X.cell? (iA w.heap.size 10)=sI (v 5)∧X.cell? (iA w.heap.size 11)=sI (v 6)∧X.cell? (iA w.heap.size 12)=sI (v 7)∧X.cell? (iA w.heap.size 13)=sI (v 8)) (first|exact⟨hc5,b0,b1,b2,b3,b4,b5,b6,b7,b8,b9,b10,b11,b12,b13⟩|exact hS1) (first|(go_at_call 37;refine(HPQ.out _).mono ?_;rintro e w' ⟨rfl,rfl⟩)|(go_at_call 36;refine(HDK.out _ (Same.refl _).drew).mono ?_;rintro e w1 ⟨rfl,hS1,HN⟩));clear hS1;go_wp2;go_ret;exact⟨rfl,HN.out⟩
theorem zRp(h:St w0 w n ws left)(hn:n≤10000000)(hl:0<left)(ad:Nat→Addr)(st:Nat→ByteArray)(hE:Errs w0 ad st)(hW:Wids w0)(a b d:Int)(s:ByteArray)(v:Nat→Int)(ha:I64 a)(hb:I64 b)(hd:I64 d)(hv: ∀i,i<9→-9223372036854775808≤v i∧v i≤9223372036854775807)(hs:s.size≤1000000000):
 Cl 22 #[iP w0.heap.size,opV 14 a b d s v] w fun e w'=>e=rB true∧Next w0 w' n:=by
 obtain⟨tag,ps,h0,hall⟩:=h;have h:=h0.below (zA0 (w:=w) (.cells (opC 14 a b d s v) 79));have HN0:Hid (Next w0 (w.alloc (.cells (opC 14 a b d s v) 79)) n):=St.next ⟨tag,ps,h,hall⟩;obtain⟨v5,hc5,hrow,_⟩:=h.desks;have hpl:=h.plen;by_cases hz:ps.length=0
 ·have: ∃p c,v5=.slice p 0 c:=by
   rcases hrow.2 with⟨rfl,_⟩|⟨g,cap,cur,rfl,_⟩
   ·exact⟨_,_,rfl⟩
   ·exact⟨_,_,by rw[hz]⟩
  obtain⟨p,c,rfl⟩:=this;clear h h0 hall hrow hE hW hz hpl;go_enter Tryz.func22,Tryz.ntmps22;go_wp2;go_ret;exact⟨rfl,HN0.out⟩
 ·obtain⟨gd,cap,rfl⟩: ∃gd cap,v5=sL gd ps.length cap:=by
   rcases hrow.2 with⟨rfl,h0⟩|⟨g,cap,cur,rfl,_⟩
   ·exact absurd h0 hz
   ·exact⟨_,_,rfl⟩
  have hp:=zBs d ps.length (by omega);have hpb:=zAm d ps.length (by omega);have hpk:=fun W=>zAs d (ps.length:Int) W hd.1 hd.2 (by omega) (by omega)
  obtain⟨q,hq⟩: ∃q:Nat,pickN d ps.length=q:=⟨(pickN d ps.length).toNat,by omega⟩;rw[hq]at hp hpb hpk;have hqm:q<ps.length:=by simpa using hp
  have hqI:(q:Int)<(ps.length:Int):=by omega
  have hne:((ps.length:Int) == 0)=false:=beq_eq_false_iff_ne.2 (by omega);have hpq:ps[q]? =some ps[q]:=List.getElem?_eq_getElem hqm;have HPQ:Hid (∀W,Cl 37 #[iV d,iV (ps.length:Int)] W fun e w'=>e=.returned (iV (q:Int))∧w'=W):=hpk;have HDK:Hid (∀X,Same (w.alloc (.cells (opC 14 a b d s v) 79)) X→Cl 36 #[iP w0.heap.size,.pointer (some (iA gd (q*3))),opV 14 a b d s v] X fun e w'=>e=rB true∧(w'.cell? (iA w0.heap.size 5)=some (sL gd ps.length cap)∧cI w' w.heap.size 0 14∧cI w' w.heap.size 1 a∧cI w' w.heap.size 2 b∧cI w' w.heap.size 3 d∧w'.cell? (iA w.heap.size 4)=some (.string s)∧cI w' w.heap.size 5 (v 0)∧cI w' w.heap.size 6 (v 1)∧cI w' w.heap.size 7 (v 2)∧cI w' w.heap.size 8 (v 3)∧cI w' w.heap.size 9 (v 4)∧cI w' w.heap.size 10 (v 5)∧cI w' w.heap.size 11 (v 6)∧cI w' w.heap.size 12 (v 7)∧cI w' w.heap.size 13 (v 8))∧Hid (Next w0 w' n)):=fun X hX=>by
   have hbw:Below (w.alloc (.cells (opC 14 a b d s v) 79)).heap.size (w.alloc (.cells (opC 14 a b d s v) 79)) X:=⟨hX.os,hX.tape,hX.output,by rw[hX.heap];exact Nat.le_refl _,fun k _=>by rw[hX.heap]⟩;refine(zQl (h.below hbw) hall hl (h.cell5 hbw hc5) hpq a b d s v).mono ?_;rintro e w' ⟨rfl,h1,h2,h3⟩;have hbx:=h2 w.heap.size _ (h0.tup _ (Nat.le_refl _)) ((hbw.block w.heap.size (by simp)).trans (heap_alloc_new w _));have hcx: ∀j u,(opC 14 a b d s v)[j]? =some u→w'.cell? (iA w.heap.size j)=some u:=fun j u hj=>by simp only[World.cell?,hbx];simpa using hj
   exact⟨rfl,⟨h3.trans (h.cell5 hbw hc5),hcx 0 _ rfl,hcx 1 _ rfl,hcx 2 _ rfl,hcx 3 _ rfl,hcx 4 _ rfl,hcx 5 _ rfl,hcx 6 _ rfl,hcx 7 _ rfl,hcx 8 _ rfl,hcx 9 _ rfl,hcx 10 _ rfl,hcx 11 _ rfl,hcx 12 _ rfl,hcx 13 _ rfl⟩,h1⟩
  have hlt:=h.lt;have b0:(w.alloc (.cells (opC 14 a b d s v) 79)).cell? (iA w.heap.size 0)=sI 14:=zA w _ _ 0 _ rfl;have b1:(w.alloc (.cells (opC 14 a b d s v) 79)).cell? (iA w.heap.size 1)=sI a:=zA w _ _ 1 _ rfl;have b2:(w.alloc (.cells (opC 14 a b d s v) 79)).cell? (iA w.heap.size 2)=sI b:=zA w _ _ 2 _ rfl;have b3:(w.alloc (.cells (opC 14 a b d s v) 79)).cell? (iA w.heap.size 3)=sI d:=zA w _ _ 3 _ rfl;have b4:(w.alloc (.cells (opC 14 a b d s v) 79)).cell? (iA w.heap.size 4)=some (.string s):=zA w _ _ 4 _ rfl;have b5:(w.alloc (.cells (opC 14 a b d s v) 79)).cell? (iA w.heap.size 5)=sI (v 0):=zA w _ _ 5 _ rfl;have b6:(w.alloc (.cells (opC 14 a b d s v) 79)).cell? (iA w.heap.size 6)=sI (v 1):=zA w _ _ 6 _ rfl;have b7:(w.alloc (.cells (opC 14 a b d s v) 79)).cell? (iA w.heap.size 7)=sI (v 2):=zA w _ _ 7 _ rfl
  have b8:(w.alloc (.cells (opC 14 a b d s v) 79)).cell? (iA w.heap.size 8)=sI (v 3):=zA w _ _ 8 _ rfl;have b9:(w.alloc (.cells (opC 14 a b d s v) 79)).cell? (iA w.heap.size 9)=sI (v 4):=zA w _ _ 9 _ rfl;have b10:(w.alloc (.cells (opC 14 a b d s v) 79)).cell? (iA w.heap.size 10)=sI (v 5):=zA w _ _ 10 _ rfl;have b11:(w.alloc (.cells (opC 14 a b d s v) 79)).cell? (iA w.heap.size 11)=sI (v 6):=zA w _ _ 11 _ rfl;have b12:(w.alloc (.cells (opC 14 a b d s v) 79)).cell? (iA w.heap.size 12)=sI (v 7):=zA w _ _ 12 _ rfl;have b13:(w.alloc (.cells (opC 14 a b d s v) 79)).cell? (iA w.heap.size 13)=sI (v 8):=zA w _ _ 13 _ rfl;clear h h0 hall hrow hE hW hz hpl hp hpb hpk hq hpq HN0;generalize ps.length=ml at *;go_enter Tryz.func22,Tryz.ntmps22;go_wp2_with fail;generalize (w.alloc (.cells (opC 14 a b d s v) 79))=W at *
  go_region_held3(fun X=>X.cell? (iA w0.heap.size 5)=some (sL gd ml cap)∧X.cell? (iA w.heap.size 0)=sI 14∧X.cell? (iA w.heap.size 1)=sI a∧X.cell? (iA w.heap.size 2)=sI b∧X.cell? (iA w.heap.size 3)=sI d∧X.cell? (iA w.heap.size 4)=some (.string s)∧X.cell? (iA w.heap.size 5)=sI (v 0)∧X.cell? (iA w.heap.size 6)=sI (v 1)∧X.cell? (iA w.heap.size 7)=sI (v 2)∧X.cell? (iA w.heap.size 8)=sI (v 3)∧X.cell? (iA w.heap.size 9)=sI (v 4)∧X.cell? (iA w.heap.size 10)=sI (v 5)∧X.cell? (iA w.heap.size 11)=sI (v 6)∧X.cell? (iA w.heap.size 12)=sI (v 7)∧X.cell? (iA w.heap.size 13)=sI (v 8)) (first|exact⟨hc5,b0,b1,b2,b3,b4,b5,b6,b7,b8,b9,b10,b11,b12,b13⟩|exact hS1) (first|(go_at_call 37;refine(HPQ.out _).mono ?_;rintro e w' ⟨rfl,rfl⟩)|(go_at_call 36;refine(HDK.out _ (Same.refl _).drew).mono ?_;rintro e w1 ⟨rfl,hS1,HN⟩));clear hS1;go_wp2;go_ret;exact⟨rfl,HN.out⟩
theorem zRq(h:St w0 w n ws left)(hn:n≤10000000)(hl:0<left)(ad:Nat→Addr)(st:Nat→ByteArray)(hE:Errs w0 ad st)(hW:Wids w0)(a b d:Int)(s:ByteArray)(v:Nat→Int)(ha:I64 a)(hb:I64 b)(hd:I64 d)(hv: ∀i,i<9→-9223372036854775808≤v i∧v i≤9223372036854775807)(hs:s.size≤1000000000):
 Cl 22 #[iP w0.heap.size,opV 15 a b d s v] w fun e w'=>e=rB true∧Next w0 w' n:=by
 obtain⟨tag,ps,h0,hall⟩:=h;have h:=h0.below (zA0 (w:=w) (.cells (opC 15 a b d s v) 79));have HN0:Hid (Next w0 (w.alloc (.cells (opC 15 a b d s v) 79)) n):=St.next ⟨tag,ps,h,hall⟩;obtain⟨v5,hc5,hrow,_⟩:=h.desks;have hpl:=h.plen;by_cases hz:ps.length=0
 ·have: ∃p c,v5=.slice p 0 c:=by
   rcases hrow.2 with⟨rfl,_⟩|⟨g,cap,cur,rfl,_⟩
   ·exact⟨_,_,rfl⟩
   ·exact⟨_,_,by rw[hz]⟩
  obtain⟨p,c,rfl⟩:=this;clear h h0 hall hrow hE hW hz hpl;go_enter Tryz.func22,Tryz.ntmps22;go_wp2;go_ret;exact⟨rfl,HN0.out⟩
 ·obtain⟨gd,cap,rfl⟩: ∃gd cap,v5=sL gd ps.length cap:=by
   rcases hrow.2 with⟨rfl,h0⟩|⟨g,cap,cur,rfl,_⟩
   ·exact absurd h0 hz
   ·exact⟨_,_,rfl⟩
  have hp:=zBs d ps.length (by omega);have hpb:=zAm d ps.length (by omega);have hpk:=fun W=>zAs d (ps.length:Int) W hd.1 hd.2 (by omega) (by omega)
  obtain⟨q,hq⟩: ∃q:Nat,pickN d ps.length=q:=⟨(pickN d ps.length).toNat,by omega⟩;rw[hq]at hp hpb hpk;have hqm:q<ps.length:=by simpa using hp
  have hqI:(q:Int)<(ps.length:Int):=by omega
  have hne:((ps.length:Int) == 0)=false:=beq_eq_false_iff_ne.2 (by omega);have hpq:ps[q]? =some ps[q]:=List.getElem?_eq_getElem hqm;have HPQ:Hid (∀W,Cl 37 #[iV d,iV (ps.length:Int)] W fun e w'=>e=.returned (iV (q:Int))∧w'=W):=hpk;have HDK:Hid (∀X,Same (w.alloc (.cells (opC 15 a b d s v) 79)) X→Cl 36 #[iP w0.heap.size,.pointer (some (iA gd (q*3))),opV 15 a b d s v] X fun e w'=>e=rB true∧(w'.cell? (iA w0.heap.size 5)=some (sL gd ps.length cap)∧cI w' w.heap.size 0 15∧cI w' w.heap.size 1 a∧cI w' w.heap.size 2 b∧cI w' w.heap.size 3 d∧w'.cell? (iA w.heap.size 4)=some (.string s)∧cI w' w.heap.size 5 (v 0)∧cI w' w.heap.size 6 (v 1)∧cI w' w.heap.size 7 (v 2)∧cI w' w.heap.size 8 (v 3)∧cI w' w.heap.size 9 (v 4)∧cI w' w.heap.size 10 (v 5)∧cI w' w.heap.size 11 (v 6)∧cI w' w.heap.size 12 (v 7)∧cI w' w.heap.size 13 (v 8))∧Hid (Next w0 w' n)):=fun X hX=>by
   have hbw:Below (w.alloc (.cells (opC 15 a b d s v) 79)).heap.size (w.alloc (.cells (opC 15 a b d s v) 79)) X:=⟨hX.os,hX.tape,hX.output,by rw[hX.heap];exact Nat.le_refl _,fun k _=>by rw[hX.heap]⟩;refine(zR6 (h.below hbw) hall (h.cell5 hbw hc5) hpq a b d s v).mono ?_;rintro e w' ⟨rfl,h1,h2,h3⟩;have hbx:=h2 w.heap.size _ (h0.tup _ (Nat.le_refl _)) ((hbw.block w.heap.size (by simp)).trans (heap_alloc_new w _));have hcx: ∀j u,(opC 15 a b d s v)[j]? =some u→w'.cell? (iA w.heap.size j)=some u:=fun j u hj=>by simp only[World.cell?,hbx];simpa using hj
   exact⟨rfl,⟨h3.trans (h.cell5 hbw hc5),hcx 0 _ rfl,hcx 1 _ rfl,hcx 2 _ rfl,hcx 3 _ rfl,hcx 4 _ rfl,hcx 5 _ rfl,hcx 6 _ rfl,hcx 7 _ rfl,hcx 8 _ rfl,hcx 9 _ rfl,hcx 10 _ rfl,hcx 11 _ rfl,hcx 12 _ rfl,hcx 13 _ rfl⟩,h1⟩
  have hlt:=h.lt;have b0:(w.alloc (.cells (opC 15 a b d s v) 79)).cell? (iA w.heap.size 0)=sI 15:=zA w _ _ 0 _ rfl;have b1:(w.alloc (.cells (opC 15 a b d s v) 79)).cell? (iA w.heap.size 1)=sI a:=zA w _ _ 1 _ rfl;have b2:(w.alloc (.cells (opC 15 a b d s v) 79)).cell? (iA w.heap.size 2)=sI b:=zA w _ _ 2 _ rfl;have b3:(w.alloc (.cells (opC 15 a b d s v) 79)).cell? (iA w.heap.size 3)=sI d:=zA w _ _ 3 _ rfl;have b4:(w.alloc (.cells (opC 15 a b d s v) 79)).cell? (iA w.heap.size 4)=some (.string s):=zA w _ _ 4 _ rfl;have b5:(w.alloc (.cells (opC 15 a b d s v) 79)).cell? (iA w.heap.size 5)=sI (v 0):=zA w _ _ 5 _ rfl;have b6:(w.alloc (.cells (opC 15 a b d s v) 79)).cell? (iA w.heap.size 6)=sI (v 1):=zA w _ _ 6 _ rfl;have b7:(w.alloc (.cells (opC 15 a b d s v) 79)).cell? (iA w.heap.size 7)=sI (v 2):=zA w _ _ 7 _ rfl
  have b8:(w.alloc (.cells (opC 15 a b d s v) 79)).cell? (iA w.heap.size 8)=sI (v 3):=zA w _ _ 8 _ rfl;have b9:(w.alloc (.cells (opC 15 a b d s v) 79)).cell? (iA w.heap.size 9)=sI (v 4):=zA w _ _ 9 _ rfl;have b10:(w.alloc (.cells (opC 15 a b d s v) 79)).cell? (iA w.heap.size 10)=sI (v 5):=zA w _ _ 10 _ rfl;have b11:(w.alloc (.cells (opC 15 a b d s v) 79)).cell? (iA w.heap.size 11)=sI (v 6):=zA w _ _ 11 _ rfl;have b12:(w.alloc (.cells (opC 15 a b d s v) 79)).cell? (iA w.heap.size 12)=sI (v 7):=zA w _ _ 12 _ rfl;have b13:(w.alloc (.cells (opC 15 a b d s v) 79)).cell? (iA w.heap.size 13)=sI (v 8):=zA w _ _ 13 _ rfl;clear h h0 hall hrow hE hW hz hpl hp hpb hpk hq hpq HN0;generalize ps.length=ml at *;go_enter Tryz.func22,Tryz.ntmps22;go_wp2_with fail;generalize (w.alloc (.cells (opC 15 a b d s v) 79))=W at *
  go_region_held3(fun X=>X.cell? (iA w0.heap.size 5)=some (sL gd ml cap)∧X.cell? (iA w.heap.size 0)=sI 15∧X.cell? (iA w.heap.size 1)=sI a∧X.cell? (iA w.heap.size 2)=sI b∧X.cell? (iA w.heap.size 3)=sI d∧X.cell? (iA w.heap.size 4)=some (.string s)∧X.cell? (iA w.heap.size 5)=sI (v 0)∧X.cell? (iA w.heap.size 6)=sI (v 1)∧X.cell? (iA w.heap.size 7)=sI (v 2)∧X.cell? (iA w.heap.size 8)=sI (v 3)∧X.cell? (iA w.heap.size 9)=sI (v 4)∧X.cell? (iA w.heap.size 10)=sI (v 5)∧X.cell? (iA w.heap.size 11)=sI (v 6)∧X.cell? (iA w.heap.size 12)=sI (v 7)∧X.cell? (iA w.heap.size 13)=sI (v 8)) (first|exact⟨hc5,b0,b1,b2,b3,b4,b5,b6,b7,b8,b9,b10,b11,b12,b13⟩|exact hS1) (first|(go_at_call 37;refine(HPQ.out _).mono ?_;rintro e w' ⟨rfl,rfl⟩)|(go_at_call 36;refine(HDK.out _ (Same.refl _).drew).mono ?_;rintro e w1 ⟨rfl,hS1,HN⟩));clear hS1;go_wp2;go_ret;exact⟨rfl,HN.out⟩
theorem zRr(h:St w0 w n ws left)(hn:n≤10000000)(hl:0<left)(kind a b d:Int)(s:ByteArray)(v:Nat→Int)(ha:I64 a)(hb:I64 b)(hs:s.size≤1000000000):
 Cl 38 #[iP w0.heap.size,opV kind a b d s v] w fun e w'=>e=rV #[]∧Next w0 w' n:=by
 by_cases k1:kind=1
 ·subst k1;exact zQ5 h a b d s v (by omega) ha
 by_cases k2:kind=2
 ·subst k2;exact zQ6 h a b d s v (by omega) ha hb
 by_cases k4:kind=4
 ·subst k4;exact zQ h a b d s v (by omega) ha hs hl
 by_cases k5:kind=5
 ·subst k5;exact zQ0 h a b d s v (by omega) ha hb hl
 by_cases k6:kind=6
 ·subst k6;exact zQz h a b d s v (by omega) ha hb hl
 by_cases k7:kind=7
 ·subst k7;exact zQ1 h a b d s v (by omega) ha hb hl
 by_cases k8:kind=8
 ·subst k8;exact zQ2 h a b d s v (by omega) ha hb hl
 by_cases k17:kind=17
 ·subst k17;exact zQ3 h a b d s v (by omega) ha hb hl
 exact zQ4 h kind a b d s v (by omega) ha hb hl k1 k2 k4 k5 k6 k7 k8 k17
theorem zRs(kind:Int)(k3:kind≠3)(k9:kind≠9)(k10:kind≠10)(k16:kind≠16)(k11:kind≠11)(k12:kind≠12)(k13:kind≠13)(k14:kind≠14)(k15:kind≠15)(h:St w0 w n ws left)(hn:n≤10000000)(hl:0<left)(ad:Nat→Addr)(st:Nat→ByteArray)(hE:Errs w0 ad st)(hW:Wids w0)(a b d:Int)(s:ByteArray)(v:Nat→Int)(ha:I64 a)(hb:I64 b)(hd:I64 d)(hv: ∀i,i<9→-9223372036854775808≤v i∧v i≤9223372036854775807)(hs:s.size≤1000000000):
 Cl 22 #[iP w0.heap.size,opV kind a b d s v] w fun e w'=>e=rB true∧Next w0 w' n:=by
 have HS:Hid (St w0 (w.alloc (.cells (opC kind a b d s v) 79)) n ws left):=h.below (zA0 _);have e3:=beq_eq_false_iff_ne.2 k3;have e9:=beq_eq_false_iff_ne.2 k9;have e10:=beq_eq_false_iff_ne.2 k10;have e16:=beq_eq_false_iff_ne.2 k16;have e11:=beq_eq_false_iff_ne.2 k11;have e12:=beq_eq_false_iff_ne.2 k12;have e13:=beq_eq_false_iff_ne.2 k13;have e14:=beq_eq_false_iff_ne.2 k14;have e15:=beq_eq_false_iff_ne.2 k15;go_enter Tryz.func22,Tryz.ntmps22;go_wp2_with fail;refine(zRr HS hn hl kind a b d s v ha hb hs).mono ?_;rintro e w1 ⟨rfl,hN⟩;have HN:Hid (Next w0 w1 n):=hN;go_wp2;go_ret;exact⟨rfl,HN⟩
theorem zRt(hA:AudOk w0)(h:St w0 w n ws left)(hn:n≤10000000)(hl:0<left)(ad:Nat→Addr)(st:Nat→ByteArray)(hE:Errs w0 ad st)(hW:Wids w0)(kind:Int)(a b d:Int)(s:ByteArray)(v:Nat→Int)(ha:I64 a)(hb:I64 b)(hd:I64 d)(hv: ∀i,i<9→-9223372036854775808≤v i∧v i≤9223372036854775807)(hs:s.size≤1000000000):
 Cl 22 #[iP w0.heap.size,opV kind a b d s v] w fun e w'=>(∃r,e=rB r∧(kind≠16→r=true))∧Next w0 w' n:=by
 have lift: ∀{k:Int},(Cl 22 #[iP w0.heap.size,opV k a b d s v] w fun e w'=>e=rB true∧Next w0 w' n)→Cl 22 #[iP w0.heap.size,opV k a b d s v] w fun e w'=>(∃r,e=rB r∧(k≠16→r=true))∧Next w0 w' n:=fun h=>h.mono (by
  rintro e w' ⟨rfl,h2⟩;exact⟨⟨true,rfl,fun _=>rfl⟩,h2⟩)
 by_cases k3:kind=3
 ·subst k3;exact lift (zRi h hn hl ad st hE hW a b d s v ha hb hd hv hs)
 by_cases k9:kind=9
 ·subst k9;exact lift (zRj h hn hl ad st hE hW a b d s v ha hb hd hv hs)
 by_cases k10:kind=10
 ·subst k10;exact lift (zRk h hn hl ad st hE hW a b d s v ha hb hd hv hs)
 by_cases k11:kind=11
 ·subst k11;exact lift (zRm h hn hl ad st hE hW a b d s v ha hb hd hv hs)
 by_cases k12:kind=12
 ·subst k12;exact lift (zRn h hn hl ad st hE hW a b d s v ha hb hd hv hs)
 by_cases k13:kind=13
 ·subst k13;exact lift (zRo h hn hl ad st hE hW a b d s v ha hb hd hv hs)
 by_cases k14:kind=14
 ·subst k14;exact lift (zRp h hn hl ad st hE hW a b d s v ha hb hd hv hs)
 by_cases k15:kind=15
 ·subst k15;exact lift (zRq h hn hl ad st hE hW a b d s v ha hb hd hv hs)
 by_cases k16:kind=16
 ·subst k16;refine(zRl hA h hn hl ad st hE hW a b d s v ha hb hd hv hs).mono ?_;rintro e w' ⟨⟨r,rfl⟩,h2⟩;exact⟨⟨r,rfl,fun q=>absurd rfl q⟩,h2⟩
 exact lift (zRs kind k3 k9 k10 k16 k11 k12 k13 k14 k15 h hn hl ad st hE hW a b d s v ha hb hd hv hs)
end
abbrev world0:Array Value:=#[.int .i64 0,.int .i64 0,.int .i64 0,.slice none 0 0,.slice none 0 0,.slice none 0 0,.slice none 0 0,.int .i64 0,.int .i64 1048576]
theorem St.init(w:World):St w (w.alloc (.cells world0 86)) 0 [] 1048576:=by
 have hc: ∀j u,world0[j]? =some u→(w.alloc (.cells world0 86)).cell? ⟨w.heap.size,j,none⟩=some u:=fun j u h=>zA w _ _ j u h
 refine⟨fun _=>.own,[],⟨(Below.refl _ _).alloc (Nat.le_refl _) _,⟨_,heap_alloc_new w _⟩,fun _ _=>rfl,fun _ _=>rfl,⟨0,hc 0 _ rfl⟩,⟨0,hc 1 _ rfl⟩,⟨0,hc 2 _ rfl⟩,⟨_,[],hc 3 _ rfl,World.ownsRow_nil _ _ _ _,fun _ _=>rfl,fun u h=>absurd h List.not_mem_nil,Nat.le_refl _⟩,⟨_,hc 4 _ rfl,World.ownsRow_nil _ _ _ _,fun _ _=>rfl⟩,Nat.le_refl _,⟨_,hc 5 _ rfl,World.ownsRow_nil _ _ _ _,fun _ _=>rfl⟩,Nat.le_refl _,fun i p h=>by simp at h,⟨_,0,[],hc 6 _ rfl,World.ownsRow_nil _ _ _ _,fun _ _=>rfl,ListsOk.nil _ _,Nat.le_refl _⟩,⟨0,hc 7 _ rfl⟩,hc 8 _ rfl,by simp[sizes]⟩,fun p h=>absurd h List.not_mem_nil⟩
structure Scr(w:World)(g o L:Nat)(K A B D:Nat→Int)(S:Nat→ByteArray)(V:Nat→Nat→Int):Prop where
 k: ∀i,i<L→w.cell? ⟨g,o+i*14,none⟩=some (.int .i64 (K i))
 a: ∀i,i<L→w.cell? ⟨g,o+i*14+1,none⟩=some (.int .i64 (A i))
 b: ∀i,i<L→w.cell? ⟨g,o+i*14+2,none⟩=some (.int .i64 (B i))
 d: ∀i,i<L→w.cell? ⟨g,o+i*14+3,none⟩=some (.int .i64 (D i))
 s: ∀i,i<L→w.cell? ⟨g,o+i*14+4,none⟩=some (.string (S i))
 v: ∀i j,i<L→j<9→w.cell? ⟨g,o+i*14+(5+j),none⟩=some (.int .i64 (V i j))
 ra: ∀i,i<L→I64 (A i)
 rb: ∀i,i<L→I64 (B i)
 rd: ∀i,i<L→I64 (D i)
 rv: ∀i j,i<L→j<9→-9223372036854775808≤V i j∧V i j≤9223372036854775807
 lt:g<w.heap.size
theorem zRu(w:World)(hA:AudOk w)(ad:Nat→Addr)(st:Nat→ByteArray)(hE:Errs w ad st)(hW:Wids w)(g o L c:Nat)(K A B D:Nat→Int)(S:Nat→ByteArray)(V:Nat→Nat→Int)(hsc:Scr w g o L K A B D S V)(hL:L≤1048576)(hS: ∀i,i<L→(S i).size≤1048576)(held:Int)(hh:held=8∨held=512∨held=1024∨held=38912∨held=10240∨held=18432)(lists:Bool):
 Calls Tryz.prog 14 #[.slice (some ⟨g,o,none⟩) L c,.int .i64 held,.bool lists] w fun e w'=>e=.returned (.int .i64 (-1))∧Below w.heap.size w w':=by
 have HA:=hid hA;have HH:=hid hh;clear hh;have HE:Hid (Errs w ad st):=hE;have HW:Hid (Wids w):=hW;have HSC:Hid (Scr w g o L K A B D S V):=hsc;have HSS:Hid (∀i,i<L→(S i).size≤1048576):=hS;clear hE hW hsc hS hA;go_enter Tryz.func14,Tryz.ntmps14;go_wp2_with fail;go_loopw [8] (fun i wr=> ∃(j:Nat) (ws:List ByteArray) (left:Int),i=.int .i64 j∧j≤L∧St w wr (2*j) ws left) (fun i _=>L - (intOf i).toNat)
 case atStart=>exact⟨0,[],1048576,rfl,Nat.zero_le _,St.init w⟩
 case round=>
  obtain⟨j,ws,left,rfl,hj,hst⟩:=hrel;have HST:Hid (St w wr (2*j) ws left):=hst;have HL:Hid (Below w.heap.size w wr):=hst.low;have hlft:=hst.lft;clear hst;by_cases hlt:j<L
  ·have hjI:(j:Int)<(L:Int):=by omega
   by_cases hpos:0<left
   ·have ck:wr.cell? ⟨g,o+j*14,none⟩=some (.int .i64 (K j)):=(HL.out.cell (p:=⟨g,o+j*14,none⟩) HSC.out.lt).trans (HSC.out.k j hlt);have ca:wr.cell? ⟨g,o+j*14+1,none⟩=some (.int .i64 (A j)):=(HL.out.cell (p:=⟨g,o+j*14+1,none⟩) HSC.out.lt).trans (HSC.out.a j hlt);have cb:wr.cell? ⟨g,o+j*14+2,none⟩=some (.int .i64 (B j)):=(HL.out.cell (p:=⟨g,o+j*14+2,none⟩) HSC.out.lt).trans (HSC.out.b j hlt);have cd:wr.cell? ⟨g,o+j*14+3,none⟩=some (.int .i64 (D j)):=(HL.out.cell (p:=⟨g,o+j*14+3,none⟩) HSC.out.lt).trans (HSC.out.d j hlt);have cs:wr.cell? ⟨g,o+j*14+4,none⟩=some (.string (S j)):=(HL.out.cell (p:=⟨g,o+j*14+4,none⟩) HSC.out.lt).trans (HSC.out.s j hlt);have v0:wr.cell? ⟨g,o+j*14+5,none⟩=some (.int .i64 (V j 0)):=(HL.out.cell (p:=⟨g,o+j*14+5,none⟩) HSC.out.lt).trans (HSC.out.v j 0 hlt (by omega))
    have v1:wr.cell? ⟨g,o+j*14+6,none⟩=some (.int .i64 (V j 1)):=(HL.out.cell (p:=⟨g,o+j*14+6,none⟩) HSC.out.lt).trans (HSC.out.v j 1 hlt (by omega));have v2:wr.cell? ⟨g,o+j*14+7,none⟩=some (.int .i64 (V j 2)):=(HL.out.cell (p:=⟨g,o+j*14+7,none⟩) HSC.out.lt).trans (HSC.out.v j 2 hlt (by omega));have v3:wr.cell? ⟨g,o+j*14+8,none⟩=some (.int .i64 (V j 3)):=(HL.out.cell (p:=⟨g,o+j*14+8,none⟩) HSC.out.lt).trans (HSC.out.v j 3 hlt (by omega));have v4:wr.cell? ⟨g,o+j*14+9,none⟩=some (.int .i64 (V j 4)):=(HL.out.cell (p:=⟨g,o+j*14+9,none⟩) HSC.out.lt).trans (HSC.out.v j 4 hlt (by omega));have v5:wr.cell? ⟨g,o+j*14+10,none⟩=some (.int .i64 (V j 5)):=(HL.out.cell (p:=⟨g,o+j*14+10,none⟩) HSC.out.lt).trans (HSC.out.v j 5 hlt (by omega));have v6:wr.cell? ⟨g,o+j*14+11,none⟩=some (.int .i64 (V j 6)):=(HL.out.cell (p:=⟨g,o+j*14+11,none⟩) HSC.out.lt).trans (HSC.out.v j 6 hlt (by omega))
    have v7:wr.cell? ⟨g,o+j*14+12,none⟩=some (.int .i64 (V j 7)):=(HL.out.cell (p:=⟨g,o+j*14+12,none⟩) HSC.out.lt).trans (HSC.out.v j 7 hlt (by omega));have v8:wr.cell? ⟨g,o+j*14+13,none⟩=some (.int .i64 (V j 8)):=(HL.out.cell (p:=⟨g,o+j*14+13,none⟩) HSC.out.lt).trans (HSC.out.v j 8 hlt (by omega));have HSTEP:Hid (Calls Tryz.prog 22 #[.pointer (some ⟨w.heap.size,0,none⟩),opV (K j) (A j) (B j) (D j) (S j) (V j)] wr fun e w'=>(∃r,e=.returned (.bool r)∧(K j≠16→r=true))∧Next w w' (2*j)):=zRt HA.out HST.out (by omega) hpos ad st HE.out HW.out (K j) (A j) (B j) (D j) (S j) (V j) (HSC.out.ra j hlt) (HSC.out.rb j hlt) (HSC.out.rd j hlt) (fun q hq=>HSC.out.rv j q hlt hq) (Nat.le_trans (HSS.out j hlt) (by decide));have HMONO:Hid (St w wr (2*(j+1)) ws left):=HST.out.mono (by omega);generalize K j=kk at *;by_cases hk1:kk<1
    ·go_wp2;go_roundw
     case rel=>exact⟨j+1,ws,left,by go_num,by omega,HMONO.out⟩
     case measure=>simp[intOf];omega
    by_cases hk17:17<kk
    ·go_wp2;go_roundw
     case rel=>exact⟨j+1,ws,left,by go_num,by omega,HMONO.out⟩
     case measure=>simp[intOf];omega
    go_wp2_with fail;refine HSTEP.out.mono ?_;rintro e w2 ⟨⟨r,rfl,hr⟩,ws2,left2,hS2⟩;have HS2:Hid (St w w2 (2*(j+1)) ws2 left2):=hS2;clear hS2 HSTEP ck ca cb cd cs v0 v1 v2 v3 v4 v5 v6 v7 v8;cases r
    ·have hkk:kk=16:=Classical.byContradiction fun q=>Bool.noConfusion (hr q)
     subst hkk;clear hr hk1 hk17;rcases HH.out with rfl|rfl|rfl|rfl|rfl|rfl;all_goals
      go_wp2_with fail;refine(zGz HS2.out (by omega)).mono ?_;rintro e w3 ⟨rfl,q3,rfl⟩;have HS3:Hid (St w (w2.drewN q3) (2*(j+1)) ws2 left2):=HS2.out.drewN q3;go_wp2;go_roundw
      case rel=>exact⟨j+1,ws2,left2,by go_num,by omega,HS3.out⟩
      case measure=>simp[intOf];omega
    ·clear hr;go_wp2_with fail;refine(zGz HS2.out (by omega)).mono ?_;rintro e w3 ⟨rfl,q3,rfl⟩;have HS3:Hid (St w (w2.drewN q3) (2*(j+1)) ws2 left2):=HS2.out.drewN q3;go_wp2;go_roundw
     case rel=>exact⟨j+1,ws2,left2,by go_num,by omega,HS3.out⟩
     case measure=>simp[intOf];omega
   ·go_wp2;go_ret;exact⟨rfl,HL.out⟩
  ·have hjL: ¬(j:Int)<(L:Int):=by omega
   go_wp2;go_ret;exact⟨rfl,HL.out⟩
def SmallBack(L:Nat)(S:Nat→ByteArray)(e:Ending):Prop:= ∃r,e=rB r∧(r=true→L≤1048576∧∀i,i<L→(S i).size≤1048576)
theorem zRv(w:World)(g o L c:Nat)(K A B D:Nat→Int)(S:Nat→ByteArray)(V:Nat→Nat→Int)(hsc:Scr w g o L K A B D S V)(hL:L≤9000000000000000000)(hS: ∀i,i<L→(S i).size≤9000000000000000000):
 Cl 13 #[.slice (some (iA g o)) L c] w fun e w'=>SmallBack L S e∧w'=w:=by
 have HSC:=hid hsc;have HSS:=hid hS;by_cases hbig:1048576<L
 ·have hb:(1048576:Int)<(L:Int):=by omega
  have hnb: ¬L≤1048576:=by omega
  go_enter Tryz.func13,Tryz.ntmps13;go_wp2;go_ret;exact⟨⟨_,rfl,fun q=>Bool.noConfusion q⟩,rfl⟩
 ·have hb: ¬(1048576:Int)<(L:Int):=by omega
  have HL:Hid (L≤1048576):=by show L≤1048576;omega
  go_enter Tryz.func13,Tryz.ntmps13;go_wp2_with fail;go_loopw [3,4] (fun s i wr=> ∃(j N:Nat),i=iV j∧s=iV N∧j≤L∧N≤1048576∧(∀i,i<j→(S i).size≤1048576)∧wr=w) (fun _ i _=>L - (intOf i).toNat)
  case atStart=>exact⟨0,L,rfl,rfl,Nat.zero_le _,HL,fun i h=>absurd h (Nat.not_lt_zero i),rfl⟩
  case round=>
   obtain⟨j,N,rfl,rfl,hj,hN,hall,rfl⟩:=hrel;have HALL:=hid hall;by_cases hlt:j<L
   ·have hjI:(j:Int)<(L:Int):=by omega
    have cs:=HSC.s j hlt;have hsz:=HSS j hlt;obtain⟨sj,hsj⟩: ∃sj,S j=sj:=⟨_,rfl⟩;have HSJ:=hid hsj;rw[hsj]at cs hsz;by_cases hgt:1048576<N+sj.size
    ·have hg:(1048576:Int)<(N:Int)+(sj.size:Int):=by omega
     have hw:wrap64 ((N:Int)+(sj.size:Int))=(N:Int)+(sj.size:Int):=by unfold wrap64;omega
     go_wp2;go_ret;exact⟨⟨_,rfl,fun q=>Bool.noConfusion q⟩,rfl⟩
    ·have hg: ¬(1048576:Int)<(N:Int)+(sj.size:Int):=by omega
     have hw:wrap64 ((N:Int)+(sj.size:Int))=(N:Int)+(sj.size:Int):=by unfold wrap64;omega
     have HR:Hid (∀i,i<j+1→(S i).size≤1048576):=fun i hi=>by
      by_cases e:i<j
      ·exact HALL i e
      ·have:i=j:=by omega
       subst this;rw[HSJ.out];omega
     go_wp2;go_roundw
     case rel=>exact⟨j+1,N+sj.size,by go_num,by first|rfl|go_num|(push_cast;rfl),by omega,by omega,HR,by first|rfl|trivial⟩
     case measure=>simp[intOf];omega
   ·have hjL: ¬(j:Int)<(L:Int):=by omega
    have hjl:j=L:=by omega
    have HF:Hid (L≤1048576∧∀i,i<L→(S i).size≤1048576):=⟨HL,fun i hi=>HALL i (by omega)⟩;go_wp2;go_ret;exact⟨⟨_,rfl,fun _=>HF⟩,rfl⟩
theorem zRw(w:World)(p:Option Addr)(c:Nat):Calls Tryz.prog 13 #[.slice p 0 c] w fun e w'=>e=.returned (.bool true)∧w'=w:=by
 go_enter Tryz.func13,Tryz.ntmps13;go_wp2_with fail;go_loopw [3,4] (fun s i wr=>s=.int .i64 0∧i=.int .i64 0∧wr=w) (fun _ _ _=>0)
 case atStart=>exact⟨rfl,rfl,rfl⟩
 case round=>
  obtain⟨rfl,rfl,rfl⟩:=hrel;go_wp2;go_ret;exact⟨rfl,rfl⟩
theorem zRx(w:World)(p:Option Addr)(c:Nat)(held:Int)(lists:Bool):Calls Tryz.prog 14 #[.slice p 0 c,.int .i64 held,.bool lists] w fun e w'=>e=.returned (.int .i64 (-1))∧Below w.heap.size w w':=by
 go_enter Tryz.func14,Tryz.ntmps14;go_wp2_with fail;have HB:Hid (Below w.heap.size w (w.alloc (.cells world0 86))):=zA0 _;have hl:(w.alloc (.cells world0 86)).cell? ⟨w.heap.size,8,none⟩=some (.int .i64 1048576):=zA w _ _ 8 _ rfl;generalize w.alloc (.cells world0 86)=W at *;go_loopw [8] (fun i wr=>i=.int .i64 0∧wr=W) (fun _ _=>0)
 case atStart=>exact⟨rfl,rfl⟩
 case round=>
  obtain⟨rfl,rfl⟩:=hrel;go_wp2;go_ret;exact⟨rfl,HB.out⟩
def Script(w:World)(v:Value):Prop:=(∃p c,v=.slice p 0 c)∨∃g o L c K A B D S V,v=.slice (some ⟨g,o,none⟩) L c∧Scr w g o L K A B D S V∧L≤9000000000000000000∧∀i,i<L→(S i).size≤9000000000000000000
theorem zRy(w:World)(hA:AudOk w)(ad:Nat→Addr)(st:Nat→ByteArray)(hE:Errs w ad st)(hW:Wids w)(v:Value)(h:Script w v)(held:Int)(hh:held=8∨held=512∨held=1024∨held=38912∨held=10240∨held=18432)(lists:Bool):
 Calls Tryz.prog 8 #[v,.int .i64 held,.bool lists] w fun e w'=>e=.returned (.bool true)∧Below w.heap.size w w':=by
 rcases h with⟨p,c,rfl⟩|⟨g,o,L,c,K,A,B,D,S,V,rfl,hsc,hL,hS⟩
 ·go_enter Tryz.func8,Tryz.ntmps8;go_wp2_with fail;refine(zRw _ p c).mono ?_;rintro e w1 ⟨rfl,rfl⟩;go_wp2_with fail;refine(zRx _ p c held lists).mono ?_;rintro e w2 ⟨rfl,hb⟩;have HB:Hid (Below w1.heap.size w1 w2):=hb;clear hb;go_wp2;go_ret;exact⟨rfl,HB.out⟩
 ·have HSM:=zRv w g o L c K A B D S V hsc hL hS;have HUP:=fun(q:L≤1048576) (q2: ∀i,i<L→(S i).size≤1048576)=>zRu w hA ad st hE hW g o L c K A B D S V hsc q q2 held hh lists
  have HSM':Hid (Calls Tryz.prog 13 #[.slice (some ⟨g,o,none⟩) L c] w fun e w'=>SmallBack L S e∧w'=w):=HSM;have HUP':Hid (L≤1048576→(∀i,i<L→(S i).size≤1048576)→Calls Tryz.prog 14 #[.slice (some ⟨g,o,none⟩) L c,.int .i64 held,.bool lists] w fun e w'=>e=.returned (.int .i64 (-1))∧Below w.heap.size w w'):=HUP;clear HSM HUP hsc hL hS hE hW hA hh;go_enter Tryz.func8,Tryz.ntmps8;go_wp2_with fail;refine HSM'.out.mono ?_;rintro e w1 ⟨⟨r,rfl,hr⟩,rfl⟩;cases r
  ·clear hr;go_wp2;go_ret;exact⟨rfl,Below.refl _ _⟩
  ·have HX:=HUP'.out (hr rfl).1 (hr rfl).2;have HX':Hid (Calls Tryz.prog 14 #[.slice (some ⟨g,o,none⟩) L c,.int .i64 held,.bool lists] w1 fun e w'=>e=.returned (.int .i64 (-1))∧Below w1.heap.size w1 w'):=HX;clear hr HX;go_wp2_with fail;refine HX'.out.mono ?_;rintro e w2 ⟨rfl,hb⟩;have HB:Hid (Below w1.heap.size w1 w2):=hb;clear hb;go_wp2;go_ret;exact⟨rfl,HB.out⟩
theorem zEe(w:World)(hA: ∀w',Below w.heap.size w w'→AudOk w')(ad:Nat→Addr)(st:Nat→ByteArray)(hE:Errs w ad st)(hW:Wids w)(v:Value)(h: ∀w',Below w.heap.size w w'→Script w' v)(held:Int)(hh:held=8∨held=512∨held=1024∨held=38912∨held=10240∨held=18432)(lists:Bool):
 Calls Tryz.prog 6 #[v,.int .i64 held,.bool lists] w fun e w'=>e=.returned (.bool true)∧Below w.heap.size w w':=by
 have HAL:=hid (zRe w hE hW);have HP:Hid (∀w',Below w.heap.size w w'→Calls Tryz.prog 8 #[v,.int .i64 held,.bool lists] w' fun e w2=>e=.returned (.bool true)∧Hid (Below w.heap.size w w2)):=fun w' hb=>(zRy w' (hA w' hb) ad st (hE.below hb) (hW.below hb) v (h w' hb) held hh lists).mono (by
  rintro e w2 ⟨rfl,h2⟩;exact⟨rfl,hb.trans (h2.mono hb.size)⟩)
 have hsl: ∃p n c,v=.slice p n c:=by
  rcases h w (Below.refl _ _) with⟨p,c,rfl⟩|⟨g,o,L,c,K,A,B,D,S,V,rfl,_⟩
  ·exact⟨_,_,_,rfl⟩
  ·exact⟨_,_,_,rfl⟩
 obtain⟨p,n,c,rfl⟩:=hsl;clear hA hE hW h hh;go_enter Tryz.func6,Tryz.ntmps6;go_wp2_with fail;refine HAL.out.mono ?_;rintro e w1 ⟨rfl,hb⟩;have HP1:=hid (HP.out w1 hb);clear HP HAL hb;go_wp2_with fail;refine HP1.out.mono ?_;rintro e w2 ⟨rfl,HB2⟩;go_wp2;go_ret;exact⟨rfl,HB2.out⟩
theorem zRz(w:World)(hA: ∀w',Below w.heap.size w w'→AudOk w')(ad:Nat→Addr)(st:Nat→ByteArray)(hE:Errs w ad st)(hW:Wids w)(v:Value)(h: ∀w',Below w.heap.size w w'→Script w' v):
 Calls Tryz.prog 3 #[v] w fun e w'=>e=.returned (.bool true)∧Below w.heap.size w w':=by
 have HP:=hid (zEe w hA ad st hE hW v h 38912 (by decide) false);clear h hE hW hA;go_enter Tryz.func3,Tryz.ntmps3;go_wp2_with fail;refine HP.out.mono ?_;rintro e w1 ⟨rfl,hb⟩;have HB:Hid (Below w.heap.size w w1):=hb;clear hb;go_wp2;go_ret;exact⟨rfl,HB.out⟩
theorem zSw(w:World)(hA: ∀w',Below w.heap.size w w'→AudOk w')(ad:Nat→Addr)(st:Nat→ByteArray)(hE:Errs w ad st)(hW:Wids w)(v:Value)(h: ∀w',Below w.heap.size w w'→Script w' v):
 Calls Tryz.prog 4 #[v] w fun e w'=>e=.returned (.bool true)∧Below w.heap.size w w':=by
 have HP:=hid (zEe w hA ad st hE hW v h 10240 (by decide) false);clear h hE hW hA;go_enter Tryz.func4,Tryz.ntmps4;go_wp2_with fail;refine HP.out.mono ?_;rintro e w1 ⟨rfl,hb⟩;have HB:Hid (Below w.heap.size w w1):=hb;clear hb;go_wp2;go_ret;exact⟨rfl,HB.out⟩
theorem zSx(w:World)(hA: ∀w',Below w.heap.size w w'→AudOk w')(ad:Nat→Addr)(st:Nat→ByteArray)(hE:Errs w ad st)(hW:Wids w)(v:Value)(h: ∀w',Below w.heap.size w w'→Script w' v):
 Calls Tryz.prog 5 #[v] w fun e w'=>e=.returned (.bool true)∧Below w.heap.size w w':=by
 have HP:=hid (zEe w hA ad st hE hW v h 18432 (by decide) false);clear h hE hW hA;go_enter Tryz.func5,Tryz.ntmps5;go_wp2_with fail;refine HP.out.mono ?_;rintro e w1 ⟨rfl,hb⟩;have HB:Hid (Below w.heap.size w w1):=hb;clear hb;go_wp2;go_ret;exact⟨rfl,HB.out⟩
theorem fifteen{α:Type}: ∀{xs:List α},15≤xs.length→∃a0 a1 a2 a3 a4 a5 a6 a7 a8 a9 a10 a11 a12 a13 a14 r,xs=a0::a1::a2::a3::a4::a5::a6::a7::a8::a9::a10::a11::a12::a13::a14::r:=by
 intro xs h;rcases xs with _|⟨a0,_|⟨a1,_|⟨a2,_|⟨a3,_|⟨a4,_|⟨a5,_|⟨a6,_|⟨a7,_|⟨a8,_|⟨a9,_|⟨a10,_|⟨a11,_|⟨a12,_|⟨a13,_|⟨a14,r⟩⟩⟩⟩⟩⟩⟩⟩⟩⟩⟩⟩⟩⟩⟩;all_goals first
  |exact⟨_,_,_,_,_,_,_,_,_,_,_,_,_,_,_,_,rfl⟩
  |(simp at h;done)
  |(simp at h;omega)
theorem zHd: ∀(m:Nat) (xs:List Value),xs.length=m*15→(∀u∈xs,∃x,u=.int .i64 x)→∃l:List Ord,l.length=m∧rows l=xs
 |0,xs,h,_=>⟨[],rfl,by
  have e:xs= []:=List.eq_nil_of_length_eq_zero (by omega);rw[e];rfl⟩
 |m+1,xs,h,hx=>by
  obtain⟨a0,a1,a2,a3,a4,a5,a6,a7,a8,a9,a10,a11,a12,a13,a14,r,rfl⟩:=fifteen (xs:=xs) (by omega);obtain⟨x0,rfl⟩:=hx a0 (by simp);obtain⟨x1,rfl⟩:=hx a1 (by simp);obtain⟨x2,rfl⟩:=hx a2 (by simp);obtain⟨x3,rfl⟩:=hx a3 (by simp);obtain⟨x4,rfl⟩:=hx a4 (by simp);obtain⟨x5,rfl⟩:=hx a5 (by simp);obtain⟨x6,rfl⟩:=hx a6 (by simp);obtain⟨x7,rfl⟩:=hx a7 (by simp);obtain⟨x8,rfl⟩:=hx a8 (by simp);obtain⟨x9,rfl⟩:=hx a9 (by simp);obtain⟨x10,rfl⟩:=hx a10 (by simp);obtain⟨x11,rfl⟩:=hx a11 (by simp);obtain⟨x12,rfl⟩:=hx a12 (by simp);obtain⟨x13,rfl⟩:=hx a13 (by simp);obtain⟨x14,rfl⟩:=hx a14 (by simp);obtain⟨l,hl,hr⟩:=zHd m r (by simp only[List.length_cons]at h;omega) (fun u hu=>hx u (by simp[hu]));exact⟨⟨x0,x1,x2,x3,x4,x5,x6,x7,x8,x9,x10,x11,x12,x13,x14⟩::l,by rw[List.length_cons,hl],by rw[←hr];rfl⟩
theorem SR.orders{base:Nat}{w:World}{v:Value}{m:Nat}(h:SR base w v m): ∃l:List Ord,l.length=m∧OR base w v l:=by
 obtain⟨xs,h1,h2⟩:=h;obtain⟨l,hl,hr⟩:=zHd m xs h1.1 h2;refine⟨l,hl,?_⟩;unfold OR;rw[hl,hr];exact h1
theorem zS(t:ByteArray)(w:World):Calls Tryz.prog 116 #[.string t] w fun e w'=>e=.returned (.tuple #[.slice none 0 0,.int .i64 0,.int .i64 (-1)])∧w'=w:=by
 have HC:Hid (∀W,Calls Tryz.prog 146 #[.string t] W fun e w'=>e=.returned (.tuple #[.slice none 0 0,.nilIface])∧w'=W):=fun W=>by
  go_enter Tryz.func146,Tryz.ntmps146;go_wp2;go_ret2;exact⟨rfl,rfl⟩
 go_enter Tryz.func116,Tryz.ntmps116;go_wp2_with fail;refine(HC.out _).mono ?_;rintro e w1 ⟨rfl,rfl⟩;go_wp2_with fail;refine(zC3 _).mono ?_;rintro e w2 ⟨rfl,rfl⟩;go_wp2;go_ret3;exact⟨rfl,rfl⟩
theorem zS0(w0:World):AudOk w0:=by
 intro w n ws left t h hn ht;obtain⟨tag,ps,h,hall⟩:=h;have HRA:Hid (∀W,Calls Tryz.prog 117 #[.string t] W fun e w'=>AudBack W e w'):=fun W=>zR8 t W ht
 have HS:Hid (StT tag ps w0 w n ws left):=h;have HALL:Hid (∀p∈ps,p.all.size≤sizes ws):=hall;have HNN:=hid hn;clear h hall hn ht;go_enter Tryz.func72,Tryz.ntmps72;go_wp2_with fail;refine(zS t _).mono ?_;rintro e w1 ⟨rfl,rfl⟩;go_wp2_with fail;refine(HRA.out w1).mono ?_;rintro e w2 ⟨v,m,n2,k2,rfl,h1,h2,h3⟩;have HS2:Hid (StT tag ps w0 w2 n ws left):=HS.out.below h3;by_cases e1:n2=0
 ·subst e1;obtain⟨l,hl,hor⟩:=h1.orders;have HL:Hid (l.length≤100000000):=by show _≤_;omega
  have HSC:=hid (zHa w1.heap.size w2 v l hor (by omega));obtain⟨pv,nv,cv,rfl⟩: ∃pl nl cl,v=.slice pl nl cl:=by
   rcases hor.2 with⟨rfl,_⟩|⟨g,cap,cur,h,_⟩
   ·exact⟨_,_,_,rfl⟩
   ·exact⟨_,_,_,h⟩
  clear h1 h2 h3 hl hor HRA HS;go_wp2_with fail;refine HSC.out.mono ?_;rintro en w3 ⟨pb,mb,cb,rfl,HZ⟩;have HS3:Hid (StT tag ps w0 w3 n ws left):=HS2.out.below HZ.out.2;have HSS:=hid (zH9 (M:=[]) (m:=0) (p:=none) (c:=0) (b:=0) (by simp) (by have:=HL.out;omega) ⟨rfl,.inl rfl⟩ HZ.out.1);clear HSC HS2;go_wp2_with fail;refine HSS.out.mono ?_;rintro en w4 ⟨⟨r,rfl,hr⟩,j,rfl⟩;have HS4:Hid (StT tag ps w0 (w3.drewN j) n ws left):=HS3.out.drewN j;clear hr HSS HS3;have HOW:=hid (zH3 HS4.out HNN.out none 0 (stX []) (by omega) (.inl rfl) (fun _=>rfl));go_wp2_with fail;refine HOW.out.mono ?_;rintro en w5 ⟨rfl,⟨tag',hS5⟩,hop5⟩;have HN:Hid (Next w0 w5 n):=Next.of ⟨tag',ps,hS5,HALL.out⟩;clear hS5 hop5 HOW;go_wp2;go_ret;exact⟨⟨_,rfl⟩,HN.out⟩
 ·have e2:((0:Int) != n2)=true:=by simp;exact fun h=>e1 h.symm
  have HN:Hid (Next w0 w2 n):=St.next ⟨tag,ps,HS2.out,HALL.out⟩;clear h1 h2 h3 HRA HALL HNN e1;go_wp2;go_ret;exact⟨⟨_,rfl⟩,HN.out⟩
end Go.Proofs.YtilbfpnpkkkpgaaGreatDoor
