import Derived.Test.YtehmdohpmpbnnaaGreatDoorQ00
import Derived.Test.YtehmdohpmpbnnaaGreatDoorQ39
import Derived.Test.YtehmdohpmpbnnaaGreatDoorQ42
import Derived.Test.YtehmdohpmpbnnaaGreatDoorQ43
import Derived.Test.YtehmdohpmpbnnaaGreatDoorQ44
import Derived.Test.YtehmdohpmpbnnaaGreatDoorQ45
import Derived.Test.YtehmdohpmpbnnaaGreatDoorQ46
set_option linter.all false
set_option maxRecDepth 100000
set_option maxHeartbeats 8000000
namespace Go.Proofs.YtehmdohpmpbnnaaGreatDoor
open Go.Proofs.Tryz
open Go.Extern Go.RowKit
def oM(w0:World):Prop:= ∀(w:World) (n:Nat) (ws:List ByteArray) (left:Int) (t:ByteArray),St w0 w n ws left→n≤100000000→t.size≤100000000→
 Cl 39 #[iP w0.heap.size,.string t] w fun e w'=>lJ e∧Next w0 w' n
section
variable {w0 w:World} {n:Nat} {ws:List ByteArray} {left:Int}
theorem zMm(h:St w0 w n ws left)(hn:n≤10000000)(hl:0<left)(ad:Nat→Addr)(st:Nat→ByteArray)(hE:lq w ad st)(hW:qx w)(a b d:Int)(s:ByteArray)(v:Nat→Int)(ha:dK a)(hb:dK b)(hv:∀i,i<9→-9223372036854775808≤v i∧v i≤9223372036854775807)(hs:s.size≤1000000000):
 Cl 20 #[iP w0.heap.size,qJ 3 a b d s v] w fun e w'=>e=rB true∧Next w0 w' n:=by
 have D:Hd (St w0 (w.alloc (.cells (opC 3 a b d s v) 29)) n ws left):=h.below (gu _);have B:Hd (lq (w.alloc (.cells (opC 3 a b d s v) 29)) ad st):=hE.below (gu _);have E:Hd (qx (w.alloc (.cells (opC 3 a b d s v) 29))):=hW.below (gu _);have A:=h.sum;have G:=ql ws a;go_enter func20,ntmps20;go_wp2_with fail;refine(zLf D (by omega) hl ad st B E 3 a b d s v hv).mono ?_;rintro e H ⟨rfl,F⟩;have C:Hd (Next w0 H n):=F;go_wp2;go_ret;exact⟨rfl,C⟩
theorem zMn(h:St w0 w n ws left)(hn:n≤10000000)(hl:0<left)(ad:Nat→Addr)(st:Nat→ByteArray)(hE:lq w ad st)(hW:qx w)(a b d:Int)(s:ByteArray)(v:Nat→Int)(ha:dK a)(hb:dK b)(hv:∀i,i<9→-9223372036854775808≤v i∧v i≤9223372036854775807)(hs:s.size≤1000000000):
 Cl 20 #[iP w0.heap.size,qJ 10 a b d s v] w fun e w'=>e=rB true∧Next w0 w' n:=by
 have C:Hd (St w0 (w.alloc (.cells (opC 10 a b d s v) 29)) n ws left):=h.below (gu _);have E:Hd (lq (w.alloc (.cells (opC 10 a b d s v) 29)) ad st):=hE.below (gu _);have J:Hd (qx (w.alloc (.cells (opC 10 a b d s v) 29))):=hW.below (gu _);have D:=h.sum;have H:=ql ws a;go_enter func20,ntmps20;go_wp2_with fail;refine(C.word a (by omega) ha.1 ha.2).mono ?_;rintro e K ⟨rfl,m,rfl⟩;have B:Hd (St w0 ((w.alloc (.cells (opC 10 a b d s v) 29)).drewN m) n ws left):=C.drewN m;have A:Hd (lq ((w.alloc (.cells (opC 10 a b d s v) 29)).drewN m) ad st):=E.below ⟨rfl,rfl,rfl,Nat.le_refl _,fun _ _=>rfl⟩;generalize dU ws a=ta at *;go_wp2_with fail;refine(zM7 B (by omega) ad st A ta (by omega)).mono ?_;rintro e I ⟨rfl,G⟩;have F:Hd (Next w0 I n):=Next.of G;go_wp2;go_ret;exact⟨rfl,F⟩
theorem zMo(hA:oM w0)(h:St w0 w n ws left)(hn:n≤10000000)(hl:0<left)(ad:Nat→Addr)(st:Nat→ByteArray)(hE:lq w ad st)(hW:qx w)(a b d:Int)(s:ByteArray)(v:Nat→Int)(ha:dK a)(hb:dK b)(hv:∀i,i<9→-9223372036854775808≤v i∧v i≤9223372036854775807)(hs:s.size≤1000000000):
 Cl 20 #[iP w0.heap.size,qJ 16 a b d s v] w fun e w'=>lJ e∧Next w0 w' n:=by
 have B:Hd (St w0 (w.alloc (.cells (opC 16 a b d s v) 29)) n ws left):=h.below (gu _);have E:Hd (lq (w.alloc (.cells (opC 16 a b d s v) 29)) ad st):=hE.below (gu _);have K:Hd (qx (w.alloc (.cells (opC 16 a b d s v) 29))):=hW.below (gu _);have C:=h.sum;have I:=ql ws a;have D:=hid hA;go_enter func20,ntmps20;go_wp2_with fail;refine(B.word a (by omega) ha.1 ha.2).mono ?_;rintro e L ⟨rfl,m,rfl⟩;have A:Hd (St w0 ((w.alloc (.cells (opC 16 a b d s v) 29)).drewN m) n ws left):=B.drewN m;have F:Hd (lq ((w.alloc (.cells (opC 16 a b d s v) 29)).drewN m) ad st):=E.below ⟨rfl,rfl,rfl,Nat.le_refl _,fun _ _=>rfl⟩;generalize dU ws a=ta at *;go_wp2_with fail;refine(D _ _ _ _ ta A (by omega) (by omega)).mono ?_;rintro e J ⟨⟨r,rfl⟩,H⟩;have G:Hd (Next w0 J n):=H;go_wp2;go_ret;exact⟨⟨_,rfl⟩,G⟩
theorem zMp(h:St w0 w n ws left)(hn:n≤10000000)(hl:0<left)(ad:Nat→Addr)(st:Nat→ByteArray)(hE:lq w0 ad st)(hW:qx w0)(a b d:Int)(s:ByteArray)(v:Nat→Int)(ha:dK a)(hb:dK b)(hd:dK d)(hv:∀i,i<9→-9223372036854775808≤v i∧v i≤9223372036854775807)(hs:s.size≤1000000000):
 Cl 14 #[iP w0.heap.size,qJ 3 a b d s v] w fun e w'=>e=rB true∧Next w0 w' n:=by
 have A:Hd (St w0 (w.alloc (.cells (opC 3 a b d s v) 29)) n ws left):=h.below (gu _);have B:Hd (lq (w.alloc (.cells (opC 3 a b d s v) 29)) ad st):=hE.below A.low;have E:Hd (qx (w.alloc (.cells (opC 3 a b d s v) 29))):=hW.below A.low;have C:=hid hE;go_enter func14,ntmps14;go_wp2_with fail;refine(zMm A hn hl ad st B E a b d s v ha hb hv hs).mono ?_;rintro e G ⟨rfl,F⟩;have D:Hd (Next w0 G n):=F;go_wp2;go_ret;exact⟨rfl,D⟩
theorem zMq(h:St w0 w n ws left)(hn:n≤10000000)(hl:0<left)(ad:Nat→Addr)(st:Nat→ByteArray)(hE:lq w0 ad st)(hW:qx w0)(a b d:Int)(s:ByteArray)(v:Nat→Int)(ha:dK a)(hb:dK b)(hd:dK d)(hv:∀i,i<9→-9223372036854775808≤v i∧v i≤9223372036854775807)(hs:s.size≤1000000000):
 Cl 14 #[iP w0.heap.size,qJ 9 a b d s v] w fun e w'=>e=rB true∧Next w0 w' n:=by
 have A:Hd (St w0 (w.alloc (.cells (opC 9 a b d s v) 29)) n ws left):=h.below (gu _);have B:Hd (lq (w.alloc (.cells (opC 9 a b d s v) 29)) ad st):=hE.below A.low;have E:Hd (qx (w.alloc (.cells (opC 9 a b d s v) 29))):=hW.below A.low;have C:=hid hE;go_enter func14,ntmps14;go_wp2_with fail;refine(zLr A (by omega) hl ad st B E a b d s v ha).mono ?_;rintro e G ⟨rfl,F⟩;have D:Hd (Next w0 G n):=F;go_wp2;go_ret;exact⟨rfl,D⟩
theorem zMr(h:St w0 w n ws left)(hn:n≤10000000)(hl:0<left)(ad:Nat→Addr)(st:Nat→ByteArray)(hE:lq w0 ad st)(hW:qx w0)(a b d:Int)(s:ByteArray)(v:Nat→Int)(ha:dK a)(hb:dK b)(hd:dK d)(hv:∀i,i<9→-9223372036854775808≤v i∧v i≤9223372036854775807)(hs:s.size≤1000000000):
 Cl 14 #[iP w0.heap.size,qJ 10 a b d s v] w fun e w'=>e=rB true∧Next w0 w' n:=by
 have A:Hd (St w0 (w.alloc (.cells (opC 10 a b d s v) 29)) n ws left):=h.below (gu _);have B:Hd (lq (w.alloc (.cells (opC 10 a b d s v) 29)) ad st):=hE.below A.low;have E:Hd (qx (w.alloc (.cells (opC 10 a b d s v) 29))):=hW.below A.low;have C:=hid hE;go_enter func14,ntmps14;go_wp2_with fail;refine(zMn A hn hl ad st B E a b d s v ha hb hv hs).mono ?_;rintro e G ⟨rfl,F⟩;have D:Hd (Next w0 G n):=F;go_wp2;go_ret;exact⟨rfl,D⟩
theorem zMs(hA:oM w0)(h:St w0 w n ws left)(hn:n≤10000000)(hl:0<left)(ad:Nat→Addr)(st:Nat→ByteArray)(hE:lq w0 ad st)(hW:qx w0)(a b d:Int)(s:ByteArray)(v:Nat→Int)(ha:dK a)(hb:dK b)(hd:dK d)(hv:∀i,i<9→-9223372036854775808≤v i∧v i≤9223372036854775807)(hs:s.size≤1000000000):
 Cl 14 #[iP w0.heap.size,qJ 16 a b d s v] w fun e w'=>lJ e∧Next w0 w' n:=by
 have A:Hd (St w0 (w.alloc (.cells (opC 16 a b d s v) 29)) n ws left):=h.below (gu _);have C:Hd (lq (w.alloc (.cells (opC 16 a b d s v) 29)) ad st):=hE.below A.low;have F:Hd (qx (w.alloc (.cells (opC 16 a b d s v) 29))):=hW.below A.low;have D:=hid hE;have B:=hid hA;go_enter func14,ntmps14;go_wp2_with fail;refine(zMo B A hn hl ad st C F a b d s v ha hb hv hs).mono ?_;rintro e H ⟨⟨r,rfl⟩,G⟩;have E:Hd (Next w0 H n):=G;go_wp2;go_ret;exact⟨⟨_,rfl⟩,E⟩
theorem zMt(h:St w0 w n ws left)(hn:n≤10000000)(hl:0<left)(ad:Nat→Addr)(st:Nat→ByteArray)(hE:lq w0 ad st)(hW:qx w0)(a b d:Int)(s:ByteArray)(v:Nat→Int)(ha:dK a)(hb:dK b)(hd:dK d)(hv:∀i,i<9→-9223372036854775808≤v i∧v i≤9223372036854775807)(hs:s.size≤1000000000):
 Cl 14 #[iP w0.heap.size,qJ 11 a b d s v] w fun e w'=>e=rB true∧Next w0 w' n:=by
 have B:Hd (St w0 (w.alloc (.cells (opC 11 a b d s v) 29)) n ws left):=h.below (gu _);have F:Hd (lq (w.alloc (.cells (opC 11 a b d s v) 29)) ad st):=hE.below B.low;have G:Hd (qx (w.alloc (.cells (opC 11 a b d s v) 29))):=hW.below B.low;have A:=hid hE;go_enter func14,ntmps14;go_wp2_with fail;refine(zM4 B (by omega) A).mono ?_;rintro e E ⟨rfl,D⟩;have C:Hd (Next w0 E n):=D;go_wp2;go_ret;exact⟨rfl,C⟩
theorem zMu(h:St w0 w n ws left)(hn:n≤10000000)(hl:0<left)(ad:Nat→Addr)(st:Nat→ByteArray)(hE:lq w0 ad st)(hW:qx w0)(a b d:Int)(s:ByteArray)(v:Nat→Int)(ha:dK a)(hb:dK b)(hd:dK d)(hv:∀i,i<9→-9223372036854775808≤v i∧v i≤9223372036854775807)(hs:s.size≤1000000000):
 Cl 14 #[iP w0.heap.size,qJ 12 a b d s v] w fun e w'=>e=rB true∧Next w0 w' n:=by
 obtain⟨t,B,H,C⟩:=h;have h:=H.below (gu (w:=w) (.cells (opC 12 a b d s v) 29));have I:Hd (Next w0 (w.alloc (.cells (opC 12 a b d s v) 29)) n):=St.next ⟨t,B,h,C⟩;obtain⟨y,F,D,_⟩:=h.jH;have M:=h.tN;by_cases O:B.length=0
 ·have:∃p c,y=.slice p 0 c:=by
   rcases D.2 with⟨rfl,_⟩|⟨g,cap,Z,rfl,_⟩
   ·exact⟨_,_,rfl⟩
   exact⟨_,_,by rw[O]⟩
  obtain⟨p,c,rfl⟩:=this;clear h H C D hE hW O M;go_enter func14,ntmps14;go_wp2;go_ret;exact⟨rfl,I.o⟩
 obtain⟨J,cap,rfl⟩:∃J cap,y=sL J B.length cap:=by
  rcases D.2 with⟨rfl,H⟩|⟨g,cap,Z,rfl,_⟩
  ·exact absurd H O
  exact⟨_,_,rfl⟩
 have l:=gK d B.length (by omega);have L:=fT d B.length (by omega);have G:=fun W=>eH d (B.length:Int) W hd.1 hd.2 (by omega) (by omega)
 obtain⟨q,x⟩:∃q:Nat,aC d B.length=q:=⟨(aC d B.length).toNat,by omega⟩;rw[x]at l L G;have m:q<B.length:=by simpa using l
 have A2:(q:Int)<(B.length:Int):=by omega
 have A1:((B.length:Int) == 0)=false:=beq_eq_false_iff_ne.2 (by omega);have N:B[q]? =some B[q]:=List.getElem?_eq_getElem m;have S:Hd (∀W,Cl 23 #[iV d,iV (B.length:Int)] W fun e w'=>e=.returned (iV (q:Int))∧w'=W):=G;have R:Hd (∀X,Same (w.alloc (.cells (opC 12 a b d s v) 29)) X→Cl 22 #[iP w0.heap.size,.pointer (some (iA J (q*3))),qJ 12 a b d s v] X fun e w'=>e=rB true∧(w'.cell? (iA w0.heap.size 5)=some (sL J B.length cap)∧cI w' w.heap.size 0 12∧cI w' w.heap.size 1 a∧cI w' w.heap.size 2 b∧cI w' w.heap.size 3 d∧w'.cell? (iA w.heap.size 4)=some (.string s)∧cI w' w.heap.size 5 (v 0)∧cI w' w.heap.size 6 (v 1)∧cI w' w.heap.size 7 (v 2)∧cI w' w.heap.size 8 (v 3)∧cI w' w.heap.size 9 (v 4)∧cI w' w.heap.size 10 (v 5)∧cI w' w.heap.size 11 (v 6)∧cI w' w.heap.size 12 (v 7)∧cI w' w.heap.size 13 (v 8))∧Hd (Next w0 w' n)):=fun X hX=>by
  have E:Below (w.alloc (.cells (opC 12 a b d s v) 29)).heap.size (w.alloc (.cells (opC 12 a b d s v) 29)) X:=⟨hX.os,hX.tape,hX.output,by rw[hX.heap];exact Nat.le_refl _,fun k _=>by rw[hX.heap]⟩;refine(zLo (h.below E) C hn hl hE hW (h.qG E F) N a b d s v ha).mono ?_;rintro e w' ⟨rfl,h1,h2,h3⟩;have f:=h2 w.heap.size _ (H.tup _ (Nat.le_refl _)) ((E.block w.heap.size (by simp)).trans (heap_alloc_new w _));have A:∀j u,(opC 12 a b d s v)[j]? =some u→w'.cell? (iA w.heap.size j)=some u:=fun j u hj=>by simp only[World.cell?,f];simpa using hj
  exact⟨rfl,⟨h3.trans (h.qG E F),A 0 _ rfl,A 1 _ rfl,A 2 _ rfl,A 3 _ rfl,A 4 _ rfl,A 5 _ rfl,A 6 _ rfl,A 7 _ rfl,A 8 _ rfl,A 9 _ rfl,A 10 _ rfl,A 11 _ rfl,A 12 _ rfl,A 13 _ rfl⟩,h1⟩
 have A0:=h.lt;have b0:(w.alloc (.cells (opC 12 a b d s v) 29)).cell? (iA w.heap.size 0)=sI 12:=fw w _ _ 0 _ rfl;have b1:(w.alloc (.cells (opC 12 a b d s v) 29)).cell? (iA w.heap.size 1)=sI a:=fw w _ _ 1 _ rfl;have b2:(w.alloc (.cells (opC 12 a b d s v) 29)).cell? (iA w.heap.size 2)=sI b:=fw w _ _ 2 _ rfl;have b3:(w.alloc (.cells (opC 12 a b d s v) 29)).cell? (iA w.heap.size 3)=sI d:=fw w _ _ 3 _ rfl;have b4:(w.alloc (.cells (opC 12 a b d s v) 29)).cell? (iA w.heap.size 4)=some (.string s):=fw w _ _ 4 _ rfl;have b5:(w.alloc (.cells (opC 12 a b d s v) 29)).cell? (iA w.heap.size 5)=sI (v 0):=fw w _ _ 5 _ rfl;have b6:(w.alloc (.cells (opC 12 a b d s v) 29)).cell? (iA w.heap.size 6)=sI (v 1):=fw w _ _ 6 _ rfl;have b7:(w.alloc (.cells (opC 12 a b d s v) 29)).cell? (iA w.heap.size 7)=sI (v 2):=fw w _ _ 7 _ rfl
 have b8:(w.alloc (.cells (opC 12 a b d s v) 29)).cell? (iA w.heap.size 8)=sI (v 3):=fw w _ _ 8 _ rfl;have b9:(w.alloc (.cells (opC 12 a b d s v) 29)).cell? (iA w.heap.size 9)=sI (v 4):=fw w _ _ 9 _ rfl;have T:(w.alloc (.cells (opC 12 a b d s v) 29)).cell? (iA w.heap.size 10)=sI (v 5):=fw w _ _ 10 _ rfl;have U:(w.alloc (.cells (opC 12 a b d s v) 29)).cell? (iA w.heap.size 11)=sI (v 6):=fw w _ _ 11 _ rfl;have V:(w.alloc (.cells (opC 12 a b d s v) 29)).cell? (iA w.heap.size 12)=sI (v 7):=fw w _ _ 12 _ rfl;have Y:(w.alloc (.cells (opC 12 a b d s v) 29)).cell? (iA w.heap.size 13)=sI (v 8):=fw w _ _ 13 _ rfl;clear h H C D hE hW O M l L G x N I;generalize B.length=ml at *;go_enter func14,ntmps14;go_wp2_with fail;generalize (w.alloc (.cells (opC 12 a b d s v) 29))=W at *
 go_region_held3(fun X=>X.cell? (iA w0.heap.size 5)=some (sL J ml cap)∧X.cell? (iA w.heap.size 0)=sI 12∧X.cell? (iA w.heap.size 1)=sI a∧X.cell? (iA w.heap.size 2)=sI b∧X.cell? (iA w.heap.size 3)=sI d∧X.cell? (iA w.heap.size 4)=some (.string s)∧X.cell? (iA w.heap.size 5)=sI (v 0)∧X.cell? (iA w.heap.size 6)=sI (v 1)∧X.cell? (iA w.heap.size 7)=sI (v 2)∧X.cell? (iA w.heap.size 8)=sI (v 3)∧X.cell? (iA w.heap.size 9)=sI (v 4)∧X.cell? (iA w.heap.size 10)=sI (v 5)∧X.cell? (iA w.heap.size 11)=sI (v 6)∧X.cell? (iA w.heap.size 12)=sI (v 7)∧X.cell? (iA w.heap.size 13)=sI (v 8)) (first|exact⟨F,b0,b1,b2,b3,b4,b5,b6,b7,b8,b9,T,U,V,Y⟩|exact K) (first|(go_at_call 23;refine(S.o _).mono ?_;rintro e w' ⟨rfl,rfl⟩)|(go_at_call 22;refine(R.o _ (Same.refl _).drew).mono ?_;rintro e w1 ⟨rfl,K,z⟩));clear K;go_wp2;go_ret;exact⟨rfl,z.o⟩
theorem zMv(h:St w0 w n ws left)(hn:n≤10000000)(hl:0<left)(ad:Nat→Addr)(st:Nat→ByteArray)(hE:lq w0 ad st)(hW:qx w0)(a b d:Int)(s:ByteArray)(v:Nat→Int)(ha:dK a)(hb:dK b)(hd:dK d)(hv:∀i,i<9→-9223372036854775808≤v i∧v i≤9223372036854775807)(hs:s.size≤1000000000):
 Cl 14 #[iP w0.heap.size,qJ 13 a b d s v] w fun e w'=>e=rB true∧Next w0 w' n:=by
 obtain⟨t,B,H,C⟩:=h;have h:=H.below (gu (w:=w) (.cells (opC 13 a b d s v) 29));have I:Hd (Next w0 (w.alloc (.cells (opC 13 a b d s v) 29)) n):=St.next ⟨t,B,h,C⟩;obtain⟨y,F,D,_⟩:=h.jH;have M:=h.tN;by_cases O:B.length=0
 ·have:∃p c,y=.slice p 0 c:=by
   rcases D.2 with⟨rfl,_⟩|⟨g,cap,Z,rfl,_⟩
   ·exact⟨_,_,rfl⟩
   exact⟨_,_,by rw[O]⟩
  obtain⟨p,c,rfl⟩:=this;clear h H C D hE hW O M;go_enter func14,ntmps14;go_wp2;go_ret;exact⟨rfl,I.o⟩
 obtain⟨J,cap,rfl⟩:∃J cap,y=sL J B.length cap:=by
  rcases D.2 with⟨rfl,H⟩|⟨g,cap,Z,rfl,_⟩
  ·exact absurd H O
  exact⟨_,_,rfl⟩
 have l:=gK d B.length (by omega);have L:=fT d B.length (by omega);have G:=fun W=>eH d (B.length:Int) W hd.1 hd.2 (by omega) (by omega)
 obtain⟨q,x⟩:∃q:Nat,aC d B.length=q:=⟨(aC d B.length).toNat,by omega⟩;rw[x]at l L G;have m:q<B.length:=by simpa using l
 have A2:(q:Int)<(B.length:Int):=by omega
 have A1:((B.length:Int) == 0)=false:=beq_eq_false_iff_ne.2 (by omega);have N:B[q]? =some B[q]:=List.getElem?_eq_getElem m;have S:Hd (∀W,Cl 23 #[iV d,iV (B.length:Int)] W fun e w'=>e=.returned (iV (q:Int))∧w'=W):=G;have R:Hd (∀X,Same (w.alloc (.cells (opC 13 a b d s v) 29)) X→Cl 22 #[iP w0.heap.size,.pointer (some (iA J (q*3))),qJ 13 a b d s v] X fun e w'=>e=rB true∧(w'.cell? (iA w0.heap.size 5)=some (sL J B.length cap)∧cI w' w.heap.size 0 13∧cI w' w.heap.size 1 a∧cI w' w.heap.size 2 b∧cI w' w.heap.size 3 d∧w'.cell? (iA w.heap.size 4)=some (.string s)∧cI w' w.heap.size 5 (v 0)∧cI w' w.heap.size 6 (v 1)∧cI w' w.heap.size 7 (v 2)∧cI w' w.heap.size 8 (v 3)∧cI w' w.heap.size 9 (v 4)∧cI w' w.heap.size 10 (v 5)∧cI w' w.heap.size 11 (v 6)∧cI w' w.heap.size 12 (v 7)∧cI w' w.heap.size 13 (v 8))∧Hd (Next w0 w' n)):=fun X hX=>by
  have E:Below (w.alloc (.cells (opC 13 a b d s v) 29)).heap.size (w.alloc (.cells (opC 13 a b d s v) 29)) X:=⟨hX.os,hX.tape,hX.output,by rw[hX.heap];exact Nat.le_refl _,fun k _=>by rw[hX.heap]⟩;refine(zMe (h.below E) C hn hl (h.qG E F) N a b d s v).mono ?_;rintro e w' ⟨rfl,h1,h2,h3⟩;have f:=h2 w.heap.size _ (H.tup _ (Nat.le_refl _)) ((E.block w.heap.size (by simp)).trans (heap_alloc_new w _));have A:∀j u,(opC 13 a b d s v)[j]? =some u→w'.cell? (iA w.heap.size j)=some u:=fun j u hj=>by simp only[World.cell?,f];simpa using hj
  exact⟨rfl,⟨h3.trans (h.qG E F),A 0 _ rfl,A 1 _ rfl,A 2 _ rfl,A 3 _ rfl,A 4 _ rfl,A 5 _ rfl,A 6 _ rfl,A 7 _ rfl,A 8 _ rfl,A 9 _ rfl,A 10 _ rfl,A 11 _ rfl,A 12 _ rfl,A 13 _ rfl⟩,h1⟩
 have A0:=h.lt;have b0:(w.alloc (.cells (opC 13 a b d s v) 29)).cell? (iA w.heap.size 0)=sI 13:=fw w _ _ 0 _ rfl;have b1:(w.alloc (.cells (opC 13 a b d s v) 29)).cell? (iA w.heap.size 1)=sI a:=fw w _ _ 1 _ rfl;have b2:(w.alloc (.cells (opC 13 a b d s v) 29)).cell? (iA w.heap.size 2)=sI b:=fw w _ _ 2 _ rfl;have b3:(w.alloc (.cells (opC 13 a b d s v) 29)).cell? (iA w.heap.size 3)=sI d:=fw w _ _ 3 _ rfl;have b4:(w.alloc (.cells (opC 13 a b d s v) 29)).cell? (iA w.heap.size 4)=some (.string s):=fw w _ _ 4 _ rfl;have b5:(w.alloc (.cells (opC 13 a b d s v) 29)).cell? (iA w.heap.size 5)=sI (v 0):=fw w _ _ 5 _ rfl;have b6:(w.alloc (.cells (opC 13 a b d s v) 29)).cell? (iA w.heap.size 6)=sI (v 1):=fw w _ _ 6 _ rfl;have b7:(w.alloc (.cells (opC 13 a b d s v) 29)).cell? (iA w.heap.size 7)=sI (v 2):=fw w _ _ 7 _ rfl
 have b8:(w.alloc (.cells (opC 13 a b d s v) 29)).cell? (iA w.heap.size 8)=sI (v 3):=fw w _ _ 8 _ rfl;have b9:(w.alloc (.cells (opC 13 a b d s v) 29)).cell? (iA w.heap.size 9)=sI (v 4):=fw w _ _ 9 _ rfl;have T:(w.alloc (.cells (opC 13 a b d s v) 29)).cell? (iA w.heap.size 10)=sI (v 5):=fw w _ _ 10 _ rfl;have U:(w.alloc (.cells (opC 13 a b d s v) 29)).cell? (iA w.heap.size 11)=sI (v 6):=fw w _ _ 11 _ rfl;have V:(w.alloc (.cells (opC 13 a b d s v) 29)).cell? (iA w.heap.size 12)=sI (v 7):=fw w _ _ 12 _ rfl;have Y:(w.alloc (.cells (opC 13 a b d s v) 29)).cell? (iA w.heap.size 13)=sI (v 8):=fw w _ _ 13 _ rfl;clear h H C D hE hW O M l L G x N I;generalize B.length=ml at *;go_enter func14,ntmps14;go_wp2_with fail;generalize (w.alloc (.cells (opC 13 a b d s v) 29))=W at *
 go_region_held3(fun X=>X.cell? (iA w0.heap.size 5)=some (sL J ml cap)∧X.cell? (iA w.heap.size 0)=sI 13∧X.cell? (iA w.heap.size 1)=sI a∧X.cell? (iA w.heap.size 2)=sI b∧X.cell? (iA w.heap.size 3)=sI d∧X.cell? (iA w.heap.size 4)=some (.string s)∧X.cell? (iA w.heap.size 5)=sI (v 0)∧X.cell? (iA w.heap.size 6)=sI (v 1)∧X.cell? (iA w.heap.size 7)=sI (v 2)∧X.cell? (iA w.heap.size 8)=sI (v 3)∧X.cell? (iA w.heap.size 9)=sI (v 4)∧X.cell? (iA w.heap.size 10)=sI (v 5)∧X.cell? (iA w.heap.size 11)=sI (v 6)∧X.cell? (iA w.heap.size 12)=sI (v 7)∧X.cell? (iA w.heap.size 13)=sI (v 8)) (first|exact⟨F,b0,b1,b2,b3,b4,b5,b6,b7,b8,b9,T,U,V,Y⟩|exact K) (first|(go_at_call 23;refine(S.o _).mono ?_;rintro e w' ⟨rfl,rfl⟩)|(go_at_call 22;refine(R.o _ (Same.refl _).drew).mono ?_;rintro e w1 ⟨rfl,K,z⟩));clear K;go_wp2;go_ret;exact⟨rfl,z.o⟩
theorem zMw(h:St w0 w n ws left)(hn:n≤10000000)(hl:0<left)(ad:Nat→Addr)(st:Nat→ByteArray)(hE:lq w0 ad st)(hW:qx w0)(a b d:Int)(s:ByteArray)(v:Nat→Int)(ha:dK a)(hb:dK b)(hd:dK d)(hv:∀i,i<9→-9223372036854775808≤v i∧v i≤9223372036854775807)(hs:s.size≤1000000000):
 Cl 14 #[iP w0.heap.size,qJ 14 a b d s v] w fun e w'=>e=rB true∧Next w0 w' n:=by
 obtain⟨t,B,H,C⟩:=h;have h:=H.below (gu (w:=w) (.cells (opC 14 a b d s v) 29));have I:Hd (Next w0 (w.alloc (.cells (opC 14 a b d s v) 29)) n):=St.next ⟨t,B,h,C⟩;obtain⟨y,F,D,_⟩:=h.jH;have M:=h.tN;by_cases O:B.length=0
 ·have:∃p c,y=.slice p 0 c:=by
   rcases D.2 with⟨rfl,_⟩|⟨g,cap,Z,rfl,_⟩
   ·exact⟨_,_,rfl⟩
   exact⟨_,_,by rw[O]⟩
  obtain⟨p,c,rfl⟩:=this;clear h H C D hE hW O M;go_enter func14,ntmps14;go_wp2;go_ret;exact⟨rfl,I.o⟩
 obtain⟨J,cap,rfl⟩:∃J cap,y=sL J B.length cap:=by
  rcases D.2 with⟨rfl,H⟩|⟨g,cap,Z,rfl,_⟩
  ·exact absurd H O
  exact⟨_,_,rfl⟩
 have l:=gK d B.length (by omega);have L:=fT d B.length (by omega);have G:=fun W=>eH d (B.length:Int) W hd.1 hd.2 (by omega) (by omega)
 obtain⟨q,x⟩:∃q:Nat,aC d B.length=q:=⟨(aC d B.length).toNat,by omega⟩;rw[x]at l L G;have m:q<B.length:=by simpa using l
 have A2:(q:Int)<(B.length:Int):=by omega
 have A1:((B.length:Int) == 0)=false:=beq_eq_false_iff_ne.2 (by omega);have N:B[q]? =some B[q]:=List.getElem?_eq_getElem m;have S:Hd (∀W,Cl 23 #[iV d,iV (B.length:Int)] W fun e w'=>e=.returned (iV (q:Int))∧w'=W):=G;have R:Hd (∀X,Same (w.alloc (.cells (opC 14 a b d s v) 29)) X→Cl 22 #[iP w0.heap.size,.pointer (some (iA J (q*3))),qJ 14 a b d s v] X fun e w'=>e=rB true∧(w'.cell? (iA w0.heap.size 5)=some (sL J B.length cap)∧cI w' w.heap.size 0 14∧cI w' w.heap.size 1 a∧cI w' w.heap.size 2 b∧cI w' w.heap.size 3 d∧w'.cell? (iA w.heap.size 4)=some (.string s)∧cI w' w.heap.size 5 (v 0)∧cI w' w.heap.size 6 (v 1)∧cI w' w.heap.size 7 (v 2)∧cI w' w.heap.size 8 (v 3)∧cI w' w.heap.size 9 (v 4)∧cI w' w.heap.size 10 (v 5)∧cI w' w.heap.size 11 (v 6)∧cI w' w.heap.size 12 (v 7)∧cI w' w.heap.size 13 (v 8))∧Hd (Next w0 w' n)):=fun X hX=>by
  have E:Below (w.alloc (.cells (opC 14 a b d s v) 29)).heap.size (w.alloc (.cells (opC 14 a b d s v) 29)) X:=⟨hX.os,hX.tape,hX.output,by rw[hX.heap];exact Nat.le_refl _,fun k _=>by rw[hX.heap]⟩;refine(zLs (h.below E) C hl (h.qG E F) N a b d s v).mono ?_;rintro e w' ⟨rfl,h1,h2,h3⟩;have f:=h2 w.heap.size _ (H.tup _ (Nat.le_refl _)) ((E.block w.heap.size (by simp)).trans (heap_alloc_new w _));have A:∀j u,(opC 14 a b d s v)[j]? =some u→w'.cell? (iA w.heap.size j)=some u:=fun j u hj=>by simp only[World.cell?,f];simpa using hj
  exact⟨rfl,⟨h3.trans (h.qG E F),A 0 _ rfl,A 1 _ rfl,A 2 _ rfl,A 3 _ rfl,A 4 _ rfl,A 5 _ rfl,A 6 _ rfl,A 7 _ rfl,A 8 _ rfl,A 9 _ rfl,A 10 _ rfl,A 11 _ rfl,A 12 _ rfl,A 13 _ rfl⟩,h1⟩
 have A0:=h.lt;have b0:(w.alloc (.cells (opC 14 a b d s v) 29)).cell? (iA w.heap.size 0)=sI 14:=fw w _ _ 0 _ rfl;have b1:(w.alloc (.cells (opC 14 a b d s v) 29)).cell? (iA w.heap.size 1)=sI a:=fw w _ _ 1 _ rfl;have b2:(w.alloc (.cells (opC 14 a b d s v) 29)).cell? (iA w.heap.size 2)=sI b:=fw w _ _ 2 _ rfl;have b3:(w.alloc (.cells (opC 14 a b d s v) 29)).cell? (iA w.heap.size 3)=sI d:=fw w _ _ 3 _ rfl;have b4:(w.alloc (.cells (opC 14 a b d s v) 29)).cell? (iA w.heap.size 4)=some (.string s):=fw w _ _ 4 _ rfl;have b5:(w.alloc (.cells (opC 14 a b d s v) 29)).cell? (iA w.heap.size 5)=sI (v 0):=fw w _ _ 5 _ rfl;have b6:(w.alloc (.cells (opC 14 a b d s v) 29)).cell? (iA w.heap.size 6)=sI (v 1):=fw w _ _ 6 _ rfl;have b7:(w.alloc (.cells (opC 14 a b d s v) 29)).cell? (iA w.heap.size 7)=sI (v 2):=fw w _ _ 7 _ rfl
 have b8:(w.alloc (.cells (opC 14 a b d s v) 29)).cell? (iA w.heap.size 8)=sI (v 3):=fw w _ _ 8 _ rfl;have b9:(w.alloc (.cells (opC 14 a b d s v) 29)).cell? (iA w.heap.size 9)=sI (v 4):=fw w _ _ 9 _ rfl;have T:(w.alloc (.cells (opC 14 a b d s v) 29)).cell? (iA w.heap.size 10)=sI (v 5):=fw w _ _ 10 _ rfl;have U:(w.alloc (.cells (opC 14 a b d s v) 29)).cell? (iA w.heap.size 11)=sI (v 6):=fw w _ _ 11 _ rfl;have V:(w.alloc (.cells (opC 14 a b d s v) 29)).cell? (iA w.heap.size 12)=sI (v 7):=fw w _ _ 12 _ rfl;have Y:(w.alloc (.cells (opC 14 a b d s v) 29)).cell? (iA w.heap.size 13)=sI (v 8):=fw w _ _ 13 _ rfl;clear h H C D hE hW O M l L G x N I;generalize B.length=ml at *;go_enter func14,ntmps14;go_wp2_with fail;generalize (w.alloc (.cells (opC 14 a b d s v) 29))=W at *
 go_region_held3(fun X=>X.cell? (iA w0.heap.size 5)=some (sL J ml cap)∧X.cell? (iA w.heap.size 0)=sI 14∧X.cell? (iA w.heap.size 1)=sI a∧X.cell? (iA w.heap.size 2)=sI b∧X.cell? (iA w.heap.size 3)=sI d∧X.cell? (iA w.heap.size 4)=some (.string s)∧X.cell? (iA w.heap.size 5)=sI (v 0)∧X.cell? (iA w.heap.size 6)=sI (v 1)∧X.cell? (iA w.heap.size 7)=sI (v 2)∧X.cell? (iA w.heap.size 8)=sI (v 3)∧X.cell? (iA w.heap.size 9)=sI (v 4)∧X.cell? (iA w.heap.size 10)=sI (v 5)∧X.cell? (iA w.heap.size 11)=sI (v 6)∧X.cell? (iA w.heap.size 12)=sI (v 7)∧X.cell? (iA w.heap.size 13)=sI (v 8)) (first|exact⟨F,b0,b1,b2,b3,b4,b5,b6,b7,b8,b9,T,U,V,Y⟩|exact K) (first|(go_at_call 23;refine(S.o _).mono ?_;rintro e w' ⟨rfl,rfl⟩)|(go_at_call 22;refine(R.o _ (Same.refl _).drew).mono ?_;rintro e w1 ⟨rfl,K,z⟩));clear K;go_wp2;go_ret;exact⟨rfl,z.o⟩
theorem zMx(h:St w0 w n ws left)(hn:n≤10000000)(hl:0<left)(ad:Nat→Addr)(st:Nat→ByteArray)(hE:lq w0 ad st)(hW:qx w0)(a b d:Int)(s:ByteArray)(v:Nat→Int)(ha:dK a)(hb:dK b)(hd:dK d)(hv:∀i,i<9→-9223372036854775808≤v i∧v i≤9223372036854775807)(hs:s.size≤1000000000):
 Cl 14 #[iP w0.heap.size,qJ 15 a b d s v] w fun e w'=>e=rB true∧Next w0 w' n:=by
 obtain⟨t,B,H,C⟩:=h;have h:=H.below (gu (w:=w) (.cells (opC 15 a b d s v) 29));have I:Hd (Next w0 (w.alloc (.cells (opC 15 a b d s v) 29)) n):=St.next ⟨t,B,h,C⟩;obtain⟨y,F,D,_⟩:=h.jH;have M:=h.tN;by_cases O:B.length=0
 ·have:∃p c,y=.slice p 0 c:=by
   rcases D.2 with⟨rfl,_⟩|⟨g,cap,Z,rfl,_⟩
   ·exact⟨_,_,rfl⟩
   exact⟨_,_,by rw[O]⟩
  obtain⟨p,c,rfl⟩:=this;clear h H C D hE hW O M;go_enter func14,ntmps14;go_wp2;go_ret;exact⟨rfl,I.o⟩
 obtain⟨J,cap,rfl⟩:∃J cap,y=sL J B.length cap:=by
  rcases D.2 with⟨rfl,H⟩|⟨g,cap,Z,rfl,_⟩
  ·exact absurd H O
  exact⟨_,_,rfl⟩
 have l:=gK d B.length (by omega);have L:=fT d B.length (by omega);have G:=fun W=>eH d (B.length:Int) W hd.1 hd.2 (by omega) (by omega)
 obtain⟨q,x⟩:∃q:Nat,aC d B.length=q:=⟨(aC d B.length).toNat,by omega⟩;rw[x]at l L G;have m:q<B.length:=by simpa using l
 have A2:(q:Int)<(B.length:Int):=by omega
 have A1:((B.length:Int) == 0)=false:=beq_eq_false_iff_ne.2 (by omega);have N:B[q]? =some B[q]:=List.getElem?_eq_getElem m;have S:Hd (∀W,Cl 23 #[iV d,iV (B.length:Int)] W fun e w'=>e=.returned (iV (q:Int))∧w'=W):=G;have R:Hd (∀X,Same (w.alloc (.cells (opC 15 a b d s v) 29)) X→Cl 22 #[iP w0.heap.size,.pointer (some (iA J (q*3))),qJ 15 a b d s v] X fun e w'=>e=rB true∧(w'.cell? (iA w0.heap.size 5)=some (sL J B.length cap)∧cI w' w.heap.size 0 15∧cI w' w.heap.size 1 a∧cI w' w.heap.size 2 b∧cI w' w.heap.size 3 d∧w'.cell? (iA w.heap.size 4)=some (.string s)∧cI w' w.heap.size 5 (v 0)∧cI w' w.heap.size 6 (v 1)∧cI w' w.heap.size 7 (v 2)∧cI w' w.heap.size 8 (v 3)∧cI w' w.heap.size 9 (v 4)∧cI w' w.heap.size 10 (v 5)∧cI w' w.heap.size 11 (v 6)∧cI w' w.heap.size 12 (v 7)∧cI w' w.heap.size 13 (v 8))∧Hd (Next w0 w' n)):=fun X hX=>by
  have E:Below (w.alloc (.cells (opC 15 a b d s v) 29)).heap.size (w.alloc (.cells (opC 15 a b d s v) 29)) X:=⟨hX.os,hX.tape,hX.output,by rw[hX.heap];exact Nat.le_refl _,fun k _=>by rw[hX.heap]⟩;refine(zMd (h.below E) C (h.qG E F) N a b d s v).mono ?_;rintro e w' ⟨rfl,h1,h2,h3⟩;have f:=h2 w.heap.size _ (H.tup _ (Nat.le_refl _)) ((E.block w.heap.size (by simp)).trans (heap_alloc_new w _));have A:∀j u,(opC 15 a b d s v)[j]? =some u→w'.cell? (iA w.heap.size j)=some u:=fun j u hj=>by simp only[World.cell?,f];simpa using hj
  exact⟨rfl,⟨h3.trans (h.qG E F),A 0 _ rfl,A 1 _ rfl,A 2 _ rfl,A 3 _ rfl,A 4 _ rfl,A 5 _ rfl,A 6 _ rfl,A 7 _ rfl,A 8 _ rfl,A 9 _ rfl,A 10 _ rfl,A 11 _ rfl,A 12 _ rfl,A 13 _ rfl⟩,h1⟩
 have A0:=h.lt;have b0:(w.alloc (.cells (opC 15 a b d s v) 29)).cell? (iA w.heap.size 0)=sI 15:=fw w _ _ 0 _ rfl;have b1:(w.alloc (.cells (opC 15 a b d s v) 29)).cell? (iA w.heap.size 1)=sI a:=fw w _ _ 1 _ rfl;have b2:(w.alloc (.cells (opC 15 a b d s v) 29)).cell? (iA w.heap.size 2)=sI b:=fw w _ _ 2 _ rfl;have b3:(w.alloc (.cells (opC 15 a b d s v) 29)).cell? (iA w.heap.size 3)=sI d:=fw w _ _ 3 _ rfl;have b4:(w.alloc (.cells (opC 15 a b d s v) 29)).cell? (iA w.heap.size 4)=some (.string s):=fw w _ _ 4 _ rfl;have b5:(w.alloc (.cells (opC 15 a b d s v) 29)).cell? (iA w.heap.size 5)=sI (v 0):=fw w _ _ 5 _ rfl;have b6:(w.alloc (.cells (opC 15 a b d s v) 29)).cell? (iA w.heap.size 6)=sI (v 1):=fw w _ _ 6 _ rfl;have b7:(w.alloc (.cells (opC 15 a b d s v) 29)).cell? (iA w.heap.size 7)=sI (v 2):=fw w _ _ 7 _ rfl
 have b8:(w.alloc (.cells (opC 15 a b d s v) 29)).cell? (iA w.heap.size 8)=sI (v 3):=fw w _ _ 8 _ rfl;have b9:(w.alloc (.cells (opC 15 a b d s v) 29)).cell? (iA w.heap.size 9)=sI (v 4):=fw w _ _ 9 _ rfl;have T:(w.alloc (.cells (opC 15 a b d s v) 29)).cell? (iA w.heap.size 10)=sI (v 5):=fw w _ _ 10 _ rfl;have U:(w.alloc (.cells (opC 15 a b d s v) 29)).cell? (iA w.heap.size 11)=sI (v 6):=fw w _ _ 11 _ rfl;have V:(w.alloc (.cells (opC 15 a b d s v) 29)).cell? (iA w.heap.size 12)=sI (v 7):=fw w _ _ 12 _ rfl;have Y:(w.alloc (.cells (opC 15 a b d s v) 29)).cell? (iA w.heap.size 13)=sI (v 8):=fw w _ _ 13 _ rfl;clear h H C D hE hW O M l L G x N I;generalize B.length=ml at *;go_enter func14,ntmps14;go_wp2_with fail;generalize (w.alloc (.cells (opC 15 a b d s v) 29))=W at *
 go_region_held3(fun X=>X.cell? (iA w0.heap.size 5)=some (sL J ml cap)∧X.cell? (iA w.heap.size 0)=sI 15∧X.cell? (iA w.heap.size 1)=sI a∧X.cell? (iA w.heap.size 2)=sI b∧X.cell? (iA w.heap.size 3)=sI d∧X.cell? (iA w.heap.size 4)=some (.string s)∧X.cell? (iA w.heap.size 5)=sI (v 0)∧X.cell? (iA w.heap.size 6)=sI (v 1)∧X.cell? (iA w.heap.size 7)=sI (v 2)∧X.cell? (iA w.heap.size 8)=sI (v 3)∧X.cell? (iA w.heap.size 9)=sI (v 4)∧X.cell? (iA w.heap.size 10)=sI (v 5)∧X.cell? (iA w.heap.size 11)=sI (v 6)∧X.cell? (iA w.heap.size 12)=sI (v 7)∧X.cell? (iA w.heap.size 13)=sI (v 8)) (first|exact⟨F,b0,b1,b2,b3,b4,b5,b6,b7,b8,b9,T,U,V,Y⟩|exact K) (first|(go_at_call 23;refine(S.o _).mono ?_;rintro e w' ⟨rfl,rfl⟩)|(go_at_call 22;refine(R.o _ (Same.refl _).drew).mono ?_;rintro e w1 ⟨rfl,K,z⟩));clear K;go_wp2;go_ret;exact⟨rfl,z.o⟩
theorem zMy(h:St w0 w n ws left)(hn:n≤10000000)(hl:0<left)(kind a b d:Int)(s:ByteArray)(v:Nat→Int)(ha:dK a)(hb:dK b)(hs:s.size≤1000000000):
 Cl 24 #[iP w0.heap.size,qJ kind a b d s v] w fun e w'=>e=rV #[]∧Next w0 w' n:=by
 by_cases B:kind=1
 ·subst B;exact zLc h a b d s v (by omega) ha
 by_cases C:kind=2
 ·subst C;exact zLd h a b d s v (by omega) ha hb
 by_cases D:kind=4
 ·subst D;exact zL6 h a b d s v (by omega) ha hs hl
 by_cases E:kind=5
 ·subst E;exact zL7 h a b d s v (by omega) ha hb hl
 by_cases F:kind=6
 ·subst F;exact zM5 h a b d s v (by omega) ha hb hl
 by_cases G:kind=7
 ·subst G;exact zL8 h a b d s v (by omega) ha hb hl
 by_cases H:kind=8
 ·subst H;exact zL9 h a b d s v (by omega) ha hb hl
 by_cases A:kind=17
 ·subst A;exact zLa h a b d s v (by omega) ha hb hl
 exact zLb h kind a b d s v (by omega) ha hb hl B C D E F G H A
theorem zMz(kind:Int)(k3:kind≠3)(k9:kind≠9)(k10:kind≠10)(k16:kind≠16)(k11:kind≠11)(k12:kind≠12)(k13:kind≠13)(k14:kind≠14)(k15:kind≠15)(h:St w0 w n ws left)(hn:n≤10000000)(hl:0<left)(ad:Nat→Addr)(st:Nat→ByteArray)(hE:lq w0 ad st)(hW:qx w0)(a b d:Int)(s:ByteArray)(v:Nat→Int)(ha:dK a)(hb:dK b)(hd:dK d)(hv:∀i,i<9→-9223372036854775808≤v i∧v i≤9223372036854775807)(hs:s.size≤1000000000):
 Cl 14 #[iP w0.heap.size,qJ kind a b d s v] w fun e w'=>e=rB true∧Next w0 w' n:=by
 have B:Hd (St w0 (w.alloc (.cells (opC kind a b d s v) 29)) n ws left):=h.below (gu _);have L:=beq_eq_false_iff_ne.2 k3;have M:=beq_eq_false_iff_ne.2 k9;have C:=beq_eq_false_iff_ne.2 k10;have I:=beq_eq_false_iff_ne.2 k16;have D:=beq_eq_false_iff_ne.2 k11;have E:=beq_eq_false_iff_ne.2 k12;have F:=beq_eq_false_iff_ne.2 k13;have G:=beq_eq_false_iff_ne.2 k14;have H:=beq_eq_false_iff_ne.2 k15;go_enter func14,ntmps14;go_wp2_with fail;refine(zMy B hn hl kind a b d s v ha hb hs).mono ?_;rintro e K ⟨rfl,J⟩;have A:Hd (Next w0 K n):=J;go_wp2;go_ret;exact⟨rfl,A⟩
theorem zN(hA:oM w0)(h:St w0 w n ws left)(hn:n≤10000000)(hl:0<left)(ad:Nat→Addr)(st:Nat→ByteArray)(hE:lq w0 ad st)(hW:qx w0)(kind:Int)(a b d:Int)(s:ByteArray)(v:Nat→Int)(ha:dK a)(hb:dK b)(hd:dK d)(hv:∀i,i<9→-9223372036854775808≤v i∧v i≤9223372036854775807)(hs:s.size≤1000000000):
 Cl 14 #[iP w0.heap.size,qJ kind a b d s v] w fun e w'=>(∃r,e=rB r∧(kind≠16→r=true))∧Next w0 w' n:=by
 have A:∀{k:Int},(Cl 14 #[iP w0.heap.size,qJ k a b d s v] w fun e w'=>e=rB true∧Next w0 w' n)→Cl 14 #[iP w0.heap.size,qJ k a b d s v] w fun e w'=>(∃r,e=rB r∧(k≠16→r=true))∧Next w0 w' n:=fun h=>h.mono (by
  rintro e w' ⟨rfl,I⟩;exact⟨⟨true,rfl,fun _=>rfl⟩,I⟩)
 by_cases J:kind=3
 ·subst J;exact A (zMp h hn hl ad st hE hW a b d s v ha hb hd hv hs)
 by_cases K:kind=9
 ·subst K;exact A (zMq h hn hl ad st hE hW a b d s v ha hb hd hv hs)
 by_cases B:kind=10
 ·subst B;exact A (zMr h hn hl ad st hE hW a b d s v ha hb hd hv hs)
 by_cases C:kind=11
 ·subst C;exact A (zMt h hn hl ad st hE hW a b d s v ha hb hd hv hs)
 by_cases D:kind=12
 ·subst D;exact A (zMu h hn hl ad st hE hW a b d s v ha hb hd hv hs)
 by_cases E:kind=13
 ·subst E;exact A (zMv h hn hl ad st hE hW a b d s v ha hb hd hv hs)
 by_cases F:kind=14
 ·subst F;exact A (zMw h hn hl ad st hE hW a b d s v ha hb hd hv hs)
 by_cases G:kind=15
 ·subst G;exact A (zMx h hn hl ad st hE hW a b d s v ha hb hd hv hs)
 by_cases H:kind=16
 ·subst H;refine(zMs hA h hn hl ad st hE hW a b d s v ha hb hd hv hs).mono ?_;rintro e w' ⟨⟨r,rfl⟩,I⟩;exact⟨⟨r,rfl,fun q=>absurd rfl q⟩,I⟩
 exact A (zMz kind J K B H C D E F G h hn hl ad st hE hW a b d s v ha hb hd hv hs)
end
abbrev world0:Array Value:=#[.int .i64 0,.int .i64 0,.int .i64 0,.slice none 0 0,.slice none 0 0,.slice none 0 0,.slice none 0 0,.int .i64 0,.int .i64 1048576]
theorem St.init(w:World):St w (w.alloc (.cells world0 37)) 0 [] 1048576:=by
 have A:∀j u,world0[j]? =some u→(w.alloc (.cells world0 37)).cell? (iA w.heap.size j)=some u:=fun j u h=>fw w _ _ j u h
 refine⟨fun _=>.own,[],⟨(Below.refl _ _).alloc (Nat.le_refl _) _,⟨_,heap_alloc_new w _⟩,fun _ _=>rfl,fun _ _=>rfl,⟨0,A 0 _ rfl⟩,⟨0,A 1 _ rfl⟩,⟨0,A 2 _ rfl⟩,⟨_,[],A 3 _ rfl,World.ownsRow_nil _ _ _ _,fun _ _=>rfl,fun u h=>absurd h List.not_mem_nil,Nat.le_refl _⟩,⟨_,A 4 _ rfl,World.ownsRow_nil _ _ _ _,fun _ _=>rfl⟩,Nat.le_refl _,⟨_,A 5 _ rfl,World.ownsRow_nil _ _ _ _,fun _ _=>rfl⟩,Nat.le_refl _,fun i p h=>by simp at h,⟨_,0,[],A 6 _ rfl,World.ownsRow_nil _ _ _ _,fun _ _=>rfl,bS.nil _ _,Nat.le_refl _⟩,⟨0,A 7 _ rfl⟩,A 8 _ rfl,by simp[sizes]⟩,fun p h=>absurd h List.not_mem_nil⟩
structure Scr(w:World)(g o L:Nat)(K A B D:Nat→Int)(S:Nat→ByteArray)(V:Nat→Nat→Int):Prop where
 k:∀i,i<L→w.cell? ⟨g,o+i*14,none⟩=some (.int .i64 (K i))
 a:∀i,i<L→w.cell? ⟨g,o+i*14+1,none⟩=some (.int .i64 (A i))
 b:∀i,i<L→w.cell? ⟨g,o+i*14+2,none⟩=some (.int .i64 (B i))
 d:∀i,i<L→w.cell? ⟨g,o+i*14+3,none⟩=some (.int .i64 (D i))
 s:∀i,i<L→w.cell? ⟨g,o+i*14+4,none⟩=some (.string (S i))
 v:∀i j,i<L→j<9→w.cell? ⟨g,o+i*14+(5+j),none⟩=some (.int .i64 (V i j))
 ra:∀i,i<L→dK (A i)
 rb:∀i,i<L→dK (B i)
 rd:∀i,i<L→dK (D i)
 rv:∀i j,i<L→j<9→-9223372036854775808≤V i j∧V i j≤9223372036854775807
 lt:g<w.heap.size
theorem zN0(w:World)(hA:oM w)(ad:Nat→Addr)(st:Nat→ByteArray)(hE:lq w ad st)(hW:qx w)(g o L c:Nat)(K A B D:Nat→Int)(S:Nat→ByteArray)(V:Nat→Nat→Int)(hsc:Scr w g o L K A B D S V)(hL:L≤1048576)(hS:∀i,i<L→(S i).size≤1048576)(held:Int)(hh:held=8∨held=512∨held=1024∨held=38912∨held=10240∨held=18432)(lists:Bool):
 Cl 12 #[.slice (some (iA g o)) L c,iV held,.bool lists] w fun e w'=>e=.returned (iV (-1))∧Below w.heap.size w w':=by
 have m:=hid hA;have s:=hid hh;clear hh;have n:Hd (lq w ad st):=hE;have t:Hd (qx w):=hW;have C:Hd (Scr w g o L K A B D S V):=hsc;have b:Hd (∀i,i<L→(S i).size≤1048576):=hS;clear hE hW hsc hS hA;go_enter func12,ntmps12;go_wp2_with fail;go_loopw [8] (fun i wr=> ∃(j:Nat) (R:List ByteArray) (left:Int),i=iV j∧j≤L∧St w wr (2*j) R left) (fun i _=>L - (intOf i).toNat)
 case atStart=>exact⟨0,[],1048576,rfl,Nat.zero_le _,St.init w⟩
 case round=>
  obtain⟨j,R,left,rfl,hj,N⟩:=hrel;have T:Hd (St w wr (2*j) R left):=N;have G:Hd (Bw w wr):=N.low;have l:=N.lft;clear N;by_cases E:j<L
  ·have A0:(j:Int)<(L:Int):=by omega
   by_cases Y:0<left
   ·have y:cI wr g (o+j*14) (K j):=(G.cell (p:=(iA g (o+j*14))) C.lt).trans (C.k j E);have u:cI wr g (o+j*14+1) (A j):=(G.cell (p:=(iA g (o+j*14+1))) C.lt).trans (C.a j E);have v:cI wr g (o+j*14+2) (B j):=(G.cell (p:=(iA g (o+j*14+2))) C.lt).trans (C.b j E);have x:cI wr g (o+j*14+3) (D j):=(G.cell (p:=(iA g (o+j*14+3))) C.lt).trans (C.d j E);have z:wr.cell? (iA g (o+j*14+4))=some (.string (S j)):=(G.cell (p:=(iA g (o+j*14+4))) C.lt).trans (C.s j E);have v0:cI wr g (o+j*14+5) (V j 0):=(G.cell (p:=(iA g (o+j*14+5))) C.lt).trans (C.v j 0 E (by omega));have v1:cI wr g (o+j*14+6) (V j 1):=(G.cell (p:=(iA g (o+j*14+6))) C.lt).trans (C.v j 1 E (by omega));have v2:cI wr g (o+j*14+7) (V j 2):=(G.cell (p:=(iA g (o+j*14+7))) C.lt).trans (C.v j 2 E (by omega));have v3:cI wr g (o+j*14+8) (V j 3):=(G.cell (p:=(iA g (o+j*14+8))) C.lt).trans (C.v j 3 E (by omega))
    have v4:cI wr g (o+j*14+9) (V j 4):=(G.cell (p:=(iA g (o+j*14+9))) C.lt).trans (C.v j 4 E (by omega));have v5:cI wr g (o+j*14+10) (V j 5):=(G.cell (p:=(iA g (o+j*14+10))) C.lt).trans (C.v j 5 E (by omega));have v6:cI wr g (o+j*14+11) (V j 6):=(G.cell (p:=(iA g (o+j*14+11))) C.lt).trans (C.v j 6 E (by omega));have v7:cI wr g (o+j*14+12) (V j 7):=(G.cell (p:=(iA g (o+j*14+12))) C.lt).trans (C.v j 7 E (by omega));have v8:cI wr g (o+j*14+13) (V j 8):=(G.cell (p:=(iA g (o+j*14+13))) C.lt).trans (C.v j 8 E (by omega));have I:Hd (Cl 14 #[iP w.heap.size,qJ (K j) (A j) (B j) (D j) (S j) (V j)] wr fun e w'=>(∃r,e=rB r∧(K j≠16→r=true))∧Next w w' (2*j)):=zN m.o T.o (by omega) Y ad st n.o t.o (K j) (A j) (B j) (D j) (S j) (V j) (C.ra j E) (C.rb j E) (C.rd j E) (fun q hq=>C.rv j q E hq) (Nat.le_trans (b.o j E) (by decide));have H:Hd (St w wr (2*(j+1)) R left):=T.mono (by omega)
    generalize K j=kk at *;by_cases d:kk<1
    ·go_wp2;go_roundw
     case rel=>exact⟨j+1,R,left,by go_num,by omega,H.o⟩
     case measure=>simp[intOf];omega
    by_cases X:17<kk
    ·go_wp2;go_roundw
     case rel=>exact⟨j+1,R,left,by go_num,by omega,H.o⟩
     case measure=>simp[intOf];omega
    go_wp2_with fail;refine I.mono ?_;rintro e k ⟨⟨r,rfl,h⟩,J,F,U⟩;have M:Hd (St w k (2*(j+1)) J F):=U;clear U I y u v x z v0 v1 v2 v3 v4 v5 v6 v7 v8;cases r
    ·have f:kk=16:=Classical.byContradiction fun q=>Bool.noConfusion (h q)
     subst f;clear h d X;rcases s.o with rfl|rfl|rfl|rfl|rfl|rfl;all_goals
      go_wp2_with fail;refine(zDd M.o (by omega)).mono ?_;rintro e w3 ⟨rfl,Z,rfl⟩;have O:Hd (St w (k.drewN Z) (2*(j+1)) J F):=M.drewN Z;go_wp2;go_roundw
      case rel=>exact⟨j+1,J,F,by go_num,by omega,O.o⟩
      case measure=>simp[intOf];omega
    clear h;go_wp2_with fail;refine(zDd M.o (by omega)).mono ?_;rintro e w3 ⟨rfl,Z,rfl⟩;have O:Hd (St w (k.drewN Z) (2*(j+1)) J F):=M.drewN Z;go_wp2;go_roundw
    case rel=>exact⟨j+1,J,F,by go_num,by omega,O.o⟩
    case measure=>simp[intOf];omega
   go_wp2;go_ret;exact⟨rfl,G.o⟩
  have A1:¬(j:Int)<(L:Int):=by omega
  go_wp2;go_ret;exact⟨rfl,G.o⟩
def SmallBack(L:Nat)(S:Nat→ByteArray)(e:Ending):Prop:= ∃r,e=rB r∧(r=true→L≤1048576∧∀i,i<L→(S i).size≤1048576)
theorem zN1(w:World)(g o L c:Nat)(K A B D:Nat→Int)(S:Nat→ByteArray)(V:Nat→Nat→Int)(hsc:Scr w g o L K A B D S V)(hL:L≤9000000000000000000)(hS:∀i,i<L→(S i).size≤9000000000000000000):
 Cl 11 #[.slice (some (iA g o)) L c] w fun e w'=>SmallBack L S e∧w'=w:=by
 have I:=hid hsc;have M:=hid hS;by_cases T:1048576<L
 ·have Z:(1048576:Int)<(L:Int):=by omega
  have m:¬L≤1048576:=by omega
  go_enter func11,ntmps11;go_wp2;go_ret;exact⟨⟨_,rfl,fun q=>Bool.noConfusion q⟩,rfl⟩
 have Z:¬(1048576:Int)<(L:Int):=by omega
 have R:Hd (L≤1048576):=by show L≤1048576;omega
 go_enter func11,ntmps11;go_wp2_with fail;go_loopw [3,4] (fun s i wr=> ∃(j N:Nat),i=iV j∧s=iV N∧j≤L∧N≤1048576∧(∀i,i<j→(S i).size≤1048576)∧wr=w) (fun _ i _=>L - (intOf i).toNat)
 case atStart=>exact⟨0,L,rfl,rfl,Nat.zero_le _,R,fun i h=>absurd h (Nat.not_lt_zero i),rfl⟩
 case round=>
  obtain⟨j,N,rfl,rfl,t,p,F,rfl⟩:=hrel;have E:=hid F;by_cases G:j<L
  ·have f:(j:Int)<(L:Int):=by omega
   have Y:=I.s j G;have O:=M j G;obtain⟨C,H⟩:∃C,S j=C:=⟨_,rfl⟩;have J:=hid H;rw[H]at Y O;by_cases d:1048576<N+C.size
   ·have b:(1048576:Int)<(N:Int)+(C.size:Int):=by omega
    have n:wrap64 ((N:Int)+(C.size:Int))=(N:Int)+(C.size:Int):=by unfold wrap64;omega
    go_wp2;go_ret;exact⟨⟨_,rfl,fun q=>Bool.noConfusion q⟩,rfl⟩
   have b:¬(1048576:Int)<(N:Int)+(C.size:Int):=by omega
   have n:wrap64 ((N:Int)+(C.size:Int))=(N:Int)+(C.size:Int):=by unfold wrap64;omega
   have X:Hd (∀i,i<j+1→(S i).size≤1048576):=fun i hi=>by
    by_cases e:i<j
    ·exact E i e
    have:i=j:=by omega
    subst this;rw[J.o];omega
   go_wp2;go_roundw
   case rel=>exact⟨j+1,N+C.size,by go_num,by first|rfl|go_num|(push_cast;rfl),by omega,by omega,X,by first|rfl|trivial⟩
   case measure=>simp[intOf];omega
  have k:¬(j:Int)<(L:Int):=by omega
  have l:j=L:=by omega
  have U:Hd (L≤1048576∧∀i,i<L→(S i).size≤1048576):=⟨R,fun i hi=>E i (by omega)⟩;go_wp2;go_ret;exact⟨⟨_,rfl,fun _=>U⟩,rfl⟩
theorem zN2(w:World)(p:Option Addr)(c:Nat):Cl 11 #[.slice p 0 c] w fun e w'=>e=rB true∧w'=w:=by
 go_enter func11,ntmps11;go_wp2_with fail;go_loopw [3,4] (fun s i wr=>s=iV 0∧i=iV 0∧wr=w) (fun _ _ _=>0)
 case atStart=>exact⟨rfl,rfl,rfl⟩
 case round=>
  obtain⟨rfl,rfl,rfl⟩:=hrel;go_wp2;go_ret;exact⟨rfl,rfl⟩
theorem zN3(w:World)(p:Option Addr)(c:Nat)(held:Int)(lists:Bool):Cl 12 #[.slice p 0 c,iV held,.bool lists] w fun e w'=>e=.returned (iV (-1))∧Below w.heap.size w w':=by
 go_enter func12,ntmps12;go_wp2_with fail;have A:Hd (Bw w (w.alloc (.cells world0 37))):=gu _;have B:(w.alloc (.cells world0 37)).cell? (iA w.heap.size 8)=sI 1048576:=fw w _ _ 8 _ rfl;generalize w.alloc (.cells world0 37)=W at *;go_loopw [8] (fun i wr=>i=iV 0∧wr=W) (fun _ _=>0)
 case atStart=>exact⟨rfl,rfl⟩
 case round=>
  obtain⟨rfl,rfl⟩:=hrel;go_wp2;go_ret;exact⟨rfl,A.o⟩
def Script(w:World)(v:Value):Prop:=(∃p c,v=.slice p 0 c)∨∃g o L c K A B D S V,v=.slice (some ⟨g,o,none⟩) L c∧Scr w g o L K A B D S V∧L≤9000000000000000000∧∀i,i<L→(S i).size≤9000000000000000000
theorem tK(w:World)(hA:oM w)(ad:Nat→Addr)(st:Nat→ByteArray)(hE:lq w ad st)(hW:qx w)(v:Value)(h:Script w v)(held:Int)(hh:held=8∨held=512∨held=1024∨held=38912∨held=10240∨held=18432)(lists:Bool):
 Cl 9 #[v,iV held,.bool lists] w fun e w'=>e=rB true∧Below w.heap.size w w':=by
 rcases h with⟨p,c,rfl⟩|⟨g,o,L,c,K,A,B,D,S,V,rfl,C,U,X⟩
 ·go_enter func9,ntmps9;go_wp2_with fail;refine(zN2 _ p c).mono ?_;rintro e J ⟨rfl,rfl⟩;go_wp2_with fail;refine(zN3 _ p c held lists).mono ?_;rintro e R ⟨rfl,I⟩;have N:Hd (Bw J R):=I;clear I;go_wp2;go_ret;exact⟨rfl,N.o⟩
 have E:=zN1 w g o L c K A B D S V C U X;have G:=fun(q:L≤1048576) (q2:∀i,i<L→(S i).size≤1048576)=>zN0 w hA ad st hE hW g o L c K A B D S V C q q2 held hh lists
 have F:Hd (Cl 11 #[.slice (some (iA g o)) L c] w fun e w'=>SmallBack L S e∧w'=w):=E;have H:Hd (L≤1048576→(∀i,i<L→(S i).size≤1048576)→Cl 12 #[.slice (some (iA g o)) L c,iV held,.bool lists] w fun e w'=>e=.returned (iV (-1))∧Bw w w'):=G;clear E G C U X hE hW hA hh;go_enter func9,ntmps9;go_wp2_with fail;refine F.mono ?_;rintro e J ⟨⟨r,rfl,M⟩,rfl⟩;cases r
 ·clear M;go_wp2;go_ret;exact⟨rfl,Below.refl _ _⟩
 have T:=H.o (M rfl).1 (M rfl).2;have O:Hd (Cl 12 #[.slice (some (iA g o)) L c,iV held,.bool lists] J fun e w'=>e=.returned (iV (-1))∧Bw J w'):=T;clear M T;go_wp2_with fail;refine O.mono ?_;rintro e R ⟨rfl,I⟩;have N:Hd (Bw J R):=I;clear I;go_wp2;go_ret;exact⟨rfl,N.o⟩
theorem zB4(w:World)(hA:∀w',Below w.heap.size w w'→oM w')(ad:Nat→Addr)(st:Nat→ByteArray)(hE:lq w ad st)(hW:qx w)(v:Value)(h:∀w',Below w.heap.size w w'→Script w' v)(held:Int)(hh:held=8∨held=512∨held=1024∨held=38912∨held=10240∨held=18432)(lists:Bool):
 Cl 10 #[v,iV held,.bool lists] w fun e w'=>e=rB true∧Below w.heap.size w w':=by
 have E:=hid (zMl w hE hW);have J:Hd (∀w',Bw w w'→Cl 9 #[v,iV held,.bool lists] w' fun e I=>e=rB true∧Hd (Bw w I)):=fun w' C=>(tK w' (hA w' C) ad st (hE.below C) (hW.below C) v (h w' C) held hh lists).mono (by
  rintro e I ⟨rfl,M⟩;exact⟨rfl,C.trans (M.mono C.size)⟩)
 have H:∃p n c,v=.slice p n c:=by
  rcases h w (Below.refl _ _) with⟨p,c,rfl⟩|⟨g,o,L,c,K,A,B,D,S,V,rfl,_⟩
  ·exact⟨_,_,_,rfl⟩
  exact⟨_,_,_,rfl⟩
 obtain⟨p,n,c,rfl⟩:=H;clear hA hE hW h hh;go_enter func10,ntmps10;go_wp2_with fail;refine E.mono ?_;rintro e N ⟨rfl,C⟩;have G:=hid (J.o N C);clear J E C;go_wp2_with fail;refine G.mono ?_;rintro e I ⟨rfl,F⟩;go_wp2;go_ret;exact⟨rfl,F.o⟩
theorem zN4(w:World)(hA:∀w',Below w.heap.size w w'→oM w')(ad:Nat→Addr)(st:Nat→ByteArray)(hE:lq w ad st)(hW:qx w)(v:Value)(h:∀w',Below w.heap.size w w'→Script w' v):
 Cl 6 #[v] w fun e w'=>e=rB true∧Below w.heap.size w w':=by
 have C:=hid (zB4 w hA ad st hE hW v h 38912 (by decide) false);clear h hE hW hA;go_enter func6,ntmps6;go_wp2_with fail;refine C.mono ?_;rintro e D ⟨rfl,A⟩;have B:Hd (Bw w D):=A;clear A;go_wp2;go_ret;exact⟨rfl,B.o⟩
theorem zPd(w:World)(hA:∀w',Below w.heap.size w w'→oM w')(ad:Nat→Addr)(st:Nat→ByteArray)(hE:lq w ad st)(hW:qx w)(v:Value)(h:∀w',Below w.heap.size w w'→Script w' v):
 Cl 7 #[v] w fun e w'=>e=rB true∧Below w.heap.size w w':=by
 have C:=hid (zB4 w hA ad st hE hW v h 10240 (by decide) false);clear h hE hW hA;go_enter func7,ntmps7;go_wp2_with fail;refine C.mono ?_;rintro e D ⟨rfl,A⟩;have B:Hd (Bw w D):=A;clear A;go_wp2;go_ret;exact⟨rfl,B.o⟩
theorem zPe(w:World)(hA:∀w',Below w.heap.size w w'→oM w')(ad:Nat→Addr)(st:Nat→ByteArray)(hE:lq w ad st)(hW:qx w)(v:Value)(h:∀w',Below w.heap.size w w'→Script w' v):
 Cl 8 #[v] w fun e w'=>e=rB true∧Below w.heap.size w w':=by
 have C:=hid (zB4 w hA ad st hE hW v h 18432 (by decide) false);clear h hE hW hA;go_enter func8,ntmps8;go_wp2_with fail;refine C.mono ?_;rintro e D ⟨rfl,A⟩;have B:Hd (Bw w D):=A;clear A;go_wp2;go_ret;exact⟨rfl,B.o⟩
theorem zPf(w:World)(hA:∀w',Below w.heap.size w w'→oM w')(ad:Nat→Addr)(st:Nat→ByteArray)(hE:lq w ad st)(hW:qx w)(v:Value)(h:∀w',Below w.heap.size w w'→Script w' v):
 Cl 3 #[v] w fun e w'=>e=rB true∧Below w.heap.size w w':=by
 have C:=hid (tK w (hA w (Below.refl _ _)) ad st hE hW v (h w (Below.refl _ _)) 8 (by decide) false);clear h hE hW hA;go_enter func3,ntmps3;go_wp2_with fail;refine C.mono ?_;rintro e D ⟨rfl,A⟩;have B:Hd (Bw w D):=A;clear A;go_wp2;go_ret;exact⟨rfl,B.o⟩
theorem zPg(w:World)(hA:∀w',Below w.heap.size w w'→oM w')(ad:Nat→Addr)(st:Nat→ByteArray)(hE:lq w ad st)(hW:qx w)(v:Value)(h:∀w',Below w.heap.size w w'→Script w' v):
 Cl 4 #[v] w fun e w'=>e=rB true∧Below w.heap.size w w':=by
 have C:=hid (tK w (hA w (Below.refl _ _)) ad st hE hW v (h w (Below.refl _ _)) 512 (by decide) false);clear h hE hW hA;go_enter func4,ntmps4;go_wp2_with fail;refine C.mono ?_;rintro e D ⟨rfl,A⟩;have B:Hd (Bw w D):=A;clear A;go_wp2;go_ret;exact⟨rfl,B.o⟩
theorem zPh(w:World)(hA:∀w',Below w.heap.size w w'→oM w')(ad:Nat→Addr)(st:Nat→ByteArray)(hE:lq w ad st)(hW:qx w)(v:Value)(h:∀w',Below w.heap.size w w'→Script w' v):
 Cl 5 #[v] w fun e w'=>e=rB true∧Below w.heap.size w w':=by
 have C:=hid (tK w (hA w (Below.refl _ _)) ad st hE hW v (h w (Below.refl _ _)) 1024 (by decide) false);clear h hE hW hA;go_enter func5,ntmps5;go_wp2_with fail;refine C.mono ?_;rintro e D ⟨rfl,A⟩;have B:Hd (Bw w D):=A;clear A;go_wp2;go_ret;exact⟨rfl,B.o⟩
end Go.Proofs.YtehmdohpmpbnnaaGreatDoor
