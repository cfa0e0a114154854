import Derived.Test.YtilbfpnpkkkpgaaGreatDoorQ00
import Derived.Test.YtilbfpnpkkkpgaaGreatDoorQ35
import Derived.Test.YtilbfpnpkkkpgaaGreatDoorQ39
import Derived.Test.YtilbfpnpkkkpgaaGreatDoorQ40
import Derived.Laws.AppendOwnNone
import Derived.Deep.RegionHeld3
import Derived.Deep.RegionLaw
set_option linter.all false
set_option maxRecDepth 100000
set_option maxHeartbeats 8000000
namespace Go.Proofs.YtilbfpnpkkkpgaaGreatDoor
variable{w0 w:World}{base m gr cap:Nat}{v:Value}
section
open Go.Extern Go.RowKit
theorem zEd{xs:List Value}(h: ∀u∈xs,∃x,u=iV x): ∀u∈xs,u.oneCell'=true:=fun u hu=>by obtain⟨x,rfl⟩:=h u hu;rfl
def SomeBool(e:Ending):Prop:= ∃r:Bool,e=rB r
def AlikeL(w:World)(r t s u:Value):Prop:=(∀k,Cl 39 #[r,t] (w.drewN k) fun e w'=>e=rB true∧∃j,w'=(w.drewN k).drewN j)∧∀k,Cl 40 #[s,u] (w.drewN k) fun e w'=>e=rB true∧∃j,w'=(w.drewN k).drewN j
theorem zGz{n:Nat}{ws:List ByteArray}{left:Int}(h:St w0 w n ws left)(hn:n≤1000000000):
 Cl 23 #[iP w0.heap.size] w fun e w'=>e=rB true∧∃k,w'=w.drewN k:=by
 obtain⟨tag,ps,h,_⟩:=h;obtain⟨v,m,xs,hx⟩:=h.lx;have hc:=hx.cell;have hm:=hx.len;by_cases hz:m=0
 ·subst hz;rcases hx.row.2 with⟨rfl,-⟩|⟨g,cap,cur,rfl,hg,hh,hle,hmx,hsz2,htk⟩;all_goals
   try clear hh htk hsz2
   go_enter Tryz.func23,Tryz.ntmps23;go_wp2;go_loopw [3] (fun i wr=>i=iV 0∧wr=w) (fun _ _=>0)
   case atStart=>exact⟨rfl,rfl⟩
   case round=>
    obtain⟨rfl,rfl⟩:=hrel;go_wp2;go_ret;exact⟨rfl,0,rfl⟩
 ·rcases hx.row.2 with⟨rfl,hn0⟩|⟨g,cap,cur,rfl,hg,hh,hle,hmx,hsz2,htk⟩
  ·exact absurd hn0 hz
  ·have HL:Hid (∀q,q<m→∃pr mr cr pt mt ct p1 m1 c1 p2 m2 c2,w.cell? (iA g (q*4))=some (.slice pr mr cr)∧w.cell? (iA g (q*4+1))=some (.slice pt mt ct)∧w.cell? (iA g (q*4+2))=some (.slice p1 m1 c1)∧w.cell? (iA g (q*4+3))=some (.slice p2 m2 c2)∧AlikeL w (.slice pr mr cr) (.slice pt mt ct) (.slice p1 m1 c1) (.slice p2 m2 c2)):=fun q hq=>by
    obtain⟨r,t,s,u,a1,a2,a3,a4,M,f,M',f',hM,hM',h1,h2,h3,h4⟩:=hx.ok q hq;have b1:=hx.cells _ _ a1;have b2:=hx.cells _ _ a2;have b3:=hx.cells _ _ a3;have b4:=hx.cells _ _ a4;rw[Nat.mul_comm]at b1 b2 b3 b4;have hal:AlikeL w r t s u:=⟨fun k=>zQd hM h1 h2 k,fun k=>zQg hM' h3 h4 k⟩;obtain⟨pr,cr,rfl,_⟩:=h1;obtain⟨pt,ct,rfl,_⟩:=h2;obtain⟨p1,c1,rfl,_⟩:=h3;obtain⟨p2,c2,rfl,_⟩:=h4;exact⟨_,_,_,_,_,_,_,_,_,_,_,_,b1,b2,b3,b4,hal⟩
   go_enter Tryz.func23,Tryz.ntmps23;go_wp2;go_loopw [3] (fun i wr=> ∃k j:Nat,i=iV k∧k≤m∧wr=w.drewN j) (fun i _=>m - (intOf i).toNat)
   case atStart=>exact⟨0,0,rfl,Nat.zero_le _,rfl⟩
   case round=>
    obtain⟨k,j,rfl,hk,rfl⟩:=hrel;by_cases hlt:k<m
    ·have hkI:(k:Int)<(m:Int):=by omega
     obtain⟨pr,mr,cr,pt,mt,ct,p1,m1,c1,p2,m2,c2,k1,k2,k3,k4,hal1,hal2⟩:=HL k hlt;have k1:(w.drewN j).cell? (iA g (k*4))=some (.slice pr mr cr):=k1;have k2:(w.drewN j).cell? (iA g (k*4+1))=some (.slice pt mt ct):=k2;have k3:(w.drewN j).cell? (iA g (k*4+2))=some (.slice p1 m1 c1):=k3;have k4:(w.drewN j).cell? (iA g (k*4+3))=some (.slice p2 m2 c2):=k4;have hcj:(w.drewN j).cell? (iA w0.heap.size 6)=some (sL g m cap):=hc;have HW:Hid (∃a,w.drewN j=w.drewN a):=⟨j,rfl⟩;have HRA:Hid (∀k,Cl 39 #[.slice pr mr cr,.slice pt mt ct] ((w.drewN j).drewN k) fun e w'=>e=rB true∧∃i,w'=((w.drewN j).drewN k).drewN i):=fun k=>by rw[zB2];exact hal1 _
     have HRB:Hid (∀k,Cl 40 #[.slice p1 m1 c1,.slice p2 m2 c2] ((w.drewN j).drewN k) fun e w'=>e=rB true∧∃i,w'=((w.drewN j).drewN k).drewN i):=fun k=>by rw[zB2];exact hal2 _
     generalize w.drewN j=W at *;go_wp2_with fail;go_quiet ((go_at_call 39;refine Calls.quiet_of (HRA _)));go_wp2_with fail;have k3':(W.drewN nq).cell? (iA g (k*4+2))=some (.slice p1 m1 c1):=k3;have k4':(W.drewN nq).cell? (iA g (k*4+3))=some (.slice p2 m2 c2):=k4;have hcj':(W.drewN nq).cell? (iA w0.heap.size 6)=some (sL g m cap):=hcj;have HW2:Hid (∃a,W.drewN nq=w.drewN a):=by
      obtain⟨a,ha⟩:=HW;exact⟨a+nq,by rw[ha,zB2]⟩
     have HRC:Hid (∀k,Cl 40 #[.slice p1 m1 c1,.slice p2 m2 c2] ((W.drewN nq).drewN k) fun e w'=>e=rB true∧∃i,w'=((W.drewN nq).drewN k).drewN i):=fun k=>by rw[zB2];exact HRB _
     generalize W.drewN nq=W2 at *;go_quiet ((go_at_call 40;refine Calls.quiet_of (HRC _)));have HW3:Hid (∃a,W2.drewN nq=w.drewN a):=by
      obtain⟨a,ha⟩:=HW2;exact⟨a+nq,by rw[ha,zB2]⟩
     generalize W2.drewN nq=W3 at *;go_wp2;go_roundw
     case rel=>
      obtain⟨a,ha⟩:=HW3;exact⟨k+1,a,by go_num,by omega,ha⟩
     case measure=>simp[intOf];omega
    ·have hkM: ¬(k:Int)<(m:Int):=by omega
     go_wp2;go_ret;exact⟨rfl,j,rfl⟩
end
section
open Go.Extern Go.Maps Go.RowKit
section
variable {tag:Nat→Tag} {ps:List Duo} {w0 w:World} {n:Nat} {ws:List ByteArray} {left:Int}
theorem StT.cell5(h:StT tag ps w0 w n ws left){w':World}(hb:Below w.heap.size w w')(hc5:w.cell? ⟨w0.heap.size,5,none⟩=some v):w'.cell? ⟨w0.heap.size,5,none⟩=some v:=(World.cell?_of_block (a:=⟨w0.heap.size,5,none⟩) (hb.block _ h.lt)).trans hc5
theorem zQh(h:StT tag ps w0 w n ws left)(hall: ∀p∈ps,p.all.size≤sizes ws)(hn:n≤10000000)(hl:0<left){ad:Nat→Addr}{st:Nat→ByteArray}(hE:Errs w0 ad st)(hW:Wids w0){gd:Nat}(hc5:w.cell? ⟨w0.heap.size,5,none⟩=some (.slice (some ⟨gd,0,none⟩) ps.length cap)){i:Nat}{p:Duo}(hp:ps[i]? =some p)(a b d:Int)(s:ByteArray)(v:Nat→Int)(ha:I64 a):
 Calls Tryz.prog 36 #[.pointer (some ⟨w0.heap.size,0,none⟩),.pointer (some ⟨gd,i*3,none⟩),opV 12 a b d s v] w fun e w'=>e=.returned (.bool true)∧Next w0 w' n∧(∀(k:Nat) (cur:Array Value),tag k=.own→w.heap[k]? =some (.cells cur 79 (0,0))→w'.heap[k]? =some (.cells cur 79 (0,0)))∧w'.cell? ⟨w0.heap.size,5,none⟩=w.cell? ⟨w0.heap.size,5,none⟩:=by
 have HOP0:Hid ((∀(k:Nat) (cur:Array Value),w.heap[k]? =some (.cells cur 79 (0,0))→(w.alloc (.cells (opC 12 a b d s v) 79)).heap[k]? =some (.cells cur 79 (0,0)))∧(w.alloc (.cells (opC 12 a b d s v) 79)).cell? ⟨w0.heap.size,5,none⟩=w.cell? ⟨w0.heap.size,5,none⟩):=⟨fun k cur hb=>OpK.below (zA0 _) k cur hb,World.cell?_of_block (a:=⟨w0.heap.size,5,none⟩) (Below.heap_alloc _ _ _ h.lt)⟩;have hsum:=h.sum;have hz1:=zAc ws a;have hpall:=hall p (List.mem_of_getElem? hp);have HS:Hid (StT tag ps w0 (w.alloc (.cells (opC 12 a b d s v) 79)) n ws left):=h.below (zA0 _);have HC5:Hid ((w.alloc (.cells (opC 12 a b d s v) 79)).cell? ⟨w0.heap.size,5,none⟩=some (.slice (some ⟨gd,0,none⟩) ps.length cap)):=h.cell5 (zA0 _) hc5;have HP:Hid (ps[i]? =some p):=hp;have HALL:Hid (∀p∈ps,p.all.size≤sizes ws):=hall;have HE:Hid (Errs w0 ad st∧Wids w0):=⟨hE,hW⟩;clear h hE hW hc5 hp hall;go_enter Tryz.func36,Tryz.ntmps36
 go_wp2_with fail;refine(HS.out.word a (by omega) ha.1 ha.2).mono ?_;rintro e w1 ⟨rfl,m,rfl⟩;have HS1:Hid (StT tag ps w0 ((w.alloc (.cells (opC 12 a b d s v) 79)).drewN m) n ws left):=HS.out.drewN m;have hc5:((w.alloc (.cells (opC 12 a b d s v) 79)).drewN m).cell? ⟨w0.heap.size,5,none⟩=some (.slice (some ⟨gd,0,none⟩) ps.length cap):=HC5.out;have HOP1:Hid ((∀(k:Nat) (cur:Array Value),w.heap[k]? =some (.cells cur 79 (0,0))→((w.alloc (.cells (opC 12 a b d s v) 79)).drewN m).heap[k]? =some (.cells cur 79 (0,0)))∧((w.alloc (.cells (opC 12 a b d s v) 79)).drewN m).cell? ⟨w0.heap.size,5,none⟩=w.cell? ⟨w0.heap.size,5,none⟩):=HOP0;clear HOP0;generalize (w.alloc (.cells (opC 12 a b d s v) 79)).drewN m=W at *;obtain⟨t,ht⟩: ∃t,wordAt ws a=t:=⟨_,rfl⟩;rw[ht]at hz1;rw[ht];obtain⟨c0,c1,c2⟩:=(HS1.out.row hc5).2.2.2.2 i p HP.out;have cE:=HS1.out.desk HP.out
 have HAP:=hid (HS1.out.apply_both HE.out.1 HE.out.2 hc5 HP.out (by omega) t (by omega));have HOS:Hid ((p.told t).size≤100000000000):=by
  show(ba _).size≤_;rw[zA5];have hg:=(HS1.out.duos i p HP.out).good;have hts:t.data.toList.length=t.size:=by simp
  exact hg.out (by omega) t.data.toList (by omega)
 clear ht hc5 HC5 HS;generalize hO:p.told t=O at *;clear hO;go_wp2_with fail;refine HAP.out.mono ?_;rintro e w2 ⟨rfl,d1,HR⟩;clear HAP c0 c1 c2 cE;go_wp2_with fail;refine HR.out.mono ?_;rintro e w3 ⟨rfl,d2,f2,HZ⟩;clear HR d1;obtain⟨⟨tag',p',hpa,hS4⟩,hop2⟩:=HZ.out;have HOP2:=hid hop2;clear hop2;have HS4:Hid (StT tag' (ps.set i p') w0 (w3.setCell ⟨gd,i*3+2,none⟩ (.string (p.all++O))) n ws left):=hS4;have HPA:Hid (p'.all=p.all++O):=hpa;have hos:=HOS.out;have hsz:(p.all++O).size≤100001048576:=by rw[ByteArray.size_append];omega
 clear hS4 hpa HZ;go_wp2_with fail;refine(HS4.out.keepB (p.all++O) (by omega) (by omega) (by omega)).mono ?_;rintro e w4 ⟨rfl,hS5,_,hop3⟩;have HS5:=hid hS5;have HOP3:=hid hop3;clear hop3;clear hS5 HS4 d2 f2;generalize hPO:p.all++O=PO at *;go_wp2_with fail;refine(HS5.out.keepB O (by omega) (by omega) (by omega)).mono ?_;rintro e w5 ⟨rfl,hS6,_,hop4⟩;have HOP4:Hid ((∀(k:Nat) (cur:Array Value),tag k=.own→w.heap[k]? =some (.cells cur 79 (0,0))→w5.heap[k]? =some (.cells cur 79 (0,0)))∧w5.cell? ⟨w0.heap.size,5,none⟩=w.cell? ⟨w0.heap.size,5,none⟩):=⟨fun k cur ho hb=>hop4.1 k cur (HOP3.out.1 k cur (HOP2.out.1 k cur ho (HOP1.out.1 k cur hb))),hop4.2.trans (HOP3.out.2.trans (HOP2.out.2.trans HOP1.out.2))⟩;clear hop4;have HN:Hid (Next w0 w5 n):=⟨_,_,tag',ps.set i p',hS6,fun x hx=>by
  rcases List.mem_or_eq_of_mem_set hx with h1|h1
  ·exact Nat.le_trans (HALL.out x h1) (Nat.le_trans (zEa _ _) (zEa _ _))
  ·subst h1;rw[HPA.out,zCf,zCf];omega⟩
 clear hS6;go_wp2;go_ret;exact⟨rfl,HN.out,HOP4.out⟩
end
end
section
open Go.Extern Go.RowKit
structure Aud(base:Nat)(w0 w:World)(v:Value)(m gr:Nat):Prop where
 row:SR base w v m
 rcd:IntBlock w gr 220 7
 low:Below base w0 w
theorem Aud.drew(h:Aud base w0 w v m gr):Aud base w0 w.drew v m gr:=⟨h.row,h.rcd,⟨h.low.os,h.low.tape,h.low.output,h.low.size,h.low.block⟩⟩
theorem Aud.drewN(h:Aud base w0 w v m gr)(k:Nat):Aud base w0 (w.drewN k) v m gr:=⟨h.row,h.rcd,⟨h.low.os,h.low.tape,h.low.output,h.low.size,h.low.block⟩⟩
theorem Aud.set(h:Aud base w0 w v m gr)(g o:Nat)(hg:base≤g)(x:Int):Aud base w0 (w.setCell (iA g o) (iV x)) v m gr:=⟨h.row.set g o x,h.rcd.set g o x,h.low.setCell (p:=(iA g o)) hg _⟩
theorem Aud.block{g:Nat}(h:Aud base w0 w (sL g m cap) m gr):IntBlock w g 229 (m*15):=by
 rcases h.row.shape with⟨e,-⟩|⟨g',cap',e,_,hib⟩
 ·cases e
 ·injection e with e1 e2 e3;injection e1 with e1;injection e1 with e1;subst e1;exact hib
theorem mergeA{T G:Prop}(h:T→G)(t:T):G:=h t
theorem zQi(base:Nat)(w:World)(v:Value)(m gr:Nat)(h:SR base w v m)(hr:IntBlock w gr 220 7)(hm:m≤1000000000):
 Cl 163 #[v,iP gr] w fun e w'=>SomeBool e∧SR base w' v m∧Below base w w':=by
 obtain⟨r2,cr2⟩:=hr.cell 2 (by omega);obtain⟨r3,cr3⟩:=hr.cell 3 (by omega);obtain⟨r4,cr4⟩:=hr.cell 4 (by omega);obtain⟨r5,cr5⟩:=hr.cell 5 (by omega);obtain⟨r6,cr6⟩:=hr.cell 6 (by omega);have HL:Hid (∀id,Cl 164 #[v,iV id] w fun e w'=>(e=.returned (iV (-1))∨∃i:Nat,i<m∧e=.returned (iV (i:Int)))∧w'=w):=fun id=>zC0 base w v m id h hm
 have HSR:Hid (SR base w v m):=h;have HR:Hid (IntBlock w gr 220 7):=hr;go_enter Tryz.func163,Tryz.ntmps163;go_wp2_with fail;refine(HL _).mono ?_;rintro e w1 ⟨h1,rfl⟩;rcases h1 with rfl|⟨i,hi,rfl⟩
 ·go_wp2_with fail;refine(HL _).mono ?_;rintro e w2 ⟨h2,rfl⟩;rcases h2 with rfl|⟨k,hk,rfl⟩;all_goals
   go_wp2;go_ret;exact⟨⟨_,rfl⟩,HSR,Below.refl _ _⟩
 ·go_wp2_with fail;refine(HL _).mono ?_;rintro e w2 ⟨h2,rfl⟩;rcases h2 with rfl|⟨k,hk,rfl⟩
  ·go_wp2;go_ret;exact⟨⟨_,rfl⟩,HSR,Below.refl _ _⟩
  ·rcases HSR.out.shape with⟨rfl,rfl⟩|⟨g,cap,rfl,hg,hib⟩
   ·omega
   have hi0:decide ((i:Int)<0)=false:=decide_eq_false (by omega);have hk0:decide ((k:Int)<0)=false:=decide_eq_false (by omega);have hiI:(i:Int)<(m:Int):=by omega
   have hkI:(k:Int)<(m:Int):=by omega
   cases eik:((i:Int) == (k:Int))
   case true=>
    go_wp2;go_ret;exact⟨⟨_,rfl⟩,HSR,Below.refl _ _⟩
   cases e6:(r6 != 0)
   case true=>
    go_wp2;go_ret;exact⟨⟨_,rfl⟩,HSR,Below.refl _ _⟩
   obtain⟨o2,co2⟩:=hib.cell (i*15+2) (by omega);obtain⟨o10,co10⟩:=hib.cell (i*15+10) (by omega);obtain⟨o13,co13⟩:=hib.cell (i*15+13) (by omega);obtain⟨p9,cp9⟩:=hib.cell (k*15+9) (by omega);obtain⟨p13,cp13⟩:=hib.cell (k*15+13) (by omega);have HIB:Hid (IntBlock w2 g 229 (m*15)):=hib;go_wp2_with fail;cases q1:(o2 == 3)
   case true=>
    go_quiet (fail);go_wp2;go_ret;exact⟨⟨_,rfl⟩,HSR,⟨rfl,rfl,rfl,Nat.le_refl _,fun _ _=>rfl⟩⟩
   cases q2:(decide (0<o13))
   case true=>
    go_quiet (fail);go_wp2;go_ret;exact⟨⟨_,rfl⟩,HSR,⟨rfl,rfl,rfl,Nat.le_refl _,fun _ _=>rfl⟩⟩
   cases q3:(r4 != p9)
   case true=>
    go_quiet (fail);go_wp2;go_ret;exact⟨⟨_,rfl⟩,HSR,⟨rfl,rfl,rfl,Nat.le_refl _,fun _ _=>rfl⟩⟩
   cases q4:(decide (r5<1))
   case true=>
    go_quiet (fail);go_wp2;go_ret;exact⟨⟨_,rfl⟩,HSR,⟨rfl,rfl,rfl,Nat.le_refl _,fun _ _=>rfl⟩⟩
   cases q5:(decide (o10<r5))
   case true=>
    go_quiet (fail);go_wp2;go_ret;exact⟨⟨_,rfl⟩,HSR,⟨rfl,rfl,rfl,Nat.le_refl _,fun _ _=>rfl⟩⟩
   cases q6:(decide (p13<r5))
   case true=>
    go_quiet (fail);go_wp2;go_ret;exact⟨⟨_,rfl⟩,HSR,⟨rfl,rfl,rfl,Nat.le_refl _,fun _ _=>rfl⟩⟩
   go_quiet (fail);go_wp2_with fail;have HA:Hid (Aud base w2 (w2.drewN nq) (sL g m cap) m gr):=Aud.drewN ⟨HSR,HR,Below.refl _ _⟩ nq;generalize w2.drewN nq=W at *;obtain⟨x0,cx⟩:=HA.out.block.cell (i*15+10) (by omega);obtain⟨y0,cy⟩:=HA.out.rcd.cell 5 (by omega);have fx:=HA.block.froz (i*15+10);apply mergeA
   ·intro hh;go_region_law(fail);all_goals exact hh
   go_wp2_with fail;replace HA:Hid (Aud base w2 (W.setCell (iA g (i*15+10)) (iV (IntKind.i64.wrap (x0 - y0)))).drew (sL g m cap) m gr):=(HA.set _ _ hg _).drew;generalize (W.setCell (iA g (i*15+10)) (iV (IntKind.i64.wrap (x0 - y0)))).drew=W1 at *;obtain⟨x1,cx⟩:=HA.out.block.cell (i*15+11) (by omega);obtain⟨y1,cy⟩:=HA.out.rcd.cell 5 (by omega);have fx:=HA.block.froz (i*15+11);apply mergeA
   ·intro hh;go_region_law(fail);all_goals exact hh
   go_wp2_with fail;replace HA:Hid (Aud base w2 (W1.setCell (iA g (i*15+11)) (iV (IntKind.i64.wrap (x1+y1)))).drew (sL g m cap) m gr):=(HA.set _ _ hg _).drew;generalize (W1.setCell (iA g (i*15+11)) (iV (IntKind.i64.wrap (x1+y1)))).drew=W2 at *;obtain⟨x2,cx⟩:=HA.out.block.cell (k*15+10) (by omega);obtain⟨y2,cy⟩:=HA.out.rcd.cell 5 (by omega);have fx:=HA.block.froz (k*15+10);apply mergeA
   ·intro hh;go_region_law(fail);all_goals exact hh
   go_wp2_with fail;replace HA:Hid (Aud base w2 (W2.setCell (iA g (k*15+10)) (iV (IntKind.i64.wrap (x2 - y2)))).drew (sL g m cap) m gr):=(HA.set _ _ hg _).drew;generalize (W2.setCell (iA g (k*15+10)) (iV (IntKind.i64.wrap (x2 - y2)))).drew=W3 at *;obtain⟨x3,cx⟩:=HA.out.block.cell (k*15+11) (by omega);obtain⟨y3,cy⟩:=HA.out.rcd.cell 5 (by omega);have fx:=HA.block.froz (k*15+11);apply mergeA
   ·intro hh;go_region_law(fail);all_goals exact hh
   go_wp2_with fail;replace HA:Hid (Aud base w2 (W3.setCell (iA g (k*15+11)) (iV (IntKind.i64.wrap (x3+y3)))).drew (sL g m cap) m gr):=(HA.set _ _ hg _).drew;generalize (W3.setCell (iA g (k*15+11)) (iV (IntKind.i64.wrap (x3+y3)))).drew=W4 at *;obtain⟨x4,cx⟩:=HA.out.block.cell (k*15+13) (by omega);obtain⟨y4,cy⟩:=HA.out.rcd.cell 5 (by omega);have fx:=HA.block.froz (k*15+13);apply mergeA
   ·intro hh;go_region_law(fail);all_goals exact hh
   replace HA:Hid (Aud base w2 (W4.setCell (iA g (k*15+13)) (iV (IntKind.i64.wrap (x4 - y4)))).drew (sL g m cap) m gr):=(HA.set _ _ hg _).drew;generalize (W4.setCell (iA g (k*15+13)) (iV (IntKind.i64.wrap (x4 - y4)))).drew=W5 at *;obtain⟨x,cx⟩:=HA.out.block.cell (i*15+10) (by omega);obtain⟨s1,cs1⟩:=HA.out.block.cell (i*15+8) (by omega);have fs1:=HA.block.froz (i*15+8);obtain⟨y,cy⟩:=HA.out.block.cell (k*15+10) (by omega);obtain⟨s2,cs2⟩:=HA.out.block.cell (k*15+8) (by omega);have fs2:=HA.block.froz (k*15+8);have HA1:Hid (Aud base w2 (W5.setCell (iA g (i*15+8)) (iV 2)) (sL g m cap) m gr):=HA.set _ _ hg _;have HA2:Hid (Aud base w2 (W5.setCell (iA g (k*15+8)) (iV 2)) (sL g m cap) m gr):=HA.set _ _ hg _;have HA3:Hid (Aud base w2 ((W5.setCell (iA g (i*15+8)) (iV 2)).setCell (iA g (k*15+8)) (iV 2)) (sL g m cap) m gr):=HA1.set _ _ hg _;obtain⟨y',cy'⟩:=HA1.out.block.cell (k*15+10) (by omega)
   obtain⟨s2',cs2'⟩:=HA1.out.block.cell (k*15+8) (by omega);have fs2':=HA1.block.froz (k*15+8);cases ex:(x == 0)
   ·cases ey:(y == 0)
    ·go_wp2;go_ret;exact⟨⟨_,rfl⟩,HA.row,HA.low⟩
    ·go_wp2;go_ret;exact⟨⟨_,rfl⟩,HA2.row,HA2.low⟩
   ·cases ey:(y' == 0)
    ·go_wp2;go_ret;exact⟨⟨_,rfl⟩,HA1.row,HA1.low⟩
    ·go_wp2;go_ret;exact⟨⟨_,rfl⟩,HA3.row,HA3.low⟩
theorem Aud.above{g:Nat}(h:Aud base w0 w (.slice (some ⟨g,0,none⟩) m cap) m gr):base≤g:=by
 rcases h.row.shape with⟨e,-⟩|⟨g',cap',e,hg,_⟩
 ·cases e
 ·injection e with e1 e2 e3;injection e1 with e1;injection e1 with e1;subst e1;exact hg
def RepBack(base:Nat)(w0:World)(v:Value)(m gr:Nat)(e:Ending)(w':World):Prop:=SomeBool e∧Aud base w0 w' v m gr
theorem zQj(base:Nat)(w:World)(m gr g cap off:Nat)(h:Aud base w w (.slice (some ⟨g,0,none⟩) m cap) m gr)(ho:off+15≤m*15):
 Calls Tryz.prog 165 #[.pointer (some ⟨g,off,none⟩),.pointer (some ⟨gr,0,none⟩)] w fun e w'=>RepBack base w (.slice (some ⟨g,0,none⟩) m cap) m gr e w':=by
 obtain⟨r4,cr4⟩:=h.rcd.cell 4 (by omega);obtain⟨r5,cr5⟩:=h.rcd.cell 5 (by omega);obtain⟨r6,cr6⟩:=h.rcd.cell 6 (by omega);obtain⟨t2,c2⟩:=h.block.cell (off+2) (by omega);obtain⟨q3,c3⟩:=h.block.cell (off+3) (by omega);obtain⟨p9,c9⟩:=h.block.cell (off+9) (by omega);obtain⟨f11,c11⟩:=h.block.cell (off+11) (by omega);have hg:=h.above;have HA:Hid (Aud base w w (.slice (some ⟨g,0,none⟩) m cap) m gr):=h;clear h;go_enter Tryz.func165,Tryz.ntmps165;go_wp2_with fail;by_cases k1:r5≤q3;case' pos=>
  cases k2:(t2 == 3);case' false=>
   cases k3:(r4 == p9);rotate_left
   ·go_quiet (fail);replace HA:Hid (Aud base w (w.drewN nq) (.slice (some ⟨g,0,none⟩) m cap) m gr):=HA.out.drewN nq;replace cr4:(w.drewN nq).cell? ⟨gr,4,none⟩=some (.int .i64 r4):=cr4;replace cr5:(w.drewN nq).cell? ⟨gr,5,none⟩=some (.int .i64 r5):=cr5;replace cr6:(w.drewN nq).cell? ⟨gr,6,none⟩=some (.int .i64 r6):=cr6;replace c3:(w.drewN nq).cell? ⟨g,off+3,none⟩=some (.int .i64 q3):=c3;replace c11:(w.drewN nq).cell? ⟨g,off+11,none⟩=some (.int .i64 f11):=c11;generalize w.drewN nq=WA at *;go_wp2_with fail;by_cases d1:r5≤f11
    ·go_quiet (fail);go_wp2;go_ret;refine⟨⟨_,rfl⟩,?_⟩;repeat(first|exact HA.out|refine Aud.set ?_ _ _ hg _|refine Aud.drewN ?_ _|refine Aud.drew ?_)
    cases d2:(r4 == 0)
    ·by_cases d3:1<r6
     ·go_quiet (fail);go_wp2;go_ret;refine⟨⟨_,rfl⟩,?_⟩;repeat(first|exact HA.out|refine Aud.set ?_ _ _ hg _|refine Aud.drewN ?_ _|refine Aud.drew ?_)
     cases d4:(r6 == 1)
     ·go_quiet (fail);go_wp2;go_ret;refine⟨⟨_,rfl⟩,?_⟩;repeat(first|exact HA.out|refine Aud.set ?_ _ _ hg _|refine Aud.drewN ?_ _|refine Aud.drew ?_)
     ·go_quiet (fail);replace HA:Hid (Aud base w (WA.drewN nq) (.slice (some ⟨g,0,none⟩) m cap) m gr):=HA.out.drewN nq;replace cr5:(WA.drewN nq).cell? ⟨gr,5,none⟩=some (.int .i64 r5):=cr5;replace c3:(WA.drewN nq).cell? ⟨g,off+3,none⟩=some (.int .i64 q3):=c3;generalize WA.drewN nq=WB at *;clear cr4 cr6 c11 d1 d3 d2 d4;have fx3:=HA.out.block.froz (off+3);go_wp2_with fail;replace HA:Hid (Aud base w (WB.setCell ⟨g,off+3,none⟩ (.int .i64 r5)) (.slice (some ⟨g,0,none⟩) m cap) m gr):=HA.out.set _ _ hg _;clear c3 cr5 fx3;generalize WB.setCell ⟨g,off+3,none⟩ (.int .i64 r5)=WC at *;obtain⟨x11,cx11⟩:=HA.out.block.cell (off+11) (by omega);obtain⟨x10,cx10⟩:=HA.out.block.cell (off+10) (by omega);obtain⟨y5,cy5⟩:=HA.out.rcd.cell 5 (by omega);have fx10:=HA.out.block.froz (off+10);apply mergeA
      ·intro hh;go_region_law(fail);all_goals exact hh
      replace HA:Hid (Aud base w (WC.setCell ⟨g,off+10,none⟩ (.int .i64 (IntKind.i64.wrap (y5 - x11)))).drew (.slice (some ⟨g,0,none⟩) m cap) m gr):=(HA.out.set _ _ hg _).drew;clear cx11 cx10 cy5 fx10;generalize (WC.setCell ⟨g,off+10,none⟩ (.int .i64 (IntKind.i64.wrap (y5 - x11)))).drew=WD at *;obtain⟨z13,cz13⟩:=HA.out.block.cell (off+13) (by omega);obtain⟨z10,cz10⟩:=HA.out.block.cell (off+10) (by omega);obtain⟨z2,cz2⟩:=HA.out.block.cell (off+2) (by omega);obtain⟨z9,cz9⟩:=HA.out.block.cell (off+9) (by omega);obtain⟨y4,cy4⟩:=HA.out.rcd.cell 4 (by omega);have fz13:=HA.out.block.froz (off+13);have fz9:=HA.out.block.froz (off+9);go_wp2_with fail;by_cases u1:z10<z13
      ·go_quiet (fail);go_wp2;go_ret;refine⟨⟨_,rfl⟩,?_⟩;repeat(first|exact HA.out|refine Aud.set ?_ _ _ hg _|refine Aud.drewN ?_ _|refine Aud.drew ?_)
      by_cases u2:0<z13
      ·cases u3:(z2 != 2)
       ·go_quiet (fail);go_wp2;go_ret;refine⟨⟨_,rfl⟩,?_⟩;repeat(first|exact HA.out|refine Aud.set ?_ _ _ hg _|refine Aud.drewN ?_ _|refine Aud.drew ?_)
       ·go_quiet (fail);go_wp2;go_ret;refine⟨⟨_,rfl⟩,?_⟩;repeat(first|exact HA.out|refine Aud.set ?_ _ _ hg _|refine Aud.drewN ?_ _|refine Aud.drew ?_)
      ·go_quiet (fail);go_wp2;go_ret;refine⟨⟨_,rfl⟩,?_⟩;repeat(first|exact HA.out|refine Aud.set ?_ _ _ hg _|refine Aud.drewN ?_ _|refine Aud.drew ?_)
    ·go_quiet (fail);go_wp2;go_ret;refine⟨⟨_,rfl⟩,?_⟩;repeat(first|exact HA.out|refine Aud.set ?_ _ _ hg _|refine Aud.drewN ?_ _|refine Aud.drew ?_)
  case' true=>
   go_quiet (fail);replace HA:Hid (Aud base w (w.drewN nq) (.slice (some ⟨g,0,none⟩) m cap) m gr):=HA.out.drewN nq;replace cr4:(w.drewN nq).cell? ⟨gr,4,none⟩=some (.int .i64 r4):=cr4;replace cr5:(w.drewN nq).cell? ⟨gr,5,none⟩=some (.int .i64 r5):=cr5;replace cr6:(w.drewN nq).cell? ⟨gr,6,none⟩=some (.int .i64 r6):=cr6;replace c3:(w.drewN nq).cell? ⟨g,off+3,none⟩=some (.int .i64 q3):=c3;replace c11:(w.drewN nq).cell? ⟨g,off+11,none⟩=some (.int .i64 f11):=c11;generalize w.drewN nq=WA at *;go_wp2_with fail;by_cases d1:r5≤f11
   ·go_quiet (fail);go_wp2;go_ret;refine⟨⟨_,rfl⟩,?_⟩;repeat(first|exact HA.out|refine Aud.set ?_ _ _ hg _|refine Aud.drewN ?_ _|refine Aud.drew ?_)
   cases d2:(r4 == 0)
   ·go_quiet (fail);go_wp2;go_ret;refine⟨⟨_,rfl⟩,?_⟩;repeat(first|exact HA.out|refine Aud.set ?_ _ _ hg _|refine Aud.drewN ?_ _|refine Aud.drew ?_)
   ·by_cases d3:1<r6
    ·go_quiet (fail);go_wp2;go_ret;refine⟨⟨_,rfl⟩,?_⟩;repeat(first|exact HA.out|refine Aud.set ?_ _ _ hg _|refine Aud.drewN ?_ _|refine Aud.drew ?_)
    cases d4:(r6 == 1)
    ·go_quiet (fail);go_wp2;go_ret;refine⟨⟨_,rfl⟩,?_⟩;repeat(first|exact HA.out|refine Aud.set ?_ _ _ hg _|refine Aud.drewN ?_ _|refine Aud.drew ?_)
    ·go_quiet (fail);replace HA:Hid (Aud base w (WA.drewN nq) (.slice (some ⟨g,0,none⟩) m cap) m gr):=HA.out.drewN nq;replace cr5:(WA.drewN nq).cell? ⟨gr,5,none⟩=some (.int .i64 r5):=cr5;replace c3:(WA.drewN nq).cell? ⟨g,off+3,none⟩=some (.int .i64 q3):=c3;generalize WA.drewN nq=WB at *;clear cr4 cr6 c11 d1 d3 d2 d4;have fx3:=HA.out.block.froz (off+3);go_wp2_with fail;replace HA:Hid (Aud base w (WB.setCell ⟨g,off+3,none⟩ (.int .i64 r5)) (.slice (some ⟨g,0,none⟩) m cap) m gr):=HA.out.set _ _ hg _;clear c3 cr5 fx3;generalize WB.setCell ⟨g,off+3,none⟩ (.int .i64 r5)=WC at *;obtain⟨x11,cx11⟩:=HA.out.block.cell (off+11) (by omega);obtain⟨x10,cx10⟩:=HA.out.block.cell (off+10) (by omega);obtain⟨y5,cy5⟩:=HA.out.rcd.cell 5 (by omega);have fx10:=HA.out.block.froz (off+10);apply mergeA
     ·intro hh;go_region_law(fail);all_goals exact hh
     replace HA:Hid (Aud base w (WC.setCell ⟨g,off+10,none⟩ (.int .i64 (IntKind.i64.wrap (y5 - x11)))).drew (.slice (some ⟨g,0,none⟩) m cap) m gr):=(HA.out.set _ _ hg _).drew;clear cx11 cx10 cy5 fx10;generalize (WC.setCell ⟨g,off+10,none⟩ (.int .i64 (IntKind.i64.wrap (y5 - x11)))).drew=WD at *;obtain⟨z13,cz13⟩:=HA.out.block.cell (off+13) (by omega);obtain⟨z10,cz10⟩:=HA.out.block.cell (off+10) (by omega);obtain⟨z2,cz2⟩:=HA.out.block.cell (off+2) (by omega);obtain⟨z9,cz9⟩:=HA.out.block.cell (off+9) (by omega);obtain⟨y4,cy4⟩:=HA.out.rcd.cell 4 (by omega);have fz13:=HA.out.block.froz (off+13);have fz9:=HA.out.block.froz (off+9);go_wp2_with fail;by_cases u1:z10<z13
     ·go_quiet (fail);go_wp2;go_ret;refine⟨⟨_,rfl⟩,?_⟩;repeat(first|exact HA.out|refine Aud.set ?_ _ _ hg _|refine Aud.drewN ?_ _|refine Aud.drew ?_)
     by_cases u2:0<z13
     ·cases u3:(z2 != 2)
      ·go_quiet (fail);go_wp2;go_ret;refine⟨⟨_,rfl⟩,?_⟩;repeat(first|exact HA.out|refine Aud.set ?_ _ _ hg _|refine Aud.drewN ?_ _|refine Aud.drew ?_)
      ·go_quiet (fail);go_wp2;go_ret;refine⟨⟨_,rfl⟩,?_⟩;repeat(first|exact HA.out|refine Aud.set ?_ _ _ hg _|refine Aud.drewN ?_ _|refine Aud.drew ?_)
     ·go_quiet (fail);go_wp2;go_ret;refine⟨⟨_,rfl⟩,?_⟩;repeat(first|exact HA.out|refine Aud.set ?_ _ _ hg _|refine Aud.drewN ?_ _|refine Aud.drew ?_)
 case' neg=>
  cases k2:(t2 == 3);rotate_left
  ·go_quiet (fail);replace HA:Hid (Aud base w (w.drewN nq) (.slice (some ⟨g,0,none⟩) m cap) m gr):=HA.out.drewN nq;replace cr4:(w.drewN nq).cell? ⟨gr,4,none⟩=some (.int .i64 r4):=cr4;replace cr5:(w.drewN nq).cell? ⟨gr,5,none⟩=some (.int .i64 r5):=cr5;replace cr6:(w.drewN nq).cell? ⟨gr,6,none⟩=some (.int .i64 r6):=cr6;replace c3:(w.drewN nq).cell? ⟨g,off+3,none⟩=some (.int .i64 q3):=c3;replace c11:(w.drewN nq).cell? ⟨g,off+11,none⟩=some (.int .i64 f11):=c11;generalize w.drewN nq=WA at *;go_wp2_with fail;by_cases d1:r5≤f11
   ·go_quiet (fail);go_wp2;go_ret;refine⟨⟨_,rfl⟩,?_⟩;repeat(first|exact HA.out|refine Aud.set ?_ _ _ hg _|refine Aud.drewN ?_ _|refine Aud.drew ?_)
   cases d2:(r4 == 0)
   ·go_quiet (fail);go_wp2;go_ret;refine⟨⟨_,rfl⟩,?_⟩;repeat(first|exact HA.out|refine Aud.set ?_ _ _ hg _|refine Aud.drewN ?_ _|refine Aud.drew ?_)
   ·by_cases d3:1<r6
    ·go_quiet (fail);go_wp2;go_ret;refine⟨⟨_,rfl⟩,?_⟩;repeat(first|exact HA.out|refine Aud.set ?_ _ _ hg _|refine Aud.drewN ?_ _|refine Aud.drew ?_)
    cases d4:(r6 == 1)
    ·go_quiet (fail);replace HA:Hid (Aud base w (WA.drewN nq) (.slice (some ⟨g,0,none⟩) m cap) m gr):=HA.out.drewN nq;replace cr5:(WA.drewN nq).cell? ⟨gr,5,none⟩=some (.int .i64 r5):=cr5;replace c3:(WA.drewN nq).cell? ⟨g,off+3,none⟩=some (.int .i64 q3):=c3;generalize WA.drewN nq=WB at *;clear cr4 cr6 c11 d1 d3 d2 d4;have fx3:=HA.out.block.froz (off+3);go_wp2_with fail;replace HA:Hid (Aud base w (WB.setCell ⟨g,off+3,none⟩ (.int .i64 r5)) (.slice (some ⟨g,0,none⟩) m cap) m gr):=HA.out.set _ _ hg _;clear c3 cr5 fx3;generalize WB.setCell ⟨g,off+3,none⟩ (.int .i64 r5)=WC at *;obtain⟨x11,cx11⟩:=HA.out.block.cell (off+11) (by omega);obtain⟨x10,cx10⟩:=HA.out.block.cell (off+10) (by omega);obtain⟨y5,cy5⟩:=HA.out.rcd.cell 5 (by omega);have fx10:=HA.out.block.froz (off+10);apply mergeA
     ·intro hh;go_region_law(fail);all_goals exact hh
     replace HA:Hid (Aud base w (WC.setCell ⟨g,off+10,none⟩ (.int .i64 (IntKind.i64.wrap (y5 - x11)))).drew (.slice (some ⟨g,0,none⟩) m cap) m gr):=(HA.out.set _ _ hg _).drew;clear cx11 cx10 cy5 fx10;generalize (WC.setCell ⟨g,off+10,none⟩ (.int .i64 (IntKind.i64.wrap (y5 - x11)))).drew=WD at *;obtain⟨z13,cz13⟩:=HA.out.block.cell (off+13) (by omega);obtain⟨z10,cz10⟩:=HA.out.block.cell (off+10) (by omega);obtain⟨z2,cz2⟩:=HA.out.block.cell (off+2) (by omega);obtain⟨z9,cz9⟩:=HA.out.block.cell (off+9) (by omega);obtain⟨y4,cy4⟩:=HA.out.rcd.cell 4 (by omega);have fz13:=HA.out.block.froz (off+13);have fz9:=HA.out.block.froz (off+9);go_wp2_with fail;go_quiet (fail);go_wp2;go_ret;refine⟨⟨_,rfl⟩,?_⟩;repeat(first|exact HA.out|refine Aud.set ?_ _ _ hg _|refine Aud.drewN ?_ _|refine Aud.drew ?_)
    ·go_quiet (fail);go_wp2;go_ret;refine⟨⟨_,rfl⟩,?_⟩;repeat(first|exact HA.out|refine Aud.set ?_ _ _ hg _|refine Aud.drewN ?_ _|refine Aud.drew ?_)
 all_goals
  go_quiet (fail);replace HA:Hid (Aud base w (w.drewN nq) (.slice (some ⟨g,0,none⟩) m cap) m gr):=HA.out.drewN nq;replace cr4:(w.drewN nq).cell? ⟨gr,4,none⟩=some (.int .i64 r4):=cr4;replace cr5:(w.drewN nq).cell? ⟨gr,5,none⟩=some (.int .i64 r5):=cr5;replace cr6:(w.drewN nq).cell? ⟨gr,6,none⟩=some (.int .i64 r6):=cr6;replace c3:(w.drewN nq).cell? ⟨g,off+3,none⟩=some (.int .i64 q3):=c3;replace c11:(w.drewN nq).cell? ⟨g,off+11,none⟩=some (.int .i64 f11):=c11;generalize w.drewN nq=WA at *;go_wp2_with fail;by_cases d1:r5≤f11
  ·go_quiet (fail);go_wp2;go_ret;refine⟨⟨_,rfl⟩,?_⟩;repeat(first|exact HA.out|refine Aud.set ?_ _ _ hg _|refine Aud.drewN ?_ _|refine Aud.drew ?_)
  cases d2:(r4 == 0)
  ·by_cases d3:1<r6
   ·go_quiet (fail);go_wp2;go_ret;refine⟨⟨_,rfl⟩,?_⟩;repeat(first|exact HA.out|refine Aud.set ?_ _ _ hg _|refine Aud.drewN ?_ _|refine Aud.drew ?_)
   cases d4:(r6 == 1)
   ·go_quiet (fail);replace HA:Hid (Aud base w (WA.drewN nq) (.slice (some ⟨g,0,none⟩) m cap) m gr):=HA.out.drewN nq;replace cr5:(WA.drewN nq).cell? ⟨gr,5,none⟩=some (.int .i64 r5):=cr5;replace c3:(WA.drewN nq).cell? ⟨g,off+3,none⟩=some (.int .i64 q3):=c3;generalize WA.drewN nq=WB at *;clear cr4 cr6 c11 d1 d3 d2 d4;have fx3:=HA.out.block.froz (off+3);go_wp2_with fail;replace HA:Hid (Aud base w (WB.setCell ⟨g,off+3,none⟩ (.int .i64 r5)) (.slice (some ⟨g,0,none⟩) m cap) m gr):=HA.out.set _ _ hg _;clear c3 cr5 fx3;generalize WB.setCell ⟨g,off+3,none⟩ (.int .i64 r5)=WC at *;obtain⟨x11,cx11⟩:=HA.out.block.cell (off+11) (by omega);obtain⟨x10,cx10⟩:=HA.out.block.cell (off+10) (by omega);obtain⟨y5,cy5⟩:=HA.out.rcd.cell 5 (by omega);have fx10:=HA.out.block.froz (off+10);apply mergeA
    ·intro hh;go_region_law(fail);all_goals exact hh
    replace HA:Hid (Aud base w (WC.setCell ⟨g,off+10,none⟩ (.int .i64 (IntKind.i64.wrap (y5 - x11)))).drew (.slice (some ⟨g,0,none⟩) m cap) m gr):=(HA.out.set _ _ hg _).drew;clear cx11 cx10 cy5 fx10;generalize (WC.setCell ⟨g,off+10,none⟩ (.int .i64 (IntKind.i64.wrap (y5 - x11)))).drew=WD at *;obtain⟨z13,cz13⟩:=HA.out.block.cell (off+13) (by omega);obtain⟨z10,cz10⟩:=HA.out.block.cell (off+10) (by omega);obtain⟨z2,cz2⟩:=HA.out.block.cell (off+2) (by omega);obtain⟨z9,cz9⟩:=HA.out.block.cell (off+9) (by omega);obtain⟨y4,cy4⟩:=HA.out.rcd.cell 4 (by omega);have fz13:=HA.out.block.froz (off+13);have fz9:=HA.out.block.froz (off+9);go_wp2_with fail;go_quiet (fail);go_wp2;go_ret;refine⟨⟨_,rfl⟩,?_⟩;repeat(first|exact HA.out|refine Aud.set ?_ _ _ hg _|refine Aud.drewN ?_ _|refine Aud.drew ?_)
   ·go_quiet (fail);go_wp2;go_ret;refine⟨⟨_,rfl⟩,?_⟩;repeat(first|exact HA.out|refine Aud.set ?_ _ _ hg _|refine Aud.drewN ?_ _|refine Aud.drew ?_)
  ·go_quiet (fail);go_wp2;go_ret;refine⟨⟨_,rfl⟩,?_⟩;repeat(first|exact HA.out|refine Aud.set ?_ _ _ hg _|refine Aud.drewN ?_ _|refine Aud.drew ?_)
end
end Go.Proofs.YtilbfpnpkkkpgaaGreatDoor
