import Derived.Test.YtilbfpnpkkkpgaaGreatDoorQ00
import Derived.Test.YtilbfpnpkkkpgaaGreatDoorQ18
import Derived.Test.YtilbfpnpkkkpgaaGreatDoorQ37
import Derived.Test.YtilbfpnpkkkpgaaGreatDoorQ39
import Derived.Test.YtilbfpnpkkkpgaaGreatDoorQ41
import Derived.Deep.AppendLies
import Derived.Deep.RegionHeld
set_option linter.all false
set_option maxRecDepth 100000
set_option maxHeartbeats 8000000
namespace Go.Proofs.YtilbfpnpkkkpgaaGreatDoor
variable{w w0:World}{n:Nat}{ws:List ByteArray}{left:Int}{ds:List Int}{tag:Nat→Tag}{ps:List Duo}{ad:Nat→Addr}{st:Nat→ByteArray}
open Go.Extern Go.Maps Go.RowKit
theorem Tryz.infoPair:(Tryz.prog.info? 104).map (fun i=>(i.size,i.bytes))=some (3,32):=by kernel_rfl
theorem Tryz.zeroPair:(Tryz.prog.info? 104).map (fun i=>i.zero)=some (some (.agg #[.pointer none,.pointer none,.string ⟨#[]⟩])):=by kernel_rfl
theorem zH0{B:Nat}{a:World}(h:Below B a w):Below B a w.drew:=⟨h.os,h.tape,h.output,h.size,h.block⟩
theorem NewDesk.grow{w':World}{nb:Nat}{a b c:Int}(h:NewDesk w w' nb a b c ds):Below w.heap.size w w':=by
 obtain⟨eb,g,_,_,_,_,_,hg⟩:=h;exact hg
theorem StT.more{W W1 W2:World}(h:StT tag ps w0 W n ws left){nb db:Nat}{a b c:Int}{dv:Value}(hok:okCfg a b c=true)(hds:ds.length≤1000000000)(hdb: ∀x∈ds,-9223372036854775808≤x∧x≤9223372036854775807)
 (hD:NewDesk W W1 nb a b c ds) (hR:RefRep (fun k=>W1.heap.size≤k) W1.heap.size W2 db (newEng a b c ds) dv (.slice none 0 0)) (hB:Below W1.heap.size W1 W2):
 ∃tag' p,StT tag' ps w0 W2 n ws left∧DuoOk tag' ps.length W2 p∧p.nb=nb∧p.db=db∧p.all=⟨#[]⟩:=by
 obtain⟨eb,g,d1,d2,d3,d4,d5,hg⟩:=hD;have hg:Bw W W1:=hg;have z1:=hg.size;have z2:=hB.size;have hnb:nb<W1.heap.size:=(Array.getElem?_eq_some_iff.1 d2).1;have hb2:Bw W W2:=hg.trans (hB.mono hg.size);refine⟨fun k=>if k<W.heap.size then tag k else if k=nb then .dsk ps.length else if k<W1.heap.size then .code ps.length else if k<W2.heap.size then .doc ps.length else .own,⟨nb,eb,db,W.heap.size+1,W1.heap.size,⟨#[]⟩,newEng a b c ds,g,noSets,dv,.slice none 0 0⟩,h.below' hb2 (fun k hk=>if_pos hk) (fun k hk=>?_),⟨(hB.block nb hnb).trans d2,?_,d3.move hB.size (fun k hk hF=>⟨hB.block k hk,.inl ?_⟩) (fun k hk=>.inr hk),?_,fun q hq=>?_,d4,zG2 hok hds hdb⟩,rfl,rfl,rfl⟩
 ·show(if k<W.heap.size then _ else _)=_;rw[if_neg (by omega),if_neg (by omega),if_neg (by omega),if_neg (by omega)]
 ·show(if nb<W.heap.size then _ else _)=_;rw[if_neg (by omega),if_pos rfl]
 ·show(if k<W.heap.size then _ else _)=_;rw[if_neg (by have:=hF.1;omega),if_neg hF.2,if_pos hk]
 ·have hF:=hR.wider (G:=fun k=>W1.heap.size≤k) (fun _ h=>h);refine hF.move (fun q hq=>(hR.dr.lt q hq).1) (Nat.le_refl _) (fun k hk hF=>⟨rfl,.inl ?_⟩) (fun k hk=>.inr hk);have hF:W1.heap.size≤k:=hF;show(if k<W.heap.size then _ else _)=_;rw[if_neg (by omega),if_neg (by omega),if_neg (by omega),if_pos hk]
 ·have h1:=hR.dr.lt q hq;show(if q<W.heap.size then _ else _)=_;rw[if_neg (by omega),if_neg (by omega),if_neg (by omega),if_pos h1.2]
theorem StT.store{W w1:World}(h:StT tag ps w0 W n ws left){p:Duo}(hp:DuoOk tag ps.length W p){v v':Value}(hc5:W.cell? (iA w0.heap.size 5)=some v)(ho:W.ownsRow (w0.heap.size+1) 104 3 v ps.length (ps.flatMap Duo.cells))(hg:Grown tag v W w1 v')(ho':w1.ownsRow (w0.heap.size+1) 104 3 v' (ps.length+1) (ps.flatMap Duo.cells++p.cells)):StT tag (ps++ [p]) w0 (w1.setCell (iA w0.heap.size 5) v') (n+1) ws left:=by
 have hk:=hg.keeps h 5 v';have hsz:W.heap.size≤(w1.setCell (iA w0.heap.size 5) v').heap.size:=by simpa using hg.size
 refine h.put_desks hc5 ho hg (by rw[List.length_append,List.flatMap_append,List.flatMap_singleton];exact ho') (by rw[List.length_append];have:=h.plen;simp;omega) fun i x hx=>?_
 by_cases e:i<ps.length
 ·rw[List.getElem?_append_left e]at hx;exact h.duos_move hsz hk i x hx
 ·have hl:=(List.getElem?_eq_some_iff.1 hx).1;rw[List.length_append]at hl;have:i=ps.length:=by simp at hl;omega
  subst this;rw[List.getElem?_append_right (Nat.le_refl _),Nat.sub_self]at hx;obtain rfl:p=x:=by simpa using hx
  exact hp.move hsz fun k hk1 ht=>hk k hk1 (by rcases ht with ht|ht|ht<;>rw[ht]<;>exact fun e=>by cases e)
def NewOut(a b c:Int)(ds:List Int)(X w':World)(dp:Option Addr)(nn:Int):Prop:=(okCfg a b c=false∧dp=none∧nn=1)∨(okCfg a b c=true∧nn=0∧∃nb,dp=some (iA nb 0)∧NewDesk X w' nb a b c ds)
theorem zQx(a b c:Int)(dv:Value)(base:Nat)(ds:List Int)(w:World)(hE:Errs w ad st)(hown:w.ownsRow base 3 1 dv ds.length (ds.map (iV)))(hm:ds.length≤1000000000):
 Cl 9 #[.agg #[iV a,iV b,iV c],dv] w fun en w'=> ∃dp nn,en=rV #[.pointer dp,iV nn]∧Below w.heap.size w w'∧Hid (NewOut a b c ds w w' dp nn):=by
 cases hc:okCfg a b c
 ·refine(zPe a b c dv base ds w hE hown hm hc).mono ?_;rintro en w' ⟨rfl,hg⟩;exact⟨none,1,rfl,hg.out,.inl ⟨hc,rfl,rfl⟩⟩
 ·refine(zGo a b c dv base ds w hown hm hc).mono ?_;rintro en w' ⟨nb,rfl,hg⟩;exact⟨_,0,rfl,hg.out.grow,.inr ⟨hc,rfl,nb,rfl,hg.out⟩⟩
def EngOut(a b c:Int)(ds:List Int)(W1 w':World)(dv:Value)(dp:Option Addr)(r:Bool):Prop:=(okCfg a b c=false∧dp=none∧r=false)∨(okCfg a b c=true∧r=true∧∃db,dp=some (iA db 0)∧RefRep (fun k=>W1.heap.size≤k) W1.heap.size w' db (newEng a b c ds) dv (.slice none 0 0))
theorem zH1(a b c:Int)(ds:List Int)(W1 w:World)(dv:Value)(hb:W1.heap.size≤w.heap.size)(hd:w.ownsRow W1.heap.size 3 1 dv ds.length (ds.map (iV))):
 Cl 73 #[.agg #[iV a,iV b,iV c],dv] w fun en w'=> ∃dp r,en=rV #[.pointer dp,.bool r]∧Below w.heap.size w w'∧Hid (EngOut a b c ds W1 w' dv dp r):=by
 refine(zK5 W1.heap.size a b c ds dv w hb hd).mono ?_;rintro en w' (⟨h1,rfl,h2⟩|⟨h1,nb,rfl,h2,h3,h4⟩)
 ·exact⟨none,false,rfl,h2,.inl ⟨h1,rfl,rfl⟩⟩
 ·exact⟨_,true,rfl,h4,.inr ⟨h1,rfl,nb,rfl,h3.wider fun k hk=>by have hk:w.heap.size≤k:=hk;show W1.heap.size≤k;omega⟩⟩
theorem zQy(h:St w0 w n ws left)(hn:n≤100000000)(hE:Errs w0 ad st):
 Cl 35 #[iP w0.heap.size] w fun e w'=>e=rB true∧Next w0 w' n:=by
 obtain⟨tag,ps,h,hall⟩:=h;have HALL:Hid (∀p∈ps,p.all.size≤sizes ws):=hall;obtain⟨x0,hx0⟩:=h.c0;obtain⟨x1,hx1⟩:=h.c1;obtain⟨x2,hx2⟩:=h.c2;obtain⟨dv,ds,hc3,hown,_,hints,hmd⟩:=h.draws;have HS:Hid (StT tag ps w0 w n ws left):=h;have hlt:=h.lt;have HOWN:Hid (w.ownsRow (w0.heap.size+1) 3 1 dv ds.length (ds.map (iV))):=hown;have HDB:Hid (∀x∈ds,-9223372036854775808≤x∧x≤9223372036854775807):=hints;have HE:Hid (∀W n ws left,StT tag ps w0 W n ws left→Errs W ad st):=fun W _ _ _ hW=>hE.below hW.low
 clear h hown hints hall hE;go_enter Tryz.func35,Tryz.ntmps35;go_wp2_with fail
 go_region_held (fun X=>cI X w0.heap.size 0 x0∧cI X w0.heap.size 1 x1∧cI X w0.heap.size 2 x2) (first
  |exact⟨hx0,hx1,hx2⟩
  |exact⟨(World.cell?_alloc_lt _ _ _ hlt).trans hx0,(World.cell?_alloc_lt _ _ _ hlt).trans hx1,(World.cell?_alloc_lt _ _ _ hlt).trans hx2⟩
  |exact⟨(World.cell?_setCell_other _ _ _ _ (by intro e;injection e with ea eb;omega)).trans ((World.cell?_alloc_lt _ _ _ hlt).trans hx0),(World.cell?_setCell_other _ _ _ _ (by intro e;injection e with ea eb;omega)).trans ((World.cell?_alloc_lt _ _ _ hlt).trans hx1),(World.cell?_setCell_other _ _ _ _ (by intro e;injection e with ea eb;omega)).trans ((World.cell?_alloc_lt _ _ _ hlt).trans hx2)⟩) (fail)
 go_wp2_with fail;have HS1:Hid (StT tag ps w0 (w.alloc (.cells #[iV x0,iV x1,iV x2] 30)).drew n ws left):=(HS.below (zA0 _)).drew;have HOW1:Hid ((w.alloc (.cells #[iV x0,iV x1,iV x2] 30)).drew.ownsRow (w0.heap.size+1) 3 1 dv ds.length (ds.map (iV))):=zC (HOWN.alloc _);have d0:(w.alloc (.cells #[iV x0,iV x1,iV x2] 30)).drew.cell? (iA w.heap.size 0)=sI x0:=zA w _ _ 0 _ rfl;have d1:(w.alloc (.cells #[iV x0,iV x1,iV x2] 30)).drew.cell? (iA w.heap.size 1)=sI x1:=zA w _ _ 1 _ rfl;have d2:(w.alloc (.cells #[iV x0,iV x1,iV x2] 30)).drew.cell? (iA w.heap.size 2)=sI x2:=zA w _ _ 2 _ rfl;have d3:(w.alloc (.cells #[iV x0,iV x1,iV x2] 30)).drew.cell? (iA w0.heap.size 3)=some dv:=(World.cell?_alloc_lt w _ (iA w0.heap.size 3) hlt).trans hc3;have e0:(w.alloc (.cells #[iV x0,iV x1,iV x2] 30)).drew.cell? (iA w0.heap.size 0)=sI x0:=(World.cell?_alloc_lt w _ (iA w0.heap.size 0) hlt).trans hx0
 have e1:(w.alloc (.cells #[iV x0,iV x1,iV x2] 30)).drew.cell? (iA w0.heap.size 1)=sI x1:=(World.cell?_alloc_lt w _ (iA w0.heap.size 1) hlt).trans hx1;have e2:(w.alloc (.cells #[iV x0,iV x1,iV x2] 30)).drew.cell? (iA w0.heap.size 2)=sI x2:=(World.cell?_alloc_lt w _ (iA w0.heap.size 2) hlt).trans hx2;have hszW:w.heap.size<(w.alloc (.cells #[iV x0,iV x1,iV x2] 30)).drew.heap.size:=by
  show w.heap.size<(w.alloc _).heap.size;simp
 clear hx0 hx1 hx2 hc3 HOWN HS;generalize (w.alloc (.cells #[iV x0,iV x1,iV x2] 30)).drew=W at *;have hltW:w0.heap.size<W.heap.size:=by omega
 obtain⟨i1,hj,hy0,hy1,hy2⟩:=zAa Tryz.infoPair Tryz.zeroPair;have HPAIR:Hid (Tryz.prog.info? 104=some i1∧i1.zero=some (.agg #[.pointer none,.pointer none,.string ⟨#[]⟩])∧i1.size=3∧i1.bytes=32):=⟨hj,hy0,hy1,hy2⟩;clear hj hy0 hy1 hy2;have HNEW:Hid (∀X:World,Same W X→Cl 9 #[.agg #[iV x0,iV x1,iV x2],dv] X fun en w'=> ∃dp nn,en=rV #[.pointer dp,iV nn]∧Bw X w'∧Hid (NewOut x0 x1 x2 ds W.drew w' dp nn)):=fun X hX=>by
  have hXW:Bw W X:=⟨hX.os,hX.tape,hX.output,by rw[hX.heap];exact Nat.le_refl _,fun k _=>by rw[hX.heap]⟩;have hSX:=HS1.below hXW;refine(zQx x0 x1 x2 dv (w0.heap.size+1) ds X (HE.out X _ _ _ hSX) (zA9 HOW1.out fun q _=>by rw[hX.heap]) (by omega)).mono ?_;rintro en w' ⟨dp,nn,rfl,hb,hd⟩;refine⟨dp,nn,rfl,hb,?_⟩;rcases hd.out with h1|⟨h1,h2,nb,h3,eb,g,k1,k2,k3,k4,k5,k6⟩
  ·exact .inl h1
  ·have hz:W.drew.heap.size=X.heap.size:=by rw[hX.heap];rfl
   refine .inr ⟨h1,h2,nb,h3,eb,g,by rw[hz];exact k1,k2,by rw[hz];exact k3,k4,k5,?_⟩;have k6:Bw X w':=k6;show Below W.drew.heap.size W.drew w';exact⟨k6.os.trans hX.os,k6.tape.trans hX.tape,k6.output.trans hX.output,by rw[hz];exact k6.size,fun k hk=>by
    rw[k6.block k (by rw[←hz];exact hk),hX.heap];rfl⟩
 go_region_held (fun X=>cI X w.heap.size 0 x0∧cI X w.heap.size 1 x1∧cI X w.heap.size 2 x2∧X.cell? (iA w0.heap.size 3)=some dv) (first
  |exact⟨d0,d1,d2,d3⟩
  |exact⟨(hbn.cell (p:=(iA w.heap.size 0)) hszW).trans d0,(hbn.cell (p:=(iA w.heap.size 1)) hszW).trans d1,(hbn.cell (p:=(iA w.heap.size 2)) hszW).trans d2,(hbn.cell (p:=(iA w0.heap.size 3)) hltW).trans d3⟩) ((go_at_call 9;refine(HNEW.out _ (Same.refl _).drew).mono ?_;rintro e w' ⟨dp,nn,rfl,hbn,HD⟩))
 have HS2:Hid (StT tag ps w0 w' n ws left):=HS1.drew.below hbn;have HOW2:Hid (w'.ownsRow (w0.heap.size+1) 3 1 dv ds.length (ds.map (iV))):=zA9 (zC HOW1.out) (fun q hq=>hbn.block q ((zC HOW1.out).lt q hq).2);have f0:=(hbn.cell (p:=(iA w0.heap.size 0)) hltW).trans e0;have f1:=(hbn.cell (p:=(iA w0.heap.size 1)) hltW).trans e1;have f2:=(hbn.cell (p:=(iA w0.heap.size 2)) hltW).trans e2;have f3:=(hbn.cell (p:=(iA w0.heap.size 3)) hltW).trans d3;have hlt2:=HS2.lt;clear d0 d1 d2 d3 e0 e1 e2 hbn HOW1 hszW hltW HNEW;obtain⟨i0,hi,hz0,hz1,hz2⟩:=zAa Tryz.infoIntC Tryz.zeroIntC;have HINF:Hid (Tryz.prog.info? 3=some i0∧i0.zero=sI 0∧i0.size=1∧i0.bytes=8):=⟨hi,hz0,hz1,hz2⟩;have HX:Hid (∀u∈ds.map (iV),u.oneCell'=true):=fun u hu=>by
  obtain⟨x,_,rfl⟩:=List.mem_map.1 hu;rfl
 have hcc:=fun g hg=>World.ownsRow.cells HOW2.out (g:=g) hg
 have hlen:=HOW2.1;have hltr:=HOW2.lt;have HMADE:Hid ((w'.alloc (.cells #[] 3)).ownsRow w'.heap.size 3 1 (sL w'.heap.size 0 0) 0 []):=World.ownsRow_made (base:=w'.heap.size) (e:=3) (size:=1) w' #[] 0 (Nat.le_refl _) (by unfold maxLen;omega) (by simp);clear hi hz0 hz1 hz2;obtain⟨md,hmde⟩: ∃md,md=ds.length:=⟨_,rfl⟩;have HMD:Hid (md=ds.length):=hmde;have HOW3:Hid (w'.ownsRow (w0.heap.size+1) 3 1 dv md (ds.map (iV))):=by show World.ownsRow _ _ _ _ _ _ _;rw[hmde];exact HOW2.out
 rcases HOW3.out.2 with⟨rfl,hmz⟩|⟨g,cap,cur,rfl,hg,hh,hle,hmx,hsz2,htk⟩
 ·have HDS:Hid (ds= []):=List.length_eq_zero_iff.1 (by rw[←hmde];exact hmz);clear hcc hlen hltr hmz hmde;go_wp2_with fail;have HS4:Hid (StT tag ps w0 (w'.alloc (.cells #[] 3)) n ws left):=HS2.below (zA0 _);have HB4:Hid (Bw w' (w'.alloc (.cells #[] 3))):=zA0 _;have HENG:Hid (∀X:World,Same (w'.alloc (.cells #[] 3)) X→Cl 73 #[.agg #[iV x0,iV x1,iV x2],sL w'.heap.size 0 0] X fun en w5=> ∃dp r,en=rV #[.pointer dp,.bool r]∧Bw X w5∧Hid (EngOut x0 x1 x2 ds w' w5 (sL w'.heap.size 0 0) dp r)):=fun X hX=>zH1 x0 x1 x2 ds w' X _ (by rw[hX.heap];exact HB4.size) (by rw[HDS.out];exact zA9 HMADE.out fun q _=>by rw[hX.heap])
  have g0:=(World.cell?_alloc_lt w' (.cells #[] 3) (iA w0.heap.size 0) hlt2).trans f0;have g1:=(World.cell?_alloc_lt w' (.cells #[] 3) (iA w0.heap.size 1) hlt2).trans f1;have g2:=(World.cell?_alloc_lt w' (.cells #[] 3) (iA w0.heap.size 2) hlt2).trans f2;clear f0 f1 f2 f3;generalize w'.alloc (.cells #[] 3)=W4 at *;have hlt4:=HS4.lt
  go_region_held (fun X=>cI X w0.heap.size 0 x0∧cI X w0.heap.size 1 x1∧cI X w0.heap.size 2 x2) (first
   |exact⟨g0,g1,g2⟩
   |exact⟨(hbn.cell (p:=(iA w0.heap.size 0)) hlt4).trans g0,(hbn.cell (p:=(iA w0.heap.size 1)) hlt4).trans g1,(hbn.cell (p:=(iA w0.heap.size 2)) hlt4).trans g2⟩) ((go_at_call 73;refine(HENG.out _ (Same.refl _).drew).mono ?_;rintro e w5 ⟨ep,r,rfl,hbn,HR⟩))
  have HS5:Hid (StT tag ps w0 w5 n ws left):=HS4.drew.below hbn;have HB5:Hid (Bw w' w5):=(zH0 HB4.out).trans (Below.mono hbn HB4.size);clear g0 g1 g2 hbn;rcases HR.out with⟨hko,rfl,rfl⟩|⟨hko,rfl,db,rfl,hrr⟩
  ·rcases HD.out with⟨_,rfl,rfl⟩|⟨hk2,_⟩
   ·have HNX:Hid (Next w0 w5 n):=St.next ⟨tag,ps,HS5.out,HALL.out⟩;clear hko;go_wp2;go_ret;exact⟨rfl,HNX.out⟩
   ·rw[hko]at hk2;cases hk2
  ·rcases HD.out with⟨hk2,_⟩|⟨_,rfl,nb,rfl,hdk⟩
   ·rw[hko]at hk2;cases hk2
   ·obtain⟨tag',pd,hS6,hp6,hnb,hdb,hal⟩:=HS1.out.drew.more hko (by omega) HDB.out hdk hrr HB5.out;have HS6:=hid hS6;have HP6:=hid hp6;have HPC:Hid (pd.cells= [iP nb,iP db,.string ⟨#[]⟩]∧pd.all=⟨#[]⟩):=⟨by unfold Duo.cells;rw[hnb,hdb,hal],hal⟩;obtain⟨v5,hc5,hrow5,hvt5⟩:=hS6.desks;have HR5:Hid (w5.ownsRow (w0.heap.size+1) 104 3 v5 ps.length (ps.flatMap Duo.cells)∧∀q,v5.ownBlock=some q→tag' q=.own):=⟨hrow5,hvt5⟩;have HC5:=hid hc5;have hpl:=hS6.plen;have hf5:=hS6.froz 5;have hlt5:=hS6.lt;have HFAR:Hid (some w0.heap.size≠v5.ownBlock):=fun e=>by have:=(hrow5.lt _ e.symm).1;omega
    have HOL:Hid (∀o,(w5.alloc o).ownsRow (w0.heap.size+1) 104 3 v5 ps.length (ps.flatMap Duo.cells)):=fun o=>hrow5.alloc o
    have HC1:Hid (∀(j:Nat) (u:Value),[iP nb,iP db,.string ⟨#[]⟩][j]? =some u→(w5.alloc (.cells #[iP nb,iP db,.string ⟨#[]⟩] 104)).cell? (Addr.add (iA w5.heap.size 0) j)=some u):=fun j u hj=>by
     rw[Addr.add_lit,Nat.zero_add,World.cell?_alloc_at _ _ _ _ rfl];simpa using hj
    have HC2:Hid (∀u∈([iP nb,iP db,.string ⟨#[]⟩]:List Value),u.oneCell'=true):=List.forall_mem_cons.2 ⟨rfl,List.forall_mem_cons.2 ⟨rfl,List.forall_mem_cons.2 ⟨rfl,fun u hu=>by cases hu⟩⟩⟩;have HC3:Hid (ps.length+1≤maxLen):=by show ps.length+1≤maxLen;unfold maxLen;omega
    have HC4:Hid ((ps.length+1)* 32≤140737488355328):=by show(ps.length+1)* 32≤140737488355328;omega
    have HC6:Hid (∀o,w0.heap.size+1≤(w5.alloc o).heap.size):=fun o=>by simp;omega
    clear hS6 hp6 hnb hdb hal hrow5 hvt5 hdk hrr hko;go_wp2_with(at_builtin;refine wpList_append_lies _ rfl _ _ 83 rfl (w0.heap.size+1) 104 i1 (.agg #[.pointer none,.pointer none,.string ⟨#[]⟩]) 3 32 Tryz.underlying83 HPAIR.1 HPAIR.2.1 HPAIR.2.2.1 HPAIR.2.2.2 rfl (by decide) _ _ _ rfl (HOL.out _) (iA w5.heap.size 0) 1 1 [iP nb,iP db,.string ⟨#[]⟩] rfl rfl HC1.out HC2.out (by decide) HC3.out HC4.out (HC6.out _) (w5.heap.size+1) (by simp) ?_);intro g' cap' w6 hown6 hgrow6 hat6 _;have hbl: ∀b,b<w5.heap.size→some b≠v5.ownBlock→w6.heap[b]? =w5.heap[b]? :=fun b h1 h2=>(hgrow6.block b (by simp;omega) h2).trans (Below.heap_alloc _ _ _ h1)
    have hq5:w6.cell? (iA w0.heap.size 5)=some v5:=(World.cell?_of_block (a:=(iA w0.heap.size 5)) (hbl _ hlt5 HFAR.out)).trans hc5;have hqf:w6.frozen? (iA w0.heap.size 5)=false:=(World.frozen?_of_block (a:=(iA w0.heap.size 5)) (hbl _ hlt5 HFAR.out)).trans hf5;have HFIN:Hid (Next w0 (w6.setCell (iA w0.heap.size 5) (sL g' (ps.length+1) cap')) n):=by
     refine Next.of ⟨tag',ps++ [pd],HS6.store HP6.out HC5.out HR5.1 ⟨HR5.2,hgrow6.os,hgrow6.tape,hgrow6.output,Nat.le_trans (by simp) hgrow6.size,hbl,fun q hq=>?_⟩ (by rw[HPC.1];exact hown6),fun x hx=>?_⟩
     ·have:g'=q:=by simpa [Value.ownBlock] using hq
      subst this;rcases hat6 with h|h
      ·exact .inl h
      ·exact .inr (by omega)
     ·rcases List.mem_append.1 hx with h|h
      ·exact HALL.out x h
      ·obtain rfl:x=pd:=by simpa using h
       rw[HPC.out.2];exact Nat.zero_le _
    clear hown6 hgrow6 hbl hat6 hc5;go_wp2;go_ret;exact⟨rfl,HFIN.out⟩
 ·have HC1:Hid (∀(j:Nat) (u:Value),(ds.map (iV))[j]? =some u→(w'.alloc (.cells #[] 3)).cell? (Addr.add (iA g 0) j)=some u):=fun j u hj=>by
   have h1:=hcc g rfl j u hj;have h2:=(hltr g rfl).2;rw[Addr.add_lit]at h1⊢;rw[World.cell?_alloc_lt _ _ _ h2];exact h1
  have HC3:Hid (0+md≤maxLen):=by show 0+md≤maxLen;unfold maxLen;omega
  have HC4:Hid ((0+md)* 8≤140737488355328):=by show(0+md)* 8≤140737488355328;omega
  have HC5:Hid (w'.heap.size≤(w'.alloc (.cells #[] 3)).heap.size):=by
   show w'.heap.size≤(w'.alloc _).heap.size;simp
  have HLEN:Hid ((ds.map (iV)).length=md*1):=by show _=_;rw[hmde];exact hlen
  clear hcc hh htk hsz2 hltr hlen hmde;go_wp2_with(at_builtin;refine wpList_append_own _ rfl _ _ 45 rfl w'.heap.size 3 i0 (iV 0) 1 8 Tryz.underlying45 HINF.1 HINF.2.1 HINF.2.2.1 HINF.2.2.2 rfl (by decide) _ _ _ rfl HMADE.out (iA g 0) md cap (ds.map (iV)) rfl HLEN.out HC1.out HX.out HC3.out HC4.out HC5.out ?_);intro v' W4 hown2 hgrow _;have hB4:Bw w' W4:=(zA2 (Below.refl _ _) _).grown hgrow (by simp) (fun q hq=>by simp[Value.ownBlock]at hq;omega);have HB4:=hid hB4;have HS4:Hid (StT tag ps w0 W4 n ws left):=HS2.below hB4;have HENG:Hid (∀X:World,Same W4 X→Cl 73 #[.agg #[iV x0,iV x1,iV x2],v'] X fun en w5=> ∃dp r,en=rV #[.pointer dp,.bool r]∧Bw X w5∧Hid (EngOut x0 x1 x2 ds w' w5 v' dp r)):=fun X hX=>zH1 x0 x1 x2 ds w' X _ (by rw[hX.heap];exact HB4.size) (by
   rw[HMD.out]at hown2;exact zA9 hown2 fun q _=>by rw[hX.heap])
  have g0:=(hB4.cell (p:=(iA w0.heap.size 0)) hlt2).trans f0;have g1:=(hB4.cell (p:=(iA w0.heap.size 1)) hlt2).trans f1;have g2:=(hB4.cell (p:=(iA w0.heap.size 2)) hlt2).trans f2;obtain⟨p',n',cap',rfl⟩: ∃p' n' cap',v'=.slice p' n' cap':=by
   rcases hown2.2 with⟨rfl,_⟩|⟨g,cap,cur,h,_⟩
   ·exact⟨_,_,_,rfl⟩
   ·exact⟨_,_,_,h⟩
  clear hown2 hgrow f0 f1 f2 f3 hB4;go_wp2_with fail;have hlt4:=HS4.lt
  go_region_held (fun X=>cI X w0.heap.size 0 x0∧cI X w0.heap.size 1 x1∧cI X w0.heap.size 2 x2) (first
   |exact⟨g0,g1,g2⟩
   |exact⟨(hbn.cell (p:=(iA w0.heap.size 0)) hlt4).trans g0,(hbn.cell (p:=(iA w0.heap.size 1)) hlt4).trans g1,(hbn.cell (p:=(iA w0.heap.size 2)) hlt4).trans g2⟩) ((go_at_call 73;refine(HENG.out _ (Same.refl _).drew).mono ?_;rintro e w5 ⟨ep,r,rfl,hbn,HR⟩))
  have HS5:Hid (StT tag ps w0 w5 n ws left):=HS4.drew.below hbn;have HB5:Hid (Bw w' w5):=(zH0 HB4.out).trans (Below.mono hbn HB4.size);clear g0 g1 g2 hbn;rcases HR.out with⟨hko,rfl,rfl⟩|⟨hko,rfl,db,rfl,hrr⟩
  ·rcases HD.out with⟨_,rfl,rfl⟩|⟨hk2,_⟩
   ·have HNX:Hid (Next w0 w5 n):=St.next ⟨tag,ps,HS5.out,HALL.out⟩;clear hko;go_wp2;go_ret;exact⟨rfl,HNX.out⟩
   ·rw[hko]at hk2;cases hk2
  ·rcases HD.out with⟨hk2,_⟩|⟨_,rfl,nb,rfl,hdk⟩
   ·rw[hko]at hk2;cases hk2
   ·obtain⟨tag',pd,hS6,hp6,hnb,hdb,hal⟩:=HS1.out.drew.more hko (by omega) HDB.out hdk hrr HB5.out;have HS6:=hid hS6;have HP6:=hid hp6;have HPC:Hid (pd.cells= [iP nb,iP db,.string ⟨#[]⟩]∧pd.all=⟨#[]⟩):=⟨by unfold Duo.cells;rw[hnb,hdb,hal],hal⟩;obtain⟨v5,hc5,hrow5,hvt5⟩:=hS6.desks;have HR5:Hid (w5.ownsRow (w0.heap.size+1) 104 3 v5 ps.length (ps.flatMap Duo.cells)∧∀q,v5.ownBlock=some q→tag' q=.own):=⟨hrow5,hvt5⟩;have HC5:=hid hc5;have hpl:=hS6.plen;have hf5:=hS6.froz 5;have hlt5:=hS6.lt;have HFAR:Hid (some w0.heap.size≠v5.ownBlock):=fun e=>by have:=(hrow5.lt _ e.symm).1;omega
    have HOL:Hid (∀o,(w5.alloc o).ownsRow (w0.heap.size+1) 104 3 v5 ps.length (ps.flatMap Duo.cells)):=fun o=>hrow5.alloc o
    have HC1:Hid (∀(j:Nat) (u:Value),[iP nb,iP db,.string ⟨#[]⟩][j]? =some u→(w5.alloc (.cells #[iP nb,iP db,.string ⟨#[]⟩] 104)).cell? (Addr.add (iA w5.heap.size 0) j)=some u):=fun j u hj=>by
     rw[Addr.add_lit,Nat.zero_add,World.cell?_alloc_at _ _ _ _ rfl];simpa using hj
    have HC2:Hid (∀u∈([iP nb,iP db,.string ⟨#[]⟩]:List Value),u.oneCell'=true):=List.forall_mem_cons.2 ⟨rfl,List.forall_mem_cons.2 ⟨rfl,List.forall_mem_cons.2 ⟨rfl,fun u hu=>by cases hu⟩⟩⟩;have HC3:Hid (ps.length+1≤maxLen):=by show ps.length+1≤maxLen;unfold maxLen;omega
    have HC4:Hid ((ps.length+1)* 32≤140737488355328):=by show(ps.length+1)* 32≤140737488355328;omega
    have HC6:Hid (∀o,w0.heap.size+1≤(w5.alloc o).heap.size):=fun o=>by simp;omega
    clear hS6 hp6 hnb hdb hal hrow5 hvt5 hdk hrr hko;go_wp2_with(at_builtin;refine wpList_append_lies _ rfl _ _ 83 rfl (w0.heap.size+1) 104 i1 (.agg #[.pointer none,.pointer none,.string ⟨#[]⟩]) 3 32 Tryz.underlying83 HPAIR.1 HPAIR.2.1 HPAIR.2.2.1 HPAIR.2.2.2 rfl (by decide) _ _ _ rfl (HOL.out _) (iA w5.heap.size 0) 1 1 [iP nb,iP db,.string ⟨#[]⟩] rfl rfl HC1.out HC2.out (by decide) HC3.out HC4.out (HC6.out _) (w5.heap.size+1) (by simp) ?_);intro g' cap' w6 hown6 hgrow6 hat6 _;have hbl: ∀b,b<w5.heap.size→some b≠v5.ownBlock→w6.heap[b]? =w5.heap[b]? :=fun b h1 h2=>(hgrow6.block b (by simp;omega) h2).trans (Below.heap_alloc _ _ _ h1)
    have hq5:w6.cell? (iA w0.heap.size 5)=some v5:=(World.cell?_of_block (a:=(iA w0.heap.size 5)) (hbl _ hlt5 HFAR.out)).trans hc5;have hqf:w6.frozen? (iA w0.heap.size 5)=false:=(World.frozen?_of_block (a:=(iA w0.heap.size 5)) (hbl _ hlt5 HFAR.out)).trans hf5;have HFIN:Hid (Next w0 (w6.setCell (iA w0.heap.size 5) (sL g' (ps.length+1) cap')) n):=by
     refine Next.of ⟨tag',ps++ [pd],HS6.store HP6.out HC5.out HR5.1 ⟨HR5.2,hgrow6.os,hgrow6.tape,hgrow6.output,Nat.le_trans (by simp) hgrow6.size,hbl,fun q hq=>?_⟩ (by rw[HPC.1];exact hown6),fun x hx=>?_⟩
     ·have:g'=q:=by simpa [Value.ownBlock] using hq
      subst this;rcases hat6 with h|h
      ·exact .inl h
      ·exact .inr (by omega)
     ·rcases List.mem_append.1 hx with h|h
      ·exact HALL.out x h
      ·obtain rfl:x=pd:=by simpa using h
       rw[HPC.out.2];exact Nat.zero_le _
    clear hown6 hgrow6 hbl hat6 hc5;go_wp2;go_ret;exact⟨rfl,HFIN.out⟩
end Go.Proofs.YtilbfpnpkkkpgaaGreatDoor
