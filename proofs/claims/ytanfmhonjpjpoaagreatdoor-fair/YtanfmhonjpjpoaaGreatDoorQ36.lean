import Derived.Test.YtanfmhonjpjpoaaGreatDoorQ00
import Derived.Test.YtanfmhonjpjpoaaGreatDoorQ04
import Derived.Test.YtanfmhonjpjpoaaGreatDoorQ32
import Derived.Test.YtanfmhonjpjpoaaGreatDoorQ35
import Derived.Deep.RegionHeld3
import Derived.Deep.AppendLies
set_option linter.all false
set_option maxRecDepth 100000
set_option maxHeartbeats 8000000
namespace Go.Proofs.YtanfmhonjpjpoaaGreatDoor
variable{w w0 w':World}{wb n:Nat}{c0 c1 c2:Int}{ds:List Int}{e:Eng}{ad:Nat→Addr}{st:Nat→ByteArray}
open Go.Extern Go.Maps Go.RowKit
def pickI(c n:Int):Int:=(if c<0 then -(c+1) else c) % n
theorem zAy(c:Int){n:Int}(h:0<n):0≤pickI c n∧pickI c n<n:=⟨Int.emod_nonneg _ (by omega),Int.emod_lt_of_pos _ h⟩
theorem kpick(w:World)(c n:Int)(hc: -9223372036854775808≤c∧c≤9223372036854775807)(hn:0<n∧n≤1000000):
 Calls Tryz.prog 14 #[.int .i64 c,.int .i64 n] w fun en w'=>en=.returned (.int .i64 (pickI c n))∧w'=w:=by
 have hn0: ¬n=0:=by omega
 have hn1: ¬n= -1:=by omega
 by_cases h:c<0
 ·have hw1:wrap64 (c+1)=c+1:=by unfold wrap64;omega
  have hw2:wrap64 (-(c+1))= -(c+1):=by unfold wrap64;omega
  have hv:(-(c+1)).tmod n=pickI c n:=by unfold pickI;rw[if_pos h,Int.tmod_eq_emod_of_nonneg (by omega)]
  have hw3:wrap64 (pickI c n)=pickI c n:=by have:=zAy c hn.1;unfold wrap64;omega
  clear hc;go_enter Tryz.func14,Tryz.ntmps14;go_wp2;go_ret;exact⟨rfl,rfl⟩
 ·have hv:c.tmod n=pickI c n:=by unfold pickI;rw[if_neg h,Int.tmod_eq_emod_of_nonneg (by omega)]
  have hw3:wrap64 (pickI c n)=pickI c n:=by have:=zAy c hn.1;unfold wrap64;omega
  clear hc;go_enter Tryz.func14,Tryz.ntmps14;go_wp2;go_ret;exact⟨rfl,rfl⟩
theorem wrapEqK(x:Int):IntKind.i64.wrap x=wrap64 x:=by rw[IntKind.wrap_i64];unfold wrap64;rfl
def KN(w0 w:World)(wb:Nat)(c0 c1 c2:Int)(ds:List Int):Prop:=Below w0.heap.size w0 w∧w0.heap.size≤wb∧(-9223372036854775808≤c0∧c0≤9223372036854775807)∧(-9223372036854775808≤c1∧c1≤9223372036854775807)∧(-9223372036854775808≤c2∧c2≤9223372036854775807)∧(∀x∈ds,-9223372036854775808≤x∧x≤9223372036854775807)∧ds.length≤1000000∧∃dv,w.heap[wb]? =some (.cells #[.int .i64 c0,.int .i64 c1,.int .i64 c2,dv,.pointer none,.bool false,.string ⟨#[]⟩,.int .i64 0,.slice none 0 0,.int .i64 0,.bool false] 33 (0,0))∧w.ownsRow (wb+1) 3 1 dv ds.length (ds.map (Value.int .i64))
def startE(c0 c1 c2:Int)(ds:List Int):Eng:=newEng (1+pickI c0 64) (1+pickI c1 1000000) (1+pickI c2 1000) ds
theorem zDt(c0 c1 c2:Int):okCfg (1+pickI c0 64) (1+pickI c1 1000000) (1+pickI c2 1000)=true:=by
 have h0:=zAy c0 (n:=64) (by omega);have h1:=zAy c1 (n:=1000000) (by omega);have h2:=zAy c2 (n:=1000) (by omega);unfold okCfg;simp;omega
theorem KN.made{W:World}{nb:Nat}{dv:Value}(h:KN w0 w wb c0 c1 c2 ds)(hb: ∀k,k<w.heap.size→k≠wb→W.heap[k]? =w.heap[k]?)(hos:W.os=w.os∧W.tape=w.tape∧W.output=w.output)(hsz:w.heap.size≤W.heap.size)(hW:W.heap[wb]? =some (.cells #[.int .i64 c0,.int .i64 (1+pickI c1 1000000),.int .i64 c2,dv,.pointer none,.bool true,.string ⟨#[]⟩,.int .i64 0,.slice none 0 0,.int .i64 0,.bool false] 33 (0,0)))(hN:NewDesk W w' nb (1+pickI c0 64) (1+pickI c1 1000000) (1+pickI c2 1000) ds):KW w0 (w'.setCell ⟨wb,4,none⟩ (.pointer (some ⟨nb,0,none⟩))) wb (startE c0 c1 c2 ds) n:=by
 obtain⟨hl,hlo,b0,b1,b2,hds,hdl,_,hwb,_⟩:=h;obtain⟨eb,g,hnb,hd,hC,hH,hP,hG⟩:=hN;have hwl:wb<w.heap.size:=(Array.getElem?_eq_some_iff.1 hwb).1;have hwW:wb<W.heap.size:=Nat.lt_of_lt_of_le hwl hsz;have hG':Below W.heap.size W w':=hG;have hw':w'.heap[wb]? =some (.cells #[.int .i64 c0,.int .i64 (1+pickI c1 1000000),.int .i64 c2,dv,.pointer none,.bool true,.string ⟨#[]⟩,.int .i64 0,.slice none 0 0,.int .i64 0,.bool false] 33 (0,0)):=(hG'.block wb hwW).trans hW;have hx:(w'.setCell ⟨wb,4,none⟩ (.pointer (some ⟨nb,0,none⟩))).heap[wb]? =some (.cells #[.int .i64 c0,.int .i64 (1+pickI c1 1000000),.int .i64 c2,dv,.pointer (some ⟨nb,0,none⟩),.bool true,.string ⟨#[]⟩,.int .i64 0,.slice none 0 0,.int .i64 0,.bool false] 33 (0,0)):=by
  rw[zB0 _ _ _ _ _ _ _ hw'];rfl
 have oth: ∀k,k≠wb→(w'.setCell ⟨wb,4,none⟩ (.pointer (some ⟨nb,0,none⟩))).heap[k]? =w'.heap[k]? :=fun k hk=>Below.heap_setCell _ _ _ _ hk
 have hnl:nb<w'.heap.size:=(Array.getElem?_eq_some_iff.1 hd).1;have hcc: ∀j v,#[Value.int .i64 c0,.int .i64 (1+pickI c1 1000000),.int .i64 c2,dv,.pointer (some ⟨nb,0,none⟩),.bool true,.string ⟨#[]⟩,.int .i64 0,.slice none 0 0,.int .i64 0,.bool false][j]? =some v→(w'.setCell ⟨wb,4,none⟩ (.pointer (some ⟨nb,0,none⟩))).cell? ⟨wb,j,none⟩=some v:=fun j v hv=>by
  unfold World.cell?;rw[hx];exact hv
 have nolb: ∀k,¬LB (w'.setCell ⟨wb,4,none⟩ (.pointer (some ⟨nb,0,none⟩))) wb k:=fun k ⟨m,cp,e⟩=>by
  rw[hcc 8 (.slice none 0 0) rfl]at e;cases e
 have hsz2:(w'.setCell ⟨wb,4,none⟩ (.pointer (some ⟨nb,0,none⟩))).heap.size=w'.heap.size:=by simp
 have hWw:=hG'.size;have hnb':W.heap.size≤nb:=hnb;refine⟨⟨⟨?_,?_,?_,?_,?_⟩,hlo,by rw[hsz2];omega,fun k hk=>absurd hk (nolb k),fun k=>W.heap.size≤k∧k≠nb∧k<w'.heap.size,nb,eb,g,noSets,W.heap.size+1,hcc 4 _ rfl,?_,by omega,nolb nb,fun c=>c.2.1 rfl,by rw[hsz2];exact hnl,fun _ c=>c.elim,fun k hk=>⟨by have:=hl.size;omega,by omega,nolb k,by rw[hsz2];exact hk.2.2⟩,?_,hH⟩,⟨⟨_,hcc 8 _ rfl,World.ownsRow_nil _ _ _ _⟩,hcc 9 _ rfl,by show([]:List Ent).length≤_;simp⟩,fun o=>by simp[World.frozen?,hx],hcc 1 _ rfl,hcc 5 _ rfl,⟨_,hcc 6 _ rfl,rfl⟩,hcc 7 _ rfl,rfl,zM4 (zDt c0 c1 c2) (by omega) hds,⟨zFq (zDt c0 c1 c2),fun i o ho=>by simp[startE,newEng]at ho,?_,hP,rfl⟩,Nat.zero_le _⟩
 ·exact(hG'.os.trans hos.1).trans hl.os
 ·exact(hG'.tape.trans hos.2.1).trans hl.tape
 ·exact(hG'.output.trans hos.2.2).trans hl.output
 ·rw[hsz2];have:=hl.size;omega
 ·intro k hk;have:=hl.size;rw[oth k (by omega),hG'.block k (by omega),hb k (by omega) (by omega)];exact hl.block k hk
 ·unfold World.cell?;rw[oth nb (by omega),hd];rfl
 ·exact hC.move (by rw[hsz2];exact Nat.le_refl _) (fun k hk hF=>⟨oth k (by have:=hF.1;omega),.inl ⟨hF.1,hF.2,hk⟩⟩) (fun k hk=>.inr hk)
 ·exact⟨fun i o ho=>by simp[startE,newEng]at ho,fun i o ho=>by simp[startE,newEng]at ho,fun i j x y hx=>by simp[startE,newEng]at hx⟩
theorem kbegin(n:Nat)(h:KN w0 w wb c0 c1 c2 ds):
 Calls Tryz.prog 12 #[.pointer (some ⟨wb,0,none⟩)] w fun en w'=>en=.returned (.bool true)∧Hid (KW w0 w' wb (startE c0 c1 c2 ds) n∧∀k,k<w.heap.size→k≠wb→w'.heap[k]? =w.heap[k]?):=by
 have HKN:=hid h;obtain⟨hl,hlo,b0,b1,b2,hds,hdl,dv,hwb,hdv⟩:=h;have cw: ∀j v,#[Value.int .i64 c0,.int .i64 c1,.int .i64 c2,dv,.pointer none,.bool false,.string ⟨#[]⟩,.int .i64 0,.slice none 0 0,.int .i64 0,.bool false][j]? =some v→w.cell? ⟨wb,j,none⟩=some v:=fun j v hv=>by
  unfold World.cell?;rw[hwb];exact hv
 have c5:w.cell? ⟨wb,5,none⟩=some (.bool false):=cw 5 _ rfl;have f5:w.frozen? ⟨wb,5,none⟩=false:=by simp[World.frozen?,hwb]
 have hx1:(w.setCell ⟨wb,5,none⟩ (.bool true)).heap[wb]? =some (.cells #[.int .i64 c0,.int .i64 c1,.int .i64 c2,dv,.pointer none,.bool true,.string ⟨#[]⟩,.int .i64 0,.slice none 0 0,.int .i64 0,.bool false] 33 (0,0)):=by
  rw[zB0 _ _ _ _ _ _ _ hwb];rfl
 have HX1:=hid hx1;have HO1:Hid (∀k,k≠wb→(w.setCell ⟨wb,5,none⟩ (.bool true)).heap[k]? =w.heap[k]?):=fun k hk=>Below.heap_setCell _ _ _ _ hk
 have HS1:Hid ((w.setCell ⟨wb,5,none⟩ (.bool true)).heap.size=w.heap.size∧wb<w.heap.size∧(w.setCell ⟨wb,5,none⟩ (.bool true)).os=w.os∧(w.setCell ⟨wb,5,none⟩ (.bool true)).tape=w.tape∧(w.setCell ⟨wb,5,none⟩ (.bool true)).output=w.output):=⟨by simp,(Array.getElem?_eq_some_iff.1 hwb).1,rfl,rfl,rfl⟩;have HDV:=hid hdv;have HP0:Hid (∀W,Calls Tryz.prog 14 #[.int .i64 c0,.int .i64 64] W fun en w'=>en=.returned (.int .i64 (pickI c0 64))∧w'=W):=fun W=>kpick W c0 64 b0 (by omega)
 have HP1:Hid (∀W,Calls Tryz.prog 14 #[.int .i64 c1,.int .i64 1000000] W fun en w'=>en=.returned (.int .i64 (pickI c1 1000000))∧w'=W):=fun W=>kpick W c1 1000000 b1 (by omega)
 have HP2:Hid (∀W,Calls Tryz.prog 14 #[.int .i64 c2,.int .i64 1000] W fun en w'=>en=.returned (.int .i64 (pickI c2 1000))∧w'=W):=fun W=>kpick W c2 1000 b2 (by omega)
 have hA:=zAy c0 (n:=64) (by omega);have hB:=zAy c1 (n:=1000000) (by omega);have hC:=zAy c2 (n:=1000) (by omega);have wA:IntKind.i64.wrap (1+pickI c0 64)=1+pickI c0 64:=by rw[wrapEqK];unfold wrap64;omega
 have wB:IntKind.i64.wrap (1+pickI c1 1000000)=1+pickI c1 1000000:=by rw[wrapEqK];unfold wrap64;omega
 have wC:IntKind.i64.wrap (1+pickI c2 1000)=1+pickI c2 1000:=by rw[wrapEqK];unfold wrap64;omega
 clear hl hlo b0 b1 b2 hds hdl hwb hdv cw hx1 hA hB hC;go_enter Tryz.func12,Tryz.ntmps12;go_wp2_with(with_reducible first|refine zA1 ?_|refine zA0 ?_);clear c5 f5;generalize w.setCell ⟨wb,5,none⟩ (.bool true)=W1 at *;try with_reducible refine hidO ?_
 have k0:W1.cell? ⟨wb,0,none⟩=some (.int .i64 c0):=by unfold World.cell?;rw[HX1.out];rfl
 have k1:W1.cell? ⟨wb,1,none⟩=some (.int .i64 c1):=by unfold World.cell?;rw[HX1.out];rfl
 have k2:W1.cell? ⟨wb,2,none⟩=some (.int .i64 c2):=by unfold World.cell?;rw[HX1.out];rfl
 go_wp2_with fail;have hwb1:wb<W1.heap.size:=by have:=HS1.out;omega
 go_region_held3(fun X=>X.cell? ⟨wb,0,none⟩=some (.int .i64 c0)∧X.cell? ⟨wb,1,none⟩=some (.int .i64 c1)∧X.cell? ⟨wb,2,none⟩=some (.int .i64 c2)) (first
  |exact⟨k0,k1,k2⟩
  |exact⟨(World.cell?_alloc_lt _ _ _ hwb1).trans k0,(World.cell?_alloc_lt _ _ _ hwb1).trans k1,(World.cell?_alloc_lt _ _ _ hwb1).trans k2⟩) (first
  |(with_reducible refine(HP0.out _).mono ?_;rintro en w' ⟨rfl,rfl⟩)
  |(with_reducible refine(HP1.out _).mono ?_;rintro en w' ⟨rfl,rfl⟩)
  |(with_reducible refine(HP2.out _).mono ?_;rintro en w' ⟨rfl,rfl⟩))
 all_goals(
  clear k0 k1 k2 HP0 HP1 HP2 wA wB wC;have hcb:W1.heap.size≠wb:=by omega
  have HX2:Hid ((W1.alloc (.cells #[.int .i64 (1+pickI c0 64),.int .i64 (1+pickI c1 1000000),.int .i64 (1+pickI c2 1000)] 59)).drew.heap[wb]? =some (.cells #[.int .i64 c0,.int .i64 c1,.int .i64 c2,dv,.pointer none,.bool true,.string ⟨#[]⟩,.int .i64 0,.slice none 0 0,.int .i64 0,.bool false] 33 (0,0))):=(Below.heap_alloc W1 _ wb hwb1).trans HX1.out;have HC2:Hid ((W1.alloc (.cells #[.int .i64 (1+pickI c0 64),.int .i64 (1+pickI c1 1000000),.int .i64 (1+pickI c2 1000)] 59)).drew.heap[W1.heap.size]? =some (.cells #[.int .i64 (1+pickI c0 64),.int .i64 (1+pickI c1 1000000),.int .i64 (1+pickI c2 1000)] 59)):=heapNew W1 _;have HO2:Hid (∀k,k<W1.heap.size→(W1.alloc (.cells #[.int .i64 (1+pickI c0 64),.int .i64 (1+pickI c1 1000000),.int .i64 (1+pickI c2 1000)] 59)).drew.heap[k]? =W1.heap[k]?):=fun k hk=>Below.heap_alloc W1 _ k hk
  have HZ2:Hid ((W1.alloc (.cells #[.int .i64 (1+pickI c0 64),.int .i64 (1+pickI c1 1000000),.int .i64 (1+pickI c2 1000)] 59)).drew.heap.size=W1.heap.size+1∧(W1.alloc (.cells #[.int .i64 (1+pickI c0 64),.int .i64 (1+pickI c1 1000000),.int .i64 (1+pickI c2 1000)] 59)).drew.os=W1.os∧(W1.alloc (.cells #[.int .i64 (1+pickI c0 64),.int .i64 (1+pickI c1 1000000),.int .i64 (1+pickI c2 1000)] 59)).drew.output=W1.output):=⟨by show(W1.alloc _).heap.size=_;simp,rfl,rfl⟩;have HT2:Hid ((W1.alloc (.cells #[.int .i64 (1+pickI c0 64),.int .i64 (1+pickI c1 1000000),.int .i64 (1+pickI c2 1000)] 59)).drew.tape=W1.tape):=rfl;generalize hcc:W1.heap.size=cb at *;generalize (W1.alloc (.cells #[.int .i64 (1+pickI c0 64),.int .i64 (1+pickI c1 1000000),.int .i64 (1+pickI c2 1000)] 59)).drew=W2 at *;clear hcc;have d1:W2.cell? ⟨cb,1,none⟩=some (.int .i64 (1+pickI c1 1000000)):=by unfold World.cell?;rw[HC2.out];rfl
  have e1:W2.cell? ⟨wb,1,none⟩=some (.int .i64 c1):=by unfold World.cell?;rw[HX2.out];rfl
  have g1:W2.frozen? ⟨wb,1,none⟩=false:=by have:=HX2.out;simp[World.frozen?,this]
  go_wp2_with fail;go_region;all_goals(
   have HX3:Hid ((W2.setCell ⟨wb,1,none⟩ (.int .i64 (1+pickI c1 1000000))).drew.heap[wb]? =some (.cells #[.int .i64 c0,.int .i64 (1+pickI c1 1000000),.int .i64 c2,dv,.pointer none,.bool true,.string ⟨#[]⟩,.int .i64 0,.slice none 0 0,.int .i64 0,.bool false] 33 (0,0))):=by
    show(W2.setCell ⟨wb,1,none⟩ (.int .i64 (1+pickI c1 1000000))).heap[wb]? =_;rw[zB0 _ _ _ _ _ _ _ HX2.out];rfl
   have HO3:Hid (∀k,k≠wb→(W2.setCell ⟨wb,1,none⟩ (.int .i64 (1+pickI c1 1000000))).drew.heap[k]? =W2.heap[k]?):=fun k hk=>Below.heap_setCell _ _ _ _ hk
   have HZ3:Hid ((W2.setCell ⟨wb,1,none⟩ (.int .i64 (1+pickI c1 1000000))).drew.heap.size=W2.heap.size∧(W2.setCell ⟨wb,1,none⟩ (.int .i64 (1+pickI c1 1000000))).drew.os=W2.os∧(W2.setCell ⟨wb,1,none⟩ (.int .i64 (1+pickI c1 1000000))).drew.output=W2.output∧(W2.setCell ⟨wb,1,none⟩ (.int .i64 (1+pickI c1 1000000))).drew.tape=W2.tape):=⟨by show(W2.setCell _ _).heap.size=_;simp,rfl,rfl,rfl⟩;clear d1 e1 g1;generalize (W2.setCell ⟨wb,1,none⟩ (.int .i64 (1+pickI c1 1000000))).drew=W3 at *;have HC3:Hid (W3.heap[cb]? =some (.cells #[.int .i64 (1+pickI c0 64),.int .i64 (1+pickI c1 1000000),.int .i64 (1+pickI c2 1000)] 59)):=(HO3.out cb hcb).trans HC2.out;have p0:W3.cell? ⟨cb,0,none⟩=some (.int .i64 (1+pickI c0 64)):=by unfold World.cell?;rw[HC3.out];rfl
   have p1:W3.cell? ⟨cb,1,none⟩=some (.int .i64 (1+pickI c1 1000000)):=by unfold World.cell?;rw[HC3.out];rfl
   have p2:W3.cell? ⟨cb,2,none⟩=some (.int .i64 (1+pickI c2 1000)):=by unfold World.cell?;rw[HC3.out];rfl
   have p3:W3.cell? ⟨wb,3,none⟩=some dv:=by unfold World.cell?;rw[HX3.out];rfl
   have HNW:Hid (Calls Tryz.prog 20 #[.agg #[.int .i64 (1+pickI c0 64),.int .i64 (1+pickI c1 1000000),.int .i64 (1+pickI c2 1000)],dv] W3.drew fun en w'=> ∃nb,en=.returned (.tuple #[.pointer (some ⟨nb,0,none⟩),.int .i64 0])∧Hid (NewDesk W3.drew w' nb (1+pickI c0 64) (1+pickI c1 1000000) (1+pickI c2 1000) ds)):=by
    refine zP _ _ _ dv (wb+1) ds W3.drew ?_ (by have:=HKN.out.2.2.2.2.2.2.1;omega) (zDt c0 c1 c2);have hr:=HDV.out;refine⟨hr.1,?_⟩;rcases hr.2 with h2|⟨gg,cp,cur,hv,hg,hh,r⟩
    ·exact .inl h2
    ·refine .inr ⟨gg,cp,cur,hv,hg,?_,r⟩;have hgl:=(Array.getElem?_eq_some_iff.1 hh).1;show W3.heap[gg]? =_;rw[HO3.out gg (by omega),HO2.out gg (by have:=HS1.out.1;omega),HO1.out gg (by omega)];exact hh
   go_wp2_with fail;have HS3:Hid ((fun X=>X.cell? ⟨cb,0,none⟩=some (.int .i64 (1+pickI c0 64))∧X.cell? ⟨cb,1,none⟩=some (.int .i64 (1+pickI c1 1000000))∧X.cell? ⟨cb,2,none⟩=some (.int .i64 (1+pickI c2 1000))∧X.cell? ⟨wb,3,none⟩=some dv) W3.drew):=⟨p0,p1,p2,p3⟩;refine zC 10 (fun X=>X.cell? ⟨cb,0,none⟩=some (.int .i64 (1+pickI c0 64))∧X.cell? ⟨cb,1,none⟩=some (.int .i64 (1+pickI c1 1000000))∧X.cell? ⟨cb,2,none⟩=some (.int .i64 (1+pickI c2 1000))∧X.cell? ⟨wb,3,none⟩=some dv) (by kernel_rfl) ?_;refine zA (i:=0) (v:=.agg #[.int .i64 (1+pickI c0 64),.int .i64 (1+pickI c1 1000000),.int .i64 (1+pickI c2 1000)]) (by rfl) (by kernel_rfl) (by kernel_rfl) (by kernel_rfl) (by kernel_rfl) (by exact fun _ _ _ h=>h) (Or.inl ⟨by rfl,?_⟩) HS3.out ?_
   ·intro W hW;obtain⟨y0,y1,y2,y3⟩:=hW;go_simp
   simp only[Act.put,List.setIfInBounds_toArray,List.set_cons_zero,List.set_cons_succ];refine zA (i:=1) (v:=.pointer (some ⟨wb,0,none⟩)) (by rfl) (by kernel_rfl) (by kernel_rfl) (by kernel_rfl) (by kernel_rfl) (by exact fun _ _ _ h=>h) (Or.inl ⟨by rfl,?_⟩) HS3.out ?_
   ·intro W _;go_simp
   simp only[Act.put,List.setIfInBounds_toArray,List.set_cons_zero,List.set_cons_succ];refine zA (i:=2) (v:=.pointer (some ⟨wb,0,none⟩)) (by rfl) (by kernel_rfl) (by kernel_rfl) (by kernel_rfl) (by kernel_rfl) (by exact fun _ _ _ h=>h) (Or.inl ⟨by rfl,?_⟩) HS3.out ?_
   ·intro W _;go_simp
   simp only[Act.put,List.setIfInBounds_toArray,List.set_cons_zero,List.set_cons_succ];refine zA (i:=3) (v:=.pointer (some ⟨wb,3,none⟩)) (by rfl) (by kernel_rfl) (by kernel_rfl) (by kernel_rfl) (by kernel_rfl) (by exact fun _ _ _ h=>h) (Or.inl ⟨by rfl,?_⟩) HS3.out ?_
   ·intro W _;go_simp
   simp only[Act.put,List.setIfInBounds_toArray,List.set_cons_zero,List.set_cons_succ];refine zA (i:=4) (v:=dv) (by rfl) (by kernel_rfl) (by kernel_rfl) (by kernel_rfl) (by kernel_rfl) (by exact fun _ _ _ h=>h) (Or.inl ⟨by rfl,?_⟩) HS3.out ?_
   ·intro W hW;obtain⟨y0,y1,y2,y3⟩:=hW;go_simp
   simp only[Act.put,List.setIfInBounds_toArray,List.set_cons_zero,List.set_cons_succ];refine zAb (i:=5) (by kernel_rfl) (by rfl) (fun K hK=>?_);go_simp;refine HNW.out.mono ?_;rintro en W4 ⟨nb,rfl,HND⟩;have hgr:Below W3.drew.heap.size W3.drew W4:=by obtain⟨_,_,_,_,_,_,_,hG⟩:=HND.out;exact hG
   have hz3:W3.drew.heap.size=W3.heap.size:=rfl;have hcl:cb<W3.drew.heap.size:=(Array.getElem?_eq_some_iff.1 (show W3.drew.heap[cb]? =_ from HC3.out)).1;have hwl4:wb<W3.drew.heap.size:=(Array.getElem?_eq_some_iff.1 (show W3.drew.heap[wb]? =_ from HX3.out)).1;have HS4:Hid ((fun X=>X.cell? ⟨cb,0,none⟩=some (.int .i64 (1+pickI c0 64))∧X.cell? ⟨cb,1,none⟩=some (.int .i64 (1+pickI c1 1000000))∧X.cell? ⟨cb,2,none⟩=some (.int .i64 (1+pickI c2 1000))∧X.cell? ⟨wb,3,none⟩=some dv) W4):=⟨zA3 hgr hcl HS3.out.1,zA3 hgr hcl HS3.out.2.1,zA3 hgr hcl HS3.out.2.2.1,zA3 hgr hwl4 HS3.out.2.2.2⟩;have HX4:Hid (W4.heap[wb]? =W3.heap[wb]?):=hgr.block wb hwl4;have HFIN:Hid (KW w0 (W4.setCell ⟨wb,4,none⟩ (.pointer (some ⟨nb,0,none⟩))) wb (startE c0 c1 c2 ds) n):=KN.made (W:=W3.drew) HKN.out (fun k hk hn=>by
    show W3.heap[k]? =_;rw[HO3.out k hn,HO2.out k (by have:=HS1.out.1;omega),HO1.out k hn]) ⟨HZ3.out.2.1.trans (HZ2.out.2.1.trans HS1.out.2.2.1),HZ3.out.2.2.2.trans (HT2.out.trans HS1.out.2.2.2.1),HZ3.out.2.2.1.trans (HZ2.out.2.2.trans HS1.out.2.2.2.2)⟩ (by show w.heap.size≤W3.heap.size;have:=HZ3.out.1;have:=HZ2.out.1;have:=HS1.out.1;omega) HX3.out HND.out
   have HFRM:Hid (∀k,k<w.heap.size→k≠wb→(W4.setCell ⟨wb,4,none⟩ (.pointer (some ⟨nb,0,none⟩))).heap[k]? =w.heap[k]?):=fun k hk hn=>by
    rw[Below.heap_setCell _ _ _ _ hn,hgr.block k (by rw[hz3];have:=HZ3.out.1;have:=HZ2.out.1;have:=HS1.out.1;omega)];show W3.heap[k]? =_;rw[HO3.out k hn,HO2.out k (by have:=HS1.out.1;omega),HO1.out k hn]
   clear hgr hz3 hcl hwl4 HND HNW;try simp only[]
   refine hK.out _ _ (.inr HS4.out) ?_;clear hK K;try simp only[Act.put,List.setIfInBounds_toArray,List.set_cons_zero,List.set_cons_succ]
   refine zA (i:=6) (v:=.tuple #[.pointer (some ⟨nb,0,none⟩),.int .i64 0]) (by rfl) (by kernel_rfl) (by kernel_rfl) (by kernel_rfl) (by kernel_rfl) (by exact fun _ _ _ h=>h) (Or.inl ⟨by rfl,?_⟩) HS4.out ?_
   ·intro W _;go_simp
   simp only[Act.put,List.setIfInBounds_toArray,List.set_cons_zero,List.set_cons_succ];refine zA (i:=7) (v:=.pointer (some ⟨nb,0,none⟩)) (by rfl) (by kernel_rfl) (by kernel_rfl) (by kernel_rfl) (by kernel_rfl) (by exact fun _ _ _ h=>h) (Or.inl ⟨by rfl,?_⟩) HS4.out ?_
   ·intro W _;go_simp
   simp only[Act.put,List.setIfInBounds_toArray,List.set_cons_zero,List.set_cons_succ];refine zA (i:=8) (v:=.int .i64 0) (by rfl) (by kernel_rfl) (by kernel_rfl) (by kernel_rfl) (by kernel_rfl) (by exact fun _ _ _ h=>h) (Or.inl ⟨by rfl,?_⟩) HS4.out ?_
   ·intro W _;go_simp
   simp only[Act.put,List.setIfInBounds_toArray,List.set_cons_zero,List.set_cons_succ];refine zA (i:=9) (v:=.pointer (some ⟨nb,0,none⟩)) (by rfl) (by kernel_rfl) (by kernel_rfl) (by kernel_rfl) (by kernel_rfl) (by exact fun _ _ _ h=>h) (Or.inl ⟨by rfl,?_⟩) HS4.out ?_
   ·intro W _;go_simp
   simp only[Act.put,List.setIfInBounds_toArray,List.set_cons_zero,List.set_cons_succ];refine zAb (i:=10) (by kernel_rfl) (by rfl) (fun K hK=>?_);go_simp;refine hK.out _ _ (.inl rfl) ?_;clear hK K;refine zBz (by kernel_rfl) ?_ _;try simp only[Act.put,List.setIfInBounds_toArray,List.set_cons_zero,List.set_cons_succ]
   have q4:W4.cell? ⟨wb,4,none⟩=some (.pointer none):=by unfold World.cell?;rw[HX4.out,HX3.out];rfl
   have g4:W4.frozen? ⟨wb,4,none⟩=false:=by have:=HX4.out.trans HX3.out;simp[World.frozen?,this]
   clear p0 p1 p2 p3 HS3 HS4;go_wp2;go_ret;exact⟨rfl,hid ⟨HFIN.out,HFRM.out⟩⟩))
theorem KN.below(h:KN w0 w wb c0 c1 c2 ds)(hb:Below w.heap.size w w'):KN w0 w' wb c0 c1 c2 ds:=by
 obtain⟨hl,hlo,b0,b1,b2,hds,hdl,dv,hwb,hdv⟩:=h;have hwl:=(Array.getElem?_eq_some_iff.1 hwb).1;exact⟨zAk hl hb,hlo,b0,b1,b2,hds,hdl,dv,(hb.block wb hwl).trans hwb,zAx hdv fun q hq=>hb.block q (hdv.lt q hq).2⟩
def KS(w0 w:World)(wb n:Nat):Prop:=(∃c0 c1 c2 ds,KN w0 w wb c0 c1 c2 ds∧ds.length≤n)∨∃e,KW w0 w wb e n
theorem KS.below(h:KS w0 w wb n)(hb:Below w.heap.size w w'):KS w0 w' wb n:=by
 rcases h with⟨c0,c1,c2,ds,h,hn⟩|⟨e,h⟩
 ·exact .inl ⟨c0,c1,c2,ds,h.below hb,hn⟩
 ·exact .inr ⟨e,h.below hb⟩
theorem KS.later{m:Nat}(h:KS w0 w wb n)(hm:n≤m):KS w0 w wb m:=by
 rcases h with⟨c0,c1,c2,ds,h,hn⟩|⟨e,h⟩
 ·exact .inl ⟨c0,c1,c2,ds,h,Nat.le_trans hn hm⟩
 ·exact .inr ⟨e,h.later hm⟩
theorem kbegin2(h:KW w0 w wb e n):
 Calls Tryz.prog 12 #[.pointer (some ⟨wb,0,none⟩)] w fun en w'=>en=.returned (.bool true)∧w'=w:=by
 have c5:=h.c5;obtain⟨_,_,_,_,tag,nb,eb,g,S,base2,c4,_⟩:=h.ke;clear h;go_enter Tryz.func12,Tryz.ntmps12;go_wp2;go_ret;exact⟨rfl,rfl⟩
theorem zPl(h:KS w0 w wb n):
 Calls Tryz.prog 12 #[.pointer (some ⟨wb,0,none⟩)] w fun en w'=>en=.returned (.bool true)∧Hid ((∃e,KW w0 w' wb e n)∧∀k,k<w.heap.size→k≠wb→w'.heap[k]? =w.heap[k]?):=by
 rcases h with⟨c0,c1,c2,ds,h,hn⟩|⟨e,h⟩
 ·exact(kbegin n h).mono fun en w' ⟨h1,h2⟩=>⟨h1,hid ⟨⟨_,h2.out.1⟩,h2.out.2⟩⟩
 ·refine(kbegin2 h).mono ?_;rintro en w' ⟨rfl,rfl⟩;exact⟨rfl,hid ⟨⟨e,h⟩,fun _ _ _=>rfl⟩⟩
theorem kstep3(h:KS w0 w wb n)(hn:n+1≤20000)(hE:Errs w0 ad st)(hW:Wids w0)(kk a bb:Int)(hk:kk=3)(v:Nat→Int)(hv: ∀i,i<9→-9223372036854775808≤v i∧v i≤9223372036854775807):
 Calls Tryz.prog 8 #[.pointer (some ⟨wb,0,none⟩),.agg #[.int .i64 kk,.int .i64 a,.int .i64 bb,.int .i64 (v 0),.int .i64 (v 1),.int .i64 (v 2),.int .i64 (v 3),.int .i64 (v 4),.int .i64 (v 5),.int .i64 (v 6),.int .i64 (v 7),.int .i64 (v 8)],.bool false] w fun en w'=>en=.returned (.bool true)∧Hid (KS w0 w' wb (n+1)):=by
 subst hk;have hwl:wb<w.heap.size:=by
  rcases h with⟨c0,c1,c2,ds,h,_⟩|⟨e,h⟩
  ·obtain⟨_,_,_,_,_,_,_,dv,hwb,_⟩:=h;exact(Array.getElem?_eq_some_iff.1 hwb).1
  ·exact h.ke.2.2.1
 have hB1:Below w.heap.size w (w.alloc (.cells #[.int .i64 3,.int .i64 a,.int .i64 bb,.int .i64 (v 0),.int .i64 (v 1),.int .i64 (v 2),.int .i64 (v 3),.int .i64 (v 4),.int .i64 (v 5),.int .i64 (v 6),.int .i64 (v 7),.int .i64 (v 8)] 37)):=(Below.refl _ _).alloc (Nat.le_refl _) _;have HBG:=hid (zPl (h.below hB1));have HDO:Hid (∀W e,KW w0 W wb e n→Calls Tryz.prog 13 #[.pointer (some ⟨wb,0,none⟩),.agg #[.int .i64 3,.int .i64 a,.int .i64 bb,.int .i64 (v 0),.int .i64 (v 1),.int .i64 (v 2),.int .i64 (v 3),.int .i64 (v 4),.int .i64 (v 5),.int .i64 (v 6),.int .i64 (v 7),.int .i64 (v 8)]] W fun en w'=>en=.returned (.bool true)∧Hid (∃e',KW w0 w' wb e' (n+1)∧((encRes a v).2.1=0→e'=(e.apply (encRes a v).1).hush))):=fun W e hK=>kdo takeOk hK hn hE hW 3 a bb v hv
 have b0:(w.alloc (.cells #[.int .i64 3,.int .i64 a,.int .i64 bb,.int .i64 (v 0),.int .i64 (v 1),.int .i64 (v 2),.int .i64 (v 3),.int .i64 (v 4),.int .i64 (v 5),.int .i64 (v 6),.int .i64 (v 7),.int .i64 (v 8)] 37)).cell? ⟨w.heap.size,0,none⟩=some (.int .i64 3):=by rw[World.cell?_alloc_at _ _ _ _ rfl];rfl
 have HBC:Hid (∀W:World,(∀k,k<(w.alloc (.cells #[.int .i64 3,.int .i64 a,.int .i64 bb,.int .i64 (v 0),.int .i64 (v 1),.int .i64 (v 2),.int .i64 (v 3),.int .i64 (v 4),.int .i64 (v 5),.int .i64 (v 6),.int .i64 (v 7),.int .i64 (v 8)] 37)).heap.size→k≠wb→W.heap[k]? =(w.alloc (.cells #[.int .i64 3,.int .i64 a,.int .i64 bb,.int .i64 (v 0),.int .i64 (v 1),.int .i64 (v 2),.int .i64 (v 3),.int .i64 (v 4),.int .i64 (v 5),.int .i64 (v 6),.int .i64 (v 7),.int .i64 (v 8)] 37)).heap[k]?)→W.heap[w.heap.size]? =some (.cells #[.int .i64 3,.int .i64 a,.int .i64 bb,.int .i64 (v 0),.int .i64 (v 1),.int .i64 (v 2),.int .i64 (v 3),.int .i64 (v 4),.int .i64 (v 5),.int .i64 (v 6),.int .i64 (v 7),.int .i64 (v 8)] 37)):=fun W hf=>(hf w.heap.size (by simp) (by omega)).trans (heapNew w _)
 clear h hB1 hE hW hv hwl;go_enter Tryz.func8,Tryz.ntmps8;go_wp2_with fail;refine HBG.out.mono ?_;rintro en W2 ⟨rfl,HZ⟩;obtain⟨e,hK2⟩:=HZ.out.1;have HD2:=hid (HDO.out W2 e hK2);have hbx:=HBC.out W2 HZ.out.2;have x0:W2.cell? ⟨w.heap.size,0,none⟩=some (.int .i64 3):=by unfold World.cell?;rw[hbx];rfl
 have x1:W2.cell? ⟨w.heap.size,1,none⟩=some (.int .i64 a):=by unfold World.cell?;rw[hbx];rfl
 have x2:W2.cell? ⟨w.heap.size,2,none⟩=some (.int .i64 bb):=by unfold World.cell?;rw[hbx];rfl
 have x3:W2.cell? ⟨w.heap.size,3,none⟩=some (.int .i64 (v 0)):=by unfold World.cell?;rw[hbx];rfl
 have x4:W2.cell? ⟨w.heap.size,4,none⟩=some (.int .i64 (v 1)):=by unfold World.cell?;rw[hbx];rfl
 have x5:W2.cell? ⟨w.heap.size,5,none⟩=some (.int .i64 (v 2)):=by unfold World.cell?;rw[hbx];rfl
 have x6:W2.cell? ⟨w.heap.size,6,none⟩=some (.int .i64 (v 3)):=by unfold World.cell?;rw[hbx];rfl
 have x7:W2.cell? ⟨w.heap.size,7,none⟩=some (.int .i64 (v 4)):=by unfold World.cell?;rw[hbx];rfl
 have x8:W2.cell? ⟨w.heap.size,8,none⟩=some (.int .i64 (v 5)):=by unfold World.cell?;rw[hbx];rfl
 have x9:W2.cell? ⟨w.heap.size,9,none⟩=some (.int .i64 (v 6)):=by unfold World.cell?;rw[hbx];rfl
 have x10:W2.cell? ⟨w.heap.size,10,none⟩=some (.int .i64 (v 7)):=by unfold World.cell?;rw[hbx];rfl
 have x11:W2.cell? ⟨w.heap.size,11,none⟩=some (.int .i64 (v 8)):=by unfold World.cell?;rw[hbx];rfl
 clear hK2 HZ HBC HBG HDO b0 hbx;go_wp2_with fail;refine HD2.out.mono ?_;rintro en W3 ⟨rfl,HZ3⟩;go_wp2;go_ret;exact⟨rfl,hid (.inr (by obtain⟨e',h',_⟩:=HZ3.out;exact⟨e',h'⟩))⟩
theorem kstep0(h:KS w0 w wb n)(kk a bb:Int)(h1:(kk == 1)=false)(h2:(kk == 2)=false)(h3:(kk == 3)=false)(v:Nat→Int):
 Calls Tryz.prog 8 #[.pointer (some ⟨wb,0,none⟩),.agg #[.int .i64 kk,.int .i64 a,.int .i64 bb,.int .i64 (v 0),.int .i64 (v 1),.int .i64 (v 2),.int .i64 (v 3),.int .i64 (v 4),.int .i64 (v 5),.int .i64 (v 6),.int .i64 (v 7),.int .i64 (v 8)],.bool false] w fun en w'=>en=.returned (.bool true)∧Hid (KS w0 w' wb (n+1)):=by
 have hB1:Below w.heap.size w (w.alloc (.cells #[.int .i64 kk,.int .i64 a,.int .i64 bb,.int .i64 (v 0),.int .i64 (v 1),.int .i64 (v 2),.int .i64 (v 3),.int .i64 (v 4),.int .i64 (v 5),.int .i64 (v 6),.int .i64 (v 7),.int .i64 (v 8)] 37)):=(Below.refl _ _).alloc (Nat.le_refl _) _;have HK:=hid ((h.below hB1).later (Nat.le_succ n));have b0:(w.alloc (.cells #[.int .i64 kk,.int .i64 a,.int .i64 bb,.int .i64 (v 0),.int .i64 (v 1),.int .i64 (v 2),.int .i64 (v 3),.int .i64 (v 4),.int .i64 (v 5),.int .i64 (v 6),.int .i64 (v 7),.int .i64 (v 8)] 37)).cell? ⟨w.heap.size,0,none⟩=some (.int .i64 kk):=by rw[World.cell?_alloc_at _ _ _ _ rfl];rfl
 clear h hB1;cases h4:(kk == 4)
 ·go_enter Tryz.func8,Tryz.ntmps8;go_wp2;go_ret;exact⟨rfl,HK⟩
 ·go_enter Tryz.func8,Tryz.ntmps8;go_wp2;go_ret;exact⟨rfl,HK⟩
theorem kstepW1(h:KW w0 w wb e n)(a bb:Int)(v:Nat→Int):
 Calls Tryz.prog 8 #[.pointer (some ⟨wb,0,none⟩),.agg #[.int .i64 1,.int .i64 a,.int .i64 bb,.int .i64 (v 0),.int .i64 (v 1),.int .i64 (v 2),.int .i64 (v 3),.int .i64 (v 4),.int .i64 (v 5),.int .i64 (v 6),.int .i64 (v 7),.int .i64 (v 8)],.bool false] w fun en w'=>en=.returned (.bool true)∧Hid (KS w0 w' wb (n+1)):=by
 have hB1:Below w.heap.size w (w.alloc (.cells #[.int .i64 1,.int .i64 a,.int .i64 bb,.int .i64 (v 0),.int .i64 (v 1),.int .i64 (v 2),.int .i64 (v 3),.int .i64 (v 4),.int .i64 (v 5),.int .i64 (v 6),.int .i64 (v 7),.int .i64 (v 8)] 37)):=(Below.refl _ _).alloc (Nat.le_refl _) _;have HK:Hid (KS w0 (w.alloc (.cells #[.int .i64 1,.int .i64 a,.int .i64 bb,.int .i64 (v 0),.int .i64 (v 1),.int .i64 (v 2),.int .i64 (v 3),.int .i64 (v 4),.int .i64 (v 5),.int .i64 (v 6),.int .i64 (v 7),.int .i64 (v 8)] 37)) wb (n+1)):=.inr ⟨e,(h.below hB1).later (Nat.le_succ n)⟩;have b0:(w.alloc (.cells #[.int .i64 1,.int .i64 a,.int .i64 bb,.int .i64 (v 0),.int .i64 (v 1),.int .i64 (v 2),.int .i64 (v 3),.int .i64 (v 4),.int .i64 (v 5),.int .i64 (v 6),.int .i64 (v 7),.int .i64 (v 8)] 37)).cell? ⟨w.heap.size,0,none⟩=some (.int .i64 1):=by rw[World.cell?_alloc_at _ _ _ _ rfl];rfl
 have c5:(w.alloc (.cells #[.int .i64 1,.int .i64 a,.int .i64 bb,.int .i64 (v 0),.int .i64 (v 1),.int .i64 (v 2),.int .i64 (v 3),.int .i64 (v 4),.int .i64 (v 5),.int .i64 (v 6),.int .i64 (v 7),.int .i64 (v 8)] 37)).cell? ⟨wb,5,none⟩=some (.bool true):=(h.below hB1).c5;clear h hB1;go_enter Tryz.func8,Tryz.ntmps8;go_wp2;go_ret;exact⟨rfl,HK⟩
theorem kstepW2(h:KW w0 w wb e n)(a bb:Int)(v:Nat→Int):
 Calls Tryz.prog 8 #[.pointer (some ⟨wb,0,none⟩),.agg #[.int .i64 2,.int .i64 a,.int .i64 bb,.int .i64 (v 0),.int .i64 (v 1),.int .i64 (v 2),.int .i64 (v 3),.int .i64 (v 4),.int .i64 (v 5),.int .i64 (v 6),.int .i64 (v 7),.int .i64 (v 8)],.bool false] w fun en w'=>en=.returned (.bool true)∧Hid (KS w0 w' wb (n+1)):=by
 have hB1:Below w.heap.size w (w.alloc (.cells #[.int .i64 2,.int .i64 a,.int .i64 bb,.int .i64 (v 0),.int .i64 (v 1),.int .i64 (v 2),.int .i64 (v 3),.int .i64 (v 4),.int .i64 (v 5),.int .i64 (v 6),.int .i64 (v 7),.int .i64 (v 8)] 37)):=(Below.refl _ _).alloc (Nat.le_refl _) _;have HK:Hid (KS w0 (w.alloc (.cells #[.int .i64 2,.int .i64 a,.int .i64 bb,.int .i64 (v 0),.int .i64 (v 1),.int .i64 (v 2),.int .i64 (v 3),.int .i64 (v 4),.int .i64 (v 5),.int .i64 (v 6),.int .i64 (v 7),.int .i64 (v 8)] 37)) wb (n+1)):=.inr ⟨e,(h.below hB1).later (Nat.le_succ n)⟩;have b0:(w.alloc (.cells #[.int .i64 2,.int .i64 a,.int .i64 bb,.int .i64 (v 0),.int .i64 (v 1),.int .i64 (v 2),.int .i64 (v 3),.int .i64 (v 4),.int .i64 (v 5),.int .i64 (v 6),.int .i64 (v 7),.int .i64 (v 8)] 37)).cell? ⟨w.heap.size,0,none⟩=some (.int .i64 2):=by rw[World.cell?_alloc_at _ _ _ _ rfl];rfl
 have c5:(w.alloc (.cells #[.int .i64 2,.int .i64 a,.int .i64 bb,.int .i64 (v 0),.int .i64 (v 1),.int .i64 (v 2),.int .i64 (v 3),.int .i64 (v 4),.int .i64 (v 5),.int .i64 (v 6),.int .i64 (v 7),.int .i64 (v 8)] 37)).cell? ⟨wb,5,none⟩=some (.bool true):=(h.below hB1).c5;clear h hB1;go_enter Tryz.func8,Tryz.ntmps8;go_wp2;go_ret;exact⟨rfl,HK⟩
theorem kstepN1(h:KN w0 w wb c0 c1 c2 ds)(hn:ds.length≤n)(a bb:Int)(v:Nat→Int)(ha: -9223372036854775808≤a∧a≤9223372036854775807)(hb: -9223372036854775808≤bb∧bb≤9223372036854775807):
 Calls Tryz.prog 8 #[.pointer (some ⟨wb,0,none⟩),.agg #[.int .i64 1,.int .i64 a,.int .i64 bb,.int .i64 (v 0),.int .i64 (v 1),.int .i64 (v 2),.int .i64 (v 3),.int .i64 (v 4),.int .i64 (v 5),.int .i64 (v 6),.int .i64 (v 7),.int .i64 (v 8)],.bool false] w fun en w'=>en=.returned (.bool true)∧Hid (KS w0 w' wb (n+1)):=by
 have hB1:Below w.heap.size w (w.alloc (.cells #[.int .i64 1,.int .i64 a,.int .i64 bb,.int .i64 (v 0),.int .i64 (v 1),.int .i64 (v 2),.int .i64 (v 3),.int .i64 (v 4),.int .i64 (v 5),.int .i64 (v 6),.int .i64 (v 7),.int .i64 (v 8)] 37)):=(Below.refl _ _).alloc (Nat.le_refl _) _;have HKN:=hid (h.below hB1);obtain⟨hl,hlo,p0,p1,p2,hds,hdl,dv,hwb,hdv⟩:=h.below hB1;have hwl:wb<w.heap.size:=by obtain⟨_,_,_,_,_,_,_,_,hx,_⟩:=h;exact(Array.getElem?_eq_some_iff.1 hx).1
 have b0:(w.alloc (.cells #[.int .i64 1,.int .i64 a,.int .i64 bb,.int .i64 (v 0),.int .i64 (v 1),.int .i64 (v 2),.int .i64 (v 3),.int .i64 (v 4),.int .i64 (v 5),.int .i64 (v 6),.int .i64 (v 7),.int .i64 (v 8)] 37)).cell? ⟨w.heap.size,0,none⟩=some (.int .i64 1):=by rw[World.cell?_alloc_at _ _ _ _ rfl];rfl
 have b1:(w.alloc (.cells #[.int .i64 1,.int .i64 a,.int .i64 bb,.int .i64 (v 0),.int .i64 (v 1),.int .i64 (v 2),.int .i64 (v 3),.int .i64 (v 4),.int .i64 (v 5),.int .i64 (v 6),.int .i64 (v 7),.int .i64 (v 8)] 37)).cell? ⟨w.heap.size,1,none⟩=some (.int .i64 a):=by rw[World.cell?_alloc_at _ _ _ _ rfl];rfl
 have b2:(w.alloc (.cells #[.int .i64 1,.int .i64 a,.int .i64 bb,.int .i64 (v 0),.int .i64 (v 1),.int .i64 (v 2),.int .i64 (v 3),.int .i64 (v 4),.int .i64 (v 5),.int .i64 (v 6),.int .i64 (v 7),.int .i64 (v 8)] 37)).cell? ⟨w.heap.size,2,none⟩=some (.int .i64 bb):=by rw[World.cell?_alloc_at _ _ _ _ rfl];rfl
 have c5:(w.alloc (.cells #[.int .i64 1,.int .i64 a,.int .i64 bb,.int .i64 (v 0),.int .i64 (v 1),.int .i64 (v 2),.int .i64 (v 3),.int .i64 (v 4),.int .i64 (v 5),.int .i64 (v 6),.int .i64 (v 7),.int .i64 (v 8)] 37)).cell? ⟨wb,5,none⟩=some (.bool false):=by unfold World.cell?;rw[hwb];rfl
 have HFZ:Hid (∀j,(w.alloc (.cells #[.int .i64 1,.int .i64 a,.int .i64 bb,.int .i64 (v 0),.int .i64 (v 1),.int .i64 (v 2),.int .i64 (v 3),.int .i64 (v 4),.int .i64 (v 5),.int .i64 (v 6),.int .i64 (v 7),.int .i64 (v 8)] 37)).frozen? ⟨wb,j,none⟩=false):=fun j=>by simp[World.frozen?,hwb]
 have HCW:Hid ((w.alloc (.cells #[.int .i64 1,.int .i64 a,.int .i64 bb,.int .i64 (v 0),.int .i64 (v 1),.int .i64 (v 2),.int .i64 (v 3),.int .i64 (v 4),.int .i64 (v 5),.int .i64 (v 6),.int .i64 (v 7),.int .i64 (v 8)] 37)).cell? ⟨wb,0,none⟩=some (.int .i64 c0)∧(w.alloc (.cells #[.int .i64 1,.int .i64 a,.int .i64 bb,.int .i64 (v 0),.int .i64 (v 1),.int .i64 (v 2),.int .i64 (v 3),.int .i64 (v 4),.int .i64 (v 5),.int .i64 (v 6),.int .i64 (v 7),.int .i64 (v 8)] 37)).cell? ⟨wb,1,none⟩=some (.int .i64 c1)∧(w.alloc (.cells #[.int .i64 1,.int .i64 a,.int .i64 bb,.int .i64 (v 0),.int .i64 (v 1),.int .i64 (v 2),.int .i64 (v 3),.int .i64 (v 4),.int .i64 (v 5),.int .i64 (v 6),.int .i64 (v 7),.int .i64 (v 8)] 37)).cell? ⟨wb,2,none⟩=some (.int .i64 c2)):=⟨by unfold World.cell?;rw[hwb];rfl,by unfold World.cell?;rw[hwb];rfl,by unfold World.cell?;rw[hwb];rfl⟩;have hbw:w.heap.size≠wb:=by omega
 have HPK:Hid (∀W,Calls Tryz.prog 14 #[.int .i64 a,.int .i64 3] W fun en w'=>en=.returned (.int .i64 (pickI a 3))∧w'=W):=fun W=>kpick W a 3 ha (by omega)
 have HB:=hid hb;have HN:=hid hn;have hpk:pickI a 3=0∨pickI a 3=1∨pickI a 3=2:=by have:=zAy a (n:=3) (by omega);omega
 clear h hB1 hl hlo p0 p1 p2 hds hdl hwb hdv hwl ha hb hn;rcases hpk with q|q|q
 ·rw[q]at HPK;clear q;have cj:=HCW.out.1;have fj:=HFZ.out 0;clear HCW HFZ;go_enter Tryz.func8,Tryz.ntmps8;go_wp2_with fail;generalize hbx:w.heap.size=bx at *;generalize (w.alloc (.cells #[.int .i64 1,.int .i64 a,.int .i64 bb,.int .i64 (v 0),.int .i64 (v 1),.int .i64 (v 2),.int .i64 (v 3),.int .i64 (v 4),.int .i64 (v 5),.int .i64 (v 6),.int .i64 (v 7),.int .i64 (v 8)] 37))=V1 at *;go_region_held3(fun X=>X.cell? ⟨bx,1,none⟩=some (.int .i64 a)∧X.cell? ⟨bx,2,none⟩=some (.int .i64 bb)) (first
   |exact⟨b1,b2⟩
   |exact⟨(World.cell?_setCell_other _ _ _ _ (by intro e;injection e with e1 e2;exact hbw e1.symm)).trans b1,(World.cell?_setCell_other _ _ _ _ (by intro e;injection e with e1 e2;exact hbw e1.symm)).trans b2⟩) (first
   |(with_reducible refine(HPK.out _).mono ?_;rintro en w' ⟨rfl,rfl⟩))
  all_goals(
   have HEND:Hid (KS w0 (V1.setCell ⟨wb,0,none⟩ (.int .i64 bb)).drew wb (n+1)):=by
    obtain⟨hl,hlo,p0,p1,p2,hds,hdl,dv,hwb,hdv⟩:=HKN.out;have oth: ∀k,k≠wb→(V1.setCell ⟨wb,0,none⟩ (.int .i64 bb)).heap[k]? =V1.heap[k]? :=fun k hk=>Below.heap_setCell _ _ _ _ hk
    refine .inl ⟨bb,c1,c2,ds,⟨⟨hl.os,hl.tape,hl.output,by show _≤(V1.setCell _ _).heap.size;simp;exact hl.size,fun k hk=>(oth k (by omega)).trans (hl.block k hk)⟩,hlo,HB.out,p1,p2,hds,hdl,dv,?_,zAx hdv fun r hr=>oth r (by have:=(hdv.lt r hr).1;omega)⟩,Nat.le_succ_of_le HN.out⟩;show(V1.setCell ⟨wb,0,none⟩ (.int .i64 bb)).heap[wb]? =_;rw[zB0 _ _ _ _ _ _ _ hwb];rfl
   clear b0 b1 b2 c5 cj fj HPK HKN;generalize (V1.setCell ⟨wb,0,none⟩ (.int .i64 bb)).drew=V2 at *;go_wp2;go_ret;exact⟨rfl,HEND⟩)
 ·rw[q]at HPK;clear q;have cj:=HCW.out.2.1;have fj:=HFZ.out 1;clear HCW HFZ;go_enter Tryz.func8,Tryz.ntmps8;go_wp2_with fail;generalize hbx:w.heap.size=bx at *;generalize (w.alloc (.cells #[.int .i64 1,.int .i64 a,.int .i64 bb,.int .i64 (v 0),.int .i64 (v 1),.int .i64 (v 2),.int .i64 (v 3),.int .i64 (v 4),.int .i64 (v 5),.int .i64 (v 6),.int .i64 (v 7),.int .i64 (v 8)] 37))=V1 at *;go_region_held3(fun X=>X.cell? ⟨bx,1,none⟩=some (.int .i64 a)∧X.cell? ⟨bx,2,none⟩=some (.int .i64 bb)) (first
   |exact⟨b1,b2⟩
   |exact⟨(World.cell?_setCell_other _ _ _ _ (by intro e;injection e with e1 e2;exact hbw e1.symm)).trans b1,(World.cell?_setCell_other _ _ _ _ (by intro e;injection e with e1 e2;exact hbw e1.symm)).trans b2⟩) (first
   |(with_reducible refine(HPK.out _).mono ?_;rintro en w' ⟨rfl,rfl⟩))
  all_goals(
   have HEND:Hid (KS w0 (V1.setCell ⟨wb,1,none⟩ (.int .i64 bb)).drew wb (n+1)):=by
    obtain⟨hl,hlo,p0,p1,p2,hds,hdl,dv,hwb,hdv⟩:=HKN.out;have oth: ∀k,k≠wb→(V1.setCell ⟨wb,1,none⟩ (.int .i64 bb)).heap[k]? =V1.heap[k]? :=fun k hk=>Below.heap_setCell _ _ _ _ hk
    refine .inl ⟨c0,bb,c2,ds,⟨⟨hl.os,hl.tape,hl.output,by show _≤(V1.setCell _ _).heap.size;simp;exact hl.size,fun k hk=>(oth k (by omega)).trans (hl.block k hk)⟩,hlo,p0,HB.out,p2,hds,hdl,dv,?_,zAx hdv fun r hr=>oth r (by have:=(hdv.lt r hr).1;omega)⟩,Nat.le_succ_of_le HN.out⟩;show(V1.setCell ⟨wb,1,none⟩ (.int .i64 bb)).heap[wb]? =_;rw[zB0 _ _ _ _ _ _ _ hwb];rfl
   clear b0 b1 b2 c5 cj fj HPK HKN;generalize (V1.setCell ⟨wb,1,none⟩ (.int .i64 bb)).drew=V2 at *;go_wp2;go_ret;exact⟨rfl,HEND⟩)
 ·rw[q]at HPK;clear q;have cj:=HCW.out.2.2;have fj:=HFZ.out 2;clear HCW HFZ;go_enter Tryz.func8,Tryz.ntmps8;go_wp2_with fail;generalize hbx:w.heap.size=bx at *;generalize (w.alloc (.cells #[.int .i64 1,.int .i64 a,.int .i64 bb,.int .i64 (v 0),.int .i64 (v 1),.int .i64 (v 2),.int .i64 (v 3),.int .i64 (v 4),.int .i64 (v 5),.int .i64 (v 6),.int .i64 (v 7),.int .i64 (v 8)] 37))=V1 at *;go_region_held3(fun X=>X.cell? ⟨bx,1,none⟩=some (.int .i64 a)∧X.cell? ⟨bx,2,none⟩=some (.int .i64 bb)) (first
   |exact⟨b1,b2⟩
   |exact⟨(World.cell?_setCell_other _ _ _ _ (by intro e;injection e with e1 e2;exact hbw e1.symm)).trans b1,(World.cell?_setCell_other _ _ _ _ (by intro e;injection e with e1 e2;exact hbw e1.symm)).trans b2⟩) (first
   |(with_reducible refine(HPK.out _).mono ?_;rintro en w' ⟨rfl,rfl⟩))
  all_goals(
   have HEND:Hid (KS w0 (V1.setCell ⟨wb,2,none⟩ (.int .i64 bb)).drew wb (n+1)):=by
    obtain⟨hl,hlo,p0,p1,p2,hds,hdl,dv,hwb,hdv⟩:=HKN.out;have oth: ∀k,k≠wb→(V1.setCell ⟨wb,2,none⟩ (.int .i64 bb)).heap[k]? =V1.heap[k]? :=fun k hk=>Below.heap_setCell _ _ _ _ hk
    refine .inl ⟨c0,c1,bb,ds,⟨⟨hl.os,hl.tape,hl.output,by show _≤(V1.setCell _ _).heap.size;simp;exact hl.size,fun k hk=>(oth k (by omega)).trans (hl.block k hk)⟩,hlo,p0,p1,HB.out,hds,hdl,dv,?_,zAx hdv fun r hr=>oth r (by have:=(hdv.lt r hr).1;omega)⟩,Nat.le_succ_of_le HN.out⟩;show(V1.setCell ⟨wb,2,none⟩ (.int .i64 bb)).heap[wb]? =_;rw[zB0 _ _ _ _ _ _ _ hwb];rfl
   clear b0 b1 b2 c5 cj fj HPK HKN;generalize (V1.setCell ⟨wb,2,none⟩ (.int .i64 bb)).drew=V2 at *;go_wp2;go_ret;exact⟨rfl,HEND⟩)
theorem kstepN2(h:KN w0 w wb c0 c1 c2 ds)(hn:ds.length≤n)(hn2:n+1≤20000)(a bb:Int)(v:Nat→Int)(hb: -9223372036854775808≤bb∧bb≤9223372036854775807):
 Calls Tryz.prog 8 #[.pointer (some ⟨wb,0,none⟩),.agg #[.int .i64 2,.int .i64 a,.int .i64 bb,.int .i64 (v 0),.int .i64 (v 1),.int .i64 (v 2),.int .i64 (v 3),.int .i64 (v 4),.int .i64 (v 5),.int .i64 (v 6),.int .i64 (v 7),.int .i64 (v 8)],.bool false] w fun en w'=>en=.returned (.bool true)∧Hid (KS w0 w' wb (n+1)):=by
 have hB1:Below w.heap.size w (w.alloc (.cells #[.int .i64 2,.int .i64 a,.int .i64 bb,.int .i64 (v 0),.int .i64 (v 1),.int .i64 (v 2),.int .i64 (v 3),.int .i64 (v 4),.int .i64 (v 5),.int .i64 (v 6),.int .i64 (v 7),.int .i64 (v 8)] 37)):=(Below.refl _ _).alloc (Nat.le_refl _) _;have HKN:=hid (h.below hB1);obtain⟨hl,hlo,p0,p1,p2,hds,hdl,dv,hwb,hdv⟩:=h.below hB1;have hwl:wb<w.heap.size:=by obtain⟨_,_,_,_,_,_,_,_,hx,_⟩:=h;exact(Array.getElem?_eq_some_iff.1 hx).1
 have b0:(w.alloc (.cells #[.int .i64 2,.int .i64 a,.int .i64 bb,.int .i64 (v 0),.int .i64 (v 1),.int .i64 (v 2),.int .i64 (v 3),.int .i64 (v 4),.int .i64 (v 5),.int .i64 (v 6),.int .i64 (v 7),.int .i64 (v 8)] 37)).cell? ⟨w.heap.size,0,none⟩=some (.int .i64 2):=by rw[World.cell?_alloc_at _ _ _ _ rfl];rfl
 have b2:(w.alloc (.cells #[.int .i64 2,.int .i64 a,.int .i64 bb,.int .i64 (v 0),.int .i64 (v 1),.int .i64 (v 2),.int .i64 (v 3),.int .i64 (v 4),.int .i64 (v 5),.int .i64 (v 6),.int .i64 (v 7),.int .i64 (v 8)] 37)).cell? ⟨w.heap.size,2,none⟩=some (.int .i64 bb):=by rw[World.cell?_alloc_at _ _ _ _ rfl];rfl
 have c5:(w.alloc (.cells #[.int .i64 2,.int .i64 a,.int .i64 bb,.int .i64 (v 0),.int .i64 (v 1),.int .i64 (v 2),.int .i64 (v 3),.int .i64 (v 4),.int .i64 (v 5),.int .i64 (v 6),.int .i64 (v 7),.int .i64 (v 8)] 37)).cell? ⟨wb,5,none⟩=some (.bool false):=by unfold World.cell?;rw[hwb];rfl
 have c3:(w.alloc (.cells #[.int .i64 2,.int .i64 a,.int .i64 bb,.int .i64 (v 0),.int .i64 (v 1),.int .i64 (v 2),.int .i64 (v 3),.int .i64 (v 4),.int .i64 (v 5),.int .i64 (v 6),.int .i64 (v 7),.int .i64 (v 8)] 37)).cell? ⟨wb,3,none⟩=some dv:=by unfold World.cell?;rw[hwb];rfl
 have f3:(w.alloc (.cells #[.int .i64 2,.int .i64 a,.int .i64 bb,.int .i64 (v 0),.int .i64 (v 1),.int .i64 (v 2),.int .i64 (v 3),.int .i64 (v 4),.int .i64 (v 5),.int .i64 (v 6),.int .i64 (v 7),.int .i64 (v 8)] 37)).frozen? ⟨wb,3,none⟩=false:=by simp[World.frozen?,hwb]
 have hbw:w.heap.size≠wb:=by omega
 have hbl:w.heap.size<(w.alloc (.cells #[.int .i64 2,.int .i64 a,.int .i64 bb,.int .i64 (v 0),.int .i64 (v 1),.int .i64 (v 2),.int .i64 (v 3),.int .i64 (v 4),.int .i64 (v 5),.int .i64 (v 6),.int .i64 (v 7),.int .i64 (v 8)] 37)).heap.size:=by simp
 have hwx:wb<(w.alloc (.cells #[.int .i64 2,.int .i64 a,.int .i64 bb,.int .i64 (v 0),.int .i64 (v 1),.int .i64 (v 2),.int .i64 (v 3),.int .i64 (v 4),.int .i64 (v 5),.int .i64 (v 6),.int .i64 (v 7),.int .i64 (v 8)] 37)).heap.size:=by simp;omega
 have HDV:=hid hdv;have HWBK:=hid hwb;have HRB:Hid (some w.heap.size≠dv.ownBlock):=fun e=>by
  rcases hdv.2 with⟨e2,_⟩|⟨g',cp,cur,e2,_,hh,_⟩
  ·rw[e2]at e;simp[Value.ownBlock]at e
  ·rw[e2]at e;have:w.heap.size=g':=by simpa [Value.ownBlock] using e
   subst this;rw[heapNew]at hh;injection hh with hh;injection hh with h1 h2;exact absurd h2 (by decide)
 have HRW:Hid (some wb≠dv.ownBlock):=fun e=>by have:=(hdv.lt wb e.symm).1;omega
 have HN:=hid (And.intro hn (And.intro hn2 hb));clear h hB1 hl hlo p0 p1 p2 hds hdl hwb hdv hwl hb hn hn2;obtain⟨i0,hi,hz0,hz1,hz2⟩:=zFm Tryz.infoIntC Tryz.zeroIntC;have HINF:=hid (And.intro hi (And.intro hz0 (And.intro hz1 hz2)));clear hi hz0 hz1 hz2;go_enter Tryz.func8,Tryz.ntmps8;go_wp2_with fail;generalize hbx:w.heap.size=bx at *;generalize (w.alloc (.cells #[.int .i64 2,.int .i64 a,.int .i64 bb,.int .i64 (v 0),.int .i64 (v 1),.int .i64 (v 2),.int .i64 (v 3),.int .i64 (v 4),.int .i64 (v 5),.int .i64 (v 6),.int .i64 (v 7),.int .i64 (v 8)] 37))=V1 at *;have HW2:Hid ((V1.alloc (.cells #[.int .i64 bb] 3)).drew.ownsRow (wb+1) 3 1 dv ds.length (ds.map (Value.int .i64))):=zFo (World.ownsRow.alloc HDV.out _);have HC1:Hid (∀(j:Nat) (u:Value),[Value.int .i64 bb][j]? =some u→(V1.alloc (.cells #[.int .i64 bb] 3)).drew.cell? (Addr.add ⟨V1.heap.size,0,none⟩ j)=some u):=fun j u hj=>by
  rw[Addr.add_lit,Nat.zero_add];exact zFn V1 #[.int .i64 bb] 3 j u (by simp;exact hj)
 have HC2:Hid (∀u∈[Value.int .i64 bb],u.oneCell'=true):=fun u hu=>by
  obtain rfl:=List.mem_singleton.1 hu;rfl
 have HC3:Hid (ds.length+1≤maxLen∧(ds.length+1)* 8≤140737488355328∧wb+1≤(V1.alloc (.cells #[.int .i64 bb] 3)).drew.heap.size∧(V1.alloc (.cells #[.int .i64 bb] 3)).drew.heap.size=V1.heap.size+1):=by
  have h1:=HN.out.1;have h2:=HN.out.2.1;refine⟨by unfold maxLen;omega,by omega,?_,?_⟩
  ·show wb+1≤(V1.alloc _).heap.size;simp;omega
  ·show(V1.alloc _).heap.size=_;simp
 have HS0:Hid ((fun X=>X.cell? ⟨wb,3,none⟩=some dv∧X.cell? ⟨bx,2,none⟩=some (.int .i64 bb)) V1.drew):=⟨c3,b2⟩;refine zC 11 (fun X=>X.cell? ⟨wb,3,none⟩=some dv∧X.cell? ⟨bx,2,none⟩=some (.int .i64 bb)) (by kernel_rfl) ?_;refine zA (i:=0) (v:=.pointer (some ⟨wb,0,none⟩)) (by rfl) (by kernel_rfl) (by kernel_rfl) (by kernel_rfl) (by kernel_rfl) (by exact fun _ _ _ h=>h) (Or.inl ⟨by rfl,?_⟩) HS0.out ?_
 ·intro W _;go_simp
 simp only[Act.put,List.setIfInBounds_toArray,List.set_cons_zero,List.set_cons_succ];refine zA (i:=1) (v:=.pointer (some ⟨wb,0,none⟩)) (by rfl) (by kernel_rfl) (by kernel_rfl) (by kernel_rfl) (by kernel_rfl) (by exact fun _ _ _ h=>h) (Or.inl ⟨by rfl,?_⟩) HS0.out ?_
 ·intro W _;go_simp
 simp only[Act.put,List.setIfInBounds_toArray,List.set_cons_zero,List.set_cons_succ];refine zA (i:=2) (v:=.pointer (some ⟨wb,0,none⟩)) (by rfl) (by kernel_rfl) (by kernel_rfl) (by kernel_rfl) (by kernel_rfl) (by exact fun _ _ _ h=>h) (Or.inl ⟨by rfl,?_⟩) HS0.out ?_
 ·intro W _;go_simp
 simp only[Act.put,List.setIfInBounds_toArray,List.set_cons_zero,List.set_cons_succ];refine zA (i:=3) (v:=.pointer (some ⟨wb,3,none⟩)) (by rfl) (by kernel_rfl) (by kernel_rfl) (by kernel_rfl) (by kernel_rfl) (by exact fun _ _ _ h=>h) (Or.inl ⟨by rfl,?_⟩) HS0.out ?_
 ·intro W _;go_simp
 simp only[Act.put,List.setIfInBounds_toArray,List.set_cons_zero,List.set_cons_succ];refine zA (i:=4) (v:=dv) (by rfl) (by kernel_rfl) (by kernel_rfl) (by kernel_rfl) (by kernel_rfl) (by exact fun _ _ _ h=>h) (Or.inl ⟨by rfl,?_⟩) HS0.out ?_
 ·intro W hW;obtain⟨y0,y1⟩:=hW;go_simp
 simp only[Act.put,List.setIfInBounds_toArray,List.set_cons_zero,List.set_cons_succ];refine zA (i:=5) (v:=.pointer (some ⟨bx,2,none⟩)) (by rfl) (by kernel_rfl) (by kernel_rfl) (by kernel_rfl) (by kernel_rfl) (by exact fun _ _ _ h=>h) (Or.inl ⟨by rfl,?_⟩) HS0.out ?_
 ·intro W _;go_simp
 simp only[Act.put,List.setIfInBounds_toArray,List.set_cons_zero,List.set_cons_succ];refine zA (i:=6) (v:=.int .i64 bb) (by rfl) (by kernel_rfl) (by kernel_rfl) (by kernel_rfl) (by kernel_rfl) (by exact fun _ _ _ h=>h) (Or.inl ⟨by rfl,?_⟩) HS0.out ?_
 ·intro W hW;obtain⟨y0,y1⟩:=hW;go_simp
 simp only[Act.put,List.setIfInBounds_toArray,List.set_cons_zero,List.set_cons_succ];refine zAb (i:=7) (by kernel_rfl) (by rfl) (fun K hK=>?_);go_simp;refine hK.out _ _ (.inr ⟨(World.cell?_alloc_lt _ _ _ hwx).trans c3,(World.cell?_alloc_lt _ _ _ hbl).trans b2⟩) ?_;clear hK K;try simp only[Act.put,List.setIfInBounds_toArray,List.set_cons_zero,List.set_cons_succ]
 refine zAb (i:=8) (by kernel_rfl) (by rfl) (fun K hK=>?_);refine step_append_lies _ (by rfl) _ _ 29 (by rfl) (wb+1) 3 i0 _ 1 8 Tryz.underlying29 HINF.out.1 HINF.out.2.1 HINF.out.2.2.1 HINF.out.2.2.2 rfl (by decide) dv ds.length (ds.map (Value.int .i64)) (by rfl) HW2.out ⟨V1.heap.size,0,none⟩ 1 1 [.int .i64 bb] (by rfl) rfl HC1.out HC2.out (by decide) HC3.out.1 HC3.out.2.1 HC3.out.2.2.1 (V1.heap.size+1) HC3.out.2.2.2 ?_;intro g cap' w1 hown1 hgrow hat hltg;have hd3:w1.cell? ⟨wb,3,none⟩=some dv:=(hgrow.cell_far ⟨wb,3,none⟩ (by show wb<(V1.alloc _).heap.size;simp;omega) HRW.out).trans ((World.cell?_alloc_lt V1 _ ⟨wb,3,none⟩ hwx).trans c3);have hf3:w1.frozen? ⟨wb,3,none⟩=false:=(hgrow.frozen_far ⟨wb,3,none⟩ (by show wb<(V1.alloc _).heap.size;simp;omega) HRW.out).trans ((World.frozen?_alloc_old V1 _ _ (by show wb≠V1.heap.size;omega)).trans f3)
 have HS1:Hid ((fun X=>X.cell? ⟨wb,3,none⟩=some dv∧X.cell? ⟨bx,2,none⟩=some (.int .i64 bb)) w1):=⟨hd3,(hgrow.cell_far ⟨bx,2,none⟩ (by show bx<(V1.alloc _).heap.size;simp;omega) HRB.out).trans ((World.cell?_alloc_lt V1 _ ⟨bx,2,none⟩ hbl).trans b2)⟩;have HEND:Hid (KS w0 (w1.setCell ⟨wb,3,none⟩ (.slice (some ⟨g,0,none⟩) (ds.length+1) cap')) wb (n+1)):=by
  obtain⟨hl,hlo,p0,p1,p2,hds,hdl,_,_,_⟩:=HKN.out;have hwb1:w1.heap[wb]? =V1.heap[wb]? :=(hgrow.block wb (by show wb<(V1.alloc _).heap.size;simp;omega) HRW.out).trans (Below.heap_alloc V1 _ _ hwx);have hgb:wb+1≤g:=by
   rcases hown1.2 with⟨e,_⟩|⟨g',_,_,e,hg,_⟩
   ·cases e
   ·injection e with e1;injection e1 with e1;injection e1 with e1;omega
  have oth: ∀k,k≠wb→(w1.setCell ⟨wb,3,none⟩ (.slice (some ⟨g,0,none⟩) (ds.length+1) cap')).heap[k]? =w1.heap[k]? :=fun k hk=>Below.heap_setCell _ _ _ _ hk
  have h1:=HN.out.1;have h2:=HN.out.2.1;have hsz:V1.heap.size+1≤w1.heap.size:=by have:=hgrow.size;simp at this;exact this
  refine .inl ⟨c0,c1,c2,ds++ [bb],⟨⟨hgrow.os.trans hl.os,hgrow.tape.trans hl.tape,hgrow.output.trans hl.output,by simp;have:=hl.size;omega,fun k hk=>?_⟩,hlo,p0,p1,p2,fun x hx=>?_,by simp;omega,.slice (some ⟨g,0,none⟩) (ds.length+1) cap',?_,?_⟩,by simp;omega⟩
  ·have:=hl.size;rw[oth k (by omega),hgrow.block k (by show k<(V1.alloc _).heap.size;simp;omega) (fun e=>by have:=(HDV.out.lt k e.symm).1;omega)];exact(Below.heap_alloc V1 _ _ (by omega)).trans (hl.block k hk)
  ·rcases List.mem_append.1 hx with h|h
   ·exact hds x h
   ·obtain rfl:=List.mem_singleton.1 h;exact HN.out.2.2
  ·rw[zB0 _ _ _ _ _ _ _ (hwb1.trans HWBK.out)];rfl
  ·rw[List.length_append,List.map_append];exact zAx hown1 fun r hr=>oth r (by have:r=g:=(by simpa [Value.ownBlock] using hr.symm);omega)
 clear hown1 hgrow hat hltg;refine hK.out _ _ (.inr HS1.out) ?_;clear hK K;try simp only[Act.put,List.setIfInBounds_toArray,List.set_cons_zero,List.set_cons_succ]
 refine zAb (i:=9) (by kernel_rfl) (by rfl) (fun K hK=>?_);go_simp;refine hK.out _ _ (.inr HS1.out) ?_;clear hK K;try simp only[Act.put,List.setIfInBounds_toArray,List.set_cons_zero,List.set_cons_succ]
 refine zAb (i:=10) (by kernel_rfl) (by rfl) (fun K hK=>?_);go_simp;refine hK.out _ _ (.inr HS1.out) ?_;clear hK K;try simp only[Act.put,List.setIfInBounds_toArray,List.set_cons_zero,List.set_cons_succ]
 refine zAb (i:=11) (by kernel_rfl) (by rfl) (fun K hK=>?_);go_simp;refine hK.out _ _ (.inl rfl) ?_;clear hK K;refine zBz (by kernel_rfl) ?_ _;clear hd3 hf3 HS1 HS0 HC1 HC2 HC3 HW2 HINF c3 f3 b0 b2 c5 HDV HWBK HKN;generalize w1.setCell ⟨wb,3,none⟩ (.slice (some ⟨g,0,none⟩) (ds.length+1) cap')=W3 at *;go_wp2;go_ret;exact⟨rfl,HEND⟩
theorem kstep(h:KS w0 w wb n)(hn:n+1≤20000)(hE:Errs w0 ad st)(hW:Wids w0)(kk a bb:Int)(v:Nat→Int)(ha: -9223372036854775808≤a∧a≤9223372036854775807)(hb: -9223372036854775808≤bb∧bb≤9223372036854775807)(hv: ∀i,i<9→-9223372036854775808≤v i∧v i≤9223372036854775807):
 Calls Tryz.prog 8 #[.pointer (some ⟨wb,0,none⟩),.agg #[.int .i64 kk,.int .i64 a,.int .i64 bb,.int .i64 (v 0),.int .i64 (v 1),.int .i64 (v 2),.int .i64 (v 3),.int .i64 (v 4),.int .i64 (v 5),.int .i64 (v 6),.int .i64 (v 7),.int .i64 (v 8)],.bool false] w fun en w'=>en=.returned (.bool true)∧Hid (KS w0 w' wb (n+1)):=by
 by_cases h1:kk=1
 ·subst h1;rcases h with⟨c0,c1,c2,ds,h,hd⟩|⟨e,h⟩
  ·exact kstepN1 h hd a bb v ha hb
  ·exact kstepW1 h a bb v
 ·by_cases h2:kk=2
  ·subst h2;rcases h with⟨c0,c1,c2,ds,h,hd⟩|⟨e,h⟩
   ·exact kstepN2 h hd hn a bb v hb
   ·exact kstepW2 h a bb v
  ·by_cases h3:kk=3
   ·exact kstep3 h hn hE hW kk a bb h3 v hv
   ·exact kstep0 h kk a bb (by simpa using h1) (by simpa using h2) (by simpa using h3) v
def kaV(i:Nat):Int:=match i with|0=>7|1=>1|2=>1|3=>5|4=>3|7=>2|_=>0
def kaU(i:Nat):Int:=match i with|0=>8|1=>2|2=>1|3=>4|4=>2|7=>2|_=>0
def kaE1:Eng:=((startE 9 99 99 []).apply (encRes 1 kaV).1).hush
def kaE2:Eng:=(kaE1.apply (encRes 1 kaU).1).hush
theorem zGn:(encRes 1 kaV).2.1=0∧(encRes 1 kaU).2.1=0:=by decide +kernel
theorem zPm:(bk kaE2).l.map (fun x=>(x.filled,x.shown))= [(2,1),(2,0)]:=by decide +kernel
theorem zPn: ∃x y,(bk kaE2).l= [x,y]∧x.filled=2∧x.shown=1∧y.filled=2:=by
 have h:=zPm;generalize (bk kaE2).l=l at *;rcases l with _|⟨x,_|⟨y,_|⟨z,r⟩⟩⟩
 ·simp at h
 ·simp at h
 ·simp at h;exact⟨x,y,rfl,h.1.1,h.1.2,h.2.1⟩
 ·simp at h
theorem zGo(b0: -9223372036854775808≤c0∧c0≤9223372036854775807)(b1: -9223372036854775808≤c1∧c1≤9223372036854775807)(b2: -9223372036854775808≤c2∧c2≤9223372036854775807):KN w (w.alloc (.cells #[.int .i64 c0,.int .i64 c1,.int .i64 c2,.slice none 0 0,.pointer none,.bool false,.string ⟨#[]⟩,.int .i64 0,.slice none 0 0,.int .i64 0,.bool false] 33)) w.heap.size c0 c1 c2 []:=⟨(Below.refl _ _).alloc (Nat.le_refl _) _,Nat.le_refl _,b0,b1,b2,(fun x hx=>by cases hx),(by simp),.slice none 0 0,heapNew w _,World.ownsRow_nil _ _ _ _⟩
theorem kalive(w:World)(hE:Errs w ad st)(hW:Wids w):
 Calls Tryz.prog 7 #[] w fun en w'=>en=.returned (.bool true)∧Below w.heap.size w w':=by
 have HBG:=hid (kbegin 0 (zGo (w:=w) (c0:=9) (c1:=99) (c2:=99) (by omega) (by omega) (by omega)));have HD1:Hid (∀W,KW w W w.heap.size (startE 9 99 99 []) 0→Calls Tryz.prog 13 #[.pointer (some ⟨w.heap.size,0,none⟩),.agg #[.int .i64 0,.int .i64 1,.int .i64 0,.int .i64 7,.int .i64 1,.int .i64 1,.int .i64 5,.int .i64 3,.int .i64 0,.int .i64 0,.int .i64 2,.int .i64 0]] W fun en w'=>en=.returned (.bool true)∧Hid (KW w w' w.heap.size kaE1 1)):=fun W hK=>by
  refine(kdo takeOk hK (by omega) hE hW 0 1 0 kaV (fun i hi=>by unfold kaV;split<;>omega)).mono ?_;rintro en w' ⟨h1,h2⟩;obtain⟨e',h3,h4⟩:=h2.out;obtain rfl:=h4 zGn.1;exact⟨h1,h3⟩
 have HD2:Hid (∀W,KW w W w.heap.size kaE1 1→Calls Tryz.prog 13 #[.pointer (some ⟨w.heap.size,0,none⟩),.agg #[.int .i64 0,.int .i64 1,.int .i64 0,.int .i64 8,.int .i64 2,.int .i64 1,.int .i64 4,.int .i64 2,.int .i64 0,.int .i64 0,.int .i64 2,.int .i64 0]] W fun en w'=>en=.returned (.bool true)∧Hid (KW w w' w.heap.size kaE2 2)):=fun W hK=>by
  refine(kdo takeOk hK (by omega) hE hW 0 1 0 kaU (fun i hi=>by unfold kaU;split<;>omega)).mono ?_;rintro en w' ⟨h1,h2⟩;obtain⟨e',h3,h4⟩:=h2.out;obtain rfl:=h4 zGn.2;exact⟨h1,h3⟩
 have HEN:Hid (∀W,KW w W w.heap.size kaE2 2→Below w.heap.size w W∧∃g cap,W.cell? ⟨w.heap.size,8,none⟩=some (.slice (some ⟨g,0,none⟩) 2 cap)∧W.cell? ⟨g,7,none⟩=some (.int .i64 2)∧W.cell? ⟨g,8,none⟩=some (.int .i64 1)∧W.cell? ⟨g,19,none⟩=some (.int .i64 2)):=fun W hK=>by
  refine⟨hK.ke.1,?_⟩;obtain⟨x,y,hl,e1,e2,e3⟩:=zPn;have hx:(bk kaE2).l[0]? =some x:=by rw[hl];rfl
  have hy:(bk kaE2).l[1]? =some y:=by rw[hl];rfl
  obtain⟨g,cap,c8,lb,_,_,_,hc⟩:=hK.kl.lb hx;obtain⟨g',cap',c8',lb',_,_,_,hc'⟩:=hK.kl.lb hy;obtain rfl:=LB.uniq lb lb';have hlen:(bk kaE2).l.length=2:=by rw[hl];rfl
  rw[hlen]at c8;have q7:W.cell? ⟨g,0*12+7,none⟩=some (.int .i64 x.filled):=hc 7 (by omega);have q8:W.cell? ⟨g,0*12+8,none⟩=some (.int .i64 x.shown):=hc 8 (by omega);have q19:W.cell? ⟨g,1*12+7,none⟩=some (.int .i64 y.filled):=hc' 7 (by omega);rw[e1]at q7;rw[e2]at q8;rw[e3]at q19;exact⟨g,cap,c8,q7,q8,q19⟩
 clear hE hW;go_enter Tryz.func7,Tryz.ntmps7;go_wp2_with fail;refine HBG.out.mono ?_;rintro en W2 ⟨rfl,HZ2⟩;have HA2:=hid (HD1.out W2 HZ2.out.1);clear HBG HD1 HZ2;go_wp2_with fail;refine HA2.out.mono ?_;rintro en W3 ⟨rfl,HZ3⟩;have HA3:=hid (HD2.out W3 HZ3.out);clear HD2 HZ3 HA2;go_wp2_with fail;refine HA3.out.mono ?_;rintro en W4 ⟨rfl,HZ4⟩;obtain⟨hB,g,cap,c8,q7,q8,q19⟩:=HEN.out W4 HZ4.out;have HB:=hid hB;clear hB HEN HZ4 HA3;go_wp2;go_ret;exact⟨rfl,HB.out⟩
def ScrK(w:World)(v:Value):Prop:=(∃p c,v=.slice p 0 c)∨∃(g o L c:Nat) (K A B:Nat→Int) (V:Nat→Nat→Int),v=.slice (some ⟨g,o,none⟩) L c∧g<w.heap.size∧L≤9000000000000000000∧∀i,i<L→w.cell? ⟨g,o+i*12,none⟩=some (.int .i64 (K i))∧w.cell? ⟨g,o+i*12+1,none⟩=some (.int .i64 (A i))∧w.cell? ⟨g,o+i*12+2,none⟩=some (.int .i64 (B i))∧(∀j,j<9→w.cell? ⟨g,o+i*12+(3+j),none⟩=some (.int .i64 (V i j))∧-9223372036854775808≤V i j∧V i j≤9223372036854775807)∧(-9223372036854775808≤A i∧A i≤9223372036854775807)∧(-9223372036854775808≤B i∧B i≤9223372036854775807)
end Go.Proofs.YtanfmhonjpjpoaaGreatDoor
