import Derived.Test.YtanfmhonjpjpoaaGreatDoorQ00
import Derived.Test.YtanfmhonjpjpoaaGreatDoorQ40
import Derived.Deep.AppendLies
set_option linter.all false
set_option maxRecDepth 100000
set_option maxHeartbeats 8000000
namespace Go.Proofs.YtanfmhonjpjpoaaGreatDoor
variable{w w0:World}{n wb:Nat}{ad:Nat→Addr}{st:Nat→ByteArray}
open Go.Extern Go.Maps Go.RowKit
theorem zRx(w:World)(cs:Array Value)(ty:TypeId)(j:Nat)(u:Value)(h:cs[j]? =some u):(w.alloc (.cells cs ty)).cell? ⟨w.heap.size,j,none⟩=some u:=by
 rw[World.cell?_alloc_at _ _ _ _ rfl];exact h
theorem zRy{B:Nat}{e:TypeId}{size:Nat}{v:Value}{xs:List Value}(h:w.ownsRow B e size v n xs):w.drew.ownsRow B e size v n xs:=h
theorem kstepN2{c0 c1 c2:Int}{ds:List Int}(h:KN w0 w wb c0 c1 c2 ds)(hn:ds.length≤n)(hn2:n+1≤20000)(a bb:Int)(v:Nat→Int)(hb: -9223372036854775808≤bb∧bb≤9223372036854775807):
 Calls Tryz.prog 8 #[.pointer (some ⟨wb,0,none⟩),.agg #[.int .i64 2,.int .i64 a,.int .i64 bb,.int .i64 (v 0),.int .i64 (v 1),.int .i64 (v 2),.int .i64 (v 3),.int .i64 (v 4),.int .i64 (v 5),.int .i64 (v 6),.int .i64 (v 7),.int .i64 (v 8)],.bool true] w fun en w'=>en=.returned (.bool true)∧Hid (GS w0 w' wb (n+1)):=by
 have hB1:Below w.heap.size w (w.alloc (.cells #[.int .i64 2,.int .i64 a,.int .i64 bb,.int .i64 (v 0),.int .i64 (v 1),.int .i64 (v 2),.int .i64 (v 3),.int .i64 (v 4),.int .i64 (v 5),.int .i64 (v 6),.int .i64 (v 7),.int .i64 (v 8)] 37)):=(Below.refl _ _).alloc (Nat.le_refl _) _;have HKN:=hid (h.below hB1);obtain⟨hl,hlo,p0,p1,p2,hds,hdl,dv,hwb,hdv⟩:=h.below hB1;have hwl:wb<w.heap.size:=by obtain⟨_,_,_,_,_,_,_,_,hx,_⟩:=h;exact(Array.getElem?_eq_some_iff.1 hx).1
 have b0:(w.alloc (.cells #[.int .i64 2,.int .i64 a,.int .i64 bb,.int .i64 (v 0),.int .i64 (v 1),.int .i64 (v 2),.int .i64 (v 3),.int .i64 (v 4),.int .i64 (v 5),.int .i64 (v 6),.int .i64 (v 7),.int .i64 (v 8)] 37)).cell? ⟨w.heap.size,0,none⟩=some (.int .i64 2):=by rw[World.cell?_alloc_at _ _ _ _ rfl];rfl
 have b2:(w.alloc (.cells #[.int .i64 2,.int .i64 a,.int .i64 bb,.int .i64 (v 0),.int .i64 (v 1),.int .i64 (v 2),.int .i64 (v 3),.int .i64 (v 4),.int .i64 (v 5),.int .i64 (v 6),.int .i64 (v 7),.int .i64 (v 8)] 37)).cell? ⟨w.heap.size,2,none⟩=some (.int .i64 bb):=by rw[World.cell?_alloc_at _ _ _ _ rfl];rfl
 have c5:(w.alloc (.cells #[.int .i64 2,.int .i64 a,.int .i64 bb,.int .i64 (v 0),.int .i64 (v 1),.int .i64 (v 2),.int .i64 (v 3),.int .i64 (v 4),.int .i64 (v 5),.int .i64 (v 6),.int .i64 (v 7),.int .i64 (v 8)] 37)).cell? ⟨wb,5,none⟩=some (.bool false):=by unfold World.cell?;rw[hwb];rfl
 have c3:(w.alloc (.cells #[.int .i64 2,.int .i64 a,.int .i64 bb,.int .i64 (v 0),.int .i64 (v 1),.int .i64 (v 2),.int .i64 (v 3),.int .i64 (v 4),.int .i64 (v 5),.int .i64 (v 6),.int .i64 (v 7),.int .i64 (v 8)] 37)).cell? ⟨wb,3,none⟩=some dv:=by unfold World.cell?;rw[hwb];rfl
 have f3:(w.alloc (.cells #[.int .i64 2,.int .i64 a,.int .i64 bb,.int .i64 (v 0),.int .i64 (v 1),.int .i64 (v 2),.int .i64 (v 3),.int .i64 (v 4),.int .i64 (v 5),.int .i64 (v 6),.int .i64 (v 7),.int .i64 (v 8)] 37)).frozen? ⟨wb,3,none⟩=false:=by simp[World.frozen?,hwb]
 have hbw:w.heap.size≠wb:=by omega
 have hbl:w.heap.size<(w.alloc (.cells #[.int .i64 2,.int .i64 a,.int .i64 bb,.int .i64 (v 0),.int .i64 (v 1),.int .i64 (v 2),.int .i64 (v 3),.int .i64 (v 4),.int .i64 (v 5),.int .i64 (v 6),.int .i64 (v 7),.int .i64 (v 8)] 37)).heap.size:=by simp
 have hwx:wb<(w.alloc (.cells #[.int .i64 2,.int .i64 a,.int .i64 bb,.int .i64 (v 0),.int .i64 (v 1),.int .i64 (v 2),.int .i64 (v 3),.int .i64 (v 4),.int .i64 (v 5),.int .i64 (v 6),.int .i64 (v 7),.int .i64 (v 8)] 37)).heap.size:=by simp;omega
 have HDV:=hid hdv;have HWBK:=hid hwb;have HRB:Hid (some w.heap.size≠dv.ownBlock):=fun e=>by
  rcases hdv.2 with⟨e2,_⟩|⟨g',cp,cur,e2,_,hh,_⟩
  ·rw[e2]at e;simp[Value.ownBlock]at e
  ·rw[e2]at e;have:w.heap.size=g':=by simpa [Value.ownBlock] using e
   subst this;rw[heapNew]at hh;injection hh with hh;injection hh with h1 h2;exact absurd h2 (by decide)
 have HRW:Hid (some wb≠dv.ownBlock):=fun e=>by have:=(hdv.lt wb e.symm).1;omega
 have HN:=hid (And.intro hn (And.intro hn2 hb));clear h hB1 hl hlo p0 p1 p2 hds hdl hwb hdv hwl hb hn hn2;obtain⟨i0,hi,hz0,hz1,hz2⟩:=zB1 Tryz.infoIntC Tryz.zeroIntC;have HINF:=hid (And.intro hi (And.intro hz0 (And.intro hz1 hz2)));clear hi hz0 hz1 hz2;go_enter Tryz.func8,Tryz.ntmps8;go_wp2_with fail;generalize hbx:w.heap.size=bx at *;generalize (w.alloc (.cells #[.int .i64 2,.int .i64 a,.int .i64 bb,.int .i64 (v 0),.int .i64 (v 1),.int .i64 (v 2),.int .i64 (v 3),.int .i64 (v 4),.int .i64 (v 5),.int .i64 (v 6),.int .i64 (v 7),.int .i64 (v 8)] 37))=V1 at *;have HW2:Hid ((V1.alloc (.cells #[.int .i64 bb] 3)).drew.ownsRow (wb+1) 3 1 dv ds.length (ds.map (Value.int .i64))):=zRy (World.ownsRow.alloc HDV.out _);have HC1:Hid (∀(j:Nat) (u:Value),[Value.int .i64 bb][j]? =some u→(V1.alloc (.cells #[.int .i64 bb] 3)).drew.cell? (Addr.add ⟨V1.heap.size,0,none⟩ j)=some u):=fun j u hj=>by
  rw[Addr.add_lit,Nat.zero_add];exact zRx V1 #[.int .i64 bb] 3 j u (by simp;exact hj)
 have HC2:Hid (∀u∈[Value.int .i64 bb],u.oneCell'=true):=fun u hu=>by
  obtain rfl:=List.mem_singleton.1 hu;rfl
 have HC3:Hid (ds.length+1≤maxLen∧(ds.length+1)* 8≤140737488355328∧wb+1≤(V1.alloc (.cells #[.int .i64 bb] 3)).drew.heap.size∧(V1.alloc (.cells #[.int .i64 bb] 3)).drew.heap.size=V1.heap.size+1):=by
  have h1:=HN.out.1;have h2:=HN.out.2.1;refine⟨by unfold maxLen;omega,by omega,?_,?_⟩
  ·show wb+1≤(V1.alloc _).heap.size;simp;omega
  ·show(V1.alloc _).heap.size=_;simp
 have HS0:Hid ((fun X=>X.cell? ⟨wb,3,none⟩=some dv∧X.cell? ⟨bx,2,none⟩=some (.int .i64 bb)) V1.drew):=⟨c3,b2⟩;refine zF2 11 (fun X=>X.cell? ⟨wb,3,none⟩=some dv∧X.cell? ⟨bx,2,none⟩=some (.int .i64 bb)) (by kernel_rfl) ?_;refine zA9 (i:=0) (v:=.pointer (some ⟨wb,0,none⟩)) (by rfl) (by kernel_rfl) (by kernel_rfl) (by kernel_rfl) (by kernel_rfl) (by exact fun _ _ _ h=>h) (Or.inl ⟨by rfl,?_⟩) HS0.out ?_
 ·intro W _;go_simp
 simp only[Act.put,List.setIfInBounds_toArray,List.set_cons_zero,List.set_cons_succ];refine zA9 (i:=1) (v:=.pointer (some ⟨wb,0,none⟩)) (by rfl) (by kernel_rfl) (by kernel_rfl) (by kernel_rfl) (by kernel_rfl) (by exact fun _ _ _ h=>h) (Or.inl ⟨by rfl,?_⟩) HS0.out ?_
 ·intro W _;go_simp
 simp only[Act.put,List.setIfInBounds_toArray,List.set_cons_zero,List.set_cons_succ];refine zA9 (i:=2) (v:=.pointer (some ⟨wb,0,none⟩)) (by rfl) (by kernel_rfl) (by kernel_rfl) (by kernel_rfl) (by kernel_rfl) (by exact fun _ _ _ h=>h) (Or.inl ⟨by rfl,?_⟩) HS0.out ?_
 ·intro W _;go_simp
 simp only[Act.put,List.setIfInBounds_toArray,List.set_cons_zero,List.set_cons_succ];refine zA9 (i:=3) (v:=.pointer (some ⟨wb,3,none⟩)) (by rfl) (by kernel_rfl) (by kernel_rfl) (by kernel_rfl) (by kernel_rfl) (by exact fun _ _ _ h=>h) (Or.inl ⟨by rfl,?_⟩) HS0.out ?_
 ·intro W _;go_simp
 simp only[Act.put,List.setIfInBounds_toArray,List.set_cons_zero,List.set_cons_succ];refine zA9 (i:=4) (v:=dv) (by rfl) (by kernel_rfl) (by kernel_rfl) (by kernel_rfl) (by kernel_rfl) (by exact fun _ _ _ h=>h) (Or.inl ⟨by rfl,?_⟩) HS0.out ?_
 ·intro W hW;obtain⟨y0,y1⟩:=hW;go_simp
 simp only[Act.put,List.setIfInBounds_toArray,List.set_cons_zero,List.set_cons_succ];refine zA9 (i:=5) (v:=.pointer (some ⟨bx,2,none⟩)) (by rfl) (by kernel_rfl) (by kernel_rfl) (by kernel_rfl) (by kernel_rfl) (by exact fun _ _ _ h=>h) (Or.inl ⟨by rfl,?_⟩) HS0.out ?_
 ·intro W _;go_simp
 simp only[Act.put,List.setIfInBounds_toArray,List.set_cons_zero,List.set_cons_succ];refine zA9 (i:=6) (v:=.int .i64 bb) (by rfl) (by kernel_rfl) (by kernel_rfl) (by kernel_rfl) (by kernel_rfl) (by exact fun _ _ _ h=>h) (Or.inl ⟨by rfl,?_⟩) HS0.out ?_
 ·intro W hW;obtain⟨y0,y1⟩:=hW;go_simp
 simp only[Act.put,List.setIfInBounds_toArray,List.set_cons_zero,List.set_cons_succ];refine zBe (i:=7) (by kernel_rfl) (by rfl) (fun K hK=>?_);go_simp;refine hK.out _ _ (.inr ⟨(World.cell?_alloc_lt _ _ _ hwx).trans c3,(World.cell?_alloc_lt _ _ _ hbl).trans b2⟩) ?_;clear hK K;try simp only[Act.put,List.setIfInBounds_toArray,List.set_cons_zero,List.set_cons_succ]
 refine zBe (i:=8) (by kernel_rfl) (by rfl) (fun K hK=>?_);refine step_append_lies _ (by rfl) _ _ 29 (by rfl) (wb+1) 3 i0 _ 1 8 Tryz.underlying29 HINF.out.1 HINF.out.2.1 HINF.out.2.2.1 HINF.out.2.2.2 rfl (by decide) dv ds.length (ds.map (Value.int .i64)) (by rfl) HW2.out ⟨V1.heap.size,0,none⟩ 1 1 [.int .i64 bb] (by rfl) rfl HC1.out HC2.out (by decide) HC3.out.1 HC3.out.2.1 HC3.out.2.2.1 (V1.heap.size+1) HC3.out.2.2.2 ?_;intro g cap' w1 hown1 hgrow hat hltg;have hd3:w1.cell? ⟨wb,3,none⟩=some dv:=(hgrow.cell_far ⟨wb,3,none⟩ (by show wb<(V1.alloc _).heap.size;simp;omega) HRW.out).trans ((World.cell?_alloc_lt V1 _ ⟨wb,3,none⟩ hwx).trans c3);have hf3:w1.frozen? ⟨wb,3,none⟩=false:=(hgrow.frozen_far ⟨wb,3,none⟩ (by show wb<(V1.alloc _).heap.size;simp;omega) HRW.out).trans ((World.frozen?_alloc_old V1 _ _ (by show wb≠V1.heap.size;omega)).trans f3)
 have HS1:Hid ((fun X=>X.cell? ⟨wb,3,none⟩=some dv∧X.cell? ⟨bx,2,none⟩=some (.int .i64 bb)) w1):=⟨hd3,(hgrow.cell_far ⟨bx,2,none⟩ (by show bx<(V1.alloc _).heap.size;simp;omega) HRB.out).trans ((World.cell?_alloc_lt V1 _ ⟨bx,2,none⟩ hbl).trans b2)⟩;have HEND:Hid (GS w0 (w1.setCell ⟨wb,3,none⟩ (.slice (some ⟨g,0,none⟩) (ds.length+1) cap')) wb (n+1)):=by
  obtain⟨hl,hlo,p0,p1,p2,hds,hdl,_,_,_⟩:=HKN.out;have hwb1:w1.heap[wb]? =V1.heap[wb]? :=(hgrow.block wb (by show wb<(V1.alloc _).heap.size;simp;omega) HRW.out).trans (Below.heap_alloc V1 _ _ hwx);have hgb:wb+1≤g:=by
   rcases hown1.2 with⟨e,_⟩|⟨g',_,_,e,hg,_⟩
   ·cases e
   ·injection e with e1;injection e1 with e1;injection e1 with e1;omega
  have oth: ∀k,k≠wb→(w1.setCell ⟨wb,3,none⟩ (.slice (some ⟨g,0,none⟩) (ds.length+1) cap')).heap[k]? =w1.heap[k]? :=fun k hk=>Below.heap_setCell _ _ _ _ hk
  have h1:=HN.out.1;have h2:=HN.out.2.1;have hsz:V1.heap.size+1≤w1.heap.size:=by have:=hgrow.size;simp at this;exact this
  refine .inl ⟨c0,c1,c2,ds++ [bb],⟨⟨hgrow.os.trans hl.os,hgrow.tape.trans hl.tape,hgrow.output.trans hl.output,by simp;have:=hl.size;omega,fun k hk=>?_⟩,hlo,p0,p1,p2,fun x hx=>?_,by simp;omega,.slice (some ⟨g,0,none⟩) (ds.length+1) cap',?_,?_⟩,by simp;omega⟩
  ·have:=hl.size;rw[oth k (by omega),hgrow.block k (by show k<(V1.alloc _).heap.size;simp;omega) (fun e=>by have:=(HDV.out.lt k e.symm).1;omega)];exact(Below.heap_alloc V1 _ _ (by omega)).trans (hl.block k hk)
  ·rcases List.mem_append.1 hx with h|h
   ·exact hds x h
   ·obtain rfl:=List.mem_singleton.1 h;exact HN.out.2.2
  ·rw[zB3 _ _ _ _ _ _ _ (hwb1.trans HWBK.out)];rfl
  ·rw[List.length_append,List.map_append];exact zB0 hown1 fun r hr=>oth r (by have:r=g:=(by simpa [Value.ownBlock] using hr.symm);omega)
 clear hown1 hgrow hat hltg;refine hK.out _ _ (.inr HS1.out) ?_;clear hK K;try simp only[Act.put,List.setIfInBounds_toArray,List.set_cons_zero,List.set_cons_succ]
 refine zBe (i:=9) (by kernel_rfl) (by rfl) (fun K hK=>?_);go_simp;refine hK.out _ _ (.inr HS1.out) ?_;clear hK K;try simp only[Act.put,List.setIfInBounds_toArray,List.set_cons_zero,List.set_cons_succ]
 refine zBe (i:=10) (by kernel_rfl) (by rfl) (fun K hK=>?_);go_simp;refine hK.out _ _ (.inr HS1.out) ?_;clear hK K;try simp only[Act.put,List.setIfInBounds_toArray,List.set_cons_zero,List.set_cons_succ]
 refine zBe (i:=11) (by kernel_rfl) (by rfl) (fun K hK=>?_);go_simp;refine hK.out _ _ (.inl rfl) ?_;clear hK K;refine zF1 (by kernel_rfl) ?_ _;clear hd3 hf3 HS1 HS0 HC1 HC2 HC3 HW2 HINF c3 f3 b0 b2 c5 HDV HWBK HKN;generalize w1.setCell ⟨wb,3,none⟩ (.slice (some ⟨g,0,none⟩) (ds.length+1) cap')=W3 at *;go_wp2;go_ret;exact⟨rfl,HEND⟩
theorem kstep(h:GS w0 w wb n)(hn:n+1≤20000)(hE:Errs w0 ad st)(hW:Wids w0)(kk a bb:Int)(v:Nat→Int)(ha: -9223372036854775808≤a∧a≤9223372036854775807)(hb: -9223372036854775808≤bb∧bb≤9223372036854775807)(hv: ∀i,i<9→-9223372036854775808≤v i∧v i≤9223372036854775807):
 Calls Tryz.prog 8 #[.pointer (some ⟨wb,0,none⟩),.agg #[.int .i64 kk,.int .i64 a,.int .i64 bb,.int .i64 (v 0),.int .i64 (v 1),.int .i64 (v 2),.int .i64 (v 3),.int .i64 (v 4),.int .i64 (v 5),.int .i64 (v 6),.int .i64 (v 7),.int .i64 (v 8)],.bool true] w fun en w'=>en=.returned (.bool true)∧Hid (GS w0 w' wb (n+1)):=by
 by_cases h1:kk=1
 ·subst h1;rcases h with⟨c0,c1,c2,ds,h,hd⟩|⟨e,h⟩
  ·exact kstepN1 h hd a bb v ha hb
  ·exact kstepW1 h a bb v
 ·by_cases h2:kk=2
  ·subst h2;rcases h with⟨c0,c1,c2,ds,h,hd⟩|⟨e,h⟩
   ·exact kstepN2 h hd hn a bb v hb
   ·exact kstepW2 h a bb v
  ·by_cases h3:kk=3
   ·exact gstep3 h hn hE hW kk a bb h3 v hv
   ·by_cases h4:kk=4
    ·exact gstep4 h hn hE kk a bb h4 v ha hb
    ·exact gstep0 h kk a bb (by simpa using h1) (by simpa using h2) (by simpa using h3) (by simpa using h4) v
def kaV(i:Nat):Int:=match i with|0=>7|1=>1|2=>1|3=>5|4=>3|7=>2|_=>0
def kaE1:Eng:=((startE 9 99 99 []).apply (encRes 1 kaV).1).hush
theorem zRz:(encRes 1 kaV).2.1=0:=by decide +kernel
theorem zS:(bk kaE1).l.map (fun x=>x.so.state)= [[7,1,5,3,0,0,3]]:=by decide +kernel
theorem zJ9{c0 c1 c2:Int}(b0: -9223372036854775808≤c0∧c0≤9223372036854775807)(b1: -9223372036854775808≤c1∧c1≤9223372036854775807)(b2: -9223372036854775808≤c2∧c2≤9223372036854775807):KN w (w.alloc (.cells #[.int .i64 c0,.int .i64 c1,.int .i64 c2,.slice none 0 0,.pointer none,.bool false,.string ⟨#[]⟩,.int .i64 0,.slice none 0 0,.int .i64 0,.bool false] 33)) w.heap.size c0 c1 c2 []:=⟨(Below.refl _ _).alloc (Nat.le_refl _) _,Nat.le_refl _,b0,b1,b2,(fun x hx=>by cases hx),(by simp),.slice none 0 0,heapNew w _,World.ownsRow_nil _ _ _ _⟩
theorem zS0{M:List Ord}(h:Tells M (bk kaE1).l): ∃o,M= [o]∧o.id=7∧o.shown=3:=by
 have e:=zHo M [⟨7,0,0,0,0,0,0,0,1,5,3,0,0,3,0⟩] h.srt (by simp) h.ids (by simp) (fun s=>by rw[h.sts s,zS];rfl);rcases M with _|⟨o,_|⟨y,t⟩⟩
 ·simp at e
 ·simp[Ord.state]at e;exact⟨o,rfl,e.1,e.2.2.2.2.2.2⟩
 ·simp at e
theorem gaudit{e:Eng}(h:GW w0 w wb e n)(hn:n≤20000)(hE:Errs w0 ad st): ∃s,w.cell? ⟨wb,6,none⟩=some (.string s)∧Calls Tryz.prog 17 #[.string s] w fun en w'=> ∃g0 ml:Nat,en=.returned (.tuple #[.slice (some ⟨g0,0,none⟩) ml ml,.int .i64 0,.int .i64 (-1)])∧Hid (Below w.heap.size w w'∧∃M:List Ord,M.length=ml∧w'.ownsRow w.heap.size 48 7 (.slice (some ⟨g0,0,none⟩) ml ml) ml (M.flatMap encS)∧Tells M (bk e).l):=by
 obtain⟨rs,c6,hrun,hl⟩:=h.c6;have hb:=h.bnd;have hz:(ba (encR 0 rs)).size=22*rs.length:=by rw[zA3,zAt]
 obtain⟨r1,r2,r3⟩:=zJ5 hrun.fits (by omega);refine⟨_,c6,(zEi ad st _ w (hE.below h.ke.1) (by omega) rs.length r1 r2 rs (bk e) (Nat.le_refl _) r3 hrun (.inl rfl)).mono ?_⟩;rintro en w' ⟨hb,⟨_,_,g0,ml,rfl,M,m1,m2,m3,m4⟩|⟨hno,_⟩⟩
 ·exact⟨g0,ml,rfl,hid ⟨hb,M,m1,m3,m4⟩⟩
 ·exact absurd ⟨rfl,hz.symm⟩ hno
theorem kagrees(w:World)(hE:Errs w ad st)(hW:Wids w):
 Calls Tryz.prog 9 #[] w fun en w'=>en=.returned (.bool true)∧Below w.heap.size w w':=by
 have HBG:=hid (kbegin 0 (zJ9 (w:=w) (c0:=9) (c1:=99) (c2:=99) (by omega) (by omega) (by omega)));have HD1:Hid (∀W,KW w W w.heap.size (startE 9 99 99 []) 0→Calls Tryz.prog 15 #[.pointer (some ⟨w.heap.size,0,none⟩),.agg #[.int .i64 0,.int .i64 1,.int .i64 0,.int .i64 7,.int .i64 1,.int .i64 1,.int .i64 5,.int .i64 3,.int .i64 0,.int .i64 0,.int .i64 2,.int .i64 0]] W fun en w'=>en=.returned (.bool true)∧Hid (GW w w' w.heap.size kaE1 1)):=fun W hK=>by
  refine(kagree (hK.gw rfl rfl rfl) (by omega) hE hW 0 1 0 kaV (fun i hi=>by unfold kaV;split<;>omega)).mono ?_;rintro en w' ⟨h1,h2⟩;obtain⟨e',h3,h4⟩:=h2.out;obtain rfl:=h4 zRz;exact⟨h1,h3⟩
 have HAU:Hid (∀W,GW w W w.heap.size kaE1 1→∃s,W.cell? ⟨w.heap.size,6,none⟩=some (.string s)∧Calls Tryz.prog 17 #[.string s] W fun en w'=> ∃g0:Nat,en=.returned (.tuple #[.slice (some ⟨g0,0,none⟩) 1 1,.int .i64 0,.int .i64 (-1)])∧w'.cell? ⟨g0,0,none⟩=some (.int .i64 7)∧w'.cell? ⟨g0,6,none⟩=some (.int .i64 3)∧Hid (Below w.heap.size w w')):=fun W hK=>by
  obtain⟨s,c6,hA⟩:=gaudit hK (by omega) hE;refine⟨s,c6,hA.mono ?_⟩;rintro en w' ⟨g0,ml,rfl,HZ⟩;obtain⟨hb,M,m1,m3,m4⟩:=HZ.out;obtain⟨o,rfl,o1,o2⟩:=zS0 m4;obtain rfl:(1:Nat)=ml:=m1;have c0:=m3.cellAt 0 (by omega);have c6':=m3.cellAt 6 (by omega);refine⟨g0,rfl,c0.trans ?_,c6'.trans ?_,hK.ke.1.trans (hb.mono hK.ke.1.size)⟩
  ·rw[←o1];rfl
  ·rw[←o2];rfl
 clear hE hW;go_enter Tryz.func9,Tryz.ntmps9;go_wp2_with fail;refine HBG.out.mono ?_;rintro en W2 ⟨rfl,HZ2⟩;have HA2:=hid (HD1.out W2 HZ2.out.1);clear HBG HD1 HZ2;go_wp2_with fail;refine HA2.out.mono ?_;rintro en W3 ⟨rfl,HZ3⟩;obtain⟨s,c6,hA3⟩:=HAU.out W3 HZ3.out;have HA3:=hid hA3;clear hA3 HZ3 HA2 HAU;go_wp2_with fail;refine HA3.out.mono ?_;rintro en W4 ⟨g0,rfl,q0,q6,HB⟩;clear HA3 c6;go_wp2;go_ret;exact⟨rfl,HB.out⟩
def ScrK(w:World)(v:Value):Prop:=(∃p c,v=.slice p 0 c)∨∃(g o L c:Nat) (K A B:Nat→Int) (V:Nat→Nat→Int),v=.slice (some ⟨g,o,none⟩) L c∧g<w.heap.size∧L≤9000000000000000000∧∀i,i<L→w.cell? ⟨g,o+i*12,none⟩=some (.int .i64 (K i))∧w.cell? ⟨g,o+i*12+1,none⟩=some (.int .i64 (A i))∧w.cell? ⟨g,o+i*12+2,none⟩=some (.int .i64 (B i))∧(∀j,j<9→w.cell? ⟨g,o+i*12+(3+j),none⟩=some (.int .i64 (V i j))∧-9223372036854775808≤V i j∧V i j≤9223372036854775807)∧(-9223372036854775808≤A i∧A i≤9223372036854775807)∧(-9223372036854775808≤B i∧B i≤9223372036854775807)
theorem GS.low(h:GS w0 w wb n):Below w0.heap.size w0 w:=by
 rcases h with⟨c0,c1,c2,ds,h,_⟩|⟨e,h⟩
 ·exact h.1
 ·exact h.ke.1
theorem zS1(w:World)(ad:Nat→Addr)(st:Nat→ByteArray)(hE:Errs w ad st)(hW:Wids w)(v:Value)(h:ScrK w v):
 Calls Tryz.prog 5 #[v] w fun en w'=>en=.returned (.bool true)∧Below w.heap.size w w':=by
 have HAL:=hid (kagrees w hE hW);have HEN:Hid (Errs w ad st∧Wids w):=⟨hE,hW⟩;clear hE hW;rcases h with⟨p,c,rfl⟩|⟨g,o,L,c,K,A,B,V,rfl,hg,hL,hS⟩
 ·go_enter Tryz.func5,Tryz.ntmps5;go_wp2_with fail;refine HAL.out.mono ?_;rintro en w1 ⟨rfl,hb1⟩;have HB1:=hid (hb1.alloc hb1.size (.cells #[.int .i64 0,.int .i64 0,.int .i64 0,.slice none 0 0,.pointer none,.bool false,.string ⟨#[]⟩,.int .i64 0,.slice none 0 0,.int .i64 0,.bool false] 33));clear hb1 HAL;go_wp2_with fail;go_loopw [5] (fun iv wr=>iv=.int .i64 0∧Below w.heap.size w wr) (fun _ _=>0)
  case atStart=>exact⟨rfl,HB1.out⟩
  case round=>
   obtain⟨rfl,hbw⟩:=hrel;have HBW:=hid hbw;clear hbw;go_wp2;go_ret;exact⟨rfl,HBW.out⟩
 ·have HS:=hid hS;clear hS;by_cases hbig:(16384:Int)<(L:Int)
  ·go_enter Tryz.func5,Tryz.ntmps5;go_wp2;go_ret;exact⟨rfl,Below.refl _ _⟩
  ·go_enter Tryz.func5,Tryz.ntmps5;go_wp2_with fail;refine HAL.out.mono ?_;rintro en w1 ⟨rfl,hb1⟩;have HB1:=hid hb1;have hsz:=hb1.size;have HKS0:Hid (GS w1 (w1.alloc (.cells #[.int .i64 0,.int .i64 0,.int .i64 0,.slice none 0 0,.pointer none,.bool false,.string ⟨#[]⟩,.int .i64 0,.slice none 0 0,.int .i64 0,.bool false] 33)) w1.heap.size 0):=.inl ⟨0,0,0,[],zJ9 (by omega) (by omega) (by omega),Nat.zero_le _⟩;have HCL:Hid (∀W,Below w1.heap.size w1 W→∀j u,w.cell? ⟨g,j,none⟩=u→W.cell? ⟨g,j,none⟩=u):=fun W hW j u hu=>by
    rw[←hu];exact(World.cell?_of_block (a:=⟨g,j,none⟩) (hW.block g (by omega))).trans (World.cell?_of_block (a:=⟨g,j,none⟩) (HB1.out.block g hg))
   have HSTP:Hid (∀(k:Nat) (W:World) (kk a bb:Int) (u:Nat→Int),k<L→GS w1 W w1.heap.size k→(-9223372036854775808≤a∧a≤9223372036854775807)→(-9223372036854775808≤bb∧bb≤9223372036854775807)→(∀i,i<9→-9223372036854775808≤u i∧u i≤9223372036854775807)→Calls Tryz.prog 8 #[.pointer (some ⟨w1.heap.size,0,none⟩),.agg #[.int .i64 kk,.int .i64 a,.int .i64 bb,.int .i64 (u 0),.int .i64 (u 1),.int .i64 (u 2),.int .i64 (u 3),.int .i64 (u 4),.int .i64 (u 5),.int .i64 (u 6),.int .i64 (u 7),.int .i64 (u 8)],.bool true] W fun en w'=>en=.returned (.bool true)∧Hid (GS w1 w' w1.heap.size (k+1))):=fun k W kk a bb u hk hK ha hb hu=>kstep hK (by omega) (HEN.out.1.below HB1.out) (HEN.out.2.below HB1.out) kk a bb u ha hb hu
   clear hb1 HAL hsz;go_wp2_with fail;go_loopw [5] (fun iv wr=> ∃k:Nat,iv=.int .i64 k∧k≤L∧GS w1 wr w1.heap.size k) (fun iv _=>L - (intOf iv).toNat)
   case atStart=>exact⟨0,rfl,Nat.zero_le _,HKS0.out⟩
   case round=>
    obtain⟨k,rfl,hk,hKS⟩:=hrel;have HGS:=hid hKS;clear hKS;by_cases hlt:k<L
    ·have hkI:(k:Int)<(L:Int):=by omega
     have hw1:wrap64 ((k:Int)+1)=(k:Int)+1:=by unfold wrap64;omega
     have hs:=HS.out k hlt;have hkeep:=fun j u=>HCL.out wr HGS.out.low j u
     have HST:=hid (HSTP.out k wr (K k) (A k) (B k) (V k) hlt HGS.out hs.2.2.2.2.1 hs.2.2.2.2.2 (fun i hi=>(hs.2.2.2.1 i hi).2));have s0:wr.cell? ⟨g,o+k*12,none⟩=some (.int .i64 (K k)):=hkeep _ _ hs.1;have s1:wr.cell? ⟨g,o+k*12+1,none⟩=some (.int .i64 (A k)):=hkeep _ _ hs.2.1;have s2:wr.cell? ⟨g,o+k*12+2,none⟩=some (.int .i64 (B k)):=hkeep _ _ hs.2.2.1;have s3:wr.cell? ⟨g,o+k*12+3,none⟩=some (.int .i64 (V k 0)):=hkeep _ _ (hs.2.2.2.1 0 (by omega)).1;have s4:wr.cell? ⟨g,o+k*12+4,none⟩=some (.int .i64 (V k 1)):=hkeep _ _ (hs.2.2.2.1 1 (by omega)).1;have s5:wr.cell? ⟨g,o+k*12+5,none⟩=some (.int .i64 (V k 2)):=hkeep _ _ (hs.2.2.2.1 2 (by omega)).1;have s6:wr.cell? ⟨g,o+k*12+6,none⟩=some (.int .i64 (V k 3)):=hkeep _ _ (hs.2.2.2.1 3 (by omega)).1;have s7:wr.cell? ⟨g,o+k*12+7,none⟩=some (.int .i64 (V k 4)):=hkeep _ _ (hs.2.2.2.1 4 (by omega)).1
     have s8:wr.cell? ⟨g,o+k*12+8,none⟩=some (.int .i64 (V k 5)):=hkeep _ _ (hs.2.2.2.1 5 (by omega)).1;have s9:wr.cell? ⟨g,o+k*12+9,none⟩=some (.int .i64 (V k 6)):=hkeep _ _ (hs.2.2.2.1 6 (by omega)).1;have s10:wr.cell? ⟨g,o+k*12+10,none⟩=some (.int .i64 (V k 7)):=hkeep _ _ (hs.2.2.2.1 7 (by omega)).1;have s11:wr.cell? ⟨g,o+k*12+11,none⟩=some (.int .i64 (V k 8)):=hkeep _ _ (hs.2.2.2.1 8 (by omega)).1;clear hs hkeep;go_wp2_with fail;refine HST.out.mono ?_;rintro en W2 ⟨rfl,HZ⟩;clear s0 s1 s2 s3 s4 s5 s6 s7 s8 s9 s10 s11 HST;go_wp2;go_roundw
     case rel=>exact⟨k+1,by go_num,hlt,HZ.out⟩
     case measure=>exact zD5 L k hlt
    ·obtain rfl:k=L:=by omega
     have hkI: ¬(k:Int)<(k:Int):=by omega
     go_wp2;go_ret;exact⟨rfl,HB1.out.trans (HGS.out.low.mono HB1.out.size)⟩
end Go.Proofs.YtanfmhonjpjpoaaGreatDoor
