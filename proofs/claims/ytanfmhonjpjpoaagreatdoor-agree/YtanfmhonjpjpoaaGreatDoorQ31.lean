import Derived.Test.YtanfmhonjpjpoaaGreatDoorQ00
import Derived.Test.YtanfmhonjpjpoaaGreatDoorQ09
import Derived.Test.YtanfmhonjpjpoaaGreatDoorQ29
import Derived.Test.YtanfmhonjpjpoaaGreatDoorQ30
import Derived.Laws.EntriesVeiled
import Derived.Laws.AppendOwnNone
set_option linter.all false
set_option maxRecDepth 100000
set_option maxHeartbeats 8000000
namespace Go.Proofs.YtanfmhonjpjpoaaGreatDoor
open Go.Extern Go.Maps Go.RowKit
section
variable {F:Nat→Prop} {base:Nat} {w:World} {b:Nat} {e:Eng} {g:Gh} {S:Sets} {v:Nat→Int}
theorem zT5(v:Nat→Int):termsV v=.agg #[iV (v 0),iV (v 1),iV (v 2),iV (v 3),iV (v 4),iV (v 5),iV (v 6),iV (v 7),iV (v 8)]:=rfl
def tabC(b:Nat):Array Value:=#[.nilFunc,.func (.func 117) #[iP b] #[],.func (.func 118) #[iP b] #[],.func (.func 119) #[iP b] #[],.func (.func 120) #[iP b] #[],.func (.func 121) #[iP b] #[]]
theorem zQb(e':Eng)(HC: ∀W,Below w.heap.size w W→Cl 117 #[iP b,termsV v] W fun en w'=>en=rV #[]∧Hid (Cend F base w b g e' w')):
 Cl 73 #[iP b,.agg #[iV 1,iV (v 0),iV (v 1),iV (v 2),iV (v 3),iV (v 4),iV (v 5),iV (v 6),iV (v 7),iV (v 8)]] w fun en w'=>en=rV #[]∧Hid (Cend F base w b g e' w'):=by
 have HCC:=hid HC;unfold termsV at HCC;have HB2:Hid (Bw w ((w.alloc (.cells #[iV 1,iV (v 0),iV (v 1),iV (v 2),iV (v 3),iV (v 4),iV (v 5),iV (v 6),iV (v 7),iV (v 8)] 102)).alloc (.cells (tabC b) 232))):=((Below.refl w.heap.size w).alloc (Nat.le_refl _) _).alloc (by simp) _;unfold tabC at HB2;go_enter Tryz.func73,Tryz.ntmps73;go_wp2_with fail;go_region_with(first|(go_at_call 117;refine(HCC _ (zB5 HB2)).mono ?_;rintro en w1 ⟨rfl,HZ⟩));all_goals(go_end0;exact⟨rfl,HZ⟩)
theorem zQc(e':Eng)(HC: ∀W,Below w.heap.size w W→Cl 118 #[iP b,termsV v] W fun en w'=>en=rV #[]∧Hid (Cend F base w b g e' w')):
 Cl 73 #[iP b,.agg #[iV 2,iV (v 0),iV (v 1),iV (v 2),iV (v 3),iV (v 4),iV (v 5),iV (v 6),iV (v 7),iV (v 8)]] w fun en w'=>en=rV #[]∧Hid (Cend F base w b g e' w'):=by
 have HCC:=hid HC;unfold termsV at HCC;have HB2:Hid (Bw w ((w.alloc (.cells #[iV 2,iV (v 0),iV (v 1),iV (v 2),iV (v 3),iV (v 4),iV (v 5),iV (v 6),iV (v 7),iV (v 8)] 102)).alloc (.cells (tabC b) 232))):=((Below.refl w.heap.size w).alloc (Nat.le_refl _) _).alloc (by simp) _;unfold tabC at HB2;go_enter Tryz.func73,Tryz.ntmps73;go_wp2_with fail;go_region_with(first|(go_at_call 118;refine(HCC _ (zB5 HB2)).mono ?_;rintro en w1 ⟨rfl,HZ⟩));all_goals(go_end0;exact⟨rfl,HZ⟩)
theorem zQd(e':Eng)(HC: ∀W,Below w.heap.size w W→Cl 119 #[iP b,termsV v] W fun en w'=>en=rV #[]∧Hid (Cend F base w b g e' w')):
 Cl 73 #[iP b,.agg #[iV 3,iV (v 0),iV (v 1),iV (v 2),iV (v 3),iV (v 4),iV (v 5),iV (v 6),iV (v 7),iV (v 8)]] w fun en w'=>en=rV #[]∧Hid (Cend F base w b g e' w'):=by
 have HCC:=hid HC;unfold termsV at HCC;have HB2:Hid (Bw w ((w.alloc (.cells #[iV 3,iV (v 0),iV (v 1),iV (v 2),iV (v 3),iV (v 4),iV (v 5),iV (v 6),iV (v 7),iV (v 8)] 102)).alloc (.cells (tabC b) 232))):=((Below.refl w.heap.size w).alloc (Nat.le_refl _) _).alloc (by simp) _;unfold tabC at HB2;go_enter Tryz.func73,Tryz.ntmps73;go_wp2_with fail;go_region_with(first|(go_at_call 119;refine(HCC _ (zB5 HB2)).mono ?_;rintro en w1 ⟨rfl,HZ⟩));all_goals(go_end0;exact⟨rfl,HZ⟩)
theorem zQe(e':Eng)(HC: ∀W,Below w.heap.size w W→Cl 120 #[iP b,termsV v] W fun en w'=>en=rV #[]∧Hid (Cend F base w b g e' w')):
 Cl 73 #[iP b,.agg #[iV 4,iV (v 0),iV (v 1),iV (v 2),iV (v 3),iV (v 4),iV (v 5),iV (v 6),iV (v 7),iV (v 8)]] w fun en w'=>en=rV #[]∧Hid (Cend F base w b g e' w'):=by
 have HCC:=hid HC;unfold termsV at HCC;have HB2:Hid (Bw w ((w.alloc (.cells #[iV 4,iV (v 0),iV (v 1),iV (v 2),iV (v 3),iV (v 4),iV (v 5),iV (v 6),iV (v 7),iV (v 8)] 102)).alloc (.cells (tabC b) 232))):=((Below.refl w.heap.size w).alloc (Nat.le_refl _) _).alloc (by simp) _;unfold tabC at HB2;go_enter Tryz.func73,Tryz.ntmps73;go_wp2_with fail;go_region_with(first|(go_at_call 120;refine(HCC _ (zB5 HB2)).mono ?_;rintro en w1 ⟨rfl,HZ⟩));all_goals(go_end0;exact⟨rfl,HZ⟩)
theorem zQf(e':Eng)(HC: ∀W,Below w.heap.size w W→Cl 121 #[iP b,termsV v] W fun en w'=>en=rV #[]∧Hid (Cend F base w b g e' w')):
 Cl 73 #[iP b,.agg #[iV 5,iV (v 0),iV (v 1),iV (v 2),iV (v 3),iV (v 4),iV (v 5),iV (v 6),iV (v 7),iV (v 8)]] w fun en w'=>en=rV #[]∧Hid (Cend F base w b g e' w'):=by
 have HCC:=hid HC;unfold termsV at HCC;have HB2:Hid (Bw w ((w.alloc (.cells #[iV 5,iV (v 0),iV (v 1),iV (v 2),iV (v 3),iV (v 4),iV (v 5),iV (v 6),iV (v 7),iV (v 8)] 102)).alloc (.cells (tabC b) 232))):=((Below.refl w.heap.size w).alloc (Nat.le_refl _) _).alloc (by simp) _;unfold tabC at HB2;go_enter Tryz.func73,Tryz.ntmps73;go_wp2_with fail;go_region_with(first|(go_at_call 121;refine(HCC _ (zB5 HB2)).mono ?_;rintro en w1 ⟨rfl,HZ⟩));all_goals(go_end0;exact⟨rfl,HZ⟩)
theorem zQg(kind:Int)(hk:1≤kind∧kind≤5)(h:CRep F base w b e g S)(inv:Eng.EInv e)(hH:Holds e S [] [])(hpg:Eng.Pegs e)(hv:Eng.VOk v)(hvb: ∀j,0≤v j+2147483648∧v j≤4294967296)(hro:Room 2200 e)(hsu:Sums 1000 e)(hd:Dr e)(hl:e.all.length+1≤100000000):
 Cl 73 #[iP b,.agg #[iV kind,iV (v 0),iV (v 1),iV (v 2),iV (v 3),iV (v 4),iV (v 5),iV (v 6),iV (v 7),iV (v 8)]] w fun en w'=>en=rV #[]∧Hid (Cend F base w b g (e.run kind v) w'):=by
 have hT: ∀{W w':World} {e':Eng},Bw w W→Cend F base W b g e' w'→Cend F base w b g e' w':=fun hB hz=>hz.from (zAp h.up hB)
 have hkk:kind=1∨kind=2∨kind=3∨kind=4∨kind=5:=by omega
 rcases hkk with rfl|rfl|rfl|rfl|rfl
 ·exact zQb (e.run 1 v) fun W hB=>(zPu (h.below hB) inv hH hv hvb (hro.mono (by omega)) hsu hd hl).mono fun en w' ⟨h1,h2⟩=>⟨h1,hT hB h2.out⟩
 ·exact zQc (e.run 2 v) fun W hB=>(zNp (h.below hB) inv hH (hro.mono (by omega)) ⟨hv.id0,hv.id1⟩).mono fun en w' ⟨h1,h2⟩=>⟨h1,hT hB h2.out.cend⟩
 ·exact zQd (e.run 3 v) fun W hB=>(zPy (h.below hB) inv hH hpg hvb (hro.mono (by omega)) hsu hd).mono fun en w' ⟨h1,h2⟩=>⟨h1,hT hB h2.out.cend⟩
 ·exact zQe (e.run 4 v) fun W hB=>(zNo (h.below hB) inv hH (hro.mono (by omega)) (by omega) ⟨hv.t0,hv.t1⟩).mono fun en w' ⟨h1,h2⟩=>⟨h1,hT hB h2.out.cend⟩
 ·exact zQf (e.run 5 v) fun W hB=>(zNn (h.below hB) inv hH (hro.mono (by omega)) (by omega)).mono fun en w' ⟨h1,h2⟩=>⟨h1,hT hB h2.out.cend⟩
end
theorem Tryz.infoIntC:(Tryz.prog.info? 3).map (fun i=>(i.size,i.bytes))=some (1,8):=by kernel_rfl
theorem Tryz.zeroIntC:(Tryz.prog.info? 3).map (fun i=>i.zero)=some (sI 0):=by kernel_rfl
def NewDesk(w w':World)(nb:Nat)(a b c:Int)(ds:List Int):Prop:= ∃eb g,w.heap.size≤nb∧w'.heap[nb]? =some (.cells #[iP eb,iP g.drwB] 67 (0,0))∧CRep (fun k=>w.heap.size≤k∧k≠nb) (w.heap.size+1) w' eb (newEng a b c ds) g noSets∧Holds (newEng a b c ds) noSets [] []∧Eng.Pegs (newEng a b c ds)∧Grow w w'
theorem NewDesk.mk{w w3 w4:World}{nb d o ed bb bm sb sm:Nat}{a b c:Int}{ds:List Int}{dls:Value}(hg:Grow w w3)(hs:w.heap.size+1≤w3.heap.size)(hl:w3.ownsRow (w.heap.size+1) 3 1 dls ds.length (ds.map (iV)))
 (hz:(w3.alloc (.cells #[dls,iV 0] 94)).heap.size≤nb∧w4.heap[nb]? =some (engNew a b c (iP w3.heap.size) d o ed bb sb)∧NewParts (w3.alloc (.cells #[dls,iV 0] 94)) w4 d o ed bb bm sb sm):
 NewDesk w (w4.alloc (.cells #[iP nb,iP w3.heap.size] 67)) w4.heap.size a b c ds:=by
 obtain⟨h1,h2,h3⟩:=hz;have z1:w3.heap.size+1=(w3.alloc (.cells #[dls,iV 0] 94)).heap.size:=(World.size_alloc _ _).symm;have z2:=Below.size h3.grow;obtain⟨r1,r2,r3⟩:=NewParts.rep (F:=fun k=>w.heap.size≤k) (ds:=ds) (base:=w.heap.size+1) h3 h2 (heap_alloc_new w3 _) (hl.alloc _) (by omega) h1 (fun k hk=>by show w.heap.size≤k;omega) (by show w.heap.size≤w3.heap.size;omega) (fun q hq=>by
  show w.heap.size≤q;rcases hl.2 with⟨rfl,_⟩|⟨g,cap,cur,rfl,hgb,_⟩
  ·simp[Value.ownBlock]at hq
  ·simp[Value.ownBlock]at hq;omega)
 refine⟨nb,newGh d o ed bb bm sb sm w3.heap.size dls,by omega,heap_alloc_new w4 _,r1.shrink (zA1 (Below.refl _ _) _) (Nat.le_refl _) (by simp),r2,r3,((hg.alloc _).trans h3.grow).alloc _⟩
theorem zQh(a b c:Int)(dv:Value)(base:Nat)(ds:List Int)(w:World)(hown:w.ownsRow base 3 1 dv ds.length (ds.map (iV)))(hm:ds.length≤1000000000)(hc:okCfg a b c=true):
 Cl 20 #[.agg #[iV a,iV b,iV c],dv] w fun en w'=> ∃nb,en=rV #[iP nb,iV 0]∧Hid (NewDesk w w' nb a b c ds):=by
 have HN:Hid (∀(W:World) (v:Value),Cl 37 #[.agg #[iV a,iV b,iV c],.iface 65 v] W fun en w'=> ∃nb d o ed bb bm sb sm,en=rV #[iP nb,.nilIface]∧Hid (W.heap.size≤nb∧w'.heap[nb]? =some (engNew a b c v d o ed bb sb)∧NewParts W w' d o ed bb bm sb sm)):=fun W v=>zQ9 W a b c v hc
 obtain⟨i0,hi,hz0,hz1,hz2⟩:=zDw Tryz.infoIntC Tryz.zeroIntC;have HINF:Hid (Tryz.prog.info? 3=some i0∧i0.zero=sI 0∧i0.size=1∧i0.bytes=8):=⟨hi,hz0,hz1,hz2⟩;have HX:Hid (∀u∈ds.map (iV),u.oneCell'=true):=fun u hu=>by
  obtain⟨x,_,rfl⟩:=List.mem_map.1 hu;rfl
 have hcc:=fun g hg=>World.ownsRow.cells hown (g:=g) hg
 have hlen:=hown.1;have hltr:=hown.lt;have HMADE:Hid (((w.alloc (.cells #[iV a,iV b,iV c] 59)).alloc (.cells #[] 3)).ownsRow (w.heap.size+1) 3 1 (sL (w.heap.size+1) 0 0) 0 []):=by
  have:=World.ownsRow_made (base:=w.heap.size+1) (e:=3) (size:=1) (w.alloc (.cells #[iV a,iV b,iV c] 59)) #[] 0 (by simp) (by unfold maxLen;omega) (by simp);rw[World.size_alloc]at this;exact this
 rcases hown.2 with⟨rfl,hnil⟩|⟨g,cap,cur,rfl,hg,hh,hle,hmx,hsz2,htk⟩
 ·have HNIL:Hid (ds= []):=by
   have:ds.length=0:=by simpa using hnil
   exact List.length_eq_zero_iff.1 this
  go_enter Tryz.func20,Tryz.ntmps20;go_wp2_with fail;refine(HN _ _).mono ?_;rintro en w4 ⟨nb,d,o,ed,bb,bm,sb,sm,rfl,HZ⟩;go_wp2_with fail;refine(zCk _).mono ?_;rintro e w5 ⟨rfl,rfl⟩;go_wp2;go_ret2;obtain rfl:=HNIL;have hw:((w.alloc (.cells #[iV a,iV b,iV c] 59)).alloc (.cells #[] 3)).heap.size=w.heap.size+1+1:=by simp
  have k:=fun hz=>NewDesk.mk (w:=w) (w3:=(w.alloc (.cells #[iV a,iV b,iV c] 59)).alloc (.cells #[] 3)) (w4:=w5) (nb:=nb) (d:=d) (o:=o) (ed:=ed) (bb:=bb) (bm:=bm) (sb:=sb) (sm:=sm) (a:=a) (b:=b) (c:=c) (ds:=[]) (dls:=sL (w.heap.size+1) 0 0) (((Grow.refl w).alloc _).alloc _) (by rw[hw];omega) HMADE hz
  rw[hw]at k;exact⟨_,rfl,k HZ⟩
 ·have HC1:Hid (∀(j:Nat) (u:Value),(ds.map (iV))[j]? =some u→((w.alloc (.cells #[iV a,iV b,iV c] 59)).alloc (.cells #[] 3)).cell? (Addr.add (iA g 0) j)=some u):=fun j u hj=>by
   have h1:=hcc g rfl j u hj;have h2:=(hltr g rfl).2;rw[Addr.add_lit]at h1⊢;rw[World.cell?_alloc_lt _ _ _ (by simp;omega),World.cell?_alloc_lt _ _ _ h2];exact h1
  have HC3:Hid (0+ds.length≤maxLen):=by show 0+ds.length≤maxLen;unfold maxLen;omega
  have HC4:Hid ((0+ds.length)* 8≤140737488355328):=by show(0+ds.length)* 8≤140737488355328;omega
  have HC5:Hid (w.heap.size+1≤((w.alloc (.cells #[iV a,iV b,iV c] 59)).alloc (.cells #[] 3)).heap.size):=by
   show w.heap.size+1≤((w.alloc _).alloc _).heap.size;simp
  have HLEN:=hid hlen;go_enter Tryz.func20,Tryz.ntmps20;go_wp2_with(at_builtin;refine wpList_append_own _ rfl _ _ 29 rfl (w.heap.size+1) 3 i0 (iV 0) 1 8 Tryz.underlying29 HINF.1 HINF.2.1 HINF.2.2.1 HINF.2.2.2 rfl (by decide) _ _ _ rfl HMADE (iA g 0) ds.length cap (ds.map (iV)) rfl HLEN HC1 HX HC3 HC4 HC5 ?_);intro v' w3 hown2 hgrow _;have HB3:=hid ((zA1 (zA1 (Below.refl _ _) _) _).grown hgrow (by simp;omega) (fun q hq=>by simp[Value.ownBlock]at hq;omega));have hs3:=hgrow.size;have HS3:Hid (w.heap.size+1≤w3.heap.size):=by show _≤_;simp at hs3;omega
  have hcf: ∀j u,(#[iV a,iV b,iV c]:Array Value)[j]? =some u→∀o,(w3.alloc o).cell? (iA w.heap.size j)=some u:=fun j u hj o=>by
   have hbb:=hgrow.block w.heap.size (by simp;omega) (by simp[Value.ownBlock]);rw[World.cell?_alloc_lt _ _ _ (by have:=HS3.out;show w.heap.size<w3.heap.size;omega),World.cell?_of_block (a:=(iA w.heap.size j)) hbb,World.cell?_alloc_lt _ _ _ (by simp)];exact zC6 w _ _ j u hj
  have q0:=hcf 0 _ rfl;have q1:=hcf 1 _ rfl;have q2:=hcf 2 _ rfl;have HOWN:Hid (w3.ownsRow (w.heap.size+1) 3 1 v' ds.length (ds.map (iV))):=by
   first
    |exact hown2
    |simpa only[Nat.zero_add,List.nil_append] using hown2
  obtain⟨p',n',cap',rfl⟩: ∃p' n' cap',v'=.slice p' n' cap':=by
   rcases hown2.2 with⟨rfl,_⟩|⟨g,cap,cur,h,_⟩
   ·exact⟨_,_,_,rfl⟩
   ·exact⟨_,_,_,h⟩
  go_wp2_with fail;refine(HN _ _).mono ?_;rintro en w4 ⟨nb,d,o,ed,bb,bm,sb,sm,rfl,HZ⟩;go_wp2_with fail;refine(zCk _).mono ?_;rintro e w5 ⟨rfl,rfl⟩;go_wp2;go_ret2;exact⟨_,rfl,NewDesk.mk HB3 HS3 HOWN HZ⟩
theorem zT6(a b c:Int)(dv:Value)(base:Nat)(ds:List Int)(w:World){ad:Nat→Addr}{st:Nat→ByteArray}(hE:Errs w ad st)(hown:w.ownsRow base 3 1 dv ds.length (ds.map (iV)))(hm:ds.length≤1000000000)(hc:okCfg a b c=false):
 Cl 20 #[.agg #[iV a,iV b,iV c],dv] w fun en w'=>en=rV #[.pointer none,iV 1]∧Hid (Grow w w'):=by
 have HN:Hid (∀(W:World) (v:Value),Grow w W→Cl 37 #[.agg #[iV a,iV b,iV c],v] W fun en w'=>en=rV #[.pointer none,.iface 325 (.pointer (some (ad 0)))]∧Hid (Grow w w')):=fun W v hW=>(zQa W a b c v (hE.below hW) hc).mono (by
  rintro en w' ⟨rfl,hz⟩;exact⟨rfl,hW.trans hz.out⟩)
 have HU:Hid (∀W:World,Grow w W→Cl 29 #[.iface 325 (.pointer (some (ad 0)))] W fun e w'=>e=rV #[iV 1,iV (-1)]∧Hid (Grow w w')):=fun W hW=>(zFi ad st 0 (by omega) W (hE.below hW)).mono (by
  rintro en w' ⟨rfl,hz⟩;exact⟨rfl,hW.trans hz⟩)
 obtain⟨i0,hi,hz0,hz1,hz2⟩:=zDw Tryz.infoIntC Tryz.zeroIntC;have HINF:Hid (Tryz.prog.info? 3=some i0∧i0.zero=sI 0∧i0.size=1∧i0.bytes=8):=⟨hi,hz0,hz1,hz2⟩;have HX:Hid (∀u∈ds.map (iV),u.oneCell'=true):=fun u hu=>by
  obtain⟨x,_,rfl⟩:=List.mem_map.1 hu;rfl
 have hcc:=fun g hg=>World.ownsRow.cells hown (g:=g) hg
 have hlen:=hown.1;have hltr:=hown.lt;have HMADE:Hid (((w.alloc (.cells #[iV a,iV b,iV c] 59)).alloc (.cells #[] 3)).ownsRow (w.heap.size+1) 3 1 (sL (w.heap.size+1) 0 0) 0 []):=by
  have:=World.ownsRow_made (base:=w.heap.size+1) (e:=3) (size:=1) (w.alloc (.cells #[iV a,iV b,iV c] 59)) #[] 0 (by simp) (by unfold maxLen;omega) (by simp);rw[World.size_alloc]at this;exact this
 rcases hown.2 with⟨rfl,hnil⟩|⟨g,cap,cur,rfl,hg,hh,hle,hmx,hsz2,htk⟩
 ·clear hown hcc hnil hlen hltr;go_enter Tryz.func20,Tryz.ntmps20;go_wp2_with fail;refine(HN _ _ ((((Grow.refl w).alloc _).alloc _).alloc _)).mono ?_;rintro en w4 ⟨rfl,HZ⟩;go_wp2_with fail;refine(HU w4 HZ).mono ?_;rintro e w5 ⟨rfl,HZ5⟩;go_wp2;go_ret2;exact⟨rfl,HZ5⟩
 ·have HC1:Hid (∀(j:Nat) (u:Value),(ds.map (iV))[j]? =some u→((w.alloc (.cells #[iV a,iV b,iV c] 59)).alloc (.cells #[] 3)).cell? (Addr.add (iA g 0) j)=some u):=fun j u hj=>by
   have h1:=hcc g rfl j u hj;have h2:=(hltr g rfl).2;rw[Addr.add_lit]at h1⊢;rw[World.cell?_alloc_lt _ _ _ (by simp;omega),World.cell?_alloc_lt _ _ _ h2];exact h1
  have HC3:Hid (0+ds.length≤maxLen):=by show 0+ds.length≤maxLen;unfold maxLen;omega
  have HC4:Hid ((0+ds.length)* 8≤140737488355328):=by show(0+ds.length)* 8≤140737488355328;omega
  have HC5:Hid (w.heap.size+1≤((w.alloc (.cells #[iV a,iV b,iV c] 59)).alloc (.cells #[] 3)).heap.size):=by
   show w.heap.size+1≤((w.alloc _).alloc _).heap.size;simp
  have HLEN:Hid ((ds.map (iV)).length=ds.length*1):=hlen;go_enter Tryz.func20,Tryz.ntmps20;go_wp2_with(at_builtin;refine wpList_append_own _ rfl _ _ 29 rfl (w.heap.size+1) 3 i0 (iV 0) 1 8 Tryz.underlying29 HINF.1 HINF.2.1 HINF.2.2.1 HINF.2.2.2 rfl (by decide) _ _ _ rfl HMADE (iA g 0) ds.length cap (ds.map (iV)) rfl HLEN HC1 HX HC3 HC4 HC5 ?_);intro v' w3 hown2 hgrow _;have HB3:Hid (Grow w w3):=(zA1 (zA1 (Below.refl _ _) _) _).grown hgrow (by simp;omega) (fun q hq=>by simp[Value.ownBlock]at hq;omega);have hs3:=hgrow.size;have HS3:Hid (w.heap.size+1≤w3.heap.size):=by show _≤_;simp at hs3;omega
  have hcf: ∀j u,(#[iV a,iV b,iV c]:Array Value)[j]? =some u→∀o,(w3.alloc o).cell? (iA w.heap.size j)=some u:=fun j u hj o=>by
   have hbb:=hgrow.block w.heap.size (by simp;omega) (by simp[Value.ownBlock]);rw[World.cell?_alloc_lt _ _ _ (by have:=HS3.out;show w.heap.size<w3.heap.size;omega),World.cell?_of_block (a:=(iA w.heap.size j)) hbb,World.cell?_alloc_lt _ _ _ (by simp)];exact zC6 w _ _ j u hj
  have q0:=hcf 0 _ rfl;have q1:=hcf 1 _ rfl;have q2:=hcf 2 _ rfl;obtain⟨p',n',cap',rfl⟩: ∃p' n' cap',v'=.slice p' n' cap':=by
   rcases hown2.2 with⟨rfl,_⟩|⟨g,cap,cur,h,_⟩
   ·exact⟨_,_,_,rfl⟩
   ·exact⟨_,_,_,h⟩
  go_wp2_with fail;refine(HN _ _ (HB3.alloc _)).mono ?_;rintro en w4 ⟨rfl,HZ⟩;go_wp2_with fail;refine(HU w4 HZ).mono ?_;rintro e w5 ⟨rfl,HZ5⟩;go_wp2;go_ret2;exact⟨rfl,HZ5⟩
end Go.Proofs.YtanfmhonjpjpoaaGreatDoor
