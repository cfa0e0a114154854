import Derived.Test.YtilbfpnpkkkpgaaGreatDoorQ00
import Derived.Test.YtilbfpnpkkkpgaaGreatDoorQ11
import Derived.Test.YtilbfpnpkkkpgaaGreatDoorQ12
import Derived.Test.YtilbfpnpkkkpgaaGreatDoorQ13
import Derived.Test.YtilbfpnpkkkpgaaGreatDoorQ35
import Derived.Laws.AppendOwnNone
import Derived.Deep.RegionHeld
import Derived.WalkMore
import Derived.ScopeJumps
set_option linter.all false
set_option maxRecDepth 100000
set_option maxHeartbeats 8000000
namespace Go.Proofs.YtilbfpnpkkkpgaaGreatDoor
variable{w w4:World}{st:Nat→ByteArray}{a:Nat→Addr}
section
open Go.Extern Go.Maps Go.RowKit
theorem Tryz.infoIntC:(Tryz.prog.info? 3).map (fun i=>(i.size,i.bytes))=some (1,8):=by kernel_rfl
theorem Tryz.zeroIntC:(Tryz.prog.info? 3).map (fun i=>i.zero)=some (sI 0):=by kernel_rfl
def NewDesk(w w':World)(nb:Nat)(a b c:Int)(ds:List Int):Prop:= ∃eb g,w.heap.size≤nb∧w'.heap[nb]? =some (.cells #[iP eb,iP g.drwB] 37 (0,0))∧CRep (fun k=>w.heap.size≤k∧k≠nb) (w.heap.size+1) w' eb (newEng a b c ds) g noSets∧Holds (newEng a b c ds) noSets [] []∧Eng.Pegs (newEng a b c ds)∧Grow w w'
theorem NewDesk.mk{w3:World}{nb d o ed bb bm sb sm:Nat}{a b c:Int}{ds:List Int}{dls:Value}(hg:Grow w w3)(hs:w.heap.size+1≤w3.heap.size)(hl:w3.ownsRow (w.heap.size+1) 3 1 dls ds.length (ds.map (iV)))
 (hz:(w3.alloc (.cells #[dls,iV 0] 47)).heap.size≤nb∧w4.heap[nb]? =some (engNew a b c (iP w3.heap.size) d o ed bb sb)∧NewParts (w3.alloc (.cells #[dls,iV 0] 47)) w4 d o ed bb bm sb sm):
 NewDesk w (w4.alloc (.cells #[iP nb,iP w3.heap.size] 37)) w4.heap.size a b c ds:=by
 obtain⟨h1,h2,h3⟩:=hz;have z1:w3.heap.size+1=(w3.alloc (.cells #[dls,iV 0] 47)).heap.size:=(World.size_alloc _ _).symm;have z2:=Below.size h3.grow;obtain⟨r1,r2,r3⟩:=NewParts.rep (F:=fun k=>w.heap.size≤k) (ds:=ds) (base:=w.heap.size+1) h3 h2 (heap_alloc_new w3 _) (hl.alloc _) (by omega) h1 (fun k hk=>by show w.heap.size≤k;omega) (by show w.heap.size≤w3.heap.size;omega) (fun q hq=>by
  show w.heap.size≤q;rcases hl.2 with⟨rfl,_⟩|⟨g,cap,cur,rfl,hgb,_⟩
  ·simp[Value.ownBlock]at hq
  ·simp[Value.ownBlock]at hq;omega)
 refine⟨nb,newGh d o ed bb bm sb sm w3.heap.size dls,by omega,heap_alloc_new w4 _,r1.shrink (zA2 (Below.refl _ _) _) (Nat.le_refl _) (by simp),r2,r3,((hg.alloc _).trans h3.grow).alloc _⟩
theorem zGo(a b c:Int)(dv:Value)(base:Nat)(ds:List Int)(w:World)(hown:w.ownsRow base 3 1 dv ds.length (ds.map (iV)))(hm:ds.length≤1000000000)(hc:okCfg a b c=true):
 Cl 9 #[.agg #[iV a,iV b,iV c],dv] w fun en w'=> ∃nb,en=rV #[iP nb,iV 0]∧Hid (NewDesk w w' nb a b c ds):=by
 have HN:Hid (∀(W:World) (v:Value),Cl 15 #[.agg #[iV a,iV b,iV c],.iface 35 v] W fun en w'=> ∃nb d o ed bb bm sb sm,en=rV #[iP nb,.nilIface]∧Hid (W.heap.size≤nb∧w'.heap[nb]? =some (engNew a b c v d o ed bb sb)∧NewParts W w' d o ed bb bm sb sm)):=fun W v=>zNs W a b c v hc
 obtain⟨i0,hi,hz0,hz1,hz2⟩:=zAa Tryz.infoIntC Tryz.zeroIntC;have HINF:Hid (Tryz.prog.info? 3=some i0∧i0.zero=sI 0∧i0.size=1∧i0.bytes=8):=⟨hi,hz0,hz1,hz2⟩;have HX:Hid (∀u∈ds.map (iV),u.oneCell'=true):=fun u hu=>by
  obtain⟨x,_,rfl⟩:=List.mem_map.1 hu;rfl
 have hcc:=fun g hg=>World.ownsRow.cells hown (g:=g) hg
 have hlen:=hown.1;have hltr:=hown.lt;have HMADE:Hid (((w.alloc (.cells #[iV a,iV b,iV c] 30)).alloc (.cells #[] 3)).ownsRow (w.heap.size+1) 3 1 (sL (w.heap.size+1) 0 0) 0 []):=by
  have:=World.ownsRow_made (base:=w.heap.size+1) (e:=3) (size:=1) (w.alloc (.cells #[iV a,iV b,iV c] 30)) #[] 0 (by simp) (by unfold maxLen;omega) (by simp);rw[World.size_alloc]at this;exact this
 rcases hown.2 with⟨rfl,hnil⟩|⟨g,cap,cur,rfl,hg,hh,hle,hmx,hsz2,htk⟩
 ·have HNIL:Hid (ds= []):=by
   have:ds.length=0:=by simpa using hnil
   exact List.length_eq_zero_iff.1 this
  go_enter Tryz.func9,Tryz.ntmps9;go_wp2_with fail;refine(HN _ _).mono ?_;rintro en w4 ⟨nb,d,o,ed,bb,bm,sb,sm,rfl,HZ⟩;go_wp2_with fail;refine(zC3 _).mono ?_;rintro e w5 ⟨rfl,rfl⟩;go_wp2;go_ret2;obtain rfl:=HNIL;have hw:((w.alloc (.cells #[iV a,iV b,iV c] 30)).alloc (.cells #[] 3)).heap.size=w.heap.size+1+1:=by simp
  have k:=fun hz=>NewDesk.mk (w:=w) (w3:=(w.alloc (.cells #[iV a,iV b,iV c] 30)).alloc (.cells #[] 3)) (w4:=w5) (nb:=nb) (d:=d) (o:=o) (ed:=ed) (bb:=bb) (bm:=bm) (sb:=sb) (sm:=sm) (a:=a) (b:=b) (c:=c) (ds:=[]) (dls:=sL (w.heap.size+1) 0 0) (((Grow.refl w).alloc _).alloc _) (by rw[hw];omega) HMADE hz
  rw[hw]at k;exact⟨_,rfl,k HZ⟩
 ·have HC1:Hid (∀(j:Nat) (u:Value),(ds.map (iV))[j]? =some u→((w.alloc (.cells #[iV a,iV b,iV c] 30)).alloc (.cells #[] 3)).cell? (Addr.add (iA g 0) j)=some u):=fun j u hj=>by
   have h1:=hcc g rfl j u hj;have h2:=(hltr g rfl).2;rw[Addr.add_lit]at h1⊢;rw[World.cell?_alloc_lt _ _ _ (by simp;omega),World.cell?_alloc_lt _ _ _ h2];exact h1
  have HC3:Hid (0+ds.length≤maxLen):=by show 0+ds.length≤maxLen;unfold maxLen;omega
  have HC4:Hid ((0+ds.length)* 8≤140737488355328):=by show(0+ds.length)* 8≤140737488355328;omega
  have HC5:Hid (w.heap.size+1≤((w.alloc (.cells #[iV a,iV b,iV c] 30)).alloc (.cells #[] 3)).heap.size):=by
   show w.heap.size+1≤((w.alloc _).alloc _).heap.size;simp
  have HLEN:=hid hlen;go_enter Tryz.func9,Tryz.ntmps9;go_wp2_with(at_builtin;refine wpList_append_own _ rfl _ _ 45 rfl (w.heap.size+1) 3 i0 (iV 0) 1 8 Tryz.underlying45 HINF.1 HINF.2.1 HINF.2.2.1 HINF.2.2.2 rfl (by decide) _ _ _ rfl HMADE (iA g 0) ds.length cap (ds.map (iV)) rfl HLEN HC1 HX HC3 HC4 HC5 ?_);intro v' w3 hown2 hgrow _;have HB3:=hid ((zA2 (zA2 (Below.refl _ _) _) _).grown hgrow (by simp;omega) (fun q hq=>by simp[Value.ownBlock]at hq;omega));have hs3:=hgrow.size;have HS3:Hid (w.heap.size+1≤w3.heap.size):=by show _≤_;simp at hs3;omega
  have hcf: ∀j u,(#[iV a,iV b,iV c]:Array Value)[j]? =some u→∀o,(w3.alloc o).cell? (iA w.heap.size j)=some u:=fun j u hj o=>by
   have hbb:=hgrow.block w.heap.size (by simp;omega) (by simp[Value.ownBlock]);rw[World.cell?_alloc_lt _ _ _ (by have:=HS3.out;show w.heap.size<w3.heap.size;omega),World.cell?_of_block (a:=(iA w.heap.size j)) hbb,World.cell?_alloc_lt _ _ _ (by simp)];exact zC8 w _ _ j u hj
  have q0:=hcf 0 _ rfl;have q1:=hcf 1 _ rfl;have q2:=hcf 2 _ rfl;have HOWN:Hid (w3.ownsRow (w.heap.size+1) 3 1 v' ds.length (ds.map (iV))):=by
   first
    |exact hown2
    |simpa only[Nat.zero_add,List.nil_append] using hown2
  obtain⟨p',n',cap',rfl⟩: ∃p' n' cap',v'=.slice p' n' cap':=by
   rcases hown2.2 with⟨rfl,_⟩|⟨g,cap,cur,h,_⟩
   ·exact⟨_,_,_,rfl⟩
   ·exact⟨_,_,_,h⟩
  go_wp2_with fail;refine(HN _ _).mono ?_;rintro en w4 ⟨nb,d,o,ed,bb,bm,sb,sm,rfl,HZ⟩;go_wp2_with fail;refine(zC3 _).mono ?_;rintro e w5 ⟨rfl,rfl⟩;go_wp2;go_ret2;exact⟨_,rfl,NewDesk.mk HB3 HS3 HOWN HZ⟩
theorem zPe(a b c:Int)(dv:Value)(base:Nat)(ds:List Int)(w:World){ad:Nat→Addr}(hE:Errs w ad st)(hown:w.ownsRow base 3 1 dv ds.length (ds.map (iV)))(hm:ds.length≤1000000000)(hc:okCfg a b c=false):
 Cl 9 #[.agg #[iV a,iV b,iV c],dv] w fun en w'=>en=rV #[.pointer none,iV 1]∧Hid (Grow w w'):=by
 have HN:Hid (∀(W:World) (v:Value),Grow w W→Cl 15 #[.agg #[iV a,iV b,iV c],v] W fun en w'=>en=rV #[.pointer none,.iface 296 (.pointer (some (ad 0)))]∧Hid (Grow w w')):=fun W v hW=>(zNt W a b c v (hE.below hW) hc).mono (by
  rintro en w' ⟨rfl,hz⟩;exact⟨rfl,hW.trans hz.out⟩)
 have HU:Hid (∀W:World,Grow w W→Cl 16 #[.iface 296 (.pointer (some (ad 0)))] W fun e w'=>e=rV #[iV 1,iV (-1)]∧Hid (Grow w w')):=fun W hW=>(zEy ad st 0 (by omega) W (hE.below hW)).mono (by
  rintro en w' ⟨rfl,hz⟩;exact⟨rfl,hW.trans hz⟩)
 obtain⟨i0,hi,hz0,hz1,hz2⟩:=zAa Tryz.infoIntC Tryz.zeroIntC;have HINF:Hid (Tryz.prog.info? 3=some i0∧i0.zero=sI 0∧i0.size=1∧i0.bytes=8):=⟨hi,hz0,hz1,hz2⟩;have HX:Hid (∀u∈ds.map (iV),u.oneCell'=true):=fun u hu=>by
  obtain⟨x,_,rfl⟩:=List.mem_map.1 hu;rfl
 have hcc:=fun g hg=>World.ownsRow.cells hown (g:=g) hg
 have hlen:=hown.1;have hltr:=hown.lt;have HMADE:Hid (((w.alloc (.cells #[iV a,iV b,iV c] 30)).alloc (.cells #[] 3)).ownsRow (w.heap.size+1) 3 1 (sL (w.heap.size+1) 0 0) 0 []):=by
  have:=World.ownsRow_made (base:=w.heap.size+1) (e:=3) (size:=1) (w.alloc (.cells #[iV a,iV b,iV c] 30)) #[] 0 (by simp) (by unfold maxLen;omega) (by simp);rw[World.size_alloc]at this;exact this
 rcases hown.2 with⟨rfl,hnil⟩|⟨g,cap,cur,rfl,hg,hh,hle,hmx,hsz2,htk⟩
 ·clear hown hcc hnil hlen hltr;go_enter Tryz.func9,Tryz.ntmps9;go_wp2_with fail;refine(HN _ _ ((((Grow.refl w).alloc _).alloc _).alloc _)).mono ?_;rintro en w4 ⟨rfl,HZ⟩;go_wp2_with fail;refine(HU w4 HZ).mono ?_;rintro e w5 ⟨rfl,HZ5⟩;go_wp2;go_ret2;exact⟨rfl,HZ5⟩
 ·have HC1:Hid (∀(j:Nat) (u:Value),(ds.map (iV))[j]? =some u→((w.alloc (.cells #[iV a,iV b,iV c] 30)).alloc (.cells #[] 3)).cell? (Addr.add (iA g 0) j)=some u):=fun j u hj=>by
   have h1:=hcc g rfl j u hj;have h2:=(hltr g rfl).2;rw[Addr.add_lit]at h1⊢;rw[World.cell?_alloc_lt _ _ _ (by simp;omega),World.cell?_alloc_lt _ _ _ h2];exact h1
  have HC3:Hid (0+ds.length≤maxLen):=by show 0+ds.length≤maxLen;unfold maxLen;omega
  have HC4:Hid ((0+ds.length)* 8≤140737488355328):=by show(0+ds.length)* 8≤140737488355328;omega
  have HC5:Hid (w.heap.size+1≤((w.alloc (.cells #[iV a,iV b,iV c] 30)).alloc (.cells #[] 3)).heap.size):=by
   show w.heap.size+1≤((w.alloc _).alloc _).heap.size;simp
  have HLEN:Hid ((ds.map (iV)).length=ds.length*1):=hlen;go_enter Tryz.func9,Tryz.ntmps9;go_wp2_with(at_builtin;refine wpList_append_own _ rfl _ _ 45 rfl (w.heap.size+1) 3 i0 (iV 0) 1 8 Tryz.underlying45 HINF.1 HINF.2.1 HINF.2.2.1 HINF.2.2.2 rfl (by decide) _ _ _ rfl HMADE (iA g 0) ds.length cap (ds.map (iV)) rfl HLEN HC1 HX HC3 HC4 HC5 ?_);intro v' w3 hown2 hgrow _;have HB3:Hid (Grow w w3):=(zA2 (zA2 (Below.refl _ _) _) _).grown hgrow (by simp;omega) (fun q hq=>by simp[Value.ownBlock]at hq;omega);have hs3:=hgrow.size;have HS3:Hid (w.heap.size+1≤w3.heap.size):=by show _≤_;simp at hs3;omega
  have hcf: ∀j u,(#[iV a,iV b,iV c]:Array Value)[j]? =some u→∀o,(w3.alloc o).cell? (iA w.heap.size j)=some u:=fun j u hj o=>by
   have hbb:=hgrow.block w.heap.size (by simp;omega) (by simp[Value.ownBlock]);rw[World.cell?_alloc_lt _ _ _ (by have:=HS3.out;show w.heap.size<w3.heap.size;omega),World.cell?_of_block (a:=(iA w.heap.size j)) hbb,World.cell?_alloc_lt _ _ _ (by simp)];exact zC8 w _ _ j u hj
  have q0:=hcf 0 _ rfl;have q1:=hcf 1 _ rfl;have q2:=hcf 2 _ rfl;obtain⟨p',n',cap',rfl⟩: ∃p' n' cap',v'=.slice p' n' cap':=by
   rcases hown2.2 with⟨rfl,_⟩|⟨g,cap,cur,h,_⟩
   ·exact⟨_,_,_,rfl⟩
   ·exact⟨_,_,_,h⟩
  go_wp2_with fail;refine(HN _ _ (HB3.alloc _)).mono ?_;rintro en w4 ⟨rfl,HZ⟩;go_wp2_with fail;refine(HU w4 HZ).mono ?_;rintro e w5 ⟨rfl,HZ5⟩;go_wp2;go_ret2;exact⟨rfl,HZ5⟩
end
section
open Go.Extern Go.RowKit
theorem zPf(s:ByteArray)(A pa pb:Nat)(w:World)(hW:Wids w)(hpa:pa<9)(hpb:wid pa=pb)(hb4:pb=1∨pb=4)(h6:pa=6→pb=4)(ha:A+pb≤s.size)(hm:s.size≤1000000000):
 Cl 55 #[.string s,iV A,iV pa] w fun e w'=>e=.returned (iV (rd s.data.toList A (pa,pb)))∧w'=w:=by
 have hcw:=hW pa hpa;rw[hpb]at hcw;have hpz:(0:Int)≤(pa:Int)∧(pa:Int)<9:=by omega
 have hvn:=zB9 ((s.data.toList.drop A).take pb);have hvl:=zBa ((s.data.toList.drop A).take pb) (Nat.le_trans (List.length_take_le _ _) (by omega));have HP:=zF5 s.data.toList A pa pb;have HPN:=zF6 s.data.toList A pb;have HP':=hid HP;have HPN':=hid HPN;have hna:=fun W=>zAw s A pb W (by omega) ha hm
 have HNA:=hid hna;generalize val ((s.data.toList.drop A).take pb)=x at *;by_cases h6':pa=6
 ·subst h6';have h4:pb=4:=h6 rfl;subst h4;go_enter Tryz.func55,Tryz.ntmps55;go_wp2_with fail;refine(HNA _).mono ?_;rintro e w' ⟨rfl,rfl⟩;go_wp2;go_ret;refine⟨zBl ?_,rfl⟩;by_cases hbig:2147483648≤x
  ·rw[HPN'.out hbig];unfold wrap64 wrap32;omega
  ·rw[HP'.out (by omega)];unfold wrap64 wrap32;omega
 ·have g6:=beq_eq_false_iff_ne.2 (by omega);have HR:=HP' (by omega);have HR':=hid HR;go_enter Tryz.func55,Tryz.ntmps55;go_wp2_with fail;refine(HNA _).mono ?_;rintro e w' ⟨rfl,rfl⟩;go_wp2;go_ret;exact⟨zBl HR'.symm,rfl⟩
theorem zGp(v:Nat→Int)(w:World):
 Cl 56 #[arrV v] w fun e w'=>e=.returned (arrV v)∧Below w.heap.size w w':=by
 go_enter Tryz.func56,Tryz.ntmps56;go_wp2;refine bodyPost_ret (v:=arrV v) (by simp[results,Tryz.results56,go_sem]) rfl ⟨rfl,?_⟩;repeat(first|exact Below.refl _ _|refine Below.setCell ?_ (by simp) _|refine Below.drew ?_|refine zA2 ?_ _)
theorem zD6{P:Program}{a:Act}{Q:Exit→Act→World→Prop}{c rest:Code}(l:Nat)(hf:findLabel c l=some rest)
 (first:c.wp P (Exit.jump l (fun a w=>rest.wp P (Exit.noGoto Q) a w) Q) a w):(Code.scope c).wp P Q a w:=by
 intro b k cs;have hg:gotoIn l (.inScope c::k)=some (.code rest::.inScope c::k):=by simp[gotoIn,hf]
 obtain⟨e,a₁,w₁,hq,harr⟩:=first b (.inScope c::k) cs
 cases e with
 |normal=>exact⟨.normal,a₁,w₁,hq,.head step_scope (Steps.trans harr (.one step_inScope))⟩
 |exit id=>exact⟨.exit id,a₁,w₁,hq,fun k' hk=>.head step_scope (harr k' (by simp[exitTo,hk]))⟩
 |goto l'=>
  obtain⟨rfl,hJ'⟩:=hq;obtain⟨e₂,a₂,w₂,hq₂,harr₂⟩:=hJ' b (.inScope c::k) cs;cases e₂ with
  |normal=>exact⟨.normal,a₂,w₂,hq₂,.of_steps (.head step_scope (harr _ hg)) (Steps.trans harr₂ (.one step_inScope))⟩
  |exit id=>exact⟨.exit id,a₂,w₂,hq₂,fun k' hk=>Steps.trans (.head step_scope (harr _ hg)) (harr₂ k' (by simp[exitTo,hk]))⟩
  |goto l=>exact hq₂.elim
  |ret=>exact⟨_,a₂,w₂,hq₂,.of_steps (.head step_scope (harr _ hg)) harr₂⟩
  |panic ch=>exact⟨_,a₂,w₂,hq₂,.of_steps (.head step_scope (harr _ hg)) harr₂⟩
  |outgrown=>exact⟨_,a₂,w₂,hq₂,.of_steps (.head step_scope (harr _ hg)) harr₂⟩
 |ret=>exact⟨_,a₁,w₁,hq,.of_steps (.one step_scope) harr⟩
 |panic ch=>exact⟨_,a₁,w₁,hq,.of_steps (.one step_scope) harr⟩
 |outgrown=>exact⟨_,a₁,w₁,hq,.of_steps (.one step_scope) harr⟩
def ErrBare(a:Nat→Addr)(err:Value)(n:Int):Prop:=(err=.nilIface∧n=0)∨∃k:Nat,k<8∧err=.iface 296 (.pointer (some (a k)))∧n=(k:Int)+1
theorem ErrBare.is{err:Value}{n:Int}(h:ErrBare a err n)(w:World):ErrIs w a err n (-1):=by
 rcases h with⟨h1,h2⟩|⟨k,h1,h2,h3⟩
 ·exact .inl ⟨h1,h2,rfl⟩
 ·exact .inr (.inl ⟨k,h1,h2,h3,rfl⟩)
abbrev z10:Array Value:=#[iV 0,iV 0,iV 0,iV 0,iV 0,iV 0,iV 0,iV 0,iV 0,iV 0]
abbrev z9:Array Value:=#[iV 0,iV 0,iV 0,iV 0,iV 0,iV 0,iV 0,iV 0,iV 0]
theorem errs3(hE:Errs w a st)(o1 o2 o3:Obj):Errs (((w.alloc o1).alloc o2).alloc o3) a st:=((hE.alloc o1).alloc o2).alloc o3
theorem zPg(a:Nat→Addr)(st:Nat→ByteArray)(w:World)(hE:Errs w a st):
 Cl 28 #[.string ⟨#[]⟩] w fun e w'=> ∃err,e=rV #[cmdV 0 (fun _=>0),iV 0,err]∧ErrBare a err 4∧Below w.heap.size w w':=by
 have hc:=(errs3 hE (.cells z10 59) (.cells z10 59) (.cells z9 33)).c3;go_enter Tryz.func28,Tryz.ntmps28;go_wp2_with fail;refine zD6 0 rfl ?_;go_wp2_with fail
 go_step3
 refine⟨rfl,?_⟩;go_wp2_with fail;go_region;all_goals(try go_wp2)
 all_goals
  simp only[Exit.noGoto];refine bodyPost_ret (v:=.tuple #[cmdV 0 (fun _=>0),iV 0,.iface 296 (.pointer (some (a 3)))]) (by simp[results,Tryz.results28,go_sem]) rfl ⟨_,rfl,.inr ⟨3,by omega,rfl,rfl⟩,?_⟩;repeat(first|exact Below.refl _ _|refine Below.drew ?_|refine zA2 ?_ _)
theorem zPh(a:Nat→Addr)(st:Nat→ByteArray)(s:ByteArray)(w:World)(hE:Errs w a st)(h:0<s.size)(h0:bAt s 0=0):
 Cl 28 #[.string s] w fun e w'=> ∃err,e=rV #[cmdV 0 (fun _=>0),iV 0,err]∧ErrBare a err 5∧Below w.heap.size w w':=by
 have hc:=(errs3 hE (.cells z10 59) (.cells z10 59) (.cells z9 33)).c4;have hb:=zAn s 0 h;rw[h0]at hb;have hsz:((s.size:Int) == 0)=false:=beq_eq_false_iff_ne.2 (by omega);go_enter Tryz.func28,Tryz.ntmps28;go_wp2_with fail;refine zD6 1 rfl ?_;go_wp2_with fail
 go_step3
 refine⟨rfl,?_⟩;go_wp2_with fail;go_region;all_goals(try go_wp2)
 all_goals
  simp only[Exit.noGoto];refine bodyPost_ret (v:=.tuple #[cmdV 0 (fun _=>0),iV 0,.iface 296 (.pointer (some (a 4)))]) (by simp[results,Tryz.results28,go_sem]) rfl ⟨_,rfl,.inr ⟨4,by omega,rfl,rfl⟩,?_⟩;repeat(first|exact Below.refl _ _|refine Below.drew ?_|refine zA2 ?_ _)
theorem zPi(a:Nat→Addr)(st:Nat→ByteArray)(s:ByteArray)(w:World)(hE:Errs w a st)(h:0<s.size)(h0:bAt s 0≠0)(h1:s.size<bAt s 0+1):
 Cl 28 #[.string s] w fun e w'=> ∃err,e=rV #[cmdV 0 (fun _=>0),iV 0,err]∧ErrBare a err 4∧Below w.heap.size w w':=by
 have hc:=(errs3 hE (.cells z10 59) (.cells z10 59) (.cells z9 33)).c3;have hb:=zAn s 0 h;have hlt:=zAt s 0;generalize bAt s 0=n at *;have hwn:wrap64 ((n:Nat):Int)=n:=by unfold wrap64;omega
 have hz:=beq_eq_false_iff_ne.2 (by omega);have hsz:=beq_eq_false_iff_ne.2 (by omega);go_enter Tryz.func28,Tryz.ntmps28;go_wp2_with fail;refine zD6 0 rfl ?_;go_wp2_with fail
 go_step3
 refine⟨rfl,?_⟩;go_wp2_with fail;go_region;all_goals(try go_wp2)
 all_goals
  simp only[Exit.noGoto];refine bodyPost_ret (v:=.tuple #[cmdV 0 (fun _=>0),iV 0,.iface 296 (.pointer (some (a 3)))]) (by simp[results,Tryz.results28,go_sem]) rfl ⟨_,rfl,.inr ⟨3,by omega,rfl,rfl⟩,?_⟩;repeat(first|exact Below.refl _ _|refine Below.drew ?_|refine zA2 ?_ _)
structure DecMem(w2:World)(R:Nat)(kd:Int):Prop where
 size:R+2<w2.heap.size
 res: ∀j,j<10→w2.cell? (iA R j)=sI 0
 resF: ∀j,w2.frozen? (iA R j)=false
 kind:w2.cell? (iA (R+1) 0)=sI kd
 cmd: ∀j,j<9→w2.cell? (iA (R+1) (1+j))=sI 0
 cmdF: ∀j,w2.frozen? (iA (R+1) j)=false
 num: ∀j,j<9→w2.cell? (iA (R+2) j)=sI 0
 numF: ∀j,w2.frozen? (iA (R+2) j)=false
theorem zGq(w:World)(kd:Int)(w2:World)(W:World)(hW:W=((w.alloc (.cells z10 59)).alloc (.cells #[iV kd,iV 0,iV 0,iV 0,iV 0,iV 0,iV 0,iV 0,iV 0,iV 0] 59)).alloc (.cells z9 33))
 (hb:Below W.heap.size W w2):DecMem w2 w.heap.size kd:=by
 subst hW;have e9: ∀j,j<9→j=0∨j=1∨j=2∨j=3∨j=4∨j=5∨j=6∨j=7∨j=8:=fun j hj=>by omega
 have e10: ∀j,j<10→j=0∨j=1∨j=2∨j=3∨j=4∨j=5∨j=6∨j=7∨j=8∨j=9:=fun j hj=>by omega
 refine⟨by have:=hb.size;simp at this;omega,fun j hj=>?_,fun j=>?_,?_,fun j hj=>?_,fun j=>?_,fun j hj=>?_,fun j=>?_⟩
 ·rw[hb.cell (p:=(iA w.heap.size j)) (by simp;omega),World.cell?_alloc_lt _ _ _ (by simp;omega),World.cell?_alloc_lt _ _ _ (by simp)];rcases e10 j hj with rfl|rfl|rfl|rfl|rfl|rfl|rfl|rfl|rfl|rfl<;>simp
 ·rw[hb.frozen (p:=(iA w.heap.size j)) (by simp;omega),World.frozen?_alloc_old _ _ _ (by simp;omega),World.frozen?_alloc_old _ _ _ (by simp)];simp
 ·rw[hb.cell (p:=(iA (w.heap.size+1) 0)) (by simp),World.cell?_alloc_lt _ _ _ (by simp)];simp
 ·rw[hb.cell (p:=(iA (w.heap.size+1) (1+j))) (by simp),World.cell?_alloc_lt _ _ _ (by simp)];rcases e9 j hj with rfl|rfl|rfl|rfl|rfl|rfl|rfl|rfl|rfl<;>simp
 ·rw[hb.frozen (p:=(iA (w.heap.size+1) j)) (by simp),World.frozen?_alloc_old _ _ _ (by simp)];simp
 ·rw[hb.cell (p:=(iA (w.heap.size+2) j)) (by simp),World.cell?_alloc_at _ _ _ _ (by simp)];rcases e9 j hj with rfl|rfl|rfl|rfl|rfl|rfl|rfl|rfl|rfl<;>simp
 ·rw[hb.frozen (p:=(iA (w.heap.size+2) j)) (by simp),World.frozen?_alloc_at _ _ _ _ (by simp)]
theorem zPj(a:Nat→Addr)(st:Nat→ByteArray)(s:ByteArray)(w:World)(hE:Errs w a st)(hW:Wids w)(h:0<s.size)(h0:bAt s 0≠0)(h1:bAt s 0+1≤s.size)(hbad: ¬(1≤bAt s 1∧bAt s 1≤5∧2+wsum (terms (bAt s 1))=bAt s 0+1)):
 Cl 28 #[.string s] w fun e w'=> ∃err,e=rV #[cmdV 0 (fun _=>0),iV 0,err]∧ErrBare a err 5∧Below w.heap.size w w':=by
 have hb:=zAn s 0 h;have hs1:1<s.size:=by omega
 have hb1:=zAn s 1 hs1;have hlt:=zAt s 0;have hlt1:=zAt s 1;have HE:=hid hE;have HW:=hid hW;generalize bAt s 0=n at *;generalize bAt s 1=kd at *;have HBD:=hid hbad;have hwn:wrap64 ((n:Nat):Int)=n:=by unfold wrap64;omega
 have hwk:wrap64 ((kd:Nat):Int)=kd:=by unfold wrap64;omega
 have hz:((n:Int) == 0)=false:=beq_eq_false_iff_ne.2 (by omega);have hsz:((s.size:Int) == 0)=false:=beq_eq_false_iff_ne.2 (by omega);go_enter Tryz.func28,Tryz.ntmps28;go_wp2_with fail;refine zD6 1 rfl ?_;go_wp2_with fail;refine(zEo (kd:Int) _).mono ?_;rintro e w2 ⟨ta,rfl,hia,hb2⟩;have HM:=hid (zGq w (kd:Int) w2 _ rfl hb2);have HB2:=hid (((((Below.refl _ _).alloc (Nat.le_refl _) _).alloc (by simp) _).alloc (by simp;omega) _).trans (hb2.mono (by simp;omega)));have hce:=(HE.below HB2).c4;have hl4:4<w.heap.size:=zA4 HE.c4;have hn4: ¬w.heap.size=4:=by omega
 have hn4': ¬4=w.heap.size:=by omega
 have hr0:=HM.res 0 (by omega);have hg0:=HM.resF 0;have hr1:=HM.res 1 (by omega);have hg1:=HM.resF 1;have hr2:=HM.res 2 (by omega);have hg2:=HM.resF 2;have hr3:=HM.res 3 (by omega);have hg3:=HM.resF 3;have hr4:=HM.res 4 (by omega);have hg4:=HM.resF 4;have hr5:=HM.res 5 (by omega);have hg5:=HM.resF 5;have hr6:=HM.res 6 (by omega);have hg6:=HM.resF 6;have hr7:=HM.res 7 (by omega);have hg7:=HM.resF 7;have hr8:=HM.res 8 (by omega);have hg8:=HM.resF 8;have hr9:=HM.res 9 (by omega);have hg9:=HM.resF 9;by_cases hk:1≤(kd:Int)∧(kd:Int)≤5
 ·have hkd:decide (1≤(kd:Int)∧(kd:Int)≤5)=true:=by simp;omega
  rw[hkd];have hws:=zF (terms (kd:Int));have hne:2+fsum (terms (kd:Int))≠(n:Int)+1:=by
   intro e;exact HBD ⟨by omega,by omega,by omega⟩
  have hfr:=zDh (kd:Int) ta w2 hia (HW.below HB2);generalize 2+fsum (terms (kd:Int))=F at *;have HFR:=hid hfr;have hq:((1:Int)+(n:Int) != F)=true:=by rw[bne_iff_ne];omega
  go_wp2_with fail;refine HFR.mono ?_;rintro e w' ⟨rfl,rfl⟩;go_wp2_with fail
  go_step3
  refine⟨rfl,?_⟩;go_wp2_with fail;go_region;all_goals(try go_wp2)
  all_goals
   simp only[Exit.noGoto];refine bodyPost_ret (v:=.tuple #[cmdV 0 (fun _=>0),iV 0,.iface 296 (.pointer (some (a 4)))]) (by simp[results,Tryz.results28,go_sem,hr0,hr1,hr2,hr3,hr4,hr5,hr6,hr7,hr8,hr9]) rfl ⟨_,rfl,.inr ⟨4,by omega,rfl,rfl⟩,?_⟩;exact Below.drew (keep10 HB2 _ _ _ _ _ _ _ _ _ _)
 ·have hkd:decide (1≤(kd:Int)∧(kd:Int)≤5)=false:=by simp;omega
  rw[hkd];go_wp2_with fail
  go_step3
  refine⟨rfl,?_⟩;go_wp2_with fail;go_region;all_goals(try go_wp2)
  all_goals
   simp only[Exit.noGoto];refine bodyPost_ret (v:=.tuple #[cmdV 0 (fun _=>0),iV 0,.iface 296 (.pointer (some (a 4)))]) (by simp[results,Tryz.results28,go_sem,hr0,hr1,hr2,hr3,hr4,hr5,hr6,hr7,hr8,hr9]) rfl ⟨_,rfl,.inr ⟨4,by omega,rfl,rfl⟩,?_⟩;exact Below.drew (keep10 HB2 _ _ _ _ _ _ _ _ _ _)
theorem keep9{w':World}{B C:Nat}(h:Below B w w')(hC:B≤C)(x1 x2 x3 x4 x5 x6 x7 x8 x9:Value):Below B w (((((((((w'.setCell (iA C 1) x1).setCell (iA C 2) x2).setCell (iA C 3) x3).setCell (iA C 4) x4).setCell (iA C 5) x5).setCell (iA C 6) x6).setCell (iA C 7) x7).setCell (iA C 8) x8).setCell (iA C 9) x9):=
 ((((((((h.setCell (p:=(iA C 1)) hC x1).setCell (p:=(iA C 2)) hC x2).setCell (p:=(iA C 3)) hC x3).setCell (p:=(iA C 4)) hC x4).setCell (p:=(iA C 5)) hC x5).setCell (p:=(iA C 6)) hC x6).setCell (p:=(iA C 7)) hC x7).setCell (p:=(iA C 8)) hC x8).setCell (p:=(iA C 9)) hC x9
structure DecEnd(w4:World)(R:Nat)(kd:Int):Prop where
 cellR: ∀j,j<10→w4.cell? (iA R j)=sI 0
 frR: ∀j,w4.frozen? (iA R j)=false
 kind:w4.cell? (iA (R+1) 0)=sI kd
 cellC: ∀j,j<9→w4.cell? (iA (R+1) (1+j))=sI 0
 frC: ∀j,w4.frozen? (iA (R+1) j)=false
theorem decEnd{w2 wr:World}{R:Nat}{kd:Int}(hm:DecMem w2 R kd)(hg:w2.grownBy wr (some (R+2)))(hb:Below wr.heap.size wr w4):DecEnd w4 R kd:=by
 have hs:=hm.size;have hs':=hg.size;have cc: ∀(b o:Nat),b<R+2→w4.cell? (iA b o)=w2.cell? (iA b o):=fun b o hbo=>
  (hb.cell (p:=(iA b o)) (by show b<wr.heap.size;omega)).trans (World.cell?_of_block (a:=(iA b o)) (hg.block b (by omega) (by intro e;injection e with e;omega)))
 have ff: ∀(b o:Nat),b<R+2→w4.frozen? (iA b o)=w2.frozen? (iA b o):=fun b o hbo=>
  (hb.frozen (p:=(iA b o)) (by show b<wr.heap.size;omega)).trans (World.frozen?_of_block (a:=(iA b o)) (hg.block b (by omega) (by intro e;injection e with e;omega)))
 exact⟨fun j hj=>(cc R j (by omega)).trans (hm.res j hj),fun j=>(ff R j (by omega)).trans (hm.resF j),(cc (R+1) 0 (by omega)).trans hm.kind,
  fun j hj=>(cc (R+1) (1+j) (by omega)).trans (hm.cmd j hj),fun j=>(ff (R+1) j (by omega)).trans (hm.cmdF j)⟩
theorem zPk(a:Nat→Addr)(st:Nat→ByteArray)(s:ByteArray)(w:World)(hE:Errs w a st)(hW:Wids w)(h:0<s.size)(h0:bAt s 0≠0)(h1:bAt s 0+1≤s.size)(hm:s.size≤1000000000)(hok:1≤bAt s 1∧bAt s 1≤5∧2+wsum (terms (bAt s 1))=bAt s 0+1):
 Cl 28 #[.string s] w fun e w'=>e=rV #[cmdV (bAt s 1) (reads s.data.toList 2 (terms (bAt s 1)) (fun _=>0)),iV ((bAt s 0:Int)+1),.nilIface]∧Below w.heap.size w w':=by
 have hb:=zAn s 0 h;have hs1:1<s.size:=by omega
 have hb1:=zAn s 1 hs1;have hlt:=zAt s 0;have hlt1:=zAt s 1;have HW:=hid hW;have h9:=zBb (hW 0 (by omega));generalize bAt s 0=n at *;generalize bAt s 1=kd at *;obtain⟨hk1,hk5,hsum⟩:=hok;have hwn:wrap64 ((n:Nat):Int)=n:=by unfold wrap64;omega
 have hwk:wrap64 ((kd:Nat):Int)=kd:=by unfold wrap64;omega
 have hz:=beq_eq_false_iff_ne.2 (by omega);have hsz:=beq_eq_false_iff_ne.2 (by omega);have HSUM:=hid hsum;go_enter Tryz.func28,Tryz.ntmps28;go_wp2_with fail
 go_step3
 go_wp2_with fail;refine(zEn (kd:Int) _).mono ?_;rintro e w2 ⟨ta,rfl,hia,hb2,hfa⟩;have hmem:=zGq w (kd:Int) w2 _ rfl hb2;have HB2:=hid (((((Below.refl _ _).alloc (Nat.le_refl _) _).alloc (by simp) _).alloc (by simp;omega) _).trans (hb2.mono (by simp;omega)));have hs2:=hmem.size;have HW2:=hid (HW.below HB2);have hkd:decide (1≤(kd:Int)∧(kd:Int)≤5)=true:=by simp;omega
 rw[hkd];have hws:=zF (terms (kd:Int));have hfr:=zDh (kd:Int) ta w2 hia HW2;have hFeq:2+fsum (terms (kd:Int))=(1:Int)+(n:Int):=by have:=HSUM;omega
 rw[hFeq]at hfr;have HFR:=hid hfr;go_wp2_with fail;refine HFR.mono ?_;rintro e w' ⟨rfl,rfl⟩;have hlen:(whichs (kd:Int)).length=(terms (kd:Int)).length:=by simp[whichs]
 have hn9:=zBn (kd:Int);have hg0:w'.grownBy w' (some (w.heap.size+2)):=⟨rfl,rfl,rfl,Nat.le_refl _,fun _ _ _=>rfl⟩;rcases hia with⟨rfl,hnil⟩|⟨ba,rfl,hne',hca⟩
 ·have ht:terms (kd:Int)= []:=by simpa [whichs] using hnil
  have HV:Hid (reads s.data.toList 2 (terms (kd:Int)) (fun _=>0)=fun _=>0):=by show _=_;rw[ht];rfl
  have hgr:=hg0;have hv0:=hmem.num 0 (by omega);have hv1:=hmem.num 1 (by omega);have hv2:=hmem.num 2 (by omega);have hv3:=hmem.num 3 (by omega);have hv4:=hmem.num 4 (by omega);have hv5:=hmem.num 5 (by omega);have hv6:=hmem.num 6 (by omega);have hv7:=hmem.num 7 (by omega);have hv8:=hmem.num 8 (by omega);go_wp2_with fail;refine wp_loop_rounds 1 ?_;rw[rounds_succ];go_wp2_with fail;refine(zGp (fun _=>0) _).mono ?_;rintro e w4 ⟨rfl,hb4⟩;have HD:=decEnd hmem hgr hb4;have HB4:=hid (HB2.trans ((zB1 hgr (by omega) (by omega)).trans (hb4.mono (by have:=hgr.size;omega))));have hkk:=HD.kind;have hr0:=HD.cellR 0 (by omega);have hg0:=HD.frR 0;have hr1:=HD.cellR 1 (by omega);have hg1:=HD.frR 1;have hr2:=HD.cellR 2 (by omega);have hg2:=HD.frR 2;have hr3:=HD.cellR 3 (by omega);have hg3:=HD.frR 3;have hr4:=HD.cellR 4 (by omega);have hg4:=HD.frR 4;have hr5:=HD.cellR 5 (by omega);have hg5:=HD.frR 5
  have hr6:=HD.cellR 6 (by omega);have hg6:=HD.frR 6;have hr7:=HD.cellR 7 (by omega);have hg7:=HD.frR 7;have hr8:=HD.cellR 8 (by omega);have hg8:=HD.frR 8;have hr9:=HD.cellR 9 (by omega);have hg9:=HD.frR 9;have hc0:=HD.cellC 0 (by omega);have hc1:=HD.cellC 1 (by omega);have hc2:=HD.cellC 2 (by omega);have hc3:=HD.cellC 3 (by omega);have hc4:=HD.cellC 4 (by omega);have hc5:=HD.cellC 5 (by omega);have hc6:=HD.cellC 6 (by omega);have hc7:=HD.cellC 7 (by omega);have hc8:=HD.cellC 8 (by omega);have hf1:=HD.frC 1;have hf2:=HD.frC 2;have hf3:=HD.frC 3;have hf4:=HD.frC 4;have hf5:=HD.frC 5;have hf6:=HD.frC 6;have hf7:=HD.frC 7;have hf8:=HD.frC 8;have hf9:=HD.frC 9;go_wp2;simp only[Exit.noGoto]
  refine bodyPost_ret (v:=.tuple #[cmdV (kd:Int) (fun _=>0),iV ((1:Int)+(n:Int)),.nilIface]) (by simp[results,Tryz.results28,go_sem,hr0,hr1,hr2,hr3,hr4,hr5,hr6,hr7,hr8,hr9]) rfl ⟨by rw[HV.out,Int.add_comm],?_⟩;exact keep10 (keep9 HB4 (by omega) _ _ _ _ _ _ _ _ _) _ _ _ _ _ _ _ _ _ _
 ·rw[hlen];have HA:=hid hca;have HL:=hid hlen;generalize hN:(terms (kd:Int)).length=L at *;have HN:=hid hN;have hbaC:ba≠w.heap.size+2:=by have:=hfa ba 0 _ _ rfl;simp at this;omega
  have HM:=hid hmem;go_wp2_with fail;go_loopw [10,47] (fun at_ i wr=> ∃k:Nat,k≤L∧i=iV k∧at_=iV ((2+wsum ((terms (kd:Int)).take k):Nat):Int)∧w'.grownBy wr (some (w.heap.size+2))∧
   (∀j,j<9→cI wr (w.heap.size+2) j (reads s.data.toList 2 ((terms (kd:Int)).take k) (fun _=>0) j))∧(∀j,wr.frozen? (iA (w.heap.size+2) j)=false)) (fun _ i _=>L - (intOf i).toNat)
  case atStart=>exact⟨0,Nat.zero_le _,rfl,rfl,hg0,HM.num,HM.numF⟩
  case round=>
   obtain⟨k,hkL,rfl,rfl,hgr,hcv,hfz⟩:=hrel;have HCV:=hid hcv;have HFZ:=hid hfz;by_cases hlt:k<L
   ·have hkt:k<(terms (kd:Int)).length:=by rw[HN.out];exact hlt
    have hok:=zAi (kd:Int) _ (List.getElem_mem hkt);have hwd:=zDg (kd:Int) _ (List.getElem_mem hkt);have hws:wsum ((terms (kd:Int)).take (k+1))=wsum ((terms (kd:Int)).take k)+(terms (kd:Int))[k].2:=by
     rw[List.take_succ_eq_append_getElem hkt,zF0]
    have hrd:reads s.data.toList 2 ((terms (kd:Int)).take (k+1)) (fun _=>0)=upd (reads s.data.toList 2 ((terms (kd:Int)).take k) (fun _=>0)) (terms (kd:Int))[k].1 (rd s.data.toList (2+wsum ((terms (kd:Int)).take k)) (terms (kd:Int))[k]):=by
     rw[List.take_succ_eq_append_getElem hkt,zF1]
    have hca:=hgr.cell (HA k (by rw[HL.out];exact hlt)) (by simpa using hbaC);have htl:=zF2 (terms (kd:Int)) (k+1);have hsm:=HSUM;simp only[whichs,List.getElem_map]at hca;generalize hp:(terms (kd:Int))[k]=p at *;obtain⟨pa,pb⟩:=p;obtain⟨hp1,hp2,hp3⟩:=hok;simp only at hp1 hp2 hp3 hca hws hrd hwd;have hcx:=HCV pa hp1;have hfx:=HFZ pa;have HRD:=hid hrd;have HWS:=hid hws;have hsl:2+wsum ((terms (kd:Int)).take k)+pb≤s.size:=by omega
    have hwr:Wids wr:=fun i hi=>hgr.cell (HW2 i hi) (by intro e;injection e with e;have e':9=w.heap.size+2:=e;omega)
    generalize hat':2+wsum ((terms (kd:Int)).take k)=A at *;have HAT:=hid hat';have hta:=zPf s A pa pb wr hwr hp1 hwd hp2 hp3 hsl hm;have hcw: ∀x:Value,(wr.setCell (iA (w.heap.size+2) pa) x).cell? (iA 9 pa)=sI (pb:Int):=fun x=>by
     rw[World.cell?_setCell_other _ _ _ _ (by intro e;injection e with e1 e2;omega),hwr pa hp1,hwd]
    have HNX:Hid (∀x:Int,rd s.data.toList A (pa,pb)=x→∀j,j<9→(wr.setCell (iA (w.heap.size+2) pa) (iV x)).cell? (iA (w.heap.size+2) j)=sI (reads s.data.toList 2 ((terms (kd:Int)).take (k+1)) (fun _=>0) j)):=fun x hx j hj=>by
     rw[HRD.out,hx];unfold upd;by_cases hjp:j=pa
     ·subst hjp;rw[if_pos rfl];exact World.cell?_setCell_same _ _ _ hcx
     ·rw[if_neg hjp,World.cell?_setCell_other _ _ _ _ (by intro e;injection e with e1 e2;omega)];exact HCV j hj
    have HFK:Hid (∀(x:Value) (j:Nat),(wr.setCell (iA (w.heap.size+2) pa) x).frozen? (iA (w.heap.size+2) j)=false):=fun x j=>by
     rw[World.frozen?_setCell];exact HFZ j
    generalize hrx:rd s.data.toList A (pa,pb)=x at *;have HRX:=hid hrx;have HTA:=hid hta;have hpz:(0:Int)≤(pa:Int)∧(pa:Int)<9:=by omega
    go_wp2_with fail;refine HTA.mono ?_;rintro e w3 ⟨rfl,rfl⟩;go_wp2;go_roundw
    case rel=>exact⟨k+1,by omega,by go_num,zAr (by have:=HAT;rw[HWS.out];omega),zCn hgr _,HNX _ rfl,HFK _⟩
    case measure=>simp[intOf];omega
   ·have hkL':k=L:=by omega
    subst hkL';have htk:=List.take_of_length_le (by rw[HN.out];omega);rw[htk];have HCV2:Hid (∀j,j<9→cI wr (w.heap.size+2) j (reads s.data.toList 2 (terms (kd:Int)) (fun _=>0) j)):=by
     have:=HCV;rw[htk]at this;exact this
    have hv0:=HCV2 0 (by omega);have hv1:=HCV2 1 (by omega);have hv2:=HCV2 2 (by omega);have hv3:=HCV2 3 (by omega);have hv4:=HCV2 4 (by omega);have hv5:=HCV2 5 (by omega);have hv6:=HCV2 6 (by omega);have hv7:=HCV2 7 (by omega);have hv8:=HCV2 8 (by omega);have hmem:=HM;generalize hVV:reads s.data.toList 2 (terms (kd:Int)) (fun _=>0)=V at *;have HV:=hid hVV;go_wp2_with fail;refine(zGp V _).mono ?_;rintro e w4 ⟨rfl,hb4⟩;have HD:=decEnd hmem hgr hb4;have HB4:=hid (HB2.trans ((zB1 hgr (by omega) (by omega)).trans (hb4.mono (by have:=hgr.size;omega))));have hkk:=HD.kind;have hr0:=HD.cellR 0 (by omega);have hg0:=HD.frR 0;have hr1:=HD.cellR 1 (by omega);have hg1:=HD.frR 1;have hr2:=HD.cellR 2 (by omega);have hg2:=HD.frR 2;have hr3:=HD.cellR 3 (by omega);have hg3:=HD.frR 3;have hr4:=HD.cellR 4 (by omega);have hg4:=HD.frR 4;have hr5:=HD.cellR 5 (by omega);have hg5:=HD.frR 5
    have hr6:=HD.cellR 6 (by omega);have hg6:=HD.frR 6;have hr7:=HD.cellR 7 (by omega);have hg7:=HD.frR 7;have hr8:=HD.cellR 8 (by omega);have hg8:=HD.frR 8;have hr9:=HD.cellR 9 (by omega);have hg9:=HD.frR 9;have hc0:=HD.cellC 0 (by omega);have hc1:=HD.cellC 1 (by omega);have hc2:=HD.cellC 2 (by omega);have hc3:=HD.cellC 3 (by omega);have hc4:=HD.cellC 4 (by omega);have hc5:=HD.cellC 5 (by omega);have hc6:=HD.cellC 6 (by omega);have hc7:=HD.cellC 7 (by omega);have hc8:=HD.cellC 8 (by omega);have hf1:=HD.frC 1;have hf2:=HD.frC 2;have hf3:=HD.frC 3;have hf4:=HD.frC 4;have hf5:=HD.frC 5;have hf6:=HD.frC 6;have hf7:=HD.frC 7;have hf8:=HD.frC 8;have hf9:=HD.frC 9;go_wp2;simp only[Exit.noGoto];refine bodyPost_ret (v:=.tuple #[cmdV (kd:Int) V,iV ((1:Int)+(n:Int)),.nilIface]) (by simp[results,Tryz.results28,go_sem,hr0,hr1,hr2,hr3,hr4,hr5,hr6,hr7,hr8,hr9]) rfl ⟨by rw[HV.out,Int.add_comm],?_⟩
    exact keep10 (keep9 HB4 (by omega) _ _ _ _ _ _ _ _ _) _ _ _ _ _ _ _ _ _ _
theorem zPl(a:Nat→Addr)(st:Nat→ByteArray)(s:ByteArray)(w:World)(hE:Errs w a st)(hW:Wids w)(hm:s.size≤1000000000):
 Cl 28 #[.string s] w fun e w'=> ∃err m,e=rV #[cmdV (nextK s) (nextV s),iV m,err]∧ErrBare a err (nextE s)∧m=(if nextE s=0 then nextM s else 0)∧Below w.heap.size w w':=by
 by_cases h:s.size=0
 ·obtain rfl:s=⟨#[]⟩:=by
   apply ByteArray.ext;exact Array.eq_empty_of_size_eq_zero h
  refine(zPg a st w hE).mono ?_;rintro e w' ⟨err,rfl,h1,h2⟩;exact⟨err,0,rfl,h1,rfl,h2⟩
 by_cases h0:bAt s 0=0
 ·have e:nextE s=5:=by unfold nextE;rw[if_neg h,if_pos h0]
  have e1:nextK s=0:=by unfold nextK;rw[e];rfl
  have e2:nextV s=fun _=>0:=by unfold nextV;rw[e];rfl
  rw[e,e1,e2];refine(zPh a st s w hE (by omega) h0).mono ?_;rintro e w' ⟨err,rfl,h1,h2⟩;exact⟨err,0,rfl,h1,rfl,h2⟩
 by_cases h1:s.size<bAt s 0+1
 ·have e:nextE s=4:=by unfold nextE;rw[if_neg h,if_neg h0,if_pos h1]
  have e1:nextK s=0:=by unfold nextK;rw[e];rfl
  have e2:nextV s=fun _=>0:=by unfold nextV;rw[e];rfl
  rw[e,e1,e2];refine(zPi a st s w hE (by omega) h0 h1).mono ?_;rintro e w' ⟨err,rfl,h1,h2⟩;exact⟨err,0,rfl,h1,rfl,h2⟩
 by_cases hok:1≤bAt s 1∧bAt s 1≤5∧2+wsum (terms (bAt s 1))=bAt s 0+1
 ·obtain⟨e1,e2,e3,e⟩:=zF8 s (by omega) h0 (by omega) hok;rw[e,e1,e2,e3];refine(zPk a st s w hE hW (by omega) h0 (by omega) hm hok).mono ?_;rintro e w' ⟨rfl,h2⟩;exact⟨.nilIface,_,rfl,.inl ⟨rfl,rfl⟩,rfl,h2⟩
 ·obtain⟨e1,e2,e3,e⟩:=zF7 s (by omega) h0 (by omega) hok;rw[e,e1,e2];refine(zPj a st s w hE hW (by omega) h0 (by omega) hok).mono ?_;rintro e w' ⟨err,rfl,h1,h2⟩;exact⟨err,0,rfl,h1,rfl,h2⟩
end
end Go.Proofs.YtilbfpnpkkkpgaaGreatDoor
