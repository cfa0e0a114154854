import Derived.Test.YtanfmhonjpjpoaaGreatDoorQ00
import Derived.Test.YtanfmhonjpjpoaaGreatDoorQ03
import Derived.Test.YtanfmhonjpjpoaaGreatDoorQ07
import Derived.Test.YtanfmhonjpjpoaaGreatDoorQ18
import Derived.Test.YtanfmhonjpjpoaaGreatDoorQ20
set_option linter.all false
set_option maxRecDepth 100000
set_option maxHeartbeats 8000000
namespace Go.Proofs.YtanfmhonjpjpoaaGreatDoor
variable{w w':World}{q j:Nat}{v:Nat→Int}{x:Ord}{out odd:List Nat}
open Go.Extern Go.Maps Go.RowKit
theorem wr32(n:Int):IntKind.u32.wrap n=n % 4294967296:=by simp[IntKind.wrap,IntKind.bits,IntKind.signed]
theorem methodNext(h:Value)(w:World):(Go.method 458 65 h "Next").run Tryz.prog w=.ok (255,h) w:=by kernel_rfl
theorem zBj: ∀(n:Nat) (l:List Nat),l.Nodup→(∀x∈l,x<n)→l.length≤n
 |0,l,_,h=>by
  cases l with
  |nil=>exact Nat.le_refl _
  |cons a r=>exact absurd (h a (List.mem_cons_self ..)) (Nat.not_lt_zero a)
 |n+1,l,hn,h=>by
  by_cases hm:n∈l
  ·have h1:=zBj n (l.erase n) (hn.erase n) (fun x hx=>by
    have:=h x (List.mem_of_mem_erase hx);have:x≠n:=fun e1=>by rw[e1,hn.mem_erase_iff]at hx;exact hx.1 rfl
    omega)
   rw[List.length_erase_of_mem hm]at h1;omega
  ·exact Nat.le_succ_of_le (zBj n l hn (fun x hx=>by
    have:=h x hx;have:x≠n:=fun e1=>hm (e1▸hx)
    omega))
theorem zB7{V:Type}{l:List Nat}{f:Nat→Int×V}(h:((l.map f).map Prod.fst).Nodup):l.Nodup:=by
 rw[List.map_map]at h;exact List.Pairwise.of_map _ (fun a b hab e=>hab (e▸rfl)) h
section
variable {F:Nat→Prop} {base:Nat} {w:World} {b i k:Nat} {e:Eng} {g:Gh} {S:Sets} {o r:Ord}
theorem CRep.small(h:CRep F base w b e g S)(hH:Holds e S out odd):S.Small e.all.length:=by
 have lt: ∀{j:Nat} {x:Ord},e.all[j]? =some x→j<e.all.length:=fun hx=>(List.getElem?_eq_some_iff.1 hx).1
 refine⟨zBj _ _ (zB7 (h.body.day.nodup keyedInt)) fun j hj=>?_,zBj _ _ (zB7 (h.body.oth.nodup keyedInt)) fun j hj=>?_,zBj _ _ (zB7 (h.body.ended.nodup keyedInt)) fun j hj=>?_,zBj _ _ (zB7 (h.body.buy.nodup keyedInt)) fun j hj=>?_,zBj _ _ (zB7 (h.body.sel.nodup keyedInt)) fun j hj=>?_⟩
 ·obtain⟨x,hx,_⟩:=(hH.day j).1 hj;exact lt hx
 ·obtain⟨x,hx,_⟩:=(hH.oth j).1 hj;exact lt hx
 ·obtain⟨x,hx,_⟩:=(hH.ended j).1 hj;exact lt hx
 ·obtain⟨x,hx,_⟩:=hH.buy1 j hj;exact lt hx
 ·obtain⟨x,hx,_⟩:=hH.sel1 j hj;exact lt hx
theorem Sets.Small.mono{n m:Nat}(h:S.Small n)(hm:n≤m):S.Small m:=⟨Nat.le_trans h.day hm,Nat.le_trans h.oth hm,Nat.le_trans h.ended hm,Nat.le_trans h.buy hm,Nat.le_trans h.sel hm⟩
theorem Eng.Ok.open_{mp:Int}{st:Nat}(k:Eng.Ok mp st o)(hs:o.status=1):o.opn=o.qty - o.filled:=by have:=k.sum;have:=k.live hs;omega
theorem zA0{x:Int}(h0:0≤x)(h1:x≤4611686018427387904):r63 x:=⟨by omega,by omega⟩
def Eng.again(e:Eng)(o:Ord):Int:=if o.opn<1+e.draw.1 % o.peak then o.opn else 1+e.draw.1 % o.peak
theorem zMr(h:CRep F base w b e g S)(ho:e.all[i]? =some o)(hs:o.status=1)(ok:Eng.Ok e.mp e.stamp o)(ht:o.typ=2)(hdr:e.drawn<4611686018427387904)(hd:Dr e):
 Cl 231 #[iP b,iP (g.blk i)] w fun en w'=>en=.returned (iV (e.again o))∧CRep F base w' b e.draw.2 g S∧Touch F w w':=by
 have hO:=h.oa ho hs;have c3:w.cell? (iA b 3)=some (.iface 65 (iP g.drwB)):=h.cell 3;have c5:cI w (g.blk i) 5 o.peak:=hO.cell 5;have hop:=ok.open_ hs;have hpk:=ok.peak ht;have hr:r63 (o.qty - o.filled):=zA0 (by have:=ok.opn0;omega) (by have:=ok.sum;have:=ok.fil0;have:=ok.can0;have:=ok.qty1;omega);have HNX:Hid (∀W,Same w W→Cl 255 #[iP g.drwB] W fun en w1=>en=.returned (iV e.raw)∧cI w1 (g.blk i) 5 o.peak∧Hid (CRep F base w1 b e.draw.2 g S∧Touch F w w1)):=by
  intro W hW;refine(zMq (h.same hW) hdr hd.len).mono ?_;rintro en w1 ⟨rfl,h1,h2⟩;exact⟨rfl,(h1.oa ho hs).cell 5,h1,hW.touch.trans h2⟩
 have HOP:Hid (∀w1 W,(CRep F base w1 b e.draw.2 g S∧Touch F w w1)→Same w1 W→Cl 124 #[iP (g.blk i)] W fun en w2=>en=.returned (iV o.opn)∧Hid (CRep F base w2 b e.draw.2 g S∧Touch F w w2)):=by
  intro w1 W ⟨h1,h2⟩ hW;refine(zAi ((h1.oa ho hs).same hW) hr).mono ?_;rintro en w2 ⟨rfl,hs2⟩;exact⟨by rw[hop],h1.same (hW.trans hs2),h2.trans (hW.trans hs2).touch⟩
 have hdraw:=e.draw_raw;have hd0:0≤e.draw.1:=by rw[hdraw];omega
 have hd1:e.draw.1<4294967296:=by rw[hdraw];omega
 have HPK:=hid hpk;have HDR:=hid hdraw;have HD:=hid (And.intro hd0 hd1);have hwp:IntKind.u32.wrap o.peak=o.peak:=by rw[wr32];omega
 have hwr:IntKind.u32.wrap e.raw=e.draw.1:=by rw[wr32,hdraw]
 clear h ho hs ok ht hdr hd hO hop hr;go_enter Tryz.func231,Tryz.ntmps231;go_wp2_with fail;have hm:=methodNext (iP g.drwB) w.drew;go_region_with(first|(go_at_call 255;refine(HNX.out w.drew ((Same.refl w).drew)).mono ?_;rintro en w1 ⟨rfl,c5',HZ⟩));all_goals(
  rw[←HDR.out];clear hdraw;have e0:0≤e.draw.1 % o.peak:=Int.emod_nonneg _ (by omega);have e1:e.draw.1 % o.peak<o.peak:=Int.emod_lt_of_pos _ (by omega);have e2:e.draw.1 % o.peak≤1000:=by omega
  clear hpk hd0 hd1 e1 c3 c5 c5' hm hwp hwr;have HE:Hid (e.again o=if o.opn<1+e.draw.1 % o.peak then o.opn else 1+e.draw.1 % o.peak):=rfl;generalize e.draw.1 % o.peak=d at *;go_wp2_with fail;refine(HOP.out w1 w1 HZ.out (Same.refl w1)).mono ?_;rintro en w2 ⟨rfl,HY⟩;by_cases hc:o.opn<1+d
  ·have HE2:Hid (e.again o=o.opn):=HE.trans (if_pos hc);go_wp2;go_ret;exact⟨by rw[HE2.out];rfl,HY.out⟩
  ·have HE2:Hid (e.again o=1+d):=HE.trans (if_neg hc);go_wp2;go_ret;exact⟨by rw[HE2.out];rfl,HY.out⟩)
end
def bt(sd a c:Int):Bool:=if sd=2 then decide (a<c) else decide (c<a)
def ent(al:List Ord)(g:Gh)(j:Nat):Int×Option Nat:=(idAt al j,some (g.blk j))
def Best(sd lim:Int)(al:List Ord)(g:Gh)(B:List Nat)(seen:List (Int×Option Nat)):Option Nat→Prop
 |none=> ∀j∈B,ent al g j∈seen→∀x,al[j]? =some x→bt sd lim x.price=true
 |some k=>k∈B∧∃x,al[k]? =some x∧bt sd lim x.price=false∧∀j∈B,ent al g j∈seen→j≠k→∀y,al[j]? =some y→bt sd lim y.price=true∨Eng.ahead sd x y=true
section
variable {sd lim:Int} {al:List Ord} {g:Gh} {B:List Nat} {seen:List (Int×Option Nat)} {r:Option Nat} {j0:Nat} {o:Ord}
theorem Best.nil:Best sd lim al g B [] none:=fun j _ h=>by cases h
theorem zBk(hinj: ∀i j,i∈B→j∈B→g.blk i=g.blk j→i=j)(h0:j0∈B)(hj:j∈B)(h:ent al g j∈seen++ [ent al g j0]):ent al g j∈seen∨j=j0:=by
 rcases List.mem_append.1 h with h|h
 ·exact .inl h
 ·right;have h:ent al g j=ent al g j0:=by simpa using h
  unfold ent at h;injection h with _ h;injection h with h;exact hinj j j0 hj h0 h
theorem Best.skip(hinj: ∀i j,i∈B→j∈B→g.blk i=g.blk j→i=j)(h0:j0∈B)(ho:al[j0]? =some o)(h:Best sd lim al g B seen r)(hw:bt sd lim o.price=true):Best sd lim al g B (seen++ [ent al g j0]) r:=by
 cases r with
 |none=>
  intro j hj hm x hx;rcases zBk hinj h0 hj hm with h1|rfl
  ·exact h j hj h1 x hx
  ·obtain rfl:o=x:=Option.some.inj (ho.symm.trans hx);exact hw
 |some k=>
  obtain⟨hk,x,hx,hl,ha⟩:=h;refine⟨hk,x,hx,hl,fun j hj hm hne y hy=>?_⟩;rcases zBk hinj h0 hj hm with h1|rfl
  ·exact ha j hj h1 hne y hy
  ·obtain rfl:o=y:=Option.some.inj (ho.symm.trans hy);exact .inl hw
theorem Best.start(hinj: ∀i j,i∈B→j∈B→g.blk i=g.blk j→i=j)(h0:j0∈B)(ho:al[j0]? =some o)(h:Best sd lim al g B seen none)(hw:bt sd lim o.price=false):Best sd lim al g B (seen++ [ent al g j0]) (some j0):=by
 refine⟨h0,o,ho,hw,fun j hj hm hne y hy=>?_⟩;rcases zBk hinj h0 hj hm with h1|rfl
 ·exact .inl (h j hj h1 y hy)
 ·exact absurd rfl hne
theorem Best.take(hinj: ∀i j,i∈B→j∈B→g.blk i=g.blk j→i=j)(h0:j0∈B)(ho:al[j0]? =some o){k:Nat}(hx:al[k]? =some x)(h:Best sd lim al g B seen (some k))(hw:bt sd lim o.price=false)(ha:Eng.ahead sd o x=true):Best sd lim al g B (seen++ [ent al g j0]) (some j0):=by
 obtain⟨hk,x',hx',hl,hb⟩:=h;obtain rfl:x=x':=Option.some.inj (hx.symm.trans hx');refine⟨h0,o,ho,hw,fun j hj hm hne y hy=>?_⟩;rcases zBk hinj h0 hj hm with h1|rfl
 ·by_cases e1:j=k
  ·subst e1;obtain rfl:x=y:=Option.some.inj (hx.symm.trans hy);exact .inr ha
  ·rcases hb j hj h1 e1 y hy with h2|h2
   ·exact .inl h2
   ·exact .inr (Eng.ahead_trans sd o x y ha h2)
 ·exact absurd rfl hne
theorem Best.stay(hinj: ∀i j,i∈B→j∈B→g.blk i=g.blk j→i=j)(h0:j0∈B)(ho:al[j0]? =some o){k:Nat}(hx:al[k]? =some x)(h:Best sd lim al g B seen (some k))(hap:j0≠k→o.stamp≠x.stamp)(ha:Eng.ahead sd o x=false):Best sd lim al g B (seen++ [ent al g j0]) (some k):=by
 obtain⟨hk,x',hx',hl,hb⟩:=h;obtain rfl:x=x':=Option.some.inj (hx.symm.trans hx');refine⟨hk,x,hx,hl,fun j hj hm hne y hy=>?_⟩;rcases zBk hinj h0 hj hm with h1|rfl
 ·exact hb j hj h1 hne y hy
 ·obtain rfl:o=y:=Option.some.inj (ho.symm.trans hy);exact .inr (Eng.ahead_total sd o x (hap hne) ha)
end
theorem zMs{sd lim:Int}{y:Ord}(h1:bt sd lim x.price=false)(h2:bt sd lim y.price=true):Eng.ahead sd x y=true:=by
 unfold bt at h1 h2;unfold Eng.ahead;by_cases hs:sd=2
 ·simp[hs]at *;omega
 ·simp[hs]at *;omega
theorem Best.mate{e:Eng}{g:Gh}{B:List Nat}{seen:List (Int×Option Nat)}{r:Option Nat}{i:Nat}{o:Ord}{sd:Int}(h:Best sd o.price e.all g B seen r)(hall: ∀j∈B,ent e.all g j∈seen)(inv:Eng.EInv e)(hB: ∀j,j∈B↔∃x,e.all[j]? =some x∧Eng.rests sd x=true)(ho:e.all[i]? =some o)(hop:0<o.opn)(hsd:3 - o.side=sd):e.mate i=r:=by
 have hside:=(inv.ok i o ho).side;have hmt: ∀x:Ord,Eng.meets o x.price= !bt sd o.price x.price:=by
  intro x;unfold Eng.meets bt;subst hsd;rcases hside with hs|hs
  ·simp[hs];by_cases hc:x.price≤o.price<;>simp[hc]<;>omega
  ·simp[hs];by_cases hc:o.price≤x.price<;>simp[hc]<;>omega
 unfold Eng.mate;rw[ho];simp only[hop,if_true];rw[hsd];cases r with
 |none=>
  rcases hf:e.first sd with _|c
  ·rfl
  ·obtain⟨hc,z,hz,hrz⟩:=Eng.firstTo_some hf;simp only[hz];have hcB:=(hB c).2 ⟨z,hz,hrz⟩;have:=h c hcB (hall c hcB) z hz;rw[hmt,this];rfl
 |some k=>
  obtain⟨hk,x,hx,hl,hb⟩:=h;obtain⟨x',hx',hr⟩:=(hB k).1 hk;obtain rfl:x=x':=Option.some.inj (hx.symm.trans hx');have hf:e.first sd=some k:=Eng.first_is inv.apart hx hr (fun j y hne hy hry=>by
   have hjB:=(hB j).2 ⟨y,hy,hry⟩;rcases hb j hjB (hall j hjB) hne y hy with h1|h1
   ·exact zMs hl h1
   ·exact h1)
  rw[hf];simp only[hx];rw[hmt,hl];rfl
theorem zHa(a b:Int):Cl 267 #[iV a,iV b] w fun en w'=>en=.returned (.bool (decide (b<a)))∧w'=w:=by
 go_enter Tryz.func267,Tryz.ntmps267;go_wp2;go_ret;exact⟨rfl,rfl⟩
theorem zHb(a b:Int):Cl 271 #[iV a,iV b] w fun en w'=>en=.returned (.bool (decide (a<b)))∧w'=w:=by
 go_enter Tryz.func271,Tryz.ntmps271;go_wp2;go_ret;exact⟨rfl,rfl⟩
def optPtr(g:Gh)(r:Option Nat):Value:=ptrOf (r.map g.blk)
section
variable {F:Nat→Prop} {base:Nat} {w:World} {b:Nat} {e:Eng} {g:Gh} {S:Sets}
theorem zMt(lim:Int)(h:CRep F base w b e g S)(inv:Eng.EInv e)(hH:Holds e S [] []):
 Cl 268 #[iP g.buyB,iV lim,.func (.func 267) #[] #[]] w fun en w'=> ∃r,en=.returned (optPtr g r)∧(∃seen,Best 1 lim e.all g S.buy seen r∧∀j∈S.buy,ent e.all g j∈seen)∧Below w.heap.size w w':=by
 have hpm:=h.body.buy;have d0:w.cell? (iA g.buyB 0)=some (.map (some g.buyM)):=by simp[World.cell?,h.body.buyB]
 have hin: ∀j∈S.buy,∃x,e.all[j]? =some x∧¬x.shown=0:=fun j hj=>by
  obtain⟨x,h1,h2,h3⟩:=hH.buy1 j hj;exact⟨x,h1,h3.resolve_right (by simp)⟩
 have hinj: ∀i j,i∈S.buy→j∈S.buy→g.blk i=g.blk j→i=j:=fun i j hi hj hij=>by
  obtain⟨x,h1,_⟩:=hin i hi;obtain⟨y,h2,_⟩:=hin j hj;exact h.body.inj i j (List.getElem?_eq_some_iff.1 h1).1 (List.getElem?_eq_some_iff.1 h2).1 hij
 have hoa: ∀(W:World),Bw w W→∀j∈S.buy,∃x,e.all[j]? =some x∧¬x.shown=0∧OA W (g.blk j) j x:=fun W hW j hj=>by
  obtain⟨x,h1,h2⟩:=hin j hj;have hst:x.status=1:=Classical.byContradiction fun hc=>h2 ((inv.ok j x h1).dead hc)
  have hO:=h.oa h1 hst;exact⟨x,h1,h2,⟨(hW.block _ hO.lt).trans hO.blk⟩⟩
 have HIN:=hid hin;have HINJ:=hid hinj;have HOA:=hid hoa;have HAP:=hid inv.apart;go_enter Tryz.func268,Tryz.ntmps268;go_wp2_with(first
  |(at_range;refine zBu _ rfl _ _ rfl keyedInt Tryz.underlying110 rfl hpm ?_;intro w0 hpr0 hg0 hs0)
  |go_in)
 go_frame;go_loopw [7] (fun fv wr=> ∃(seen rem:List (Int×Option Nat)) (r:Option Nat),fv=optPtr g r∧PR ptrElem Tryz.prog 3 wr g.buyM w.heap.size (S.buy.map fun i=>(idAt e.all i,some (g.blk i))) seen rem∧Best 1 lim e.all g S.buy seen r∧Bw w wr) (fun _ wr=>wr.rangeLeft g.buyM w.heap.size)
 case atStart=>exact⟨[],_,none,rfl,hpr0,Best.nil,(Below.refl w.heap.size w).grown hg0 (Nat.le_refl _) (by simp)⟩
 case round=>
  obtain⟨seen,rem,r,rfl,hpr,hbest,hbel⟩:=hrel;have HBE:=hid hbest;have HBL:=hid hbel;go_wp2_with(first
   |(at_next;refine zBv _ rfl _ rfl keyedInt Tryz.underlying3 g.buyM w.heap.size seen rem rfl hpr ?_ ?_)
   |go_in)
  ·intro h0;have HALL:Hid (∀j∈S.buy,ent e.all g j∈seen):=fun j hj=>by
    have:=hpr.1;rw[h0,List.append_nil]at this;exact this.mem_iff.2 (List.mem_map_of_mem (f:=fun i=>(idAt e.all i,some (g.blk i))) hj)
   go_wp2;go_ret;exact⟨r,rfl,⟨seen,HBE.out,HALL.out⟩,HBL.out⟩
  ·intro k v rem' w1 j0 hj0 hk hv hpr1 hg1 hs1 hlt hen;subst hk hv;have hval:ptrElem.val (some (g.blk j0))=iP (g.blk j0):=rfl;rw[hval]at hen⊢;have hB1:Bw w w1:=HBL.grown hg1 HBL.size (by intro k hk;injection hk with hk;omega);obtain⟨x,hx,hsh,hO⟩:=HOA.out w1 hB1 j0 hj0;have x3:cI w1 (g.blk j0) 3 x.price:=hO.cell 3;have x12:cI w1 (g.blk j0) 12 x.stamp:=hO.cell 12;go_wp2_with fail;refine(zM6 lim x.price).mono ?_;rintro en w2 ⟨rfl,hs2⟩;have hpr2:PR ptrElem Tryz.prog 3 w2 g.buyM w.heap.size (S.buy.map fun i=>(idAt e.all i,some (g.blk i))) (seen++ [ent e.all g j0]) rem':=hpr1.of_blocks (by rw[hs2.heap]) (by rw[hs2.heap]);have HPR:=hid hpr2;have HB2:Hid (Bw w w2):=⟨hs2.os.trans hB1.os,hs2.tape.trans hB1.tape,hs2.output.trans hB1.output,by rw[hs2.heap];exact hB1.size,fun k hk=>by rw[hs2.heap];exact hB1.block k hk⟩;have HLT:Hid (w2.rangeLeft g.buyM w.heap.size<wr.rangeLeft g.buyM w.heap.size):=by
    show _<_;have:w2.rangeLeft g.buyM w.heap.size=w1.rangeLeft g.buyM w.heap.size:=by unfold World.rangeLeft;rw[hs2.heap]
    rw[this];exact hlt
   have hO2:=hO.same hs2;have x3:cI w2 (g.blk j0) 3 x.price:=hO2.cell 3;have x12:cI w2 (g.blk j0) 12 x.stamp:=hO2.cell 12;have HX:=hid hx;have HSH:=hid hsh;have HJ:=hid hj0;cases q1:decide (x.price<lim)
   case true=>
    go_wp2;go_roundw
    case rel=>exact⟨_,rem',r,rfl,HPR.out,HBE.skip HINJ.out HJ.out HX.out (by simpa [bt] using q1),HB2.out⟩
    case measure=>exact HLT.out
   case false=>
    have HQ:Hid (bt 1 lim x.price=false):=by show _=_;simpa [bt] using q1
    cases r with
    |none=>
     unfold optPtr ptrOf;simp only[Option.map_none];go_wp2_with fail;go_quiet (fail);go_wp2_with fail;go_roundw
     case rel=>exact⟨_,rem',some j0,rfl,HPR.of_blocks rfl rfl,HBE.start HINJ.out HJ.out HX.out HQ.out,⟨HB2.os,HB2.tape,HB2.output,HB2.size,HB2.block⟩⟩
     case measure=>exact HLT.out
    |some k=>
     obtain⟨hkB,y,hy,hly,_⟩:=HBE.out;obtain⟨y',hy',hysh,hOy⟩:=HOA.out w2 HB2.out k hkB;obtain rfl:y=y':=Option.some.inj (hy.symm.trans hy');have y3:cI w2 (g.blk k) 3 y.price:=hOy.cell 3;have y12:cI w2 (g.blk k) 12 y.stamp:=hOy.cell 12;have HOY:=hid hOy;have HY:=hid hy;have HAPK:Hid (j0≠k→x.stamp≠y.stamp):=fun hne=>HAP.out j0 k x y HX.out hy hne HSH.out hysh
     have HOX:Hid (OA w2 (g.blk j0) j0 x):=by
      obtain⟨x',hx',_,h3⟩:=HOA.out w2 HB2.out j0 HJ.out;obtain rfl:x=x':=Option.some.inj (HX.out.symm.trans hx');exact h3
     have HCL:Hid (∀W,Cl 267 #[iV x.price,iV y.price] W fun en w3=>en=.returned (.bool (decide (y.price<x.price)))∧w3=W):=fun W=>zHa x.price y.price
     unfold optPtr ptrOf;simp only[Option.map_some];cases q2:decide (y.price<x.price)
     case true=>
      have HAH:Hid (Eng.ahead 1 x y=true):=by show _=_;unfold Eng.ahead;simp at q2⊢;exact .inl q2
      simp only[q2]at HCL;go_wp2_with fail;go_quiet (exact Calls.quiet_of_same (HCL.out _));go_wp2_with fail;go_roundw
      case rel=>exact⟨_,rem',some j0,rfl,HPR.of_blocks rfl rfl,HBE.take HINJ.out HJ.out HX.out HY.out HQ.out HAH.out,⟨HB2.os,HB2.tape,HB2.output,HB2.size,HB2.block⟩⟩
      case measure=>exact HLT.out
     case false=>
      simp only[q2]at HCL;cases q3:(x.price == y.price)
      case false=>
       have HAH:Hid (Eng.ahead 1 x y=false):=by show _=_;unfold Eng.ahead;rw[q3];simpa using q2
       go_wp2_with fail;go_quiet (exact Calls.quiet_of_same (HCL.out _));go_wp2_with fail;go_roundw
       case rel=>exact⟨_,rem',some k,rfl,HPR.of_blocks rfl rfl,HBE.stay HINJ.out HJ.out HX.out HY.out HAPK.out HAH.out,⟨HB2.os,HB2.tape,HB2.output,HB2.size,HB2.block⟩⟩
       case measure=>exact HLT.out
      case true=>
       cases q4:decide (x.stamp<y.stamp)
       case true=>
        have HAH:Hid (Eng.ahead 1 x y=true):=by show _=_;unfold Eng.ahead;rw[q3,q4];simp
        go_wp2_with fail;go_quiet (exact Calls.quiet_of_same (HCL.out _));go_wp2_with fail;go_roundw
        case rel=>exact⟨_,rem',some j0,rfl,HPR.of_blocks rfl rfl,HBE.take HINJ.out HJ.out HX.out HY.out HQ.out HAH.out,⟨HB2.os,HB2.tape,HB2.output,HB2.size,HB2.block⟩⟩
        case measure=>exact HLT.out
       case false=>
        have HAH:Hid (Eng.ahead 1 x y=false):=by show _=_;unfold Eng.ahead;rw[q3,q4];simpa using q2
        go_wp2_with fail;go_quiet (exact Calls.quiet_of_same (HCL.out _));go_wp2_with fail;go_roundw
        case rel=>exact⟨_,rem',some k,rfl,HPR.of_blocks rfl rfl,HBE.stay HINJ.out HJ.out HX.out HY.out HAPK.out HAH.out,⟨HB2.os,HB2.tape,HB2.output,HB2.size,HB2.block⟩⟩
        case measure=>exact HLT.out
theorem zMu(lim:Int)(h:CRep F base w b e g S)(inv:Eng.EInv e)(hH:Holds e S [] []):
 Cl 268 #[iP g.selB,iV lim,.func (.func 271) #[] #[]] w fun en w'=> ∃r,en=.returned (optPtr g r)∧(∃seen,Best 2 lim e.all g S.sel seen r∧∀j∈S.sel,ent e.all g j∈seen)∧Below w.heap.size w w':=by
 have hpm:=h.body.sel;have d0:w.cell? (iA g.selB 0)=some (.map (some g.selM)):=by simp[World.cell?,h.body.selB]
 have hin: ∀j∈S.sel,∃x,e.all[j]? =some x∧¬x.shown=0:=fun j hj=>by
  obtain⟨x,h1,h2,h3⟩:=hH.sel1 j hj;exact⟨x,h1,h3.resolve_right (by simp)⟩
 have hinj: ∀i j,i∈S.sel→j∈S.sel→g.blk i=g.blk j→i=j:=fun i j hi hj hij=>by
  obtain⟨x,h1,_⟩:=hin i hi;obtain⟨y,h2,_⟩:=hin j hj;exact h.body.inj i j (List.getElem?_eq_some_iff.1 h1).1 (List.getElem?_eq_some_iff.1 h2).1 hij
 have hoa: ∀(W:World),Bw w W→∀j∈S.sel,∃x,e.all[j]? =some x∧¬x.shown=0∧OA W (g.blk j) j x:=fun W hW j hj=>by
  obtain⟨x,h1,h2⟩:=hin j hj;have hst:x.status=1:=Classical.byContradiction fun hc=>h2 ((inv.ok j x h1).dead hc)
  have hO:=h.oa h1 hst;exact⟨x,h1,h2,⟨(hW.block _ hO.lt).trans hO.blk⟩⟩
 have HIN:=hid hin;have HINJ:=hid hinj;have HOA:=hid hoa;have HAP:=hid inv.apart;go_enter Tryz.func268,Tryz.ntmps268;go_wp2_with(first
  |(at_range;refine zBu _ rfl _ _ rfl keyedInt Tryz.underlying110 rfl hpm ?_;intro w0 hpr0 hg0 hs0)
  |go_in)
 go_frame;go_loopw [7] (fun fv wr=> ∃(seen rem:List (Int×Option Nat)) (r:Option Nat),fv=optPtr g r∧PR ptrElem Tryz.prog 3 wr g.selM w.heap.size (S.sel.map fun i=>(idAt e.all i,some (g.blk i))) seen rem∧Best 2 lim e.all g S.sel seen r∧Bw w wr) (fun _ wr=>wr.rangeLeft g.selM w.heap.size)
 case atStart=>exact⟨[],_,none,rfl,hpr0,Best.nil,(Below.refl w.heap.size w).grown hg0 (Nat.le_refl _) (by simp)⟩
 case round=>
  obtain⟨seen,rem,r,rfl,hpr,hbest,hbel⟩:=hrel;have HBE:=hid hbest;have HBL:=hid hbel;go_wp2_with(first
   |(at_next;refine zBv _ rfl _ rfl keyedInt Tryz.underlying3 g.selM w.heap.size seen rem rfl hpr ?_ ?_)
   |go_in)
  ·intro h0;have HALL:Hid (∀j∈S.sel,ent e.all g j∈seen):=fun j hj=>by
    have:=hpr.1;rw[h0,List.append_nil]at this;exact this.mem_iff.2 (List.mem_map_of_mem (f:=fun i=>(idAt e.all i,some (g.blk i))) hj)
   go_wp2;go_ret;exact⟨r,rfl,⟨seen,HBE.out,HALL.out⟩,HBL.out⟩
  ·intro k v rem' w1 j0 hj0 hk hv hpr1 hg1 hs1 hlt hen;subst hk hv;have hval:ptrElem.val (some (g.blk j0))=iP (g.blk j0):=rfl;rw[hval]at hen⊢;have hB1:Bw w w1:=HBL.grown hg1 HBL.size (by intro k hk;injection hk with hk;omega);obtain⟨x,hx,hsh,hO⟩:=HOA.out w1 hB1 j0 hj0;have x3:cI w1 (g.blk j0) 3 x.price:=hO.cell 3;have x12:cI w1 (g.blk j0) 12 x.stamp:=hO.cell 12;go_wp2_with fail;refine(zM7 lim x.price).mono ?_;rintro en w2 ⟨rfl,hs2⟩;have hpr2:PR ptrElem Tryz.prog 3 w2 g.selM w.heap.size (S.sel.map fun i=>(idAt e.all i,some (g.blk i))) (seen++ [ent e.all g j0]) rem':=hpr1.of_blocks (by rw[hs2.heap]) (by rw[hs2.heap]);have HPR:=hid hpr2;have HB2:Hid (Bw w w2):=⟨hs2.os.trans hB1.os,hs2.tape.trans hB1.tape,hs2.output.trans hB1.output,by rw[hs2.heap];exact hB1.size,fun k hk=>by rw[hs2.heap];exact hB1.block k hk⟩;have HLT:Hid (w2.rangeLeft g.selM w.heap.size<wr.rangeLeft g.selM w.heap.size):=by
    show _<_;have:w2.rangeLeft g.selM w.heap.size=w1.rangeLeft g.selM w.heap.size:=by unfold World.rangeLeft;rw[hs2.heap]
    rw[this];exact hlt
   have hO2:=hO.same hs2;have x3:cI w2 (g.blk j0) 3 x.price:=hO2.cell 3;have x12:cI w2 (g.blk j0) 12 x.stamp:=hO2.cell 12;have HX:=hid hx;have HSH:=hid hsh;have HJ:=hid hj0;cases q1:decide (lim<x.price)
   case true=>
    go_wp2;go_roundw
    case rel=>exact⟨_,rem',r,rfl,HPR.out,HBE.skip HINJ.out HJ.out HX.out (by simpa [bt] using q1),HB2.out⟩
    case measure=>exact HLT.out
   case false=>
    have HQ:Hid (bt 2 lim x.price=false):=by show _=_;simpa [bt] using q1
    cases r with
    |none=>
     unfold optPtr ptrOf;simp only[Option.map_none];go_wp2_with fail;go_quiet (fail);go_wp2_with fail;go_roundw
     case rel=>exact⟨_,rem',some j0,rfl,HPR.of_blocks rfl rfl,HBE.start HINJ.out HJ.out HX.out HQ.out,⟨HB2.os,HB2.tape,HB2.output,HB2.size,HB2.block⟩⟩
     case measure=>exact HLT.out
    |some k=>
     obtain⟨hkB,y,hy,hly,_⟩:=HBE.out;obtain⟨y',hy',hysh,hOy⟩:=HOA.out w2 HB2.out k hkB;obtain rfl:y=y':=Option.some.inj (hy.symm.trans hy');have y3:cI w2 (g.blk k) 3 y.price:=hOy.cell 3;have y12:cI w2 (g.blk k) 12 y.stamp:=hOy.cell 12;have HOY:=hid hOy;have HY:=hid hy;have HAPK:Hid (j0≠k→x.stamp≠y.stamp):=fun hne=>HAP.out j0 k x y HX.out hy hne HSH.out hysh
     have HOX:Hid (OA w2 (g.blk j0) j0 x):=by
      obtain⟨x',hx',_,h3⟩:=HOA.out w2 HB2.out j0 HJ.out;obtain rfl:x=x':=Option.some.inj (HX.out.symm.trans hx');exact h3
     have HCL:Hid (∀W,Cl 271 #[iV x.price,iV y.price] W fun en w3=>en=.returned (.bool (decide (x.price<y.price)))∧w3=W):=fun W=>zHb x.price y.price
     unfold optPtr ptrOf;simp only[Option.map_some];cases q2:decide (x.price<y.price)
     case true=>
      have HAH:Hid (Eng.ahead 2 x y=true):=by show _=_;unfold Eng.ahead;simp at q2⊢;exact .inl q2
      simp only[q2]at HCL;go_wp2_with fail;go_quiet (exact Calls.quiet_of_same (HCL.out _));go_wp2_with fail;go_roundw
      case rel=>exact⟨_,rem',some j0,rfl,HPR.of_blocks rfl rfl,HBE.take HINJ.out HJ.out HX.out HY.out HQ.out HAH.out,⟨HB2.os,HB2.tape,HB2.output,HB2.size,HB2.block⟩⟩
      case measure=>exact HLT.out
     case false=>
      simp only[q2]at HCL;cases q3:(x.price == y.price)
      case false=>
       have HAH:Hid (Eng.ahead 2 x y=false):=by show _=_;unfold Eng.ahead;rw[q3];simpa using q2
       go_wp2_with fail;go_quiet (exact Calls.quiet_of_same (HCL.out _));go_wp2_with fail;go_roundw
       case rel=>exact⟨_,rem',some k,rfl,HPR.of_blocks rfl rfl,HBE.stay HINJ.out HJ.out HX.out HY.out HAPK.out HAH.out,⟨HB2.os,HB2.tape,HB2.output,HB2.size,HB2.block⟩⟩
       case measure=>exact HLT.out
      case true=>
       cases q4:decide (x.stamp<y.stamp)
       case true=>
        have HAH:Hid (Eng.ahead 2 x y=true):=by show _=_;unfold Eng.ahead;rw[q3,q4];simp
        go_wp2_with fail;go_quiet (exact Calls.quiet_of_same (HCL.out _));go_wp2_with fail;go_roundw
        case rel=>exact⟨_,rem',some j0,rfl,HPR.of_blocks rfl rfl,HBE.take HINJ.out HJ.out HX.out HY.out HQ.out HAH.out,⟨HB2.os,HB2.tape,HB2.output,HB2.size,HB2.block⟩⟩
        case measure=>exact HLT.out
       case false=>
        have HAH:Hid (Eng.ahead 2 x y=false):=by show _=_;unfold Eng.ahead;rw[q3,q4];simpa using q2
        go_wp2_with fail;go_quiet (exact Calls.quiet_of_same (HCL.out _));go_wp2_with fail;go_roundw
        case rel=>exact⟨_,rem',some k,rfl,HPR.of_blocks rfl rfl,HBE.stay HINJ.out HJ.out HX.out HY.out HAPK.out HAH.out,⟨HB2.os,HB2.tape,HB2.output,HB2.size,HB2.block⟩⟩
        case measure=>exact HLT.out
end
theorem Eng.upd_self{e:Eng}{i:Nat}{f:Ord→Ord}(h: ∀x,e.all[i]? =some x→f x=x):e.upd i f=e:=by
 have:e.all.modify i f=e.all:=by
  rw[Eng.modify_congr f id e.all i h];exact List.modify_id _ _
 unfold Eng.upd;rw[this]
section
variable {F:Nat→Prop} {base:Nat} {w:World} {b i k:Nat} {e:Eng} {g:Gh} {S:Sets} {o r:Ord}
theorem Holds.traded(h:Holds e S [] [])(ho:e.all[i]? =some o)(hr:e.all[k]? =some r)(hne:i≠k)(hsh:o.shown=0):Holds (e.trade1 i k o r) S [] [k]:=by
 have h1:=h.upd (f:=fun _=>Eng.tradeO o r) (odd':=[]) ho rfl rfl rfl (fun _ _=>Iff.rfl) (.inr ⟨by simp,Iff.rfl⟩);have hr':(e.upd i fun _=>Eng.tradeO o r).all[k]? =some r:=(Eng.upd_ne _ _ _ _ hne).trans hr;have h2:=h1.upd (f:=fun _=>Eng.tradeR o r) (odd':=[k]) hr' rfl rfl rfl (fun j hj=>by simp[hj]) (.inl (by simp));exact h2.cong rfl
theorem Holds.traded'(h:Holds e S [] [])(ho:e.all[i]? =some o)(hr:e.all[k]? =some r)(hne:i≠k)(hsh:o.shown=0)(h1: ¬r.shown=0)(h2: ¬(Eng.tradeR o r).shown=0):Holds (e.trade1 i k o r) S [] []:=by
 have k1:=h.upd (f:=fun _=>Eng.tradeO o r) (odd':=[]) ho rfl rfl rfl (fun _ _=>Iff.rfl) (.inr ⟨by simp,Iff.rfl⟩);have hr':(e.upd i fun _=>Eng.tradeO o r).all[k]? =some r:=(Eng.upd_ne _ _ _ _ hne).trans hr;have k2:=k1.upd (f:=fun _=>Eng.tradeR o r) (odd':=[]) hr' rfl rfl rfl (fun j hj=>Iff.rfl) (.inr ⟨by simp,⟨fun hc=>absurd hc h2,fun hc=>absurd hc h1⟩⟩);exact k2.cong rfl
theorem CRep.traded(h:CRep F base w b e g S)(ho:e.all[i]? =some o)(hr:e.all[k]? =some r)(hne:i≠k)(hos:o.status=1)(hrs:r.status=1)(hni:i∉S.ended)(hnk:k∉S.ended)(a c:Int)(ha:a=e.worth+Eng.qtyOf o r*r.price)(hc:c=e.volume+Eng.qtyOf o r):
 CRep F base (((((w.setCell (iA b 14) (iV a)).setCell (iA b 15) (iV c)).setCell (iA (g.blk i) 10) (iV (o.filled+Eng.qtyOf o r))).setCell (iA (g.blk k) 10) (iV (r.filled+Eng.qtyOf o r))).setCell (iA (g.blk k) 11) (iV (r.shown - Eng.qtyOf o r))) b (({ e with worth:=a,volume:=c }.upd i fun _=>Eng.tradeO o r).upd k fun _=>Eng.tradeR o r) g S
 ∧Touch F w (((((w.setCell (iA b 14) (iV a)).setCell (iA b 15) (iV c)).setCell (iA (g.blk i) 10) (iV (o.filled+Eng.qtyOf o r))).setCell (iA (g.blk k) 10) (iV (r.filled+Eng.qtyOf o r))).setCell (iA (g.blk k) 11) (iV (r.shown - Eng.qtyOf o r))):=by
 have h1:CRep F base (w.setCell (iA b 14) (iV a)) b { e with worth:=a } g S:=h.set 14 _ { e with worth:=a } (by simp[codCells]) rfl rfl rfl rfl;have t1:Touch F w (w.setCell (iA b 14) (iV a)):=(Touch.refl F w).set b _ _ h.own;have h2:CRep F base ((w.setCell (iA b 14) (iV a)).setCell (iA b 15) (iV c)) b { e with worth:=a,volume:=c } g S:=h1.set 15 _ { e with worth:=a,volume:=c } (by simp[codCells]) rfl rfl rfl rfl;have t2:=t1.set b 15 (iV c) h.own;obtain⟨h3,t3⟩:=h2.wr ho hos hni 10 (iV (o.filled+Eng.qtyOf o r)) (fun _=>Eng.tradeO o r) rfl (by simp[Ord.code,Eng.tradeO]);have hr':({ e with worth:=a,volume:=c }.upd i fun _=>Eng.tradeO o r).all[k]? =some r:=(Eng.upd_ne _ _ _ _ hne).trans hr;obtain⟨h4,t4⟩:=h3.wr hr' hrs hnk 10 (iV (r.filled+Eng.qtyOf o r)) (fun _=>{ r with filled:=r.filled+Eng.qtyOf o r }) rfl (by simp[Ord.code])
 obtain⟨h5,t5⟩:=h4.wr (Eng.upd_same _ k _ r hr') hrs hnk 11 (iV (r.shown - Eng.qtyOf o r)) (fun _=>Eng.tradeR o r) rfl (by simp[Ord.code,Eng.tradeR]);rw[Eng.upd_upd]at h5;exact⟨h5,((t2.trans t3).trans t4).trans t5⟩
end
section
variable {F:Nat→Prop} {base:Nat} {w:World} {b i:Nat} {e:Eng} {g:Gh} {S:Sets} {o:Ord}
theorem Holds.inBuy(hH:Holds e S [] [])(j:Nat):j∈S.buy↔∃x,e.all[j]? =some x∧Eng.rests 1 x=true:=by
 constructor
 ·intro hj;obtain⟨x,h1,h2,h3⟩:=hH.buy1 j hj;exact⟨x,h1,by simp[Eng.rests,h2];exact h3.resolve_right (by simp)⟩
 ·rintro⟨x,h1,h2⟩;obtain⟨h3,h4⟩:=Eng.rests_shown h2;exact hH.buy2 j x h1 h4 h3 (by simp)
theorem Holds.inSel(hH:Holds e S [] [])(inv:Eng.EInv e)(j:Nat):j∈S.sel↔∃x,e.all[j]? =some x∧Eng.rests 2 x=true:=by
 constructor
 ·intro hj;obtain⟨x,h1,h2,h3⟩:=hH.sel1 j hj;have hs:=((inv.ok j x h1).side).resolve_left h2;exact⟨x,h1,by simp[Eng.rests,hs];exact h3.resolve_right (by simp)⟩
 ·rintro⟨x,h1,h2⟩;obtain⟨h3,h4⟩:=Eng.rests_shown h2;exact hH.sel2 j x h1 (by omega) h3 (by simp)
theorem zMv(h:CRep F base w b e g S)(inv:Eng.EInv e)(hH:Holds e S [] [])(ho:e.all[i]? =some o)(hop:0<o.opn)(hs:o.side=1):
 Cl 270 #[iP g.selB,iV o.price] w fun en w'=>en=.returned (optPtr g (e.mate i))∧Below w.heap.size w w':=by
 have HF:=hid (zMu o.price h inv hH);have HM:Hid (∀r,(∃seen,Best 2 o.price e.all g S.sel seen r∧∀j∈S.sel,ent e.all g j∈seen)→e.mate i=r):=fun r ⟨seen,h1,h2⟩=>h1.mate h2 inv (hH.inSel inv) ho hop (by omega)
 go_enter Tryz.func270,Tryz.ntmps270;go_wp2_with fail;refine HF.mono ?_;rintro en w1 ⟨r,rfl,hb,hB⟩;have HB:=hid hB;have HR:=hid (HM r hb);go_wp2;go_ret;exact⟨by rw[HR.out];try rfl,HB⟩
theorem zMw(h:CRep F base w b e g S)(inv:Eng.EInv e)(hH:Holds e S [] [])(ho:e.all[i]? =some o)(hop:0<o.opn)(hs: ¬o.side=1):
 Cl 264 #[iP g.buyB,iV o.price] w fun en w'=>en=.returned (optPtr g (e.mate i))∧Below w.heap.size w w':=by
 have HF:=hid (zMt o.price h inv hH);have hsd:=((inv.ok i o ho).side).resolve_left hs;have HM:Hid (∀r,(∃seen,Best 1 o.price e.all g S.buy seen r∧∀j∈S.buy,ent e.all g j∈seen)→e.mate i=r):=fun r ⟨seen,h1,h2⟩=>h1.mate h2 inv hH.inBuy ho hop (by omega)
 go_enter Tryz.func264,Tryz.ntmps264;go_wp2_with fail;refine HF.mono ?_;rintro en w1 ⟨r,rfl,hb,hB⟩;have HB:=hid hB;have HR:=hid (HM r hb);go_wp2;go_ret;exact⟨by rw[HR.out];try rfl,HB⟩
end
section
variable {F:Nat→Prop} {base:Nat} {w:World} {b i k:Nat} {e:Eng} {g:Gh} {S:Sets} {o r:Ord}
def Cdone(F:Nat→Prop)(base:Nat)(w:World)(b:Nat)(g:Gh)(e':Eng)(w':World):Prop:= ∃t S',CRep F base w' b e' { g with txt:=t } S'∧Holds e' S' [] []∧Touch F w w'
def Cmid(F:Nat→Prop)(base:Nat)(w:World)(b:Nat)(g:Gh)(S:Sets)(e':Eng)(w':World):Prop:= ∃t,CRep F base w' b e' { g with txt:=t } S∧Touch F w w'
theorem zMx(inv:Eng.EInv e)(hH:Holds e S [] [])(ho:e.all[i]? =some o)(hr:e.all[k]? =some r)(hne:i≠k)(hos:o.status=1)(hsh:o.shown=0)(hop:0<o.opn)(hrs:r.shown≠0)(hrst:r.status=1)(hlen:e.all.length≤1000000000)(h0:(Eng.tradeR o r).opn=0)(W:World)(hW:Cmid F base w b g S (e.trade1 i k o r) W):
 Cl 206 #[iP b,iP (g.blk k)] W fun en w'=>en=rV #[]∧Hid (Cdone F base w b g (e.trade i k) w'):=by
 have inv1:=Eng.EInv.trade1 inv i k o r ho hr hne hos hsh hop hrs;have hk:(e.trade1 i k o r).all[k]? =some (Eng.tradeR o r):=by rw[Eng.trade1_at,if_pos rfl,hr];rfl
 have kr:=inv1.ok k _ hk;have hst:=hrst;have hH1:=hH.traded ho hr hne hsh;obtain⟨t,hC,hT⟩:=hW;have hsm:=(hC.small hH1).mono (by rw[Eng.trade1_len];exact hlen);have hs0:(Eng.tradeR o r).shown=0:=by have:=kr.shn0;have:=kr.shn1;omega
 have hc0:=kr.live hst;refine(zH9 (fun r=>{ r with status:=2 }) hC hk hst (hH1.live hk hst) (zA0 (by have:=kr.id0;omega) (by have:=kr.id1;omega)) hsm (by simp[Ord.state,h0,hs0,hc0])).mono ?_;rintro en w' ⟨rfl,h1,h2⟩;have het:e.trade i k=(e.trade1 i k o r).upd k fun r=>{ r with status:=2 }:=by
  rw[Eng.trade_eq e i k o r ho hr hne];unfold Eng.trade2;rw[if_pos h0]
 refine⟨rfl,t,_,by rw[het];exact h1,?_,hT.trans h2⟩;rw[het];have hse:((e.trade1 i k o r).upd k fun o=>{ o with shown:=0 })=e.trade1 i k o r:=Eng.upd_self (fun x hx=>by
  obtain rfl:Eng.tradeR o r=x:=Option.some.inj (hk.symm.trans hx);show{ Eng.tradeR o r with shown:=0 }=Eng.tradeR o r;rw[←hs0])
 exact(hH1.leave inv1 hk).gone inv1 hk hst (List.mem_cons_self ..) (fun j hj=>by simp[hj]) (fun j hj=>by simpa using hj) (by simp) rfl rfl hs0 (by rw[hse];exact inv1)
theorem zMy(inv:Eng.EInv e)(hH:Holds e S [] [])(ho:e.all[i]? =some o)(hr:e.all[k]? =some r)(hne:i≠k)(hos:o.status=1)(hsh:o.shown=0)(hop:0<o.opn)(hrs:r.shown≠0)(hrst:r.status=1)(hro:Room 2 e)(hd:Dr e)(h0:(Eng.tradeR o r).opn≠0)(h1:(Eng.tradeR o r).shown=0)(W:World)(hW:Cmid F base w b g S (e.trade1 i k o r) W):
 Cl 231 #[iP b,iP (g.blk k)] W fun en w1=>en=.returned (iV ((e.trade1 i k o r).again (Eng.tradeR o r)))∧Hid (Cl 203 #[iP b,iP (g.blk k),iV ((e.trade1 i k o r).again (Eng.tradeR o r))] w1 fun en w'=>en=rV #[]∧Hid (Cdone F base w b g (e.trade i k) w')):=by
 have inv1:=Eng.EInv.trade1 inv i k o r ho hr hne hos hsh hop hrs;have hk:(e.trade1 i k o r).all[k]? =some (Eng.tradeR o r):=by rw[Eng.trade1_at,if_pos rfl,hr];rfl
 have kr:=inv1.ok k _ hk;have kr0:=inv.ok k _ hr;have hst:(Eng.tradeR o r).status=1:=hrst;have hH1:=hH.traded ho hr hne hsh;obtain⟨t,hC,hT⟩:=hW;have hsm:=(hC.small hH1).mono (m:=1000000000) (by rw[Eng.trade1_len];exact hro.len);have hty:(Eng.tradeR o r).typ=2:=Classical.byContradiction fun hc=>by
  have hc':r.typ≠2:=hc;rcases kr0.whole hc' with hx|hx
  ·exact hrs hx
  ·have h2:(Eng.tradeR o r).opn=r.opn - Eng.qtyOf o r:=rfl;have h3:(Eng.tradeR o r).shown=r.shown - Eng.qtyOf o r:=rfl;omega
 refine(zMr hC hk hst kr hty (by have:=hro.drw;show e.drawn<_;omega) ⟨hd.len,hd.bd⟩).mono ?_;rintro en w1 ⟨rfl,q1,q2⟩;refine⟨rfl,?_⟩;have hag:1≤(e.trade1 i k o r).again (Eng.tradeR o r)∧(e.trade1 i k o r).again (Eng.tradeR o r)≤1000:=by
  have hb:=Eng.next_bd kr hst h0 hty (e.trade1 i k o r).draw.1 (by rw[Eng.draw_raw];exact Int.emod_nonneg _ (by omega));have hs1:=kr.sum;have hs2:=kr.fil0;have hs3:=kr.can0;have hs4:=kr.qty1;unfold Eng.again;omega
 have hid63:r63 (Eng.tradeR o r).id:=zA0 (by have:=kr.id0;omega) (by have:=kr.id1;omega);have hp63:r63 (Eng.tradeR o r).price:=zA0 kr.prc0 (by have:=kr.prc1;have:=inv1.mp1;omega);have hol:((e.trade1 i k o r).draw.2).out.length=e.out.length+22:=by
  show(e.out++_).length=_;rw[List.length_append,Eng.recB_length]
 refine(zE3 (o:=Eng.tradeR o r) _ q1 hk hst (hH1.live hk hst) hid63 hp63 (zA0 (by omega) (by omega)) (by have:=hro.stm;show e.stamp<_;omega) hsm (by have:=hro.seq;show e.seq+1<_;omega) (by have:=hro.out;omega)).mono ?_;rintro en w2 ⟨rfl,t2,p1,p2⟩;have het:e.trade i k=(e.trade1 i k o r).draw.2.lay k ((e.trade1 i k o r).again (Eng.tradeR o r)):=by
  rw[Eng.trade_eq e i k o r ho hr hne];unfold Eng.trade2;rw[if_neg h0,if_pos h1];rfl
 refine⟨rfl,t2,_,by rw[het];exact p1,?_,(hT.trans q2).trans p2⟩;rw[het];have hk2:(e.trade1 i k o r).draw.2.all[k]? =some (Eng.tradeR o r):=hk;have hL:=Holds.lay (f:=fun x=>{ x with stamp:=((e.trade1 i k o r).stamp+1:Nat),shown:=(e.trade1 i k o r).again (Eng.tradeR o r) }) (e:=(e.trade1 i k o r).draw.2) (hH1.cong rfl) inv1.drew hk2 rfl rfl rfl (fun j hj=>by simpa using hj) (show¬(e.trade1 i k o r).again (Eng.tradeR o r)=0 by omega);refine hL.cong ?_;unfold Eng.lay;rw[hk2];rfl
end
section
variable {F:Nat→Prop} {base:Nat} {w w':World} {b i nb vb:Nat} {e:Eng} {g:Gh} {S:Sets} {o:Ord}
structure Sets.In(S:Sets)(n:Nat):Prop where
 day: ∀j∈S.day,j<n
 oth: ∀j∈S.oth,j<n
 ended: ∀j∈S.ended,j<n
 buy: ∀j∈S.buy,j<n
 sel: ∀j∈S.sel,j<n
theorem Holds.into(hH:Holds e S out odd):S.In e.all.length:=by
 have lt: ∀{j:Nat} {x:Ord},e.all[j]? =some x→j<e.all.length:=fun hx=>(List.getElem?_eq_some_iff.1 hx).1
 refine⟨fun j hj=>?_,fun j hj=>?_,fun j hj=>?_,fun j hj=>?_,fun j hj=>?_⟩
 ·obtain⟨x,hx,_⟩:=(hH.day j).1 hj;exact lt hx
 ·obtain⟨x,hx,_⟩:=(hH.oth j).1 hj;exact lt hx
 ·obtain⟨x,hx,_⟩:=(hH.ended j).1 hj;exact lt hx
 ·obtain⟨x,hx,_⟩:=hH.buy1 j hj;exact lt hx
 ·obtain⟨x,hx,_⟩:=hH.sel1 j hj;exact lt hx
theorem CRep.nodups(h:CRep F base w b e g S):S.day.Nodup∧S.oth.Nodup∧S.ended.Nodup:=⟨zB7 (h.body.day.nodup keyedInt),zB7 (h.body.oth.nodup keyedInt),zB7 (h.body.ended.nodup keyedInt)⟩
theorem Holds.alive(hH:Holds e S [] [])(hd:S.day.Nodup)(ho:S.oth.Nodup):S.day.length+S.oth.length=e.alive:=by
 have hp:(S.day++S.oth).Perm ((List.range e.all.length).filter (Eng.lives e)):=by
  refine(List.perm_ext_iff_of_nodup ?_ (List.nodup_range.filter _)).2 fun j=>?_
  ·refine List.nodup_append.2 ⟨hd,ho,fun a ha c hc e1=>?_⟩;subst e1;obtain⟨x,h1,_,h2,_⟩:=(hH.day a).1 ha;obtain⟨y,h3,_,h4,_⟩:=(hH.oth a).1 hc;obtain rfl:x=y:=Option.some.inj (h1.symm.trans h3);exact h4 h2
  ·rw[List.mem_append,hH.day,hH.oth,List.mem_filter,List.mem_range];constructor
   ·rintro(⟨x,h1,h2,_⟩|⟨x,h1,h2,_⟩)
    ·exact⟨(List.getElem?_eq_some_iff.1 h1).1,by unfold Eng.lives;rw[h1];simp[h2]⟩
    ·exact⟨(List.getElem?_eq_some_iff.1 h1).1,by unfold Eng.lives;rw[h1];simp[h2]⟩
   ·rintro⟨h1,h2⟩;have h3:e.all[j]? =some e.all[j]:=List.getElem?_eq_getElem h1;have h4:e.all[j].status=1:=by unfold Eng.lives at h2;rw[h3]at h2;simpa using h2
    by_cases hl:e.all[j].life=1
    ·exact .inl ⟨_,h3,h4,hl,by simp⟩
    ·exact .inr ⟨_,h3,h4,hl,by simp⟩
 rw[←Eng.count_range,List.countP_eq_length_filter,←hp.length_eq,List.length_append]
theorem Holds.count(hH:Holds e S [] [])(hd:S.day.Nodup)(ho:S.oth.Nodup)(he:S.ended.Nodup):S.day.length+S.oth.length+S.ended.length=e.all.length:=by
 have hp:(S.day++S.oth++S.ended).Perm (List.range e.all.length):=by
  refine(List.perm_ext_iff_of_nodup ?_ List.nodup_range).2 fun j=>?_
  ·refine List.nodup_append.2 ⟨List.nodup_append.2 ⟨hd,ho,fun a ha c hc e1=>?_⟩,he,fun a ha c hc e1=>?_⟩
   ·subst e1;obtain⟨x,h1,_,h2,_⟩:=(hH.day a).1 ha;obtain⟨y,h3,_,h4,_⟩:=(hH.oth a).1 hc;obtain rfl:x=y:=Option.some.inj (h1.symm.trans h3);exact h4 h2
   ·subst e1;obtain⟨y,h3,h4⟩:=(hH.ended a).1 hc;rcases List.mem_append.1 ha with ha|ha
    ·obtain⟨x,h1,h2,_⟩:=(hH.day a).1 ha;obtain rfl:x=y:=Option.some.inj (h1.symm.trans h3);exact h4 h2
    ·obtain⟨x,h1,h2,_⟩:=(hH.oth a).1 ha;obtain rfl:x=y:=Option.some.inj (h1.symm.trans h3);exact h4 h2
  ·rw[List.mem_append,List.mem_append,hH.day,hH.oth,hH.ended,List.mem_range];constructor
   ·rintro((⟨x,h1,_⟩|⟨x,h1,_⟩)|⟨x,h1,_⟩)<;>exact(List.getElem?_eq_some_iff.1 h1).1
   ·intro h1;have h3:e.all[j]? =some e.all[j]:=List.getElem?_eq_getElem h1;by_cases h4:e.all[j].status=1
    ·by_cases hl:e.all[j].life=1
     ·exact .inl (.inl ⟨_,h3,h4,hl,by simp⟩)
     ·exact .inl (.inr ⟨_,h3,h4,hl,by simp⟩)
    ·exact .inr ⟨_,h3,h4⟩
 have:=hp.length_eq;rw[List.length_append,List.length_append,List.length_range]at this;exact this
def Gh.more(g:Gh)(n nb:Nat):Gh:={ g with blk:=fun i=>if i=n then nb else g.blk i }
theorem zHc(al:List Ord)(o:Ord)(h:j<al.length):idAt (al++ [o]) j=idAt al j:=by unfold idAt;rw[List.getElem?_append_left h]
theorem zMz(al:List Ord)(o:Ord)(h:j<al.length):stAt (al++ [o]) j=stAt al j:=by unfold stAt;rw[List.getElem?_append_left h]
theorem CRep.newOrder(h:CRep F base w b e g S)(hw:Below w.heap.size w w')(hnb:w.heap.size≤nb)(hlt:nb<w'.heap.size)(hin:S.In e.all.length)(hblk:w'.heap[nb]? =some (.cells (o.code e.all.length) 234 (0,0))):CRep F base w' b { e with all:=e.all++ [o] } (g.more e.all.length nb) S:=by
 have h':=h.below hw;have hp: ∀l:List Nat,(∀j∈l,j<e.all.length)→l.map (fun i=>(idAt (e.all++ [o]) i,some ((g.more e.all.length nb).blk i)))=l.map fun i=>(idAt e.all i,some (g.blk i)):=fun l hl=>List.map_congr_left fun j hj=>by
  have:=hl j hj;rw[zHc e.all o this];show(_,some (if j=e.all.length then nb else g.blk j))=_;rw[if_neg (by omega)]
 have hq:S.ended.map (fun i=>(idAt (e.all++ [o]) i,stAt (e.all++ [o]) i))=S.ended.map fun i=>(idAt e.all i,stAt e.all i):=List.map_congr_left fun j hj=>by
  have:=hin.ended j hj;rw[zHc e.all o this,zMz e.all o this]
 have B:=h'.body;have hlen: ∀i,i<(e.all++ [o]).length→i=e.all.length∨i<e.all.length:=fun i hi=>by rw[List.length_append]at hi;simp at hi;omega
 refine⟨h'.blk,h'.own,h'.up,h'.low,h'.txt,⟨(hp _ hin.day)▸B.day,(hp _ hin.oth)▸B.oth,hq▸B.ended,B.buyB,B.selB,(hp _ hin.buy)▸B.buy,(hp _ hin.sel)▸B.sel,B.maps,fun i x hx hs=>?_,fun i j hi hj hij=>?_,B.drw,B.dls,B.fd,fun i hi=>?_⟩,fun i hi=>?_,h'.fb⟩
 ·show w'.heap[if i=e.all.length then nb else g.blk i]? =_;have hx:(e.all++ [o])[i]? =some x:=hx;by_cases e1:i=e.all.length
  ·subst e1;rw[if_pos rfl,hblk];rw[List.getElem?_append_right (Nat.le_refl _),Nat.sub_self]at hx;obtain rfl:o=x:=by simpa using hx
   rfl
  ·rw[if_neg e1];have hil:i<e.all.length:=(hlen i (List.getElem?_eq_some_iff.1 hx).1).resolve_left e1;rw[List.getElem?_append_left hil]at hx;exact B.ord i x hx hs
 ·have hij:(if i=e.all.length then nb else g.blk i)=if j=e.all.length then nb else g.blk j:=hij
  rcases hlen i hi with rfl|hi
  ·rcases hlen j hj with rfl|hj
   ·rfl
   ·rw[if_pos rfl,if_neg (by omega)]at hij;have:=h.old j hj;omega
  ·rcases hlen j hj with rfl|hj
   ·rw[if_pos rfl,if_neg (by omega)]at hij;have:=h.old i hi;omega
   ·rw[if_neg (by omega),if_neg (by omega)]at hij;exact B.inj i j hi hj hij
 ·show F (if i=e.all.length then nb else g.blk i);rcases hlen i hi with rfl|hi
  ·rw[if_pos rfl];exact h.up nb hnb
  ·rw[if_neg (by omega)];exact B.fo i hi
 ·show(if i=e.all.length then nb else g.blk i)<_;rcases hlen i hi with rfl|hi
  ·rw[if_pos rfl];exact hlt
  ·rw[if_neg (by omega)];exact h'.old i hi
theorem Holds.newOrder(hH:Holds e S [] [])(hs:o.status=1)(hsh:o.shown=0):Holds { e with all:=e.all++ [o] } S [e.all.length] []:=by
 have at_: ∀(j:Nat) (x:Ord),(e.all++ [o])[j]? =some x↔e.all[j]? =some x∨(j=e.all.length∧x=o):=by
  intro j x;rcases Nat.lt_trichotomy j e.all.length with h1|h1|h1
  ·rw[List.getElem?_append_left h1];exact⟨.inl,fun hc=>hc.elim id (fun hc=>by omega)⟩
  ·subst h1;rw[List.getElem?_append_right (Nat.le_refl _),Nat.sub_self,List.getElem?_eq_none (Nat.le_refl _)];simp[eq_comm]
  ·rw[List.getElem?_eq_none (by rw[List.length_append];simp;omega),List.getElem?_eq_none (by omega)];simp;omega
 have lt: ∀{j:Nat} {x:Ord},e.all[j]? =some x→j<e.all.length:=fun hx=>(List.getElem?_eq_some_iff.1 hx).1
 refine⟨fun j=>?_,fun j=>?_,fun j=>?_,fun j hj=>?_,fun j x hx hs' hn hq=>?_,fun j hj=>?_,fun j x hx hs' hn hq=>?_⟩
 ·rw[hH.day];constructor
  ·rintro⟨x,h1,h2,h3,_⟩;exact⟨x,(at_ j x).2 (.inl h1),h2,h3,by have:=lt h1;simp;omega⟩
  ·rintro⟨x,h1,h2,h3,h4⟩;rcases(at_ j x).1 h1 with h1|⟨h1,_⟩
   ·exact⟨x,h1,h2,h3,by simp⟩
   ·exact absurd h1 (by simpa using h4)
 ·rw[hH.oth];constructor
  ·rintro⟨x,h1,h2,h3,_⟩;exact⟨x,(at_ j x).2 (.inl h1),h2,h3,by have:=lt h1;simp;omega⟩
  ·rintro⟨x,h1,h2,h3,h4⟩;rcases(at_ j x).1 h1 with h1|⟨h1,_⟩
   ·exact⟨x,h1,h2,h3,by simp⟩
   ·exact absurd h1 (by simpa using h4)
 ·rw[hH.ended];constructor
  ·rintro⟨x,h1,h2⟩;exact⟨x,(at_ j x).2 (.inl h1),h2⟩
  ·rintro⟨x,h1,h2⟩;rcases(at_ j x).1 h1 with h1|⟨_,rfl⟩
   ·exact⟨x,h1,h2⟩
   ·exact absurd hs h2
 ·obtain⟨x,h1,h2,h3⟩:=hH.buy1 j hj;exact⟨x,(at_ j x).2 (.inl h1),h2,h3⟩
 ·rcases(at_ j x).1 hx with h1|⟨_,rfl⟩
  ·exact hH.buy2 j x h1 hs' hn hq
  ·exact absurd hsh hn
 ·obtain⟨x,h1,h2,h3⟩:=hH.sel1 j hj;exact⟨x,(at_ j x).2 (.inl h1),h2,h3⟩
 ·rcases(at_ j x).1 hx with h1|⟨_,rfl⟩
  ·exact hH.sel2 j x h1 hs' hn hq
  ·exact absurd hsh hn
theorem Holds.join(hH:Holds e S [i] [])(inv:Eng.EInv e)(ho:e.all[i]? =some o)(hs:o.status=1):Holds e (S.join e.all o i) [] []:=by
 unfold Sets.join;have hd:=zAz inv ho (l:=S.day) (fun j hj=>by obtain⟨x,hx,_⟩:=(hH.day j).1 hj;exact⟨x,hx⟩);have hq:=zAz inv ho (l:=S.oth) (fun j hj=>by obtain⟨x,hx,_⟩:=(hH.oth j).1 hj;exact⟨x,hx⟩);by_cases hL:o.life=1
 ·rw[if_pos hL];refine⟨fun j=>?_,fun j=>?_,hH.ended,hH.buy1,hH.buy2,hH.sel1,hH.sel2⟩
  ·show j∈less e.all S.day o.id++ [i]↔_;rw[List.mem_append,hd,hH.day];constructor
   ·rintro(⟨⟨x,h1,h2,h3,h4⟩,h5⟩|h1)
    ·exact⟨x,h1,h2,h3,by simp⟩
    ·obtain rfl:j=i:=by simpa using h1
     exact⟨o,ho,hs,hL,by simp⟩
   ·rintro⟨x,h1,h2,h3,_⟩;by_cases e1:j=i
    ·right;simp[e1]
    ·exact .inl ⟨⟨x,h1,h2,h3,by simpa using e1⟩,e1⟩
  ·show j∈S.oth↔_;rw[hH.oth];constructor
   ·rintro⟨x,h1,h2,h3,_⟩;exact⟨x,h1,h2,h3,by simp⟩
   ·rintro⟨x,h1,h2,h3,_⟩;refine⟨x,h1,h2,h3,fun hc=>?_⟩;obtain rfl:j=i:=by simpa using hc
    obtain rfl:o=x:=Option.some.inj (ho.symm.trans h1);exact h3 hL
 ·rw[if_neg hL];refine⟨fun j=>?_,fun j=>?_,hH.ended,hH.buy1,hH.buy2,hH.sel1,hH.sel2⟩
  ·show j∈S.day↔_;rw[hH.day];constructor
   ·rintro⟨x,h1,h2,h3,_⟩;exact⟨x,h1,h2,h3,by simp⟩
   ·rintro⟨x,h1,h2,h3,_⟩;refine⟨x,h1,h2,h3,fun hc=>?_⟩;obtain rfl:j=i:=by simpa using hc
    obtain rfl:o=x:=Option.some.inj (ho.symm.trans h1);exact hL h3
  ·show j∈less e.all S.oth o.id++ [i]↔_;rw[List.mem_append,hq,hH.oth];constructor
   ·rintro(⟨⟨x,h1,h2,h3,h4⟩,h5⟩|h1)
    ·exact⟨x,h1,h2,h3,by simp⟩
    ·obtain rfl:j=i:=by simpa using h1
     exact⟨o,ho,hs,hL,by simp⟩
   ·rintro⟨x,h1,h2,h3,_⟩;by_cases e1:j=i
    ·right;simp[e1]
    ·exact .inl ⟨⟨x,h1,h2,h3,by simpa using e1⟩,e1⟩
theorem CRep.shrink(h:CRep F base w b e g S)(hw:Below w.heap.size w w')(h1:w.heap.size≤vb)(h2:vb<w'.heap.size):CRep (fun k=>F k∧k≠vb) base w' b e g S:=by
 have h':=h.below hw;have B:=h'.body;have lt: ∀{k:Nat} {c:Array Value} {t:TypeId} {f:Nat×Nat},w.heap[k]? =some (.cells c t f)→k≠vb:=fun hq=>by have:=(Array.getElem?_eq_some_iff.1 hq).1;omega
 have C:=h.body;obtain⟨f1,f2,f3,f4,f5,f6⟩:=B.fd;refine⟨h'.blk,⟨h'.own,lt h.blk⟩,fun k hk=>⟨h'.up k hk,by omega⟩,h'.low,⟨h'.txt.row,fun q hq=>⟨h'.txt.own q hq,by have:=h.txt.lt q hq;omega⟩⟩,⟨B.day,B.oth,B.ended,B.buyB,B.selB,B.buy,B.sel,B.maps,B.ord,B.inj,B.drw,B.dls,⟨⟨f1,by have:=C.day.lt;omega⟩,⟨f2,by have:=C.oth.lt;omega⟩,⟨f3,by have:=C.ended.lt;omega⟩,⟨f4,by have:=C.buy.lt;omega⟩,⟨f5,by have:=C.sel.lt;omega⟩,⟨f6,lt C.drw⟩⟩,fun i hi=>⟨B.fo i hi,by have:=h.old i hi;omega⟩⟩,h'.old,⟨h'.fb.1,lt C.buyB⟩,⟨h'.fb.2.1,lt C.selB⟩,fun q hq=>⟨h'.fb.2.2 q hq,?_⟩⟩;rcases C.dls.2 with⟨h3,_⟩|⟨d,cap,cur,hv,hg,hh,_⟩
 ·rw[h3]at hq;exact absurd hq (by simp[Value.ownBlock])
 ·rw[hv]at hq;have:d=q:=by simpa [Value.ownBlock] using hq
  subst this;exact lt hh
theorem CRep.widen(h:CRep (fun k=>F k∧k≠vb) base w b e g S):CRep F base w b e g S:=by
 have B:=h.body;obtain⟨f1,f2,f3,f4,f5,f6⟩:=B.fd;exact⟨h.blk,h.own.1,fun k hk=>(h.up k hk).1,h.low,⟨h.txt.row,fun q hq=>(h.txt.own q hq).1⟩,⟨B.day,B.oth,B.ended,B.buyB,B.selB,B.buy,B.sel,B.maps,B.ord,B.inj,B.drw,B.dls,⟨f1.1,f2.1,f3.1,f4.1,f5.1,f6.1⟩,fun i hi=>(B.fo i hi).1⟩,h.old,h.fb.1.1,h.fb.2.1.1,fun q hq=>(h.fb.2.2 q hq).1⟩
theorem Cdone.widen{w0:World}{e':Eng}(h:Cdone (fun k=>F k∧k≠vb) base w b g e' w')(h0:Touch F w0 w):Cdone F base w0 b g e' w':=by
 obtain⟨t,S',h1,h2,h3⟩:=h;exact⟨t,S',h1.widen,h2,h0.trans h3.wide⟩
end
def termsC(v:Nat→Int):Array Value:=#[iV (v 0),iV (v 1),iV (v 2),iV (v 3),iV (v 4),iV (v 5),iV (v 6),iV (v 7),iV (v 8)]
structure TA(w:World)(q:Nat)(v:Nat→Int):Prop where
 blk: ∃t f,w.heap[q]? =some (.cells (termsC v) t f)
theorem TA.cell(h:TA w q v)(j:Nat):w.cell? (iA q j)=(termsC v)[j]? :=by
 obtain⟨t,f,hb⟩:=h.blk;simp[World.cell?,hb]
theorem TA.same(h:TA w q v)(hs:Same w w'):TA w' q v:=⟨by rw[hs.heap];exact h.blk⟩
theorem TA.lt(h:TA w q v):q<w.heap.size:=by obtain⟨t,f,hb⟩:=h.blk;exact(Array.getElem?_eq_some_iff.1 hb).1
theorem TA.below(h:TA w q v)(hs:Below w.heap.size w w'):TA w' q v:=⟨by rw[hs.block q h.lt];exact h.blk⟩
theorem TA.new(w:World)(v:Nat→Int)(t:TypeId):TA (w.alloc (.cells (termsC v) t)) w.heap.size v:=⟨t,(0,0),heap_alloc_new w (.cells (termsC v) t)⟩
theorem zBl{B:Nat}{a:World}(h:Below B a w)(hs:Same w w'):Below B a w':=⟨hs.os.trans h.os,hs.tape.trans h.tape,hs.output.trans h.output,by rw[hs.heap];exact h.size,fun k hk=>by rw[hs.heap];exact h.block k hk⟩
theorem zAa{a:World}(h:Below a.heap.size a w)(hs:Below w.heap.size w w'):Below a.heap.size a w':=⟨hs.os.trans h.os,hs.tape.trans h.tape,hs.output.trans h.output,Nat.le_trans h.size hs.size,fun k hk=>(hs.block k (Nat.lt_of_lt_of_le hk h.size)).trans (h.block k hk)⟩
theorem zC6(w:World)(cs:Array Value)(ty:TypeId)(j:Nat)(u:Value)(h:cs[j]? =some u):(w.alloc (.cells cs ty)).cell? (iA w.heap.size j)=some u:=by
 rw[World.cell?_alloc_at _ _ _ _ rfl];exact h
section
variable {F:Nat→Prop} {base:Nat} {w:World} {b q i:Nat} {e:Eng} {g:Gh} {S:Sets} {o:Ord} {v:Nat→Int}
theorem zCy(n a c:Int):
 Cl 145 #[iV n,iV a,iV c] w fun en w'=>en=.returned (.bool (Eng.inn n a c))∧w'=w:=by
 unfold Eng.inn;by_cases h1:a≤n
 ·go_enter Tryz.func145,Tryz.ntmps145;have h1b:decide (a≤n)=true:=by simpa using h1
  go_wp2;go_ret;exact⟨by simp[h1],rfl⟩
 ·go_enter Tryz.func145,Tryz.ntmps145;have h1b:decide (a≤n)=false:=by simpa using h1
  go_wp2;go_ret;exact⟨by simp[h1],rfl⟩
def wordsB(v:Nat→Int):Bool:= !(v 0 == 0) && Eng.inn (v 1) 1 2 && Eng.inn (v 2) 1 3 && Eng.inn (v 7) 1 3
theorem zN:Cl 195 #[termsV v] w fun en w'=>en=.returned (.bool (wordsB v))∧Below w.heap.size w w':=by
 have HW:Hid (∀(W:World) (n a c:Int),Cl 145 #[iV n,iV a,iV c] W fun en w'=>en=.returned (.bool (Eng.inn n a c))∧w'=W):=fun W n a c=>zCy n a c
 unfold termsV;by_cases q0:v 0=0
 ·have HR:Hid (wordsB v=false):=by show _=_;simp[wordsB,q0]
  go_enter Tryz.func195,Tryz.ntmps195;go_wp2;go_ret;exact⟨by rw[HR.out];try rfl,(Below.refl w.heap.size w).alloc (Nat.le_refl _) _⟩
 ·have HQ0:=hid q0;go_enter Tryz.func195,Tryz.ntmps195;go_wp2_with fail;have HB1:=hid ((Below.refl w.heap.size w).alloc (Nat.le_refl _) (.cells #[iV (v 0),iV (v 1),iV (v 2),iV (v 3),iV (v 4),iV (v 5),iV (v 6),iV (v 7),iV (v 8)] 100));have HA1:=hid (TA.new w v 100);unfold termsC at HA1;generalize w.alloc (.cells #[iV (v 0),iV (v 1),iV (v 2),iV (v 3),iV (v 4),iV (v 5),iV (v 6),iV (v 7),iV (v 8)] 100)=W at *;refine(HW W (v 1) 1 2).mono ?_;rintro en w2 ⟨rfl,rfl⟩;cases q1:Eng.inn (v 1) 1 2
  ·have HR:Hid (wordsB v=false):=by show _=_;simp[wordsB,q1]
   go_wp2;go_ret;exact⟨by rw[HR.out];try rfl,HB1⟩
  have r2:cI w2 w.heap.size 2 (v 2):=HA1.cell 2;have r7:cI w2 w.heap.size 7 (v 7):=HA1.cell 7;go_wp2_with fail;refine(HW w2 (v 2) 1 3).mono ?_;rintro en w3 ⟨rfl,rfl⟩;cases q2:Eng.inn (v 2) 1 3
  ·have HR:Hid (wordsB v=false):=by show _=_;simp[wordsB,q2]
   go_wp2;go_ret;exact⟨by rw[HR.out];try rfl,HB1⟩
  go_wp2_with fail;refine(HW w3 (v 7) 1 3).mono ?_;rintro en w4 ⟨rfl,rfl⟩;have HR:Hid (wordsB v=(v 0 != 0 && Eng.inn (v 7) 1 3)):=by show _=_;simp[wordsB,q1,q2,bne]
  go_wp2;go_ret;exact⟨by rw[HR.out];try rfl,HB1⟩
def priceB(mp typ price:Int):Bool:=if typ=3 then price == 0 else Eng.inn price 1 mp
theorem zHd(typ price:Int)(h:CRep F base w b e g S):Cl 197 #[iP b,iV typ,iV price] w fun en w'=>en=.returned (.bool (priceB e.mp typ price))∧Same w w':=by
 have c1:cI w b 1 e.mp:=h.cell 1;have HW:=hid (zGx (w:=w) price 1 e.mp);by_cases q0:typ=3
 ·have HR:Hid (priceB e.mp typ price=(price == 0)):=if_pos q0;go_enter Tryz.func197,Tryz.ntmps197;go_wp2;go_ret;exact⟨by have:=HR;first|(rw[this];done)|(rw[this];rfl)|(subst q0;rw[this];rfl),Same.refl w⟩
 ·have HR:Hid (priceB e.mp typ price=Eng.inn price 1 e.mp):=if_neg q0;go_enter Tryz.func197,Tryz.ntmps197;go_wp2_with fail;refine HW.mono ?_;rintro en w2 ⟨rfl,hs⟩;have HS:=hid hs;go_wp2;go_ret;exact⟨by rw[HR.out];try rfl,HS⟩
def qtyB(mq:Int)(v:Nat→Int):Bool:=Eng.inn (v 4) 1 mq && (if v 2=2 then Eng.inn (v 5) 1 (v 4) else v 5 == 0)
theorem zN0(h:CRep F base w b e g S):Cl 198 #[iP b,termsV v] w fun en w'=>en=.returned (.bool (qtyB e.mq v))∧Below w.heap.size w w':=by
 have c2:cI w b 2 e.mq:=h.cell 2;have hbl:=h.lt;have HW:Hid (∀(W:World) (n a c:Int),Cl 145 #[iV n,iV a,iV c] W fun en w'=>en=.returned (.bool (Eng.inn n a c))∧w'=W):=fun W n a c=>zCy n a c
 clear h;unfold termsV;cases q1:Eng.inn (v 4) 1 e.mq
 ·have HR:Hid (qtyB e.mq v=false):=by show _=_;simp[qtyB,q1]
  have HWQ:Hid (∀W,Cl 145 #[iV (v 4),iV 1,iV e.mq] W fun en w'=>en=rB false∧w'=W):=fun W=>by have:=HW.out W (v 4) 1 e.mq;rw[q1]at this;exact this
  go_enter Tryz.func198,Tryz.ntmps198;go_wp2_with fail;have c2':(w.alloc (.cells #[iV (v 0),iV (v 1),iV (v 2),iV (v 3),iV (v 4),iV (v 5),iV (v 6),iV (v 7),iV (v 8)] 100)).cell? (iA b 2)=sI e.mq:=(World.cell?_alloc_lt _ _ (iA b 2) hbl).trans c2;have HB1:=hid ((Below.refl w.heap.size w).alloc (Nat.le_refl _) (.cells #[iV (v 0),iV (v 1),iV (v 2),iV (v 3),iV (v 4),iV (v 5),iV (v 6),iV (v 7),iV (v 8)] 100));have HA1:=hid (TA.new w v 100);unfold termsC at HA1;generalize w.alloc (.cells #[iV (v 0),iV (v 1),iV (v 2),iV (v 3),iV (v 4),iV (v 5),iV (v 6),iV (v 7),iV (v 8)] 100)=W at *;have r4:cI W w.heap.size 4 (v 4):=HA1.cell 4;clear c2;go_quiet (exact Calls.quiet_of_same (HWQ.out _));go_wp2;go_ret;exact⟨by rw[HR.out];try rfl,⟨HB1.os,HB1.tape,HB1.output,HB1.size,HB1.block⟩⟩
 ·have HWQ:Hid (∀W,Cl 145 #[iV (v 4),iV 1,iV e.mq] W fun en w'=>en=rB true∧w'=W):=fun W=>by have:=HW.out W (v 4) 1 e.mq;rw[q1]at this;exact this
  by_cases q2:v 2=2
  ·have HR:Hid (qtyB e.mq v=Eng.inn (v 5) 1 (v 4)):=by show _=_;simp[qtyB,q1,q2]
   have HQ2:=hid q2;clear q2;go_enter Tryz.func198,Tryz.ntmps198;go_wp2_with fail;have c2':(w.alloc (.cells #[iV (v 0),iV (v 1),iV (v 2),iV (v 3),iV (v 4),iV (v 5),iV (v 6),iV (v 7),iV (v 8)] 100)).cell? (iA b 2)=sI e.mq:=(World.cell?_alloc_lt _ _ (iA b 2) hbl).trans c2;have HB1:=hid ((Below.refl w.heap.size w).alloc (Nat.le_refl _) (.cells #[iV (v 0),iV (v 1),iV (v 2),iV (v 3),iV (v 4),iV (v 5),iV (v 6),iV (v 7),iV (v 8)] 100));have HA1:=hid (TA.new w v 100);unfold termsC at HA1;generalize w.alloc (.cells #[iV (v 0),iV (v 1),iV (v 2),iV (v 3),iV (v 4),iV (v 5),iV (v 6),iV (v 7),iV (v 8)] 100)=W at *;have r2:cI W w.heap.size 2 2:=by rw[←HQ2.out];exact HA1.cell 2
   have r4:cI W w.heap.size 4 (v 4):=HA1.cell 4;have r5:cI W w.heap.size 5 (v 5):=HA1.cell 5;clear c2;go_quiet (exact Calls.quiet_of_same (HWQ.out _));go_wp2_with fail;refine(HW.out (W.drewN nq) (v 5) 1 (v 4)).mono ?_;rintro en w3 ⟨rfl,rfl⟩;go_wp2;go_ret;exact⟨by rw[HR.out];try rfl,⟨HB1.os,HB1.tape,HB1.output,HB1.size,HB1.block⟩⟩
  ·have HR:Hid (qtyB e.mq v=(v 5 == 0)):=by show _=_;simp[qtyB,q1,q2]
   go_enter Tryz.func198,Tryz.ntmps198;go_wp2_with fail;have c2':(w.alloc (.cells #[iV (v 0),iV (v 1),iV (v 2),iV (v 3),iV (v 4),iV (v 5),iV (v 6),iV (v 7),iV (v 8)] 100)).cell? (iA b 2)=sI e.mq:=(World.cell?_alloc_lt _ _ (iA b 2) hbl).trans c2;have HB1:=hid ((Below.refl w.heap.size w).alloc (Nat.le_refl _) (.cells #[iV (v 0),iV (v 1),iV (v 2),iV (v 3),iV (v 4),iV (v 5),iV (v 6),iV (v 7),iV (v 8)] 100));have HA1:=hid (TA.new w v 100);unfold termsC at HA1;generalize w.alloc (.cells #[iV (v 0),iV (v 1),iV (v 2),iV (v 3),iV (v 4),iV (v 5),iV (v 6),iV (v 7),iV (v 8)] 100)=W at *;have r2:cI W w.heap.size 2 (v 2):=HA1.cell 2;have r4:cI W w.heap.size 4 (v 4):=HA1.cell 4;have r5:cI W w.heap.size 5 (v 5):=HA1.cell 5;clear c2;go_quiet (exact Calls.quiet_of_same (HWQ.out _));go_wp2;go_ret;exact⟨by rw[HR.out];try rfl,⟨HB1.os,HB1.tape,HB1.output,HB1.size,HB1.block⟩⟩
def offB(mp:Int)(v:Nat→Int):Bool:=if v 2=3 then(if v 1=1 then Eng.inn (v 6) (-mp) 0 else Eng.inn (v 6) 0 mp) else v 6 == 0
theorem zN1(h:CRep F base w b e g S)(hm:1≤e.mp∧e.mp≤1000000):Cl 199 #[iP b,termsV v] w fun en w'=>en=.returned (.bool (offB e.mp v))∧Below w.heap.size w w':=by
 have c1:cI w b 1 e.mp:=h.cell 1;have hbl:=h.lt;have hwn:wrap64 (-e.mp)= -e.mp:=by unfold wrap64;omega
 have hwn':IntKind.i64.wrap (-e.mp)= -e.mp:=zA8 _ (by omega) (by omega);have HW:Hid (∀(W:World) (n a c:Int),Cl 145 #[iV n,iV a,iV c] W fun en w'=>en=.returned (.bool (Eng.inn n a c))∧w'=W):=fun W n a c=>zCy n a c
 unfold termsV;by_cases q2:v 2=3
 ·by_cases q1:v 1=1
  ·have HR:Hid (offB e.mp v=Eng.inn (v 6) (-e.mp) 0):=(if_pos q2).trans (if_pos q1);have HQ2:=hid q2;have HQ1:=hid q1;go_enter Tryz.func199,Tryz.ntmps199;rw[q1,q2];go_wp2_with fail;have c1':(w.alloc (.cells #[iV (v 0),iV 1,iV 3,iV (v 3),iV (v 4),iV (v 5),iV (v 6),iV (v 7),iV (v 8)] 100)).cell? (iA b 1)=sI e.mp:=(World.cell?_alloc_lt _ _ (iA b 1) hbl).trans c1;have r6:=zC6 w #[iV (v 0),iV 1,iV 3,iV (v 3),iV (v 4),iV (v 5),iV (v 6),iV (v 7),iV (v 8)] 100 6 (iV (v 6)) rfl;have HB1:=hid ((Below.refl w.heap.size w).alloc (Nat.le_refl _) (.cells #[iV (v 0),iV 1,iV 3,iV (v 3),iV (v 4),iV (v 5),iV (v 6),iV (v 7),iV (v 8)] 100));have r6':(w.alloc (.cells #[iV (v 0),iV 1,iV 3,iV (v 3),iV (v 4),iV (v 5),iV (v 6),iV (v 7),iV (v 8)] 100)).cell? (iA w.heap.size 6)=sI (v 6):=r6;generalize w.alloc (.cells #[iV (v 0),iV 1,iV 3,iV (v 3),iV (v 4),iV (v 5),iV (v 6),iV (v 7),iV (v 8)] 100)=W at *
   go_quiet (exact Calls.quiet_of_same (HW _ _ _ _));go_wp2;go_ret;exact⟨by rw[HR.out];try rfl,⟨HB1.os,HB1.tape,HB1.output,HB1.size,HB1.block⟩⟩
  ·have HR:Hid (offB e.mp v=Eng.inn (v 6) 0 e.mp):=(if_pos q2).trans (if_neg q1);go_enter Tryz.func199,Tryz.ntmps199;rw[q2];go_wp2_with fail;have c1':(w.alloc (.cells #[iV (v 0),iV (v 1),iV 3,iV (v 3),iV (v 4),iV (v 5),iV (v 6),iV (v 7),iV (v 8)] 100)).cell? (iA b 1)=sI e.mp:=(World.cell?_alloc_lt _ _ (iA b 1) hbl).trans c1;have r6:=zC6 w #[iV (v 0),iV (v 1),iV 3,iV (v 3),iV (v 4),iV (v 5),iV (v 6),iV (v 7),iV (v 8)] 100 6 (iV (v 6)) rfl;have HB1:=hid ((Below.refl w.heap.size w).alloc (Nat.le_refl _) (.cells #[iV (v 0),iV (v 1),iV 3,iV (v 3),iV (v 4),iV (v 5),iV (v 6),iV (v 7),iV (v 8)] 100));have r6':(w.alloc (.cells #[iV (v 0),iV (v 1),iV 3,iV (v 3),iV (v 4),iV (v 5),iV (v 6),iV (v 7),iV (v 8)] 100)).cell? (iA w.heap.size 6)=sI (v 6):=r6;generalize w.alloc (.cells #[iV (v 0),iV (v 1),iV 3,iV (v 3),iV (v 4),iV (v 5),iV (v 6),iV (v 7),iV (v 8)] 100)=W at *
   go_quiet (exact Calls.quiet_of_same (HW _ _ _ _));go_wp2;go_ret;exact⟨by rw[HR.out];try rfl,⟨HB1.os,HB1.tape,HB1.output,HB1.size,HB1.block⟩⟩
 ·have HR:Hid (offB e.mp v=(v 6 == 0)):=if_neg q2;go_enter Tryz.func199,Tryz.ntmps199;go_wp2;go_ret;exact⟨by rw[HR.out];try rfl,(Below.refl w.heap.size w).alloc (Nat.le_refl _) _⟩
def timeB(now:Int)(v:Nat→Int):Bool:=if v 7=3 then decide (now<v 8) else v 8 == 0
theorem zN2(h:CRep F base w b e g S):Cl 200 #[iP b,termsV v] w fun en w'=>en=.returned (.bool (timeB e.now v))∧Below w.heap.size w w':=by
 have c4:cI w b 4 e.now:=h.cell 4;have hbl:=h.lt;unfold termsV;by_cases q2:v 7=3
 ·have HR:Hid (timeB e.now v=decide (e.now<v 8)):=if_pos q2;go_enter Tryz.func200,Tryz.ntmps200;rw[q2];go_wp2_with fail;have c4':(w.alloc (.cells #[iV (v 0),iV (v 1),iV (v 2),iV (v 3),iV (v 4),iV (v 5),iV (v 6),iV 3,iV (v 8)] 100)).cell? (iA b 4)=sI e.now:=(World.cell?_alloc_lt _ _ (iA b 4) hbl).trans c4;have r8:(w.alloc (.cells #[iV (v 0),iV (v 1),iV (v 2),iV (v 3),iV (v 4),iV (v 5),iV (v 6),iV 3,iV (v 8)] 100)).cell? (iA w.heap.size 8)=sI (v 8):=zC6 w #[iV (v 0),iV (v 1),iV (v 2),iV (v 3),iV (v 4),iV (v 5),iV (v 6),iV 3,iV (v 8)] 100 8 (iV (v 8)) rfl;have HB1:=hid ((Below.refl w.heap.size w).alloc (Nat.le_refl _) (.cells #[iV (v 0),iV (v 1),iV (v 2),iV (v 3),iV (v 4),iV (v 5),iV (v 6),iV 3,iV (v 8)] 100));generalize w.alloc (.cells #[iV (v 0),iV (v 1),iV (v 2),iV (v 3),iV (v 4),iV (v 5),iV (v 6),iV 3,iV (v 8)] 100)=W at *;go_quiet (fail);go_wp2;go_ret
  exact⟨by rw[HR.out];try rfl,⟨HB1.os,HB1.tape,HB1.output,HB1.size,HB1.block⟩⟩
 ·have HR:Hid (timeB e.now v=(v 8 == 0)):=if_neg q2;go_enter Tryz.func200,Tryz.ntmps200;go_wp2;go_ret;exact⟨by rw[HR.out];try rfl,(Below.refl w.heap.size w).alloc (Nat.le_refl _) _⟩
end
end Go.Proofs.YtanfmhonjpjpoaaGreatDoor
