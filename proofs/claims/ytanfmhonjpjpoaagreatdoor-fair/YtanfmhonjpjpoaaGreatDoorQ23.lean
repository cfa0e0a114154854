import Derived.Test.YtanfmhonjpjpoaaGreatDoorQ00
import Derived.Test.YtanfmhonjpjpoaaGreatDoorQ03
import Derived.Test.YtanfmhonjpjpoaaGreatDoorQ07
import Derived.Test.YtanfmhonjpjpoaaGreatDoorQ22
set_option linter.all false
set_option maxRecDepth 100000
set_option maxHeartbeats 8000000
namespace Go.Proofs.YtanfmhonjpjpoaaGreatDoor
variable{w:World}{i q:Nat}{o:Ord}
open Go.Extern Go.Maps Go.RowKit
theorem zG0(a b:Int):Cl 267 #[iV a,iV b] w fun en w'=>en=.returned (.bool (decide (b<a)))∧w'=w:=by
 go_enter Tryz.func267,Tryz.ntmps267;go_wp2;go_ret;exact⟨rfl,rfl⟩
theorem zG1(a b:Int):Cl 271 #[iV a,iV b] w fun en w'=>en=.returned (.bool (decide (a<b)))∧w'=w:=by
 go_enter Tryz.func271,Tryz.ntmps271;go_wp2;go_ret;exact⟨rfl,rfl⟩
def optPtr(g:Gh)(r:Option Nat):Value:=ptrOf (r.map g.blk)
section
variable {F:Nat→Prop} {base:Nat} {w:World} {b:Nat} {e:Eng} {g:Gh} {S:Sets}
theorem zLk(lim:Int)(h:CRep F base w b e g S)(inv:Eng.EInv e)(hH:Holds e S [] []):
 Cl 268 #[iP g.buyB,iV lim,.func (.func 267) #[] #[]] w fun en w'=> ∃r,en=.returned (optPtr g r)∧(∃seen,Best 1 lim e.all g S.buy seen r∧∀j∈S.buy,ent e.all g j∈seen)∧Below w.heap.size w w':=by
 have hpm:=h.body.buy;have d0:w.cell? (iA g.buyB 0)=some (.map (some g.buyM)):=by simp[World.cell?,h.body.buyB]
 have hin: ∀j∈S.buy,∃x,e.all[j]? =some x∧¬x.shown=0:=fun j hj=>by
  obtain⟨x,h1,h2,h3⟩:=hH.buy1 j hj;exact⟨x,h1,h3.resolve_right (by simp)⟩
 have hinj: ∀i j,i∈S.buy→j∈S.buy→g.blk i=g.blk j→i=j:=fun i j hi hj hij=>by
  obtain⟨x,h1,_⟩:=hin i hi;obtain⟨y,h2,_⟩:=hin j hj;exact h.body.inj i j (List.getElem?_eq_some_iff.1 h1).1 (List.getElem?_eq_some_iff.1 h2).1 hij
 have hoa: ∀(W:World),Bw w W→∀j∈S.buy,∃x,e.all[j]? =some x∧¬x.shown=0∧OA W (g.blk j) j x:=fun W hW j hj=>by
  obtain⟨x,h1,h2⟩:=hin j hj;have hst:x.status=1:=Classical.byContradiction fun hc=>h2 ((inv.ok j x h1).dead hc)
  have hO:=h.oa h1 hst;exact⟨x,h1,h2,⟨(hW.block _ hO.lt).trans hO.blk⟩⟩
 have HIN:=hid hin;have HINJ:=hid hinj;have HOA:=hid hoa;have HAP:=hid inv.apart;go_enter Tryz.func268,Tryz.ntmps268;go_wp2_with(first
  |(at_range;refine zBn _ rfl _ _ rfl keyedInt Tryz.underlying110 rfl hpm ?_;intro w0 hpr0 hg0 hs0)
  |go_in)
 go_frame;go_loopw [7] (fun fv wr=> ∃(seen rem:List (Int×Option Nat)) (r:Option Nat),fv=optPtr g r∧PR ptrElem Tryz.prog 3 wr g.buyM w.heap.size (S.buy.map fun i=>(idAt e.all i,some (g.blk i))) seen rem∧Best 1 lim e.all g S.buy seen r∧Bw w wr) (fun _ wr=>wr.rangeLeft g.buyM w.heap.size)
 case atStart=>exact⟨[],_,none,rfl,hpr0,Best.nil,(Below.refl w.heap.size w).grown hg0 (Nat.le_refl _) (by simp)⟩
 case round=>
  obtain⟨seen,rem,r,rfl,hpr,hbest,hbel⟩:=hrel;have HBE:=hid hbest;have HBL:=hid hbel;go_wp2_with(first
   |(at_next;refine zBo _ rfl _ rfl keyedInt Tryz.underlying3 g.buyM w.heap.size seen rem rfl hpr ?_ ?_)
   |go_in)
  ·intro h0;have HALL:Hid (∀j∈S.buy,ent e.all g j∈seen):=fun j hj=>by
    have:=hpr.1;rw[h0,List.append_nil]at this;exact this.mem_iff.2 (List.mem_map_of_mem (f:=fun i=>(idAt e.all i,some (g.blk i))) hj)
   go_wp2;go_ret;exact⟨r,rfl,⟨seen,HBE.out,HALL.out⟩,HBL.out⟩
  ·intro k v rem' w1 j0 hj0 hk hv hpr1 hg1 hs1 hlt hen;subst hk hv;have hval:ptrElem.val (some (g.blk j0))=iP (g.blk j0):=rfl;rw[hval]at hen⊢;have hB1:Bw w w1:=HBL.grown hg1 HBL.size (by intro k hk;injection hk with hk;omega);obtain⟨x,hx,hsh,hO⟩:=HOA.out w1 hB1 j0 hj0;have x3:cI w1 (g.blk j0) 3 x.price:=hO.cell 3;have x12:cI w1 (g.blk j0) 12 x.stamp:=hO.cell 12;go_wp2_with fail;refine(zKv lim x.price).mono ?_;rintro en w2 ⟨rfl,hs2⟩;have hpr2:PR ptrElem Tryz.prog 3 w2 g.buyM w.heap.size (S.buy.map fun i=>(idAt e.all i,some (g.blk i))) (seen++ [ent e.all g j0]) rem':=hpr1.of_blocks (by rw[hs2.heap]) (by rw[hs2.heap]);have HPR:=hid hpr2;have HB2:Hid (Bw w w2):=⟨hs2.os.trans hB1.os,hs2.tape.trans hB1.tape,hs2.output.trans hB1.output,by rw[hs2.heap];exact hB1.size,fun k hk=>by rw[hs2.heap];exact hB1.block k hk⟩;have HLT:Hid (w2.rangeLeft g.buyM w.heap.size<wr.rangeLeft g.buyM w.heap.size):=by
    show _<_;have:w2.rangeLeft g.buyM w.heap.size=w1.rangeLeft g.buyM w.heap.size:=by unfold World.rangeLeft;rw[hs2.heap]
    rw[this];exact hlt
   have hO2:=hO.same hs2;have x3:cI w2 (g.blk j0) 3 x.price:=hO2.cell 3;have x12:cI w2 (g.blk j0) 12 x.stamp:=hO2.cell 12;have HX:=hid hx;have HSH:=hid hsh;have HJ:=hid hj0;cases q1:decide (x.price<lim)
   case true=>
    go_wp2;go_roundw
    case rel=>exact⟨_,rem',r,rfl,HPR.out,HBE.skip HINJ.out HJ.out HX.out (by simpa [bt] using q1),HB2.out⟩
    case measure=>exact HLT.out
   case false=>
    have HQ:Hid (bt 1 lim x.price=false):=by show _=_;simpa [bt] using q1
    cases r with
    |none=>
     unfold optPtr ptrOf;simp only[Option.map_none];go_wp2_with fail;go_quiet (fail);go_wp2_with fail;go_roundw
     case rel=>exact⟨_,rem',some j0,rfl,HPR.of_blocks rfl rfl,HBE.start HINJ.out HJ.out HX.out HQ.out,⟨HB2.os,HB2.tape,HB2.output,HB2.size,HB2.block⟩⟩
     case measure=>exact HLT.out
    |some k=>
     obtain⟨hkB,y,hy,hly,_⟩:=HBE.out;obtain⟨y',hy',hysh,hOy⟩:=HOA.out w2 HB2.out k hkB;obtain rfl:y=y':=Option.some.inj (hy.symm.trans hy');have y3:cI w2 (g.blk k) 3 y.price:=hOy.cell 3;have y12:cI w2 (g.blk k) 12 y.stamp:=hOy.cell 12;have HOY:=hid hOy;have HY:=hid hy;have HAPK:Hid (j0≠k→x.stamp≠y.stamp):=fun hne=>HAP.out j0 k x y HX.out hy hne HSH.out hysh
     have HOX:Hid (OA w2 (g.blk j0) j0 x):=by
      obtain⟨x',hx',_,h3⟩:=HOA.out w2 HB2.out j0 HJ.out;obtain rfl:x=x':=Option.some.inj (HX.out.symm.trans hx');exact h3
     have HCL:Hid (∀W,Cl 267 #[iV x.price,iV y.price] W fun en w3=>en=.returned (.bool (decide (y.price<x.price)))∧w3=W):=fun W=>zG0 x.price y.price
     unfold optPtr ptrOf;simp only[Option.map_some];cases q2:decide (y.price<x.price)
     case true=>
      have HAH:Hid (Eng.ahead 1 x y=true):=by show _=_;unfold Eng.ahead;simp at q2⊢;exact .inl q2
      simp only[q2]at HCL;go_wp2_with fail;go_quiet (exact Calls.quiet_of_same (HCL.out _));go_wp2_with fail;go_roundw
      case rel=>exact⟨_,rem',some j0,rfl,HPR.of_blocks rfl rfl,HBE.take HINJ.out HJ.out HX.out HY.out HQ.out HAH.out,⟨HB2.os,HB2.tape,HB2.output,HB2.size,HB2.block⟩⟩
      case measure=>exact HLT.out
     case false=>
      simp only[q2]at HCL;cases q3:(x.price == y.price)
      case false=>
       have HAH:Hid (Eng.ahead 1 x y=false):=by show _=_;unfold Eng.ahead;rw[q3];simpa using q2
       go_wp2_with fail;go_quiet (exact Calls.quiet_of_same (HCL.out _));go_wp2_with fail;go_roundw
       case rel=>exact⟨_,rem',some k,rfl,HPR.of_blocks rfl rfl,HBE.stay HINJ.out HJ.out HX.out HY.out HAPK.out HAH.out,⟨HB2.os,HB2.tape,HB2.output,HB2.size,HB2.block⟩⟩
       case measure=>exact HLT.out
      case true=>
       cases q4:decide (x.stamp<y.stamp)
       case true=>
        have HAH:Hid (Eng.ahead 1 x y=true):=by show _=_;unfold Eng.ahead;rw[q3,q4];simp
        go_wp2_with fail;go_quiet (exact Calls.quiet_of_same (HCL.out _));go_wp2_with fail;go_roundw
        case rel=>exact⟨_,rem',some j0,rfl,HPR.of_blocks rfl rfl,HBE.take HINJ.out HJ.out HX.out HY.out HQ.out HAH.out,⟨HB2.os,HB2.tape,HB2.output,HB2.size,HB2.block⟩⟩
        case measure=>exact HLT.out
       case false=>
        have HAH:Hid (Eng.ahead 1 x y=false):=by show _=_;unfold Eng.ahead;rw[q3,q4];simpa using q2
        go_wp2_with fail;go_quiet (exact Calls.quiet_of_same (HCL.out _));go_wp2_with fail;go_roundw
        case rel=>exact⟨_,rem',some k,rfl,HPR.of_blocks rfl rfl,HBE.stay HINJ.out HJ.out HX.out HY.out HAPK.out HAH.out,⟨HB2.os,HB2.tape,HB2.output,HB2.size,HB2.block⟩⟩
        case measure=>exact HLT.out
theorem zLl(lim:Int)(h:CRep F base w b e g S)(inv:Eng.EInv e)(hH:Holds e S [] []):
 Cl 268 #[iP g.selB,iV lim,.func (.func 271) #[] #[]] w fun en w'=> ∃r,en=.returned (optPtr g r)∧(∃seen,Best 2 lim e.all g S.sel seen r∧∀j∈S.sel,ent e.all g j∈seen)∧Below w.heap.size w w':=by
 have hpm:=h.body.sel;have d0:w.cell? (iA g.selB 0)=some (.map (some g.selM)):=by simp[World.cell?,h.body.selB]
 have hin: ∀j∈S.sel,∃x,e.all[j]? =some x∧¬x.shown=0:=fun j hj=>by
  obtain⟨x,h1,h2,h3⟩:=hH.sel1 j hj;exact⟨x,h1,h3.resolve_right (by simp)⟩
 have hinj: ∀i j,i∈S.sel→j∈S.sel→g.blk i=g.blk j→i=j:=fun i j hi hj hij=>by
  obtain⟨x,h1,_⟩:=hin i hi;obtain⟨y,h2,_⟩:=hin j hj;exact h.body.inj i j (List.getElem?_eq_some_iff.1 h1).1 (List.getElem?_eq_some_iff.1 h2).1 hij
 have hoa: ∀(W:World),Bw w W→∀j∈S.sel,∃x,e.all[j]? =some x∧¬x.shown=0∧OA W (g.blk j) j x:=fun W hW j hj=>by
  obtain⟨x,h1,h2⟩:=hin j hj;have hst:x.status=1:=Classical.byContradiction fun hc=>h2 ((inv.ok j x h1).dead hc)
  have hO:=h.oa h1 hst;exact⟨x,h1,h2,⟨(hW.block _ hO.lt).trans hO.blk⟩⟩
 have HIN:=hid hin;have HINJ:=hid hinj;have HOA:=hid hoa;have HAP:=hid inv.apart;go_enter Tryz.func268,Tryz.ntmps268;go_wp2_with(first
  |(at_range;refine zBn _ rfl _ _ rfl keyedInt Tryz.underlying110 rfl hpm ?_;intro w0 hpr0 hg0 hs0)
  |go_in)
 go_frame;go_loopw [7] (fun fv wr=> ∃(seen rem:List (Int×Option Nat)) (r:Option Nat),fv=optPtr g r∧PR ptrElem Tryz.prog 3 wr g.selM w.heap.size (S.sel.map fun i=>(idAt e.all i,some (g.blk i))) seen rem∧Best 2 lim e.all g S.sel seen r∧Bw w wr) (fun _ wr=>wr.rangeLeft g.selM w.heap.size)
 case atStart=>exact⟨[],_,none,rfl,hpr0,Best.nil,(Below.refl w.heap.size w).grown hg0 (Nat.le_refl _) (by simp)⟩
 case round=>
  obtain⟨seen,rem,r,rfl,hpr,hbest,hbel⟩:=hrel;have HBE:=hid hbest;have HBL:=hid hbel;go_wp2_with(first
   |(at_next;refine zBo _ rfl _ rfl keyedInt Tryz.underlying3 g.selM w.heap.size seen rem rfl hpr ?_ ?_)
   |go_in)
  ·intro h0;have HALL:Hid (∀j∈S.sel,ent e.all g j∈seen):=fun j hj=>by
    have:=hpr.1;rw[h0,List.append_nil]at this;exact this.mem_iff.2 (List.mem_map_of_mem (f:=fun i=>(idAt e.all i,some (g.blk i))) hj)
   go_wp2;go_ret;exact⟨r,rfl,⟨seen,HBE.out,HALL.out⟩,HBL.out⟩
  ·intro k v rem' w1 j0 hj0 hk hv hpr1 hg1 hs1 hlt hen;subst hk hv;have hval:ptrElem.val (some (g.blk j0))=iP (g.blk j0):=rfl;rw[hval]at hen⊢;have hB1:Bw w w1:=HBL.grown hg1 HBL.size (by intro k hk;injection hk with hk;omega);obtain⟨x,hx,hsh,hO⟩:=HOA.out w1 hB1 j0 hj0;have x3:cI w1 (g.blk j0) 3 x.price:=hO.cell 3;have x12:cI w1 (g.blk j0) 12 x.stamp:=hO.cell 12;go_wp2_with fail;refine(zKw lim x.price).mono ?_;rintro en w2 ⟨rfl,hs2⟩;have hpr2:PR ptrElem Tryz.prog 3 w2 g.selM w.heap.size (S.sel.map fun i=>(idAt e.all i,some (g.blk i))) (seen++ [ent e.all g j0]) rem':=hpr1.of_blocks (by rw[hs2.heap]) (by rw[hs2.heap]);have HPR:=hid hpr2;have HB2:Hid (Bw w w2):=⟨hs2.os.trans hB1.os,hs2.tape.trans hB1.tape,hs2.output.trans hB1.output,by rw[hs2.heap];exact hB1.size,fun k hk=>by rw[hs2.heap];exact hB1.block k hk⟩;have HLT:Hid (w2.rangeLeft g.selM w.heap.size<wr.rangeLeft g.selM w.heap.size):=by
    show _<_;have:w2.rangeLeft g.selM w.heap.size=w1.rangeLeft g.selM w.heap.size:=by unfold World.rangeLeft;rw[hs2.heap]
    rw[this];exact hlt
   have hO2:=hO.same hs2;have x3:cI w2 (g.blk j0) 3 x.price:=hO2.cell 3;have x12:cI w2 (g.blk j0) 12 x.stamp:=hO2.cell 12;have HX:=hid hx;have HSH:=hid hsh;have HJ:=hid hj0;cases q1:decide (lim<x.price)
   case true=>
    go_wp2;go_roundw
    case rel=>exact⟨_,rem',r,rfl,HPR.out,HBE.skip HINJ.out HJ.out HX.out (by simpa [bt] using q1),HB2.out⟩
    case measure=>exact HLT.out
   case false=>
    have HQ:Hid (bt 2 lim x.price=false):=by show _=_;simpa [bt] using q1
    cases r with
    |none=>
     unfold optPtr ptrOf;simp only[Option.map_none];go_wp2_with fail;go_quiet (fail);go_wp2_with fail;go_roundw
     case rel=>exact⟨_,rem',some j0,rfl,HPR.of_blocks rfl rfl,HBE.start HINJ.out HJ.out HX.out HQ.out,⟨HB2.os,HB2.tape,HB2.output,HB2.size,HB2.block⟩⟩
     case measure=>exact HLT.out
    |some k=>
     obtain⟨hkB,y,hy,hly,_⟩:=HBE.out;obtain⟨y',hy',hysh,hOy⟩:=HOA.out w2 HB2.out k hkB;obtain rfl:y=y':=Option.some.inj (hy.symm.trans hy');have y3:cI w2 (g.blk k) 3 y.price:=hOy.cell 3;have y12:cI w2 (g.blk k) 12 y.stamp:=hOy.cell 12;have HOY:=hid hOy;have HY:=hid hy;have HAPK:Hid (j0≠k→x.stamp≠y.stamp):=fun hne=>HAP.out j0 k x y HX.out hy hne HSH.out hysh
     have HOX:Hid (OA w2 (g.blk j0) j0 x):=by
      obtain⟨x',hx',_,h3⟩:=HOA.out w2 HB2.out j0 HJ.out;obtain rfl:x=x':=Option.some.inj (HX.out.symm.trans hx');exact h3
     have HCL:Hid (∀W,Cl 271 #[iV x.price,iV y.price] W fun en w3=>en=.returned (.bool (decide (x.price<y.price)))∧w3=W):=fun W=>zG1 x.price y.price
     unfold optPtr ptrOf;simp only[Option.map_some];cases q2:decide (x.price<y.price)
     case true=>
      have HAH:Hid (Eng.ahead 2 x y=true):=by show _=_;unfold Eng.ahead;simp at q2⊢;exact .inl q2
      simp only[q2]at HCL;go_wp2_with fail;go_quiet (exact Calls.quiet_of_same (HCL.out _));go_wp2_with fail;go_roundw
      case rel=>exact⟨_,rem',some j0,rfl,HPR.of_blocks rfl rfl,HBE.take HINJ.out HJ.out HX.out HY.out HQ.out HAH.out,⟨HB2.os,HB2.tape,HB2.output,HB2.size,HB2.block⟩⟩
      case measure=>exact HLT.out
     case false=>
      simp only[q2]at HCL;cases q3:(x.price == y.price)
      case false=>
       have HAH:Hid (Eng.ahead 2 x y=false):=by show _=_;unfold Eng.ahead;rw[q3];simpa using q2
       go_wp2_with fail;go_quiet (exact Calls.quiet_of_same (HCL.out _));go_wp2_with fail;go_roundw
       case rel=>exact⟨_,rem',some k,rfl,HPR.of_blocks rfl rfl,HBE.stay HINJ.out HJ.out HX.out HY.out HAPK.out HAH.out,⟨HB2.os,HB2.tape,HB2.output,HB2.size,HB2.block⟩⟩
       case measure=>exact HLT.out
      case true=>
       cases q4:decide (x.stamp<y.stamp)
       case true=>
        have HAH:Hid (Eng.ahead 2 x y=true):=by show _=_;unfold Eng.ahead;rw[q3,q4];simp
        go_wp2_with fail;go_quiet (exact Calls.quiet_of_same (HCL.out _));go_wp2_with fail;go_roundw
        case rel=>exact⟨_,rem',some j0,rfl,HPR.of_blocks rfl rfl,HBE.take HINJ.out HJ.out HX.out HY.out HQ.out HAH.out,⟨HB2.os,HB2.tape,HB2.output,HB2.size,HB2.block⟩⟩
        case measure=>exact HLT.out
       case false=>
        have HAH:Hid (Eng.ahead 2 x y=false):=by show _=_;unfold Eng.ahead;rw[q3,q4];simpa using q2
        go_wp2_with fail;go_quiet (exact Calls.quiet_of_same (HCL.out _));go_wp2_with fail;go_roundw
        case rel=>exact⟨_,rem',some k,rfl,HPR.of_blocks rfl rfl,HBE.stay HINJ.out HJ.out HX.out HY.out HAPK.out HAH.out,⟨HB2.os,HB2.tape,HB2.output,HB2.size,HB2.block⟩⟩
        case measure=>exact HLT.out
end
theorem Eng.upd_self{e:Eng}{f:Ord→Ord}(h: ∀x,e.all[i]? =some x→f x=x):e.upd i f=e:=by
 have:e.all.modify i f=e.all:=by
  rw[Eng.modify_congr f id e.all i h];exact List.modify_id _ _
 unfold Eng.upd;rw[this]
section
variable {F:Nat→Prop} {base:Nat} {w:World} {b i k:Nat} {e:Eng} {g:Gh} {S:Sets} {o r:Ord}
theorem Holds.traded(h:Holds e S [] [])(ho:e.all[i]? =some o)(hr:e.all[k]? =some r)(hne:i≠k)(hsh:o.shown=0):Holds (e.trade1 i k o r) S [] [k]:=by
 have h1:=h.upd (f:=fun _=>Eng.tradeO o r) (odd':=[]) ho rfl rfl rfl (fun _ _=>Iff.rfl) (.inr ⟨by simp,Iff.rfl⟩);have hr':(e.upd i fun _=>Eng.tradeO o r).all[k]? =some r:=(Eng.upd_ne _ _ _ _ hne).trans hr;have h2:=h1.upd (f:=fun _=>Eng.tradeR o r) (odd':=[k]) hr' rfl rfl rfl (fun j hj=>by simp[hj]) (.inl (by simp));exact h2.cong rfl
theorem Holds.traded'(h:Holds e S [] [])(ho:e.all[i]? =some o)(hr:e.all[k]? =some r)(hne:i≠k)(hsh:o.shown=0)(h1: ¬r.shown=0)(h2: ¬(Eng.tradeR o r).shown=0):Holds (e.trade1 i k o r) S [] []:=by
 have k1:=h.upd (f:=fun _=>Eng.tradeO o r) (odd':=[]) ho rfl rfl rfl (fun _ _=>Iff.rfl) (.inr ⟨by simp,Iff.rfl⟩);have hr':(e.upd i fun _=>Eng.tradeO o r).all[k]? =some r:=(Eng.upd_ne _ _ _ _ hne).trans hr;have k2:=k1.upd (f:=fun _=>Eng.tradeR o r) (odd':=[]) hr' rfl rfl rfl (fun j hj=>Iff.rfl) (.inr ⟨by simp,⟨fun hc=>absurd hc h2,fun hc=>absurd hc h1⟩⟩);exact k2.cong rfl
theorem CRep.traded(h:CRep F base w b e g S)(ho:e.all[i]? =some o)(hr:e.all[k]? =some r)(hne:i≠k)(hos:o.status=1)(hrs:r.status=1)(hni:i∉S.ended)(hnk:k∉S.ended)(a c:Int)(ha:a=e.worth+Eng.qtyOf o r*r.price)(hc:c=e.volume+Eng.qtyOf o r):
 CRep F base (((((w.setCell (iA b 14) (iV a)).setCell (iA b 15) (iV c)).setCell (iA (g.blk i) 10) (iV (o.filled+Eng.qtyOf o r))).setCell (iA (g.blk k) 10) (iV (r.filled+Eng.qtyOf o r))).setCell (iA (g.blk k) 11) (iV (r.shown - Eng.qtyOf o r))) b (({ e with worth:=a,volume:=c }.upd i fun _=>Eng.tradeO o r).upd k fun _=>Eng.tradeR o r) g S
 ∧Touch F w (((((w.setCell (iA b 14) (iV a)).setCell (iA b 15) (iV c)).setCell (iA (g.blk i) 10) (iV (o.filled+Eng.qtyOf o r))).setCell (iA (g.blk k) 10) (iV (r.filled+Eng.qtyOf o r))).setCell (iA (g.blk k) 11) (iV (r.shown - Eng.qtyOf o r))):=by
 have h1:CRep F base (w.setCell (iA b 14) (iV a)) b { e with worth:=a } g S:=h.set 14 _ { e with worth:=a } (by simp[codCells]) rfl rfl rfl rfl;have t1:Touch F w (w.setCell (iA b 14) (iV a)):=(Touch.refl F w).set b _ _ h.own;have h2:CRep F base ((w.setCell (iA b 14) (iV a)).setCell (iA b 15) (iV c)) b { e with worth:=a,volume:=c } g S:=h1.set 15 _ { e with worth:=a,volume:=c } (by simp[codCells]) rfl rfl rfl rfl;have t2:=t1.set b 15 (iV c) h.own;obtain⟨h3,t3⟩:=h2.wr ho hos hni 10 (iV (o.filled+Eng.qtyOf o r)) (fun _=>Eng.tradeO o r) rfl (by simp[Ord.code,Eng.tradeO]);have hr':({ e with worth:=a,volume:=c }.upd i fun _=>Eng.tradeO o r).all[k]? =some r:=(Eng.upd_ne _ _ _ _ hne).trans hr;obtain⟨h4,t4⟩:=h3.wr hr' hrs hnk 10 (iV (r.filled+Eng.qtyOf o r)) (fun _=>{ r with filled:=r.filled+Eng.qtyOf o r }) rfl (by simp[Ord.code])
 obtain⟨h5,t5⟩:=h4.wr (Eng.upd_same _ k _ r hr') hrs hnk 11 (iV (r.shown - Eng.qtyOf o r)) (fun _=>Eng.tradeR o r) rfl (by simp[Ord.code,Eng.tradeR]);rw[Eng.upd_upd]at h5;exact⟨h5,((t2.trans t3).trans t4).trans t5⟩
end
section
variable {F:Nat→Prop} {base:Nat} {w:World} {b i:Nat} {e:Eng} {g:Gh} {S:Sets} {o:Ord}
theorem Holds.inBuy(hH:Holds e S [] [])(j:Nat):j∈S.buy↔∃x,e.all[j]? =some x∧Eng.rests 1 x=true:=by
 constructor
 ·intro hj;obtain⟨x,h1,h2,h3⟩:=hH.buy1 j hj;exact⟨x,h1,by simp[Eng.rests,h2];exact h3.resolve_right (by simp)⟩
 ·rintro⟨x,h1,h2⟩;obtain⟨h3,h4⟩:=Eng.rests_shown h2;exact hH.buy2 j x h1 h4 h3 (by simp)
theorem Holds.inSel(hH:Holds e S [] [])(inv:Eng.EInv e)(j:Nat):j∈S.sel↔∃x,e.all[j]? =some x∧Eng.rests 2 x=true:=by
 constructor
 ·intro hj;obtain⟨x,h1,h2,h3⟩:=hH.sel1 j hj;have hs:=((inv.ok j x h1).side).resolve_left h2;exact⟨x,h1,by simp[Eng.rests,hs];exact h3.resolve_right (by simp)⟩
 ·rintro⟨x,h1,h2⟩;obtain⟨h3,h4⟩:=Eng.rests_shown h2;exact hH.sel2 j x h1 (by omega) h3 (by simp)
theorem zLm(h:CRep F base w b e g S)(inv:Eng.EInv e)(hH:Holds e S [] [])(ho:e.all[i]? =some o)(hop:0<o.opn)(hs:o.side=1):
 Cl 270 #[iP g.selB,iV o.price] w fun en w'=>en=.returned (optPtr g (e.mate i))∧Below w.heap.size w w':=by
 have HF:=hid (zLl o.price h inv hH);have HM:Hid (∀r,(∃seen,Best 2 o.price e.all g S.sel seen r∧∀j∈S.sel,ent e.all g j∈seen)→e.mate i=r):=fun r ⟨seen,h1,h2⟩=>h1.mate h2 inv (hH.inSel inv) ho hop (by omega)
 go_enter Tryz.func270,Tryz.ntmps270;go_wp2_with fail;refine HF.mono ?_;rintro en w1 ⟨r,rfl,hb,hB⟩;have HB:=hid hB;have HR:=hid (HM r hb);go_wp2;go_ret;exact⟨by rw[HR.out];try rfl,HB⟩
theorem zLn(h:CRep F base w b e g S)(inv:Eng.EInv e)(hH:Holds e S [] [])(ho:e.all[i]? =some o)(hop:0<o.opn)(hs: ¬o.side=1):
 Cl 264 #[iP g.buyB,iV o.price] w fun en w'=>en=.returned (optPtr g (e.mate i))∧Below w.heap.size w w':=by
 have HF:=hid (zLk o.price h inv hH);have hsd:=((inv.ok i o ho).side).resolve_left hs;have HM:Hid (∀r,(∃seen,Best 1 o.price e.all g S.buy seen r∧∀j∈S.buy,ent e.all g j∈seen)→e.mate i=r):=fun r ⟨seen,h1,h2⟩=>h1.mate h2 inv hH.inBuy ho hop (by omega)
 go_enter Tryz.func264,Tryz.ntmps264;go_wp2_with fail;refine HF.mono ?_;rintro en w1 ⟨r,rfl,hb,hB⟩;have HB:=hid hB;have HR:=hid (HM r hb);go_wp2;go_ret;exact⟨by rw[HR.out];try rfl,HB⟩
end
section
variable {F:Nat→Prop} {base:Nat} {w:World} {b i k:Nat} {e:Eng} {g:Gh} {S:Sets} {o r:Ord}
def Cdone(F:Nat→Prop)(base:Nat)(w:World)(b:Nat)(g:Gh)(e':Eng)(w':World):Prop:= ∃t S',CRep F base w' b e' { g with txt:=t } S'∧Holds e' S' [] []∧Touch F w w'
def Cmid(F:Nat→Prop)(base:Nat)(w:World)(b:Nat)(g:Gh)(S:Sets)(e':Eng)(w':World):Prop:= ∃t,CRep F base w' b e' { g with txt:=t } S∧Touch F w w'
theorem zLo(inv:Eng.EInv e)(hH:Holds e S [] [])(ho:e.all[i]? =some o)(hr:e.all[k]? =some r)(hne:i≠k)(hos:o.status=1)(hsh:o.shown=0)(hop:0<o.opn)(hrs:r.shown≠0)(hrst:r.status=1)(hlen:e.all.length≤1000000000)(h0:(Eng.tradeR o r).opn=0)(W:World)(hW:Cmid F base w b g S (e.trade1 i k o r) W):
 Cl 206 #[iP b,iP (g.blk k)] W fun en w'=>en=rV #[]∧Hid (Cdone F base w b g (e.trade i k) w'):=by
 have inv1:=Eng.EInv.trade1 inv i k o r ho hr hne hos hsh hop hrs;have hk:(e.trade1 i k o r).all[k]? =some (Eng.tradeR o r):=by rw[Eng.trade1_at,if_pos rfl,hr];rfl
 have kr:=inv1.ok k _ hk;have hst:=hrst;have hH1:=hH.traded ho hr hne hsh;obtain⟨t,hC,hT⟩:=hW;have hsm:=(hC.small hH1).mono (by rw[Eng.trade1_len];exact hlen);have hs0:(Eng.tradeR o r).shown=0:=by have:=kr.shn0;have:=kr.shn1;omega
 have hc0:=kr.live hst;refine(zG (fun r=>{ r with status:=2 }) hC hk hst (hH1.live hk hst) (zA2 (by have:=kr.id0;omega) (by have:=kr.id1;omega)) hsm (by simp[Ord.state,h0,hs0,hc0])).mono ?_;rintro en w' ⟨rfl,h1,h2⟩;have het:e.trade i k=(e.trade1 i k o r).upd k fun r=>{ r with status:=2 }:=by
  rw[Eng.trade_eq e i k o r ho hr hne];unfold Eng.trade2;rw[if_pos h0]
 refine⟨rfl,t,_,by rw[het];exact h1,?_,hT.trans h2⟩;rw[het];have hse:((e.trade1 i k o r).upd k fun o=>{ o with shown:=0 })=e.trade1 i k o r:=Eng.upd_self (fun x hx=>by
  obtain rfl:Eng.tradeR o r=x:=Option.some.inj (hk.symm.trans hx);show{ Eng.tradeR o r with shown:=0 }=Eng.tradeR o r;rw[←hs0])
 exact(hH1.leave inv1 hk).gone inv1 hk hst (List.mem_cons_self ..) (fun j hj=>by simp[hj]) (fun j hj=>by simpa using hj) (by simp) rfl rfl hs0 (by rw[hse];exact inv1)
theorem zLp(inv:Eng.EInv e)(hH:Holds e S [] [])(ho:e.all[i]? =some o)(hr:e.all[k]? =some r)(hne:i≠k)(hos:o.status=1)(hsh:o.shown=0)(hop:0<o.opn)(hrs:r.shown≠0)(hrst:r.status=1)(hro:Room 2 e)(hd:Dr e)(h0:(Eng.tradeR o r).opn≠0)(h1:(Eng.tradeR o r).shown=0)(W:World)(hW:Cmid F base w b g S (e.trade1 i k o r) W):
 Cl 231 #[iP b,iP (g.blk k)] W fun en w1=>en=.returned (iV ((e.trade1 i k o r).again (Eng.tradeR o r)))∧Hid (Cl 203 #[iP b,iP (g.blk k),iV ((e.trade1 i k o r).again (Eng.tradeR o r))] w1 fun en w'=>en=rV #[]∧Hid (Cdone F base w b g (e.trade i k) w')):=by
 have inv1:=Eng.EInv.trade1 inv i k o r ho hr hne hos hsh hop hrs;have hk:(e.trade1 i k o r).all[k]? =some (Eng.tradeR o r):=by rw[Eng.trade1_at,if_pos rfl,hr];rfl
 have kr:=inv1.ok k _ hk;have kr0:=inv.ok k _ hr;have hst:(Eng.tradeR o r).status=1:=hrst;have hH1:=hH.traded ho hr hne hsh;obtain⟨t,hC,hT⟩:=hW;have hsm:=(hC.small hH1).mono (m:=1000000000) (by rw[Eng.trade1_len];exact hro.len);have hty:(Eng.tradeR o r).typ=2:=Classical.byContradiction fun hc=>by
  have hc':r.typ≠2:=hc;rcases kr0.whole hc' with hx|hx
  ·exact hrs hx
  ·have h2:(Eng.tradeR o r).opn=r.opn - Eng.qtyOf o r:=rfl;have h3:(Eng.tradeR o r).shown=r.shown - Eng.qtyOf o r:=rfl;omega
 refine(zLi hC hk hst kr hty (by have:=hro.drw;show e.drawn<_;omega) ⟨hd.len,hd.bd⟩).mono ?_;rintro en w1 ⟨rfl,q1,q2⟩;refine⟨rfl,?_⟩;have hag:1≤(e.trade1 i k o r).again (Eng.tradeR o r)∧(e.trade1 i k o r).again (Eng.tradeR o r)≤1000:=by
  have hb:=Eng.next_bd kr hst h0 hty (e.trade1 i k o r).draw.1 (by rw[Eng.draw_raw];exact Int.emod_nonneg _ (by omega));have hs1:=kr.sum;have hs2:=kr.fil0;have hs3:=kr.can0;have hs4:=kr.qty1;unfold Eng.again;omega
 have hid63:r63 (Eng.tradeR o r).id:=zA2 (by have:=kr.id0;omega) (by have:=kr.id1;omega);have hp63:r63 (Eng.tradeR o r).price:=zA2 kr.prc0 (by have:=kr.prc1;have:=inv1.mp1;omega);have hol:((e.trade1 i k o r).draw.2).out.length=e.out.length+22:=by
  show(e.out++_).length=_;rw[List.length_append,Eng.recB_length]
 refine(zDg (o:=Eng.tradeR o r) _ q1 hk hst (hH1.live hk hst) hid63 hp63 (zA2 (by omega) (by omega)) (by have:=hro.stm;show e.stamp<_;omega) hsm (by have:=hro.seq;show e.seq+1<_;omega) (by have:=hro.out;omega)).mono ?_;rintro en w2 ⟨rfl,t2,p1,p2⟩;have het:e.trade i k=(e.trade1 i k o r).draw.2.lay k ((e.trade1 i k o r).again (Eng.tradeR o r)):=by
  rw[Eng.trade_eq e i k o r ho hr hne];unfold Eng.trade2;rw[if_neg h0,if_pos h1];rfl
 refine⟨rfl,t2,_,by rw[het];exact p1,?_,(hT.trans q2).trans p2⟩;rw[het];have hk2:(e.trade1 i k o r).draw.2.all[k]? =some (Eng.tradeR o r):=hk;have hL:=Holds.lay (f:=fun x=>{ x with stamp:=((e.trade1 i k o r).stamp+1:Nat),shown:=(e.trade1 i k o r).again (Eng.tradeR o r) }) (e:=(e.trade1 i k o r).draw.2) (hH1.cong rfl) inv1.drew hk2 rfl rfl rfl (fun j hj=>by simpa using hj) (show¬(e.trade1 i k o r).again (Eng.tradeR o r)=0 by omega);refine hL.cong ?_;unfold Eng.lay;rw[hk2];rfl
end
section
variable {F:Nat→Prop} {base:Nat} {w w':World} {b i nb vb:Nat} {e:Eng} {g:Gh} {S:Sets} {o:Ord}
structure Sets.In(S:Sets)(n:Nat):Prop where
 day: ∀j∈S.day,j<n
 oth: ∀j∈S.oth,j<n
 ended: ∀j∈S.ended,j<n
 buy: ∀j∈S.buy,j<n
 sel: ∀j∈S.sel,j<n
theorem Holds.into{out odd:List Nat}(hH:Holds e S out odd):S.In e.all.length:=by
 have lt: ∀{j:Nat} {x:Ord},e.all[j]? =some x→j<e.all.length:=fun hx=>(List.getElem?_eq_some_iff.1 hx).1
 refine⟨fun j hj=>?_,fun j hj=>?_,fun j hj=>?_,fun j hj=>?_,fun j hj=>?_⟩
 ·obtain⟨x,hx,_⟩:=(hH.day j).1 hj;exact lt hx
 ·obtain⟨x,hx,_⟩:=(hH.oth j).1 hj;exact lt hx
 ·obtain⟨x,hx,_⟩:=(hH.ended j).1 hj;exact lt hx
 ·obtain⟨x,hx,_⟩:=hH.buy1 j hj;exact lt hx
 ·obtain⟨x,hx,_⟩:=hH.sel1 j hj;exact lt hx
theorem CRep.nodups(h:CRep F base w b e g S):S.day.Nodup∧S.oth.Nodup∧S.ended.Nodup:=⟨zB4 (h.body.day.nodup keyedInt),zB4 (h.body.oth.nodup keyedInt),zB4 (h.body.ended.nodup keyedInt)⟩
theorem Holds.alive(hH:Holds e S [] [])(hd:S.day.Nodup)(ho:S.oth.Nodup):S.day.length+S.oth.length=e.alive:=by
 have hp:(S.day++S.oth).Perm ((List.range e.all.length).filter (Eng.lives e)):=by
  refine(List.perm_ext_iff_of_nodup ?_ (List.nodup_range.filter _)).2 fun j=>?_
  ·refine List.nodup_append.2 ⟨hd,ho,fun a ha c hc e1=>?_⟩;subst e1;obtain⟨x,h1,_,h2,_⟩:=(hH.day a).1 ha;obtain⟨y,h3,_,h4,_⟩:=(hH.oth a).1 hc;obtain rfl:x=y:=Option.some.inj (h1.symm.trans h3);exact h4 h2
  ·rw[List.mem_append,hH.day,hH.oth,List.mem_filter,List.mem_range];constructor
   ·rintro(⟨x,h1,h2,_⟩|⟨x,h1,h2,_⟩)
    ·exact⟨(List.getElem?_eq_some_iff.1 h1).1,by unfold Eng.lives;rw[h1];simp[h2]⟩
    ·exact⟨(List.getElem?_eq_some_iff.1 h1).1,by unfold Eng.lives;rw[h1];simp[h2]⟩
   ·rintro⟨h1,h2⟩;have h3:e.all[j]? =some e.all[j]:=List.getElem?_eq_getElem h1;have h4:e.all[j].status=1:=by unfold Eng.lives at h2;rw[h3]at h2;simpa using h2
    by_cases hl:e.all[j].life=1
    ·exact .inl ⟨_,h3,h4,hl,by simp⟩
    ·exact .inr ⟨_,h3,h4,hl,by simp⟩
 rw[←Eng.count_range,List.countP_eq_length_filter,←hp.length_eq,List.length_append]
theorem Holds.count(hH:Holds e S [] [])(hd:S.day.Nodup)(ho:S.oth.Nodup)(he:S.ended.Nodup):S.day.length+S.oth.length+S.ended.length=e.all.length:=by
 have hp:(S.day++S.oth++S.ended).Perm (List.range e.all.length):=by
  refine(List.perm_ext_iff_of_nodup ?_ List.nodup_range).2 fun j=>?_
  ·refine List.nodup_append.2 ⟨List.nodup_append.2 ⟨hd,ho,fun a ha c hc e1=>?_⟩,he,fun a ha c hc e1=>?_⟩
   ·subst e1;obtain⟨x,h1,_,h2,_⟩:=(hH.day a).1 ha;obtain⟨y,h3,_,h4,_⟩:=(hH.oth a).1 hc;obtain rfl:x=y:=Option.some.inj (h1.symm.trans h3);exact h4 h2
   ·subst e1;obtain⟨y,h3,h4⟩:=(hH.ended a).1 hc;rcases List.mem_append.1 ha with ha|ha
    ·obtain⟨x,h1,h2,_⟩:=(hH.day a).1 ha;obtain rfl:x=y:=Option.some.inj (h1.symm.trans h3);exact h4 h2
    ·obtain⟨x,h1,h2,_⟩:=(hH.oth a).1 ha;obtain rfl:x=y:=Option.some.inj (h1.symm.trans h3);exact h4 h2
  ·rw[List.mem_append,List.mem_append,hH.day,hH.oth,hH.ended,List.mem_range];constructor
   ·rintro((⟨x,h1,_⟩|⟨x,h1,_⟩)|⟨x,h1,_⟩)<;>exact(List.getElem?_eq_some_iff.1 h1).1
   ·intro h1;have h3:e.all[j]? =some e.all[j]:=List.getElem?_eq_getElem h1;by_cases h4:e.all[j].status=1
    ·by_cases hl:e.all[j].life=1
     ·exact .inl (.inl ⟨_,h3,h4,hl,by simp⟩)
     ·exact .inl (.inr ⟨_,h3,h4,hl,by simp⟩)
    ·exact .inr ⟨_,h3,h4⟩
 have:=hp.length_eq;rw[List.length_append,List.length_append,List.length_range]at this;exact this
def Gh.more(g:Gh)(n nb:Nat):Gh:={ g with blk:=fun i=>if i=n then nb else g.blk i }
theorem zG2(al:List Ord)(o:Ord){j:Nat}(h:j<al.length):idAt (al++ [o]) j=idAt al j:=by unfold idAt;rw[List.getElem?_append_left h]
theorem zLq(al:List Ord)(o:Ord){j:Nat}(h:j<al.length):stAt (al++ [o]) j=stAt al j:=by unfold stAt;rw[List.getElem?_append_left h]
theorem CRep.newOrder(h:CRep F base w b e g S)(hw:Below w.heap.size w w')(hnb:w.heap.size≤nb)(hlt:nb<w'.heap.size)(hin:S.In e.all.length)(hblk:w'.heap[nb]? =some (.cells (o.code e.all.length) 234 (0,0))):CRep F base w' b { e with all:=e.all++ [o] } (g.more e.all.length nb) S:=by
 have h':=h.below hw;have hp: ∀l:List Nat,(∀j∈l,j<e.all.length)→l.map (fun i=>(idAt (e.all++ [o]) i,some ((g.more e.all.length nb).blk i)))=l.map fun i=>(idAt e.all i,some (g.blk i)):=fun l hl=>List.map_congr_left fun j hj=>by
  have:=hl j hj;rw[zG2 e.all o this];show(_,some (if j=e.all.length then nb else g.blk j))=_;rw[if_neg (by omega)]
 have hq:S.ended.map (fun i=>(idAt (e.all++ [o]) i,stAt (e.all++ [o]) i))=S.ended.map fun i=>(idAt e.all i,stAt e.all i):=List.map_congr_left fun j hj=>by
  have:=hin.ended j hj;rw[zG2 e.all o this,zLq e.all o this]
 have B:=h'.body;have hlen: ∀i,i<(e.all++ [o]).length→i=e.all.length∨i<e.all.length:=fun i hi=>by rw[List.length_append]at hi;simp at hi;omega
 refine⟨h'.blk,h'.own,h'.up,h'.low,h'.txt,⟨(hp _ hin.day)▸B.day,(hp _ hin.oth)▸B.oth,hq▸B.ended,B.buyB,B.selB,(hp _ hin.buy)▸B.buy,(hp _ hin.sel)▸B.sel,B.maps,fun i x hx hs=>?_,fun i j hi hj hij=>?_,B.drw,B.dls,B.fd,fun i hi=>?_⟩,fun i hi=>?_,h'.fb⟩
 ·show w'.heap[if i=e.all.length then nb else g.blk i]? =_;have hx:(e.all++ [o])[i]? =some x:=hx;by_cases e1:i=e.all.length
  ·subst e1;rw[if_pos rfl,hblk];rw[List.getElem?_append_right (Nat.le_refl _),Nat.sub_self]at hx;obtain rfl:o=x:=by simpa using hx
   rfl
  ·rw[if_neg e1];have hil:i<e.all.length:=(hlen i (List.getElem?_eq_some_iff.1 hx).1).resolve_left e1;rw[List.getElem?_append_left hil]at hx;exact B.ord i x hx hs
 ·have hij:(if i=e.all.length then nb else g.blk i)=if j=e.all.length then nb else g.blk j:=hij
  rcases hlen i hi with rfl|hi
  ·rcases hlen j hj with rfl|hj
   ·rfl
   ·rw[if_pos rfl,if_neg (by omega)]at hij;have:=h.old j hj;omega
  ·rcases hlen j hj with rfl|hj
   ·rw[if_pos rfl,if_neg (by omega)]at hij;have:=h.old i hi;omega
   ·rw[if_neg (by omega),if_neg (by omega)]at hij;exact B.inj i j hi hj hij
 ·show F (if i=e.all.length then nb else g.blk i);rcases hlen i hi with rfl|hi
  ·rw[if_pos rfl];exact h.up nb hnb
  ·rw[if_neg (by omega)];exact B.fo i hi
 ·show(if i=e.all.length then nb else g.blk i)<_;rcases hlen i hi with rfl|hi
  ·rw[if_pos rfl];exact hlt
  ·rw[if_neg (by omega)];exact h'.old i hi
theorem Holds.newOrder(hH:Holds e S [] [])(hs:o.status=1)(hsh:o.shown=0):Holds { e with all:=e.all++ [o] } S [e.all.length] []:=by
 have at_: ∀(j:Nat) (x:Ord),(e.all++ [o])[j]? =some x↔e.all[j]? =some x∨(j=e.all.length∧x=o):=by
  intro j x;rcases Nat.lt_trichotomy j e.all.length with h1|h1|h1
  ·rw[List.getElem?_append_left h1];exact⟨.inl,fun hc=>hc.elim id (fun hc=>by omega)⟩
  ·subst h1;rw[List.getElem?_append_right (Nat.le_refl _),Nat.sub_self,List.getElem?_eq_none (Nat.le_refl _)];simp[eq_comm]
  ·rw[List.getElem?_eq_none (by rw[List.length_append];simp;omega),List.getElem?_eq_none (by omega)];simp;omega
 have lt: ∀{j:Nat} {x:Ord},e.all[j]? =some x→j<e.all.length:=fun hx=>(List.getElem?_eq_some_iff.1 hx).1
 refine⟨fun j=>?_,fun j=>?_,fun j=>?_,fun j hj=>?_,fun j x hx hs' hn hq=>?_,fun j hj=>?_,fun j x hx hs' hn hq=>?_⟩
 ·rw[hH.day];constructor
  ·rintro⟨x,h1,h2,h3,_⟩;exact⟨x,(at_ j x).2 (.inl h1),h2,h3,by have:=lt h1;simp;omega⟩
  ·rintro⟨x,h1,h2,h3,h4⟩;rcases(at_ j x).1 h1 with h1|⟨h1,_⟩
   ·exact⟨x,h1,h2,h3,by simp⟩
   ·exact absurd h1 (by simpa using h4)
 ·rw[hH.oth];constructor
  ·rintro⟨x,h1,h2,h3,_⟩;exact⟨x,(at_ j x).2 (.inl h1),h2,h3,by have:=lt h1;simp;omega⟩
  ·rintro⟨x,h1,h2,h3,h4⟩;rcases(at_ j x).1 h1 with h1|⟨h1,_⟩
   ·exact⟨x,h1,h2,h3,by simp⟩
   ·exact absurd h1 (by simpa using h4)
 ·rw[hH.ended];constructor
  ·rintro⟨x,h1,h2⟩;exact⟨x,(at_ j x).2 (.inl h1),h2⟩
  ·rintro⟨x,h1,h2⟩;rcases(at_ j x).1 h1 with h1|⟨_,rfl⟩
   ·exact⟨x,h1,h2⟩
   ·exact absurd hs h2
 ·obtain⟨x,h1,h2,h3⟩:=hH.buy1 j hj;exact⟨x,(at_ j x).2 (.inl h1),h2,h3⟩
 ·rcases(at_ j x).1 hx with h1|⟨_,rfl⟩
  ·exact hH.buy2 j x h1 hs' hn hq
  ·exact absurd hsh hn
 ·obtain⟨x,h1,h2,h3⟩:=hH.sel1 j hj;exact⟨x,(at_ j x).2 (.inl h1),h2,h3⟩
 ·rcases(at_ j x).1 hx with h1|⟨_,rfl⟩
  ·exact hH.sel2 j x h1 hs' hn hq
  ·exact absurd hsh hn
theorem Holds.join(hH:Holds e S [i] [])(inv:Eng.EInv e)(ho:e.all[i]? =some o)(hs:o.status=1):Holds e (S.join e.all o i) [] []:=by
 unfold Sets.join;have hd:=zAw inv ho (l:=S.day) (fun j hj=>by obtain⟨x,hx,_⟩:=(hH.day j).1 hj;exact⟨x,hx⟩);have hq:=zAw inv ho (l:=S.oth) (fun j hj=>by obtain⟨x,hx,_⟩:=(hH.oth j).1 hj;exact⟨x,hx⟩);by_cases hL:o.life=1
 ·rw[if_pos hL];refine⟨fun j=>?_,fun j=>?_,hH.ended,hH.buy1,hH.buy2,hH.sel1,hH.sel2⟩
  ·show j∈less e.all S.day o.id++ [i]↔_;rw[List.mem_append,hd,hH.day];constructor
   ·rintro(⟨⟨x,h1,h2,h3,h4⟩,h5⟩|h1)
    ·exact⟨x,h1,h2,h3,by simp⟩
    ·obtain rfl:j=i:=by simpa using h1
     exact⟨o,ho,hs,hL,by simp⟩
   ·rintro⟨x,h1,h2,h3,_⟩;by_cases e1:j=i
    ·right;simp[e1]
    ·exact .inl ⟨⟨x,h1,h2,h3,by simpa using e1⟩,e1⟩
  ·show j∈S.oth↔_;rw[hH.oth];constructor
   ·rintro⟨x,h1,h2,h3,_⟩;exact⟨x,h1,h2,h3,by simp⟩
   ·rintro⟨x,h1,h2,h3,_⟩;refine⟨x,h1,h2,h3,fun hc=>?_⟩;obtain rfl:j=i:=by simpa using hc
    obtain rfl:o=x:=Option.some.inj (ho.symm.trans h1);exact h3 hL
 ·rw[if_neg hL];refine⟨fun j=>?_,fun j=>?_,hH.ended,hH.buy1,hH.buy2,hH.sel1,hH.sel2⟩
  ·show j∈S.day↔_;rw[hH.day];constructor
   ·rintro⟨x,h1,h2,h3,_⟩;exact⟨x,h1,h2,h3,by simp⟩
   ·rintro⟨x,h1,h2,h3,_⟩;refine⟨x,h1,h2,h3,fun hc=>?_⟩;obtain rfl:j=i:=by simpa using hc
    obtain rfl:o=x:=Option.some.inj (ho.symm.trans h1);exact hL h3
  ·show j∈less e.all S.oth o.id++ [i]↔_;rw[List.mem_append,hq,hH.oth];constructor
   ·rintro(⟨⟨x,h1,h2,h3,h4⟩,h5⟩|h1)
    ·exact⟨x,h1,h2,h3,by simp⟩
    ·obtain rfl:j=i:=by simpa using h1
     exact⟨o,ho,hs,hL,by simp⟩
   ·rintro⟨x,h1,h2,h3,_⟩;by_cases e1:j=i
    ·right;simp[e1]
    ·exact .inl ⟨⟨x,h1,h2,h3,by simpa using e1⟩,e1⟩
theorem CRep.shrink(h:CRep F base w b e g S)(hw:Below w.heap.size w w')(h1:w.heap.size≤vb)(h2:vb<w'.heap.size):CRep (fun k=>F k∧k≠vb) base w' b e g S:=by
 have h':=h.below hw;have B:=h'.body;have lt: ∀{k:Nat} {c:Array Value} {t:TypeId} {f:Nat×Nat},w.heap[k]? =some (.cells c t f)→k≠vb:=fun hq=>by have:=(Array.getElem?_eq_some_iff.1 hq).1;omega
 have C:=h.body;obtain⟨f1,f2,f3,f4,f5,f6⟩:=B.fd;refine⟨h'.blk,⟨h'.own,lt h.blk⟩,fun k hk=>⟨h'.up k hk,by omega⟩,h'.low,⟨h'.txt.row,fun q hq=>⟨h'.txt.own q hq,by have:=h.txt.lt q hq;omega⟩⟩,⟨B.day,B.oth,B.ended,B.buyB,B.selB,B.buy,B.sel,B.maps,B.ord,B.inj,B.drw,B.dls,⟨⟨f1,by have:=C.day.lt;omega⟩,⟨f2,by have:=C.oth.lt;omega⟩,⟨f3,by have:=C.ended.lt;omega⟩,⟨f4,by have:=C.buy.lt;omega⟩,⟨f5,by have:=C.sel.lt;omega⟩,⟨f6,lt C.drw⟩⟩,fun i hi=>⟨B.fo i hi,by have:=h.old i hi;omega⟩⟩,h'.old,⟨h'.fb.1,lt C.buyB⟩,⟨h'.fb.2.1,lt C.selB⟩,fun q hq=>⟨h'.fb.2.2 q hq,?_⟩⟩;rcases C.dls.2 with⟨h3,_⟩|⟨d,cap,cur,hv,hg,hh,_⟩
 ·rw[h3]at hq;exact absurd hq (by simp[Value.ownBlock])
 ·rw[hv]at hq;have:d=q:=by simpa [Value.ownBlock] using hq
  subst this;exact lt hh
theorem CRep.widen(h:CRep (fun k=>F k∧k≠vb) base w b e g S):CRep F base w b e g S:=by
 have B:=h.body;obtain⟨f1,f2,f3,f4,f5,f6⟩:=B.fd;exact⟨h.blk,h.own.1,fun k hk=>(h.up k hk).1,h.low,⟨h.txt.row,fun q hq=>(h.txt.own q hq).1⟩,⟨B.day,B.oth,B.ended,B.buyB,B.selB,B.buy,B.sel,B.maps,B.ord,B.inj,B.drw,B.dls,⟨f1.1,f2.1,f3.1,f4.1,f5.1,f6.1⟩,fun i hi=>(B.fo i hi).1⟩,h.old,h.fb.1.1,h.fb.2.1.1,fun q hq=>(h.fb.2.2 q hq).1⟩
theorem Cdone.widen{w0:World}{e':Eng}(h:Cdone (fun k=>F k∧k≠vb) base w b g e' w')(h0:Touch F w0 w):Cdone F base w0 b g e' w':=by
 obtain⟨t,S',h1,h2,h3⟩:=h;exact⟨t,S',h1.widen,h2,h0.trans h3.wide⟩
end
theorem OA.set(h:OA w q i o)(c:Addr)(u:Value)(hc:q≠c.block):OA (w.setCell c u) q i o:=⟨by rw[Below.heap_setCell _ _ _ _ hc];exact h.blk⟩
theorem OA.drew(h:OA w q i o):OA w.drew q i o:=⟨h.blk⟩
theorem zLr(h:OA w q i o)(hr:r63 (o.qty - o.filled)):
 Cl 77 #[iP q,iV 3] w fun en w'=>en=.returned (stV o.id 3 o.price 0 o.filled (o.qty - o.filled) 0)∧Below w.heap.size w w':=by
 have c0:w.cell? (iA q 0)=sI o.id:=h.cell 0;have c3:w.cell? (iA q 3)=sI o.price:=h.cell 3;have c10:w.cell? (iA q 10)=sI o.filled:=h.cell 10;have hql:=h.lt;have hqn:q≠w.heap.size:=Nat.ne_of_lt hql;unfold stV;go_enter Tryz.func77,Tryz.ntmps77;go_wp2_with fail;have hoa:=h.alloc (.cells #[iV 0,iV 0,iV 0,iV 0,iV 0,iV 0,iV 0] 48);have HB1:=hid ((Below.refl w.heap.size w).alloc (Nat.le_refl _) (.cells #[iV 0,iV 0,iV 0,iV 0,iV 0,iV 0,iV 0] 48));have hb1:=heap_alloc_new w (.cells #[iV 0,iV 0,iV 0,iV 0,iV 0,iV 0,iV 0] 48);have hsW:(w.alloc (.cells #[iV 0,iV 0,iV 0,iV 0,iV 0,iV 0,iV 0] 48)).heap.size=w.heap.size+1:=by simp
 generalize w.alloc (.cells #[iV 0,iV 0,iV 0,iV 0,iV 0,iV 0,iV 0] 48)=W at *;have r0:W.cell? (iA w.heap.size 0)=sI 0:=by simp[World.cell?,hb1]
 have g0:W.frozen? (iA w.heap.size 0)=false:=by simp[World.frozen?,hb1]
 have r1:W.cell? (iA w.heap.size 1)=sI 0:=by simp[World.cell?,hb1]
 have g1:W.frozen? (iA w.heap.size 1)=false:=by simp[World.frozen?,hb1]
 have r2:W.cell? (iA w.heap.size 2)=sI 0:=by simp[World.cell?,hb1]
 have g2:W.frozen? (iA w.heap.size 2)=false:=by simp[World.frozen?,hb1]
 have r3:W.cell? (iA w.heap.size 3)=sI 0:=by simp[World.cell?,hb1]
 have g3:W.frozen? (iA w.heap.size 3)=false:=by simp[World.frozen?,hb1]
 have r4:W.cell? (iA w.heap.size 4)=sI 0:=by simp[World.cell?,hb1]
 have g4:W.frozen? (iA w.heap.size 4)=false:=by simp[World.frozen?,hb1]
 have r5:W.cell? (iA w.heap.size 5)=sI 0:=by simp[World.cell?,hb1]
 have g5:W.frozen? (iA w.heap.size 5)=false:=by simp[World.frozen?,hb1]
 have r6:W.cell? (iA w.heap.size 6)=sI 0:=by simp[World.cell?,hb1]
 have g6:W.frozen? (iA w.heap.size 6)=false:=by simp[World.frozen?,hb1]
 have hwl:w.heap.size<W.heap.size:=by omega
 have hwn:w.heap.size≠W.heap.size:=Nat.ne_of_lt hwl;clear hsW;have c0:W.cell? (iA q 0)=sI o.id:=hoa.cell 0;have c3:W.cell? (iA q 3)=sI o.price:=hoa.cell 3;have c10:W.cell? (iA q 10)=sI o.filled:=hoa.cell 10;have hql:q<W.heap.size:=hoa.lt;have hqW:q≠W.heap.size:=Nat.ne_of_lt hql;have HOA:=hid hoa;have HRR:=hid hr;have HB0:=hid hb1;clear h hoa hr hb1
 go_region_held (fun X=>X.cell? (iA q 0)=sI o.id∧X.cell? (iA q 3)=sI o.price∧X.cell? (iA q 10)=sI o.filled) (go_keep) (fail)
 go_wp2_with fail;have hX:OA (W.alloc (.cells #[iV o.id,iV 3,iV o.price,iV 0,iV o.filled,iV 0,iV 0] 48)).drew q i o:=(HOA.alloc _).drew;have hB:Below w.heap.size w (W.alloc (.cells #[iV o.id,iV 3,iV o.price,iV 0,iV o.filled,iV 0,iV 0] 48)).drew:=zB2 (zDc HB1.out _);have hN:=heap_alloc_new W (.cells #[iV o.id,iV 3,iV o.price,iV 0,iV o.filled,iV 0,iV 0] 48);have hN:(W.alloc (.cells #[iV o.id,iV 3,iV o.price,iV 0,iV o.filled,iV 0,iV 0] 48)).drew.heap[W.heap.size]? =_:=hN;have hQ0:(W.alloc (.cells #[iV o.id,iV 3,iV o.price,iV 0,iV o.filled,iV 0,iV 0] 48)).drew.heap[w.heap.size]? =some (.cells #[iV 0,iV 0,iV 0,iV 0,iV 0,iV 0,iV 0] 48 (0,0)):=(Below.heap_alloc W _ _ hwl).trans HB0.out;generalize (W.alloc (.cells #[iV o.id,iV 3,iV o.price,iV 0,iV o.filled,iV 0,iV 0] 48)).drew=X at *;have hle:w.heap.size≤W.heap.size:=by omega
 have hQ:X.heap[w.heap.size]? =some (.cells #[iV 0,iV 0,iV 0,iV 0,iV 0,iV 0,iV 0] 48 (0,0)):=hQ0;have hzn:w.heap.size≠W.heap.size:=by omega
 clear HOA HB1 HB0 r0 r1 r2 r3 r4 r5 r6 g0 g1 g2 g3 g4 g5 g6 c0 c3 c10;generalize W.heap.size=z at *;refine(zAp hX HRR.out).mono ?_;rintro en w2 ⟨rfl,hs2⟩;rw[←hs2.heap]at hN;have HB2:Hid (Below w.heap.size w w2):=⟨hs2.os.trans hB.os,hs2.tape.trans hB.tape,hs2.output.trans hB.output,by rw[hs2.heap];exact hB.size,fun k hk=>by rw[hs2.heap];exact hB.block k hk⟩;have s0:w2.cell? (iA z 0)=sI o.id:=by simp[World.cell?,hN]
 have s1:w2.cell? (iA z 1)=sI 3:=by simp[World.cell?,hN]
 have s2:w2.cell? (iA z 2)=sI o.price:=by simp[World.cell?,hN]
 have s3:w2.cell? (iA z 3)=sI 0:=by simp[World.cell?,hN]
 have s4:w2.cell? (iA z 4)=sI o.filled:=by simp[World.cell?,hN]
 have s5:w2.cell? (iA z 5)=sI 0:=by simp[World.cell?,hN]
 have s6:w2.cell? (iA z 6)=sI 0:=by simp[World.cell?,hN]
 have t5:w2.frozen? (iA z 5)=false:=by simp[World.frozen?,hN]
 rw[←hs2.heap]at hQ;have p0:w2.cell? (iA w.heap.size 0)=sI 0:=by simp[World.cell?,hQ]
 have u0:w2.frozen? (iA w.heap.size 0)=false:=by simp[World.frozen?,hQ]
 have p1:w2.cell? (iA w.heap.size 1)=sI 0:=by simp[World.cell?,hQ]
 have u1:w2.frozen? (iA w.heap.size 1)=false:=by simp[World.frozen?,hQ]
 have p2:w2.cell? (iA w.heap.size 2)=sI 0:=by simp[World.cell?,hQ]
 have u2:w2.frozen? (iA w.heap.size 2)=false:=by simp[World.frozen?,hQ]
 have p3:w2.cell? (iA w.heap.size 3)=sI 0:=by simp[World.cell?,hQ]
 have u3:w2.frozen? (iA w.heap.size 3)=false:=by simp[World.frozen?,hQ]
 have p4:w2.cell? (iA w.heap.size 4)=sI 0:=by simp[World.cell?,hQ]
 have u4:w2.frozen? (iA w.heap.size 4)=false:=by simp[World.frozen?,hQ]
 have p5:w2.cell? (iA w.heap.size 5)=sI 0:=by simp[World.cell?,hQ]
 have u5:w2.frozen? (iA w.heap.size 5)=false:=by simp[World.frozen?,hQ]
 have p6:w2.cell? (iA w.heap.size 6)=sI 0:=by simp[World.cell?,hQ]
 have u6:w2.frozen? (iA w.heap.size 6)=false:=by simp[World.frozen?,hQ]
 have hle0:w.heap.size≤w.heap.size:=Nat.le_refl _;clear hs2 hN hX hB hQ;go_wp2;refine bodyPost_ret (v:=.agg #[iV o.id,iV 3,iV o.price,iV 0,iV o.filled,iV (o.qty - o.filled),iV 0]) (by simp[results,Tryz.results77,go_sem,s0,s1,s2,s3,s4,s5,s6,p0,p1,p2,p3,p4,p5,p6,hzn]) rfl ⟨rfl,?_⟩;iterate 7 (refine Below.setCell ?_ hle0 _)
 exact Below.setCell HB2.out hle _
theorem zLs(h:OA w q i o)(hr:r63 (o.qty - o.filled)):
 Cl 77 #[iP q,iV 1] w fun en w'=>en=.returned (stV o.id 1 o.price (o.qty - o.filled) o.filled 0 o.shown)∧Below w.heap.size w w':=by
 have c0:w.cell? (iA q 0)=sI o.id:=h.cell 0;have c3:w.cell? (iA q 3)=sI o.price:=h.cell 3;have c10:w.cell? (iA q 10)=sI o.filled:=h.cell 10;have hql:=h.lt;have hqn:q≠w.heap.size:=Nat.ne_of_lt hql;unfold stV;go_enter Tryz.func77,Tryz.ntmps77;go_wp2_with fail;have hoa:=h.alloc (.cells #[iV 0,iV 0,iV 0,iV 0,iV 0,iV 0,iV 0] 48);have HB1:=hid ((Below.refl w.heap.size w).alloc (Nat.le_refl _) (.cells #[iV 0,iV 0,iV 0,iV 0,iV 0,iV 0,iV 0] 48));have hb1:=heap_alloc_new w (.cells #[iV 0,iV 0,iV 0,iV 0,iV 0,iV 0,iV 0] 48);have hsW:(w.alloc (.cells #[iV 0,iV 0,iV 0,iV 0,iV 0,iV 0,iV 0] 48)).heap.size=w.heap.size+1:=by simp
 generalize w.alloc (.cells #[iV 0,iV 0,iV 0,iV 0,iV 0,iV 0,iV 0] 48)=W at *;have r0:W.cell? (iA w.heap.size 0)=sI 0:=by simp[World.cell?,hb1]
 have g0:W.frozen? (iA w.heap.size 0)=false:=by simp[World.frozen?,hb1]
 have r1:W.cell? (iA w.heap.size 1)=sI 0:=by simp[World.cell?,hb1]
 have g1:W.frozen? (iA w.heap.size 1)=false:=by simp[World.frozen?,hb1]
 have r2:W.cell? (iA w.heap.size 2)=sI 0:=by simp[World.cell?,hb1]
 have g2:W.frozen? (iA w.heap.size 2)=false:=by simp[World.frozen?,hb1]
 have r3:W.cell? (iA w.heap.size 3)=sI 0:=by simp[World.cell?,hb1]
 have g3:W.frozen? (iA w.heap.size 3)=false:=by simp[World.frozen?,hb1]
 have r4:W.cell? (iA w.heap.size 4)=sI 0:=by simp[World.cell?,hb1]
 have g4:W.frozen? (iA w.heap.size 4)=false:=by simp[World.frozen?,hb1]
 have r5:W.cell? (iA w.heap.size 5)=sI 0:=by simp[World.cell?,hb1]
 have g5:W.frozen? (iA w.heap.size 5)=false:=by simp[World.frozen?,hb1]
 have r6:W.cell? (iA w.heap.size 6)=sI 0:=by simp[World.cell?,hb1]
 have g6:W.frozen? (iA w.heap.size 6)=false:=by simp[World.frozen?,hb1]
 have hwl:w.heap.size<W.heap.size:=by omega
 have hwn:w.heap.size≠W.heap.size:=Nat.ne_of_lt hwl;clear hsW;have c0:W.cell? (iA q 0)=sI o.id:=hoa.cell 0;have c3:W.cell? (iA q 3)=sI o.price:=hoa.cell 3;have c10:W.cell? (iA q 10)=sI o.filled:=hoa.cell 10;have hql:q<W.heap.size:=hoa.lt;have hqW:q≠W.heap.size:=Nat.ne_of_lt hql;have HOA:=hid hoa;have HRR:=hid hr;have HB0:=hid hb1;clear h hoa hr hb1
 go_region_held (fun X=>X.cell? (iA q 0)=sI o.id∧X.cell? (iA q 3)=sI o.price∧X.cell? (iA q 10)=sI o.filled) (go_keep) (fail)
 go_wp2_with fail;have hX:OA (W.alloc (.cells #[iV o.id,iV 1,iV o.price,iV 0,iV o.filled,iV 0,iV 0] 48)).drew q i o:=(HOA.alloc _).drew;have hB:Below w.heap.size w (W.alloc (.cells #[iV o.id,iV 1,iV o.price,iV 0,iV o.filled,iV 0,iV 0] 48)).drew:=zB2 (zDc HB1.out _);have hN:=heap_alloc_new W (.cells #[iV o.id,iV 1,iV o.price,iV 0,iV o.filled,iV 0,iV 0] 48);have hN:(W.alloc (.cells #[iV o.id,iV 1,iV o.price,iV 0,iV o.filled,iV 0,iV 0] 48)).drew.heap[W.heap.size]? =_:=hN;have hQ0:(W.alloc (.cells #[iV o.id,iV 1,iV o.price,iV 0,iV o.filled,iV 0,iV 0] 48)).drew.heap[w.heap.size]? =some (.cells #[iV 0,iV 0,iV 0,iV 0,iV 0,iV 0,iV 0] 48 (0,0)):=(Below.heap_alloc W _ _ hwl).trans HB0.out;generalize (W.alloc (.cells #[iV o.id,iV 1,iV o.price,iV 0,iV o.filled,iV 0,iV 0] 48)).drew=X at *;have hle:w.heap.size≤W.heap.size:=by omega
 have hQ:X.heap[w.heap.size]? =some (.cells #[iV 0,iV 0,iV 0,iV 0,iV 0,iV 0,iV 0] 48 (0,0)):=hQ0;have hzn:w.heap.size≠W.heap.size:=by omega
 clear HOA HB1 HB0 r0 r1 r2 r3 r4 r5 r6 g0 g1 g2 g3 g4 g5 g6 c0 c3 c10;generalize W.heap.size=z at *
 have HOP:Hid (∀Y,Same X Y→Cl 124 #[iP q] Y fun en w2=>en=.returned (iV (o.qty - o.filled))∧w2.cell? (iA q 11)=sI o.shown∧(w2.cell? (iA z 0)=sI o.id∧w2.cell? (iA z 1)=sI 1∧w2.cell? (iA z 2)=sI o.price∧w2.cell? (iA z 3)=sI 0∧w2.cell? (iA z 4)=sI o.filled∧w2.cell? (iA z 5)=sI 0∧w2.cell? (iA z 6)=sI 0∧w2.frozen? (iA z 3)=false∧w2.frozen? (iA z 6)=false)∧(w2.cell? (iA w.heap.size 0)=sI 0∧w2.frozen? (iA w.heap.size 0)=false∧w2.cell? (iA w.heap.size 1)=sI 0∧w2.frozen? (iA w.heap.size 1)=false∧w2.cell? (iA w.heap.size 2)=sI 0∧w2.frozen? (iA w.heap.size 2)=false∧w2.cell? (iA w.heap.size 3)=sI 0∧w2.frozen? (iA w.heap.size 3)=false∧w2.cell? (iA w.heap.size 4)=sI 0∧w2.frozen? (iA w.heap.size 4)=false∧w2.cell? (iA w.heap.size 5)=sI 0∧w2.frozen? (iA w.heap.size 5)=false∧w2.cell? (iA w.heap.size 6)=sI 0∧w2.frozen? (iA w.heap.size 6)=false)∧Hid (Below w.heap.size w w2)):=by
  intro Y hY;refine(zAp (hX.same hY) HRR.out).mono ?_;rintro en w2 ⟨rfl,hs2⟩;have hs2:=hY.trans hs2;rw[←hs2.heap]at hN hQ;refine⟨rfl,(hX.same hs2).cell 11,⟨by simp[World.cell?,hN],by simp[World.cell?,hN],by simp[World.cell?,hN],by simp[World.cell?,hN],by simp[World.cell?,hN],by simp[World.cell?,hN],by simp[World.cell?,hN],by simp[World.frozen?,hN],by simp[World.frozen?,hN]⟩,⟨by simp[World.cell?,hQ],by simp[World.frozen?,hQ],by simp[World.cell?,hQ],by simp[World.frozen?,hQ],by simp[World.cell?,hQ],by simp[World.frozen?,hQ],by simp[World.cell?,hQ],by simp[World.frozen?,hQ],by simp[World.cell?,hQ],by simp[World.frozen?,hQ],by simp[World.cell?,hQ],by simp[World.frozen?,hQ],by simp[World.cell?,hQ],by simp[World.frozen?,hQ]⟩,?_⟩;exact⟨hs2.os.trans hB.os,hs2.tape.trans hB.tape,hs2.output.trans hB.output,by rw[hs2.heap];exact hB.size,fun k hk=>by rw[hs2.heap];exact hB.block k hk⟩
 have x11:X.cell? (iA q 11)=sI o.shown:=hX.cell 11;clear hN hX hB hQ;go_region_with(first|(go_at_call 124;refine(HOP.out X.drew ((Same.refl X).drew)).mono ?_;rintro en w2 ⟨rfl,y11,⟨s0,s1,s2,s3,s4,s5,s6,t3,t6⟩,⟨p0,u0,p1,u1,p2,u2,p3,u3,p4,u4,p5,u5,p6,u6⟩,HB2⟩));all_goals(
  go_wp2;refine bodyPost_ret (v:=.agg #[iV o.id,iV 1,iV o.price,iV (o.qty - o.filled),iV o.filled,iV 0,iV o.shown]) (by simp[results,Tryz.results77,go_sem,s0,s1,s2,s3,s4,s5,s6,p0,p1,p2,p3,p4,p5,p6,hzn]) rfl ⟨rfl,?_⟩;have hle0:w.heap.size≤w.heap.size:=Nat.le_refl _;iterate 7 (refine Below.setCell ?_ hle0 _)
  exact Below.setCell (Below.setCell HB2.out hle _) hle _)
theorem Eng.EInv.hide{e:Eng}(h:Eng.EInv e)(i:Nat):Eng.EInv (e.upd i fun o=>{ o with shown:=0 }):=by
 refine h.upd i _ (fun x hx=>?_) (fun _=>rfl) (fun x hx hx2=>absurd rfl hx2) (fun _ hl=>hl);have k:=h.ok i x hx;exact{ k with shn0:=by show(0:Int)≤0;omega,shn1:=k.opn0,whole:=fun _=>.inl rfl,dead:=fun _=>rfl,shp:=fun hl=>absurd hl (by show¬(0:Int)<0;omega) }
def goneC(o:Ord):Ord:={ o with cancelled:=o.opn,opn:=0,shown:=0,status:=3 }
section
variable {F:Nat→Prop} {base:Nat} {w:World} {b i k:Nat} {e:Eng} {g:Gh} {S:Sets} {o r:Ord}
def Coff(F:Nat→Prop)(base:Nat)(w:World)(b:Nat)(g:Gh)(e0:Eng)(reason:Int)(L:List Nat)(wr:World):Prop:= ∃t S' E,CRep F base wr b E { g with txt:=t } S'∧Holds E S' L []∧Touch F w wr∧Eng.EInv E∧Room L.length E∧L.Nodup∧(∀j∈L,∃o,E.all[j]? =some o∧o.status=1)∧Eng.goneAll reason E L=e0
theorem Coff.one{e0:Eng}{reason:Int}{L:List Nat}{wr:World}(hr0:0≤reason∧reason≤255)(h:Coff F base w b g e0 reason (i::L) wr): ∃o:Ord,OA wr (g.blk i) i o∧r63 (o.qty - o.filled)∧∀W,Same wr W→
 Cl 116 #[.pointer (some (iA b 6)),.agg #[iV 4,iV 0,iV o.id,iV 0,iV 0,iV (o.qty - o.filled),iV reason]] W fun en w1=>en=rV #[]∧w1.cell? (iA (g.blk i) 0)=sI o.id∧
  Hid (Cl 207 #[iP b,iP (g.blk i),iV 3] w1 fun en w2=>en=rV #[]∧Hid (Coff F base w b g e0 reason L w2)):=by
 obtain⟨t,S',E,hC,hH,hT,inv,hro,hnd,hlv,hE⟩:=h;obtain⟨o,ho,hs⟩:=hlv i (List.mem_cons_self ..);obtain⟨hiL,hndL⟩:=List.nodup_cons.1 hnd;have k:=inv.ok i o ho;have hop:=k.open_ hs;have hb:0≤o.opn∧o.opn≤1000:=by have:=k.sum;have:=k.fil0;have:=k.can0;have:=k.qty1;have:=k.opn0;omega
 have hq63:r63 (o.qty - o.filled):=by rw[←hop];exact zA2 (by omega) (by omega)
 have hid63:r63 o.id:=zA2 (by have:=k.id0;omega) (by have:=k.id1;omega);have z:r63 0:=⟨by omega,by omega⟩;have hlen:(i::L).length=L.length+1:=rfl;refine⟨o,hC.oa ho hs,hq63,fun W hW=>?_⟩;refine(zB1 4 0 o.id 0 0 (o.qty - o.filled) reason (hC.same hW) (by have:=hro.seq;omega) (by have:=hro.out;omega) ⟨⟨by omega,by omega⟩,hid63,z,z,hq63,⟨by omega,by omega⟩⟩).mono ?_;rintro en w1 ⟨rfl,t1,q1,q2⟩;refine⟨rfl,(q1.oa (i:=i) ho hs).cell 0,?_⟩;have hsm:=(hC.small hH).mono hro.len;refine(zFy 3 [o.id,3,o.price,0,o.filled,o.qty - o.filled,0] goneC q1 (i:=i) ho hs (hH.live ho hs) hid63 hsm (fun W hW=>(zLr hW hq63).mono ?_) (by simp[Ord.state,goneC,hop]) rfl (by show¬(3:Int)=1;decide)).mono ?_
 ·rintro en w' ⟨rfl,hb'⟩;exact⟨rfl,hb'⟩
 rintro en w2 ⟨rfl,p1,p2⟩;have hge:E.gone i reason=(E.tell 4 o.id 0 0 (o.qty - o.filled) reason).upd i goneC:=by
  unfold Eng.gone;rw[ho];simp only;rw[hop];rfl
 have hg0:=Eng.gone_inv inv ho hs reason;have hst:=Eng.gone_stays E i reason;have hH2:Holds (E.gone i reason) ((S'.off E.all o).fin E.all o i) L []:=by
  rw[hge];exact((hH.gone (f:=goneC) (out':=L) inv ho hs (List.mem_cons_self ..) (fun j hj=>by simp[hj]) (fun j hj=>by cases hj) (by show¬(3:Int)=1;decide) rfl rfl rfl (inv.hide i)).cong rfl)
 refine⟨rfl,t1,_,E.gone i reason,by rw[hge];exact p1,hH2,((hT.trans hW.touch).trans q2).trans p2,hg0,?_,hndL,fun j hj=>?_,?_⟩
 ·have hg1:=Eng.gone_grew E i reason;have:=hro.grew hg1 hst.len (by omega);exact this.mono (by omega)
 ·rw[Eng.gone_ne E i j reason (fun e1=>hiL (e1▸hj))];exact hlv j (List.mem_cons_of_mem _ hj)
 ·rw[←hE];rfl
end
end Go.Proofs.YtanfmhonjpjpoaaGreatDoor
