import Derived.Test.YtehmdohpmpbnnaaGreatDoorQ00
import Derived.Test.YtehmdohpmpbnnaaGreatDoorQ14
import Derived.Test.YtehmdohpmpbnnaaGreatDoorQ18
import Derived.Test.YtehmdohpmpbnnaaGreatDoorQ19
import Derived.Deep.RegionHeld3
import Derived.Deep.RegionLaw
set_option linter.all false
set_option maxRecDepth 100000
set_option maxHeartbeats 8000000
namespace Go.Proofs.YtehmdohpmpbnnaaGreatDoor
variable{sd p:Int}{Q:Ord→Prop}
open Go.Proofs.Tryz
section
def aH(sd:Int)(Q:Ord→Prop)(p:Int):Prop:=(p=0∧∀x,¬Q x)∨((∃x,Q x∧x.bn=p)∧∀y,Q y→bt sd y.bn p=false)
theorem zGa{a c:Int}(h1:bt sd a c=false)(h2:bt sd c a=false):a=c:=by
 unfold bt at h1 h2;by_cases A:sd=2
 ·simp[A]at *;omega
 simp[A]at *;omega
theorem aH.unique{p':Int}(h:aH sd Q p)(h':aH sd Q p'):p=p':=by
 rcases h with⟨G,C⟩|⟨⟨x,F,H⟩,C⟩
 ·rcases h' with⟨E,A⟩|⟨⟨y,D,_⟩,_⟩
  ·rw[G,E]
  exact absurd D (C y)
 rcases h' with⟨E,A⟩|⟨⟨y,D,I⟩,A⟩
 ·exact absurd F (A x)
 subst H I;exact zGa (A x F) (C y D)
theorem aH.vz{Q':Ord→Prop}(h:aH sd Q p)(hq:∀x,Q x↔Q' x):aH sd Q' p:=by
 rcases h with⟨D,A⟩|⟨⟨x,C,E⟩,A⟩
 ·exact .inl ⟨D,fun x C=>A x ((hq x).2 C)⟩
 exact .inr ⟨⟨x,(hq x).1 C,E⟩,fun y hy=>A y ((hq y).2 hy)⟩
theorem zCh(sd a:Int):bt sd a a=false:=by unfold bt;split<;>simp
theorem zGb{a c d:Int}(h1:bt sd a c=true)(h2:bt sd d c=false):bt sd d a=false:=by
 unfold bt at *;by_cases A:sd=2
 ·simp[A]at *;omega
 simp[A]at *;omega
theorem aH.more{x:Ord}(h:aH sd Q p)(hpos:1≤x.bn)(hp:∀y,Q y→1≤y.bn):aH sd (fun y=>Q y∨y=x) (if p=0∨bt sd x.bn p=true then x.bn else p):=by
 rcases h with⟨H,C⟩|⟨⟨z,F,E⟩,C⟩
 ·rw[if_pos (.inl H)];refine .inr ⟨⟨x,.inr rfl,rfl⟩,fun y A=>?_⟩;rcases A with A|rfl
  ·exact absurd A (C y)
  exact zCh _ _
 have G:p≠0:=by have:=hp z F;omega
 by_cases D:bt sd x.bn p=true
 ·rw[if_pos (.inr D)];refine .inr ⟨⟨x,.inr rfl,rfl⟩,fun y A=>?_⟩;rcases A with A|rfl
  ·exact zGb D (C y A)
  exact zCh _ _
 rw[if_neg (fun hc=>hc.elim G D)];refine .inr ⟨⟨z,.inl F,E⟩,fun y A=>?_⟩;rcases A with A|rfl
 ·exact C y A
 simpa using D
def good(sd:Int)(x:Ord):Prop:=x.side=sd∧x.typ≠3∧0<x.bg
theorem rD(hsd:sd=1∨sd=2):∀(l:List Ord) (p:Int) (Q:Ord→Prop),aH sd Q p→(∀y,Q y→1≤y.bn)→(∀y∈l,good sd y→1≤y.bn)→aH sd (fun y=>Q y∨(y∈l∧good sd y)) (l.foldl (fun p x=>if x.side=sd∧x.typ≠3∧0<x.bg∧(p=0∨(sd=1∧p<x.bn)∨(sd=2∧x.bn<p)) then x.bn else p) p)
 | [],p,Q,h,_,_=>h.vz fun x=>by simp
 |x::l,p,Q,h,hQ,hl=>by
  rw[List.foldl_cons];have hbt:∀a c:Int,bt sd a c=true↔(sd=1∧c<a)∨(sd=2∧a<c):=fun a c=>by
   unfold bt;rcases hsd with rfl|rfl<;>simp
  by_cases hg:good sd x
  ·have hm:=h.more (x:=x) (hl x (List.mem_cons_self ..) hg) hQ;have he:(if x.side=sd∧x.typ≠3∧0<x.bg∧(p=0∨(sd=1∧p<x.bn)∨(sd=2∧x.bn<p)) then x.bn else p)=if p=0∨bt sd x.bn p=true then x.bn else p:=by
    by_cases D:p=0∨(sd=1∧p<x.bn)∨(sd=2∧x.bn<p)
    ·rw[if_pos (D.imp_right (hbt _ _).2),if_pos ⟨hg.1,hg.2.1,hg.2.2,D⟩]
    rw[if_neg (fun hd=>D hd.2.2.2),if_neg (fun hd=>D (hd.imp_right (hbt _ _).1))]
   rw[he];refine(rD hsd l _ _ hm (fun y E=>?_) (fun y E=>hl y (List.mem_cons_of_mem _ E))).vz fun y=>?_
   ·rcases E with E|rfl
    ·exact hQ y E
    exact hl y (List.mem_cons_self ..) hg
   constructor
   ·rintro((A|rfl)|⟨A,C⟩)
    ·exact .inl A
    ·exact .inr ⟨List.mem_cons_self ..,hg⟩
    exact .inr ⟨List.mem_cons_of_mem _ A,C⟩
   rintro(A|⟨A,C⟩)
   ·exact .inl (.inl A)
   rcases List.mem_cons.1 A with rfl|A
   ·exact .inl (.inr rfl)
   exact .inr ⟨A,C⟩
  rw[if_neg (fun D=>hg ⟨D.1,D.2.1,D.2.2.1⟩)];refine(rD hsd l p Q h hQ (fun y E=>hl y (List.mem_cons_of_mem _ E))).vz fun y=>?_
  constructor
  ·rintro(A|⟨A,C⟩)
   ·exact .inl A
   exact .inr ⟨List.mem_cons_of_mem _ A,C⟩
  rintro(A|⟨A,C⟩)
  ·exact .inl A
  rcases List.mem_cons.1 A with rfl|A
  ·exact absurd C hg
  exact .inr ⟨A,C⟩
theorem zGc(hsd:sd=1∨sd=2)(l:List Ord)(hl:∀y∈l,good sd y→1≤y.bn):aH sd (fun y=>y∈l∧good sd y) (bf.qw sd l):=
 (rD hsd l 0 (fun _=>False) (.inl ⟨rfl,fun _ h=>h⟩) (fun _ h=>h.elim) hl).vz fun x=>by simp
def Came(al:List Ord)(g:Gh)(B:List Nat)(seen:List (Int×Option Nat))(x:Ord):Prop:= ∃j∈B,ent al g j∈seen∧al[j]? =some x∧x.typ≠3
section
variable {sd:Int} {al:List Ord} {g:Gh} {B:List Nat} {seen:List (Int×Option Nat)} {j0:Nat} {o:Ord} {p:Int}
theorem Came.nil:aH sd (Came al g B []) 0:=.inl ⟨rfl,fun x ⟨j,_,h,_⟩=>by cases h⟩
theorem Came.skip(hinj:∀i j,i∈B→j∈B→g.blk i=g.blk j→i=j)(h0:j0∈B)(ho:al[j0]? =some o)(h:aH sd (Came al g B seen) p)(ht:o.typ=3):aH sd (Came al g B (seen++ [ent al g j0])) p:=
 h.vz fun x=>by
  constructor
  ·rintro⟨j,hj,h1,h2,h3⟩;exact⟨j,hj,List.mem_append_left _ h1,h2,h3⟩
  rintro⟨j,hj,h1,h2,h3⟩;rcases pM hinj h0 hj h1 with h4|rfl
  ·exact⟨j,hj,h4,h2,h3⟩
  obtain rfl:o=x:=Option.some.inj (ho.symm.trans h2);exact absurd ht h3
theorem Came.take(hinj:∀i j,i∈B→j∈B→g.blk i=g.blk j→i=j)(h0:j0∈B)(ho:al[j0]? =some o)(h:aH sd (Came al g B seen) p)(ht:o.typ≠3)(hpos:∀j∈B,∀x,al[j]? =some x→1≤x.bn):aH sd (Came al g B (seen++ [ent al g j0])) (if p=0∨bt sd o.bn p=true then o.bn else p):=
 (h.more (hpos j0 h0 o ho) (fun y ⟨j,hj,_,h2,_⟩=>hpos j hj y h2)).vz fun x=>by
  constructor
  ·rintro(⟨j,hj,h1,h2,h3⟩|rfl)
   ·exact⟨j,hj,List.mem_append_left _ h1,h2,h3⟩
   exact⟨j0,h0,by simp,ho,ht⟩
  rintro⟨j,hj,h1,h2,h3⟩;rcases pM hinj h0 hj h1 with h4|rfl
  ·exact .inl ⟨j,hj,h4,h2,h3⟩
  exact .inr (Option.some.inj (h2.symm.trans ho))
theorem Came.pos(hpos:∀j∈B,∀x,al[j]? =some x→1≤x.bn)(h:aH sd (Came al g B seen) p):0≤p∧(p=0∨1≤p):=by
 rcases h with⟨rfl,_⟩|⟨⟨x,⟨j,C,_,A,_⟩,rfl⟩,_⟩
 ·exact⟨by omega,.inl rfl⟩
 have:=hpos j C x A;exact⟨by omega,.inr this⟩
end
theorem Came.best{e:bf}{g:Gh}{B:List Nat}{seen:List (Int×Option Nat)}(inv:bf.fe e)(hsd:sd=1∨sd=2)(hB:∀j,j∈B↔∃x,e.all[j]? =some x∧bf.bU sd x=true)(hall:∀j∈B,ent e.all g j∈seen)(h:aH sd (Came e.all g B seen) p):p=bf.qw sd e.all:=by
 refine h.unique ?_;refine(zGc hsd e.all (fun y F C=>?_)).vz fun x=>?_
 ·obtain⟨j,A⟩:=List.mem_iff_getElem?.1 F;exact(inv.ok j y A).shp C.2.2
 constructor
 ·rintro⟨J,C⟩;obtain⟨j,A⟩:=List.mem_iff_getElem?.1 J;have D:=(hB j).2 ⟨x,A,by have:=C.2.2;simp[bf.bU,C.1];omega⟩;exact⟨j,D,hall j D,A,C.2.1⟩
 rintro⟨j,A,_,E,G⟩;obtain⟨y,F,I⟩:=(hB j).1 A;obtain rfl:x=y:=Option.some.inj (E.symm.trans F);obtain⟨K,H⟩:=bf.dM I;exact⟨List.mem_iff_getElem?.2 ⟨j,E⟩,H,G,by have:=(inv.ok j x E).kH;omega⟩
end
section
open Go.Extern Go.Maps Go.RowKit
section
variable {F:Nat→Prop} {base:Nat} {w:World} {b:Nat} {e:bf} {g:Gh} {S:jk}
def found(p:Int):Value:=.bool (!(p == 0))
theorem zGd(h:dw F base w b e g S)(inv:bf.fe e)(hH:Holds e S [] []):
 Cl 252 #[iP g.wz,.func (.func 253) #[] #[]] w fun en w'=>en=rV #[iV (bf.qw 1 e.all),found (bf.qw 1 e.all)]∧Below w.heap.size w w':=by
 have A6:=h.body.aP;have d0:w.cell? (iA g.wz 0)=some (.map (some g.fV)):=by simp[World.cell?,h.body.wz]
 have H:∀j∈S.aP,∃x,e.all[j]? =some x∧¬x.bg=0:=fun j hj=>by
  obtain⟨x,C,M,Z⟩:=hH.lS j hj;exact⟨x,C,Z.resolve_right (by simp)⟩
 have m:∀i j,i∈S.aP→j∈S.aP→g.blk i=g.blk j→i=j:=fun i j hi hj hij=>by
  obtain⟨x,C,_⟩:=H i hi;obtain⟨y,M,_⟩:=H j hj;exact h.body.inj i j (List.getElem?_eq_some_iff.1 C).1 (List.getElem?_eq_some_iff.1 M).1 hij
 have A5:∀(W:World),Bw w W→∀j∈S.aP,∃x,e.all[j]? =some x∧OA W (g.blk j) j x:=fun W hW j hj=>by
  obtain⟨x,C,M⟩:=H j hj;have A7:x.dm=1:=Classical.byContradiction fun hc=>M ((inv.ok j x C).dead hc)
  have d:=h.oa C A7;exact⟨x,C,⟨(hW.block _ d.lt).trans d.blk⟩⟩
 have q:∀j∈S.aP,∀x,e.all[j]? =some x→1≤x.bn:=fun j hj x hx=>by
  obtain⟨y,C,M⟩:=H j hj;obtain rfl:x=y:=Option.some.inj (hx.symm.trans C);exact(inv.ok j x hx).shp (by have:=(inv.ok j x hx).kH;omega)
 have I:=hid m;have A0:=hid A5;have Y:=hid q;have V:Hd (∀A p,(∀j∈S.aP,ent e.all g j∈A)→aH 1 (Came e.all g S.aP A) p→p=bf.qw 1 e.all):=fun A p C M=>Came.best inv (by decide) hH.inBuy C M
 go_enter func252,ntmps252;go_wp2_with(first
  |(at_range;refine aU _ rfl _ _ rfl je underlying89 rfl A6 ?_;intro w0 t A2 A8)
  |go_in)
 go_frame;go_loopw [6,7] (fun av fv wr=> ∃(A O:List (Int×Option Nat)) (p:Int),av=iV p∧fv=found p∧PR jf prog 3 wr g.fV w.heap.size (S.aP.map fun i=>(ru e.all i,some (g.blk i))) A O∧aH 1 (Came e.all g S.aP A) p∧Bw w wr) (fun _ _ wr=>wr.rangeLeft g.fV w.heap.size)
 case atStart=>exact⟨[],_,0,rfl,rfl,t,Came.nil,(Below.refl w.heap.size w).grown A2 (Nat.le_refl _) (by simp)⟩
 case round=>
  obtain⟨A,O,p,rfl,rfl,s,N,l⟩:=hrel;have J:=hid N;have K:=hid l;go_wp2_with(first
   |(at_next;refine bA _ rfl _ rfl je underlying3 g.fV w.heap.size A O rfl s ?_ ?_)
   |go_in)
  ·intro h0;have T:Hd (∀j∈S.aP,ent e.all g j∈A):=fun j hj=>by
    have:=s.1;rw[h0,List.append_nil]at this;exact this.mem_iff.2 (List.mem_map_of_mem (f:=fun i=>(ru e.all i,some (g.blk i))) hj)
   have HP:=hid (V.o A p T.o J.o);go_wp2;exact bodyPost_ret (v:=.tuple #[iV p,found p]) (by simp[results,Tryz.results252,go_sem]) rfl ⟨by rw[←HP.o],K.o⟩
  intro k v B w1 R n hk hv u A3 A9 A4 A1;subst hk hv;have z:jf.val (some (g.blk R))=iP (g.blk R):=rfl;rw[z]at A1⊢;have c:Bw w w1:=K.grown A3 K.size (by intro k hk;injection hk with hk;omega);obtain⟨x,hx,d⟩:=A0.o w1 c R n;have x2:cI w1 (g.blk R) 2 x.typ:=d.cell 2;have x3:cI w1 (g.blk R) 3 x.bn:=d.cell 3;have G:=hid u;have D:=hid c;have E:=hid A4;have HX:=hid hx;have HJ:=hid n;by_cases q1:x.typ=3
  ·have HQ:=hid q1;go_wp2;go_roundw
   case rel=>exact⟨_,B,p,rfl,rfl,G.o,Came.skip I.o HJ.o HX.o J.o HQ.o,D.o⟩
   case measure=>exact E.o
  have L:=hid (Came.take I.o HJ.o HX.o J.o q1 Y.o);have X:Hd (1≤x.bn):=Y.o R HJ.o x HX.o;unfold found;cases q2:(p == 0)
  case true=>
   have U:Hd ((if p=0∨bt 1 x.bn p=true then x.bn else p)=x.bn):=if_pos (.inl (by simpa using q2));simp only[Bool.not_true];go_wp2;go_roundw
   case rel=>exact⟨_,B,x.bn,rfl,(by unfold found;have:=X.o;have Z:(x.bn == 0)=false:=(by simp;omega);rw[Z];rfl),G.o,(by have:=L.o;rw[U.o]at this;exact this),D.o⟩
   case measure=>exact E.o
  case false=>
   simp only[Bool.not_false];go_wp2_with fail;refine(zCc x.bn p).mono ?_;rintro en w2 ⟨rfl,rfl⟩;cases q3:decide (p<x.bn)
   case true=>
    have U:Hd ((if p=0∨bt 1 x.bn p=true then x.bn else p)=x.bn):=if_pos (.inr (by simpa [bt] using q3));go_wp2;go_roundw
    case rel=>exact⟨_,B,x.bn,rfl,(by unfold found;have:=X.o;have Z:(x.bn == 0)=false:=(by simp;omega);rw[Z];rfl),G.o,(by have:=L.o;rw[U.o]at this;exact this),D.o⟩
    case measure=>exact E.o
   case false=>
    have U:Hd ((if p=0∨bt 1 x.bn p=true then x.bn else p)=p):=if_neg (fun hc=>hc.elim (by simpa using q2) (by simpa [bt] using q3));go_wp2;go_roundw
    case rel=>exact⟨_,B,p,rfl,(by unfold found;rw[q2];rfl),G.o,(by have:=L.o;rw[U.o]at this;exact this),D.o⟩
    case measure=>exact E.o
theorem wE(h:dw F base w b e g S)(inv:bf.fe e)(hH:Holds e S [] []):
 Cl 249 #[iP g.wz] w fun en w'=>en=rV #[iV (bf.qw 1 e.all),found (bf.qw 1 e.all)]∧Below w.heap.size w w':=by
 have B:=hid (zGd h inv hH);generalize bf.qw 1 e.all=p at *;go_enter func249,ntmps249;go_wp2_with fail;refine B.mono ?_;rintro en D ⟨rfl,C⟩;have A:=hid C;go_wp2;exact bodyPost_ret (v:=.tuple #[iV p,found p]) (by simp[results,Tryz.results249,go_sem]) rfl ⟨rfl,A⟩
theorem zGe(h:dw F base w b e g S)(inv:bf.fe e)(hH:Holds e S [] []):
 Cl 252 #[iP g.xg,.func (.func 257) #[] #[]] w fun en w'=>en=rV #[iV (bf.qw 2 e.all),found (bf.qw 2 e.all)]∧Below w.heap.size w w':=by
 have A6:=h.body.sel;have d0:w.cell? (iA g.xg 0)=some (.map (some g.fZ)):=by simp[World.cell?,h.body.xg]
 have H:∀j∈S.sel,∃x,e.all[j]? =some x∧¬x.bg=0:=fun j hj=>by
  obtain⟨x,C,M,Z⟩:=hH.lT j hj;exact⟨x,C,Z.resolve_right (by simp)⟩
 have m:∀i j,i∈S.sel→j∈S.sel→g.blk i=g.blk j→i=j:=fun i j hi hj hij=>by
  obtain⟨x,C,_⟩:=H i hi;obtain⟨y,M,_⟩:=H j hj;exact h.body.inj i j (List.getElem?_eq_some_iff.1 C).1 (List.getElem?_eq_some_iff.1 M).1 hij
 have A5:∀(W:World),Bw w W→∀j∈S.sel,∃x,e.all[j]? =some x∧OA W (g.blk j) j x:=fun W hW j hj=>by
  obtain⟨x,C,M⟩:=H j hj;have A7:x.dm=1:=Classical.byContradiction fun hc=>M ((inv.ok j x C).dead hc)
  have d:=h.oa C A7;exact⟨x,C,⟨(hW.block _ d.lt).trans d.blk⟩⟩
 have q:∀j∈S.sel,∀x,e.all[j]? =some x→1≤x.bn:=fun j hj x hx=>by
  obtain⟨y,C,M⟩:=H j hj;obtain rfl:x=y:=Option.some.inj (hx.symm.trans C);exact(inv.ok j x hx).shp (by have:=(inv.ok j x hx).kH;omega)
 have I:=hid m;have A0:=hid A5;have Y:=hid q;have V:Hd (∀A p,(∀j∈S.sel,ent e.all g j∈A)→aH 2 (Came e.all g S.sel A) p→p=bf.qw 2 e.all):=fun A p C M=>Came.best inv (by decide) (hH.inSel inv) C M
 go_enter func252,ntmps252;go_wp2_with(first
  |(at_range;refine aU _ rfl _ _ rfl je underlying89 rfl A6 ?_;intro w0 t A2 A8)
  |go_in)
 go_frame;go_loopw [6,7] (fun av fv wr=> ∃(A O:List (Int×Option Nat)) (p:Int),av=iV p∧fv=found p∧PR jf prog 3 wr g.fZ w.heap.size (S.sel.map fun i=>(ru e.all i,some (g.blk i))) A O∧aH 2 (Came e.all g S.sel A) p∧Bw w wr) (fun _ _ wr=>wr.rangeLeft g.fZ w.heap.size)
 case atStart=>exact⟨[],_,0,rfl,rfl,t,Came.nil,(Below.refl w.heap.size w).grown A2 (Nat.le_refl _) (by simp)⟩
 case round=>
  obtain⟨A,O,p,rfl,rfl,s,N,l⟩:=hrel;have J:=hid N;have K:=hid l;go_wp2_with(first
   |(at_next;refine bA _ rfl _ rfl je underlying3 g.fZ w.heap.size A O rfl s ?_ ?_)
   |go_in)
  ·intro h0;have T:Hd (∀j∈S.sel,ent e.all g j∈A):=fun j hj=>by
    have:=s.1;rw[h0,List.append_nil]at this;exact this.mem_iff.2 (List.mem_map_of_mem (f:=fun i=>(ru e.all i,some (g.blk i))) hj)
   have HP:=hid (V.o A p T.o J.o);go_wp2;exact bodyPost_ret (v:=.tuple #[iV p,found p]) (by simp[results,Tryz.results252,go_sem]) rfl ⟨by rw[←HP.o],K.o⟩
  intro k v B w1 R n hk hv u A3 A9 A4 A1;subst hk hv;have z:jf.val (some (g.blk R))=iP (g.blk R):=rfl;rw[z]at A1⊢;have c:Bw w w1:=K.grown A3 K.size (by intro k hk;injection hk with hk;omega);obtain⟨x,hx,d⟩:=A0.o w1 c R n;have x2:cI w1 (g.blk R) 2 x.typ:=d.cell 2;have x3:cI w1 (g.blk R) 3 x.bn:=d.cell 3;have G:=hid u;have D:=hid c;have E:=hid A4;have HX:=hid hx;have HJ:=hid n;by_cases q1:x.typ=3
  ·have HQ:=hid q1;go_wp2;go_roundw
   case rel=>exact⟨_,B,p,rfl,rfl,G.o,Came.skip I.o HJ.o HX.o J.o HQ.o,D.o⟩
   case measure=>exact E.o
  have L:=hid (Came.take I.o HJ.o HX.o J.o q1 Y.o);have X:Hd (1≤x.bn):=Y.o R HJ.o x HX.o;unfold found;cases q2:(p == 0)
  case true=>
   have U:Hd ((if p=0∨bt 2 x.bn p=true then x.bn else p)=x.bn):=if_pos (.inl (by simpa using q2));simp only[Bool.not_true];go_wp2;go_roundw
   case rel=>exact⟨_,B,x.bn,rfl,(by unfold found;have:=X.o;have Z:(x.bn == 0)=false:=(by simp;omega);rw[Z];rfl),G.o,(by have:=L.o;rw[U.o]at this;exact this),D.o⟩
   case measure=>exact E.o
  case false=>
   simp only[Bool.not_false];go_wp2_with fail;refine(zCd x.bn p).mono ?_;rintro en w2 ⟨rfl,rfl⟩;cases q3:decide (x.bn<p)
   case true=>
    have U:Hd ((if p=0∨bt 2 x.bn p=true then x.bn else p)=x.bn):=if_pos (.inr (by simpa [bt] using q3));go_wp2;go_roundw
    case rel=>exact⟨_,B,x.bn,rfl,(by unfold found;have:=X.o;have Z:(x.bn == 0)=false:=(by simp;omega);rw[Z];rfl),G.o,(by have:=L.o;rw[U.o]at this;exact this),D.o⟩
    case measure=>exact E.o
   case false=>
    have U:Hd ((if p=0∨bt 2 x.bn p=true then x.bn else p)=p):=if_neg (fun hc=>hc.elim (by simpa using q2) (by simpa [bt] using q3));go_wp2;go_roundw
    case rel=>exact⟨_,B,p,rfl,(by unfold found;rw[q2];rfl),G.o,(by have:=L.o;rw[U.o]at this;exact this),D.o⟩
    case measure=>exact E.o
theorem wF(h:dw F base w b e g S)(inv:bf.fe e)(hH:Holds e S [] []):
 Cl 255 #[iP g.xg] w fun en w'=>en=rV #[iV (bf.qw 2 e.all),found (bf.qw 2 e.all)]∧Below w.heap.size w w':=by
 have B:=hid (zGe h inv hH);generalize bf.qw 2 e.all=p at *;go_enter func255,ntmps255;go_wp2_with fail;refine B.mono ?_;rintro en D ⟨rfl,C⟩;have A:=hid C;go_wp2;exact bodyPost_ret (v:=.tuple #[iV p,found p]) (by simp[results,Tryz.results255,go_sem]) rfl ⟨rfl,A⟩
end
section
theorem Cmid.drew{F:Nat→Prop}{base:Nat}{w w':World}{b:Nat}{g:Gh}{S:jk}{e':bf}(h:Cmid F base w b g S e' w'):Cmid F base w b g S e' w'.drew:=by
 obtain⟨t,A,B⟩:=h;exact⟨t,A.drew,B.drewN 1⟩
variable {F:Nat→Prop} {base:Nat} {w:World} {b i k:Nat} {e:bf} {g:Gh} {S:jk} {o r:Ord}
theorem zGf(h:dw F base w b e g S)(inv:bf.fe e)(hH:Holds e S [] [])(ho:e.all[i]? =some o)(hr:e.all[k]? =some r)(hne:i≠k)(hos:o.dm=1)(hsh:o.bg=0)(hop:0<o.opn)(hrs:r.bg≠0)(hrst:r.dm=1)(hro:Room 2 e)(hsu:jR o.opn e)(hd:Dr e):
 Cl 169 #[iP b,iP (g.blk i),iP (g.blk k)] w fun en w'=>en=rV #[]∧Hd (qj F base w b g (e.sw i k) w'):=by
 have l:=h.oa ho hos;have G:=h.oa hr hrst;have u:=inv.ok i o ho;have H:=inv.ok k r hr;obtain⟨An,Ao,Ap⟩:=bf.vM H hop hrs;have v:=u.open_ hos;have Af:=H.open_ hrst;have Am:o.opn≤1000∧0≤o.bu∧o.bu≤1000:=by have:=u.sum;have:=u.fJ;have:=u.jN;have:=u.fH;have:=u.dN;omega
 have Aq:r.opn≤1000∧0≤r.bu∧r.bu≤1000∧r.bg≤r.opn:=by have:=H.sum;have:=H.fJ;have:=H.jN;have:=H.fH;have:=H.dN;have:=H.kJ;omega
 have p:0≤r.bn∧r.bn≤1000000:=⟨H.lM,by have:=H.gY;have:=inv.oN;omega⟩;have A4:0≤r.bn*bf.gy o r:=Int.mul_nonneg p.1 (by omega);have A5:r.bn*bf.gy o r≤1000000*1000:=Int.mul_le_mul p.2 (by omega) (by omega) (by omega);have j:Hd ((if r.bg<o.opn then r.bg else o.opn)=bf.gy o r):=rfl;have R:aD o.id:=rz (by have:=u.nC;omega) (by have:=u.nD;omega);have T:aD r.id:=rz (by have:=H.nC;omega) (by have:=H.nD;omega);have z:aD 0:=⟨by omega,by omega⟩;have Ae:=hro.len;have Ai:b≠g.blk i:=fun e1=>by
  have:=h.blk;rw[e1,l.blk]at this;injection this with this;injection this with _ this _;exact absurd this (by decide)
 have Aj:b≠g.blk k:=fun e1=>by
  have:=h.blk;rw[e1,G.blk]at this;injection this with this;injection this with _ this _;exact absurd this (by decide)
 have Al:g.blk i≠g.blk k:=fun e1=>hne (h.body.inj i k (List.getElem?_eq_some_iff.1 ho).1 (List.getElem?_eq_some_iff.1 hr).1 e1)
 have Ar:=Ai.symm;have As:=Aj.symm;have At:=Al.symm;have Au:wrap64 (r.bn*bf.gy o r)=r.bn*bf.gy o r:=by unfold wrap64;omega
 have Av:wrap64 (e.worth+r.bn*bf.gy o r)=e.worth+r.bn*bf.gy o r:=by have:=hsu.w0;have:=hsu.w1;unfold wrap64;omega
 have Aw:wrap64 (e.gq+bf.gy o r)=e.gq+bf.gy o r:=by have:=hsu.v0;have:=hsu.v1;unfold wrap64;omega
 have Ax:wrap64 (o.bu+bf.gy o r)=o.bu+bf.gy o r:=by unfold wrap64;omega
 have Ay:wrap64 (r.bu+bf.gy o r)=r.bu+bf.gy o r:=by unfold wrap64;omega
 have Az:wrap64 (r.bg - bf.gy o r)=r.bg - bf.gy o r:=by unfold wrap64;omega
 have q:IntKind.i64.wrap (r.bn*bf.gy o r)=r.bn*bf.gy o r:=aM _ (by omega) (by omega);have s:IntKind.i64.wrap (e.worth+r.bn*bf.gy o r)=e.worth+r.bn*bf.gy o r:=aM _ (by have:=hsu.w0;omega) (by have:=hsu.w1;omega);have Aa:Hd (∀W,Same w W→Cl 153 #[iP (g.blk i)] W fun en A=>en=.returned (iV o.opn)∧cI A (g.blk k) 11 r.bg∧cI A (g.blk i) 0 o.id∧cI A (g.blk k) 0 r.id∧cI A (g.blk k) 3 r.bn∧Hd (Same w A)):=by
  intro W m;refine(gL (l.same m) (rz (by omega) (by omega))).mono ?_;rintro en A ⟨rfl,U⟩;have hs:=m.trans U;exact⟨by rw[v],(G.same hs).cell 11,(l.same hs).cell 0,(G.same hs).cell 0,(G.same hs).cell 3,hs⟩
 have Ac:Hd (∀W,Same w W→Cl 94 #[.pointer (some (iA b 6)),.agg #[iV 3,iV 0,iV o.id,iV r.id,iV r.bn,iV (bf.gy o r),iV 0]] W fun en A=>en=rV #[]∧cI A b 14 e.worth∧A.frozen? (iA b 14)=false∧cI A b 15 e.gq∧A.frozen? (iA b 15)=false∧cI A (g.blk i) 10 o.bu∧A.frozen? (iA (g.blk i) 10)=false∧cI A (g.blk k) 3 r.bn∧cI A (g.blk k) 10 r.bu∧A.frozen? (iA (g.blk k) 10)=false∧cI A (g.blk k) 11 r.bg∧A.frozen? (iA (g.blk k) 11)=false∧cI A (g.blk i) 0 o.id∧cI A (g.blk k) 0 r.id∧
  Hd (Cmid F base w b g S (e.dx i k o r) (((((A.setCell (iA b 14) (iV (e.worth+r.bn*bf.gy o r))).setCell (iA b 15) (iV (e.gq+bf.gy o r))).setCell (iA (g.blk i) 10) (iV (o.bu+bf.gy o r))).setCell (iA (g.blk k) 10) (iV (r.bu+bf.gy o r))).setCell (iA (g.blk k) 11) (iV (r.bg - bf.gy o r))))):=by
  intro W m;refine(rA 3 0 o.id r.id r.bn (bf.gy o r) 0 (h.same m) (by have:=hro.seq;omega) (by have:=hro.out;omega) ⟨⟨by omega,by omega⟩,R,T,rz p.1 (by omega),rz (by omega) (by omega),z⟩).mono ?_;rintro en A ⟨rfl,t,J,q2⟩;have O:=J.oa (i:=i) ho hos;have B:=J.oa (i:=k) hr hrst;refine⟨rfl,J.cell 14,J.dz 14,J.cell 15,J.dz 15,O.cell 10,O.dz 10,B.cell 3,B.cell 10,B.dz 10,B.cell 11,B.dz 11,O.cell 0,B.cell 0,t,?_⟩;obtain⟨p1,p2⟩:=J.traded (i:=i) (k:=k) ho hr hne hos hrst (hH.live ho hos) (hH.live hr hrst) (e.worth+r.bn*bf.gy o r) (e.gq+bf.gy o r) (by rw[Int.mul_comm];rfl) rfl;refine⟨?_,(m.touch.trans q2).trans p2⟩;have hE:e.dx i k o r=({ (e.tell 3 o.id r.id r.bn (bf.gy o r) 0) with worth:=e.worth+r.bn*bf.gy o r,gq:=e.gq+bf.gy o r }.upd i fun _=>bf.kg o r).upd k fun _=>bf.jb o r:=by
   rw[Int.mul_comm];rfl
  rw[hE];exact p1
 have Ag:=bf.fe.dx inv i k o r ho hr hne hos hsh hop hrs;have Ad:(e.dx i k o r).all[k]? =some (bf.jb o r):=by rw[bf.cK,if_pos rfl,hr];rfl
 have Ab:Hd (∀W,Cmid F base w b g S (e.dx i k o r) W→Cl 153 #[iP (g.blk k)] W fun en A=>en=.returned (iV (r.opn - bf.gy o r))∧cI A (g.blk k) 11 (r.bg - bf.gy o r)∧Hd (Cmid F base w b g S (e.dx i k o r) A)):=by
  rintro W ⟨t,J,q2⟩;have hO:=J.oa (i:=k) Ad hrst;have hx:(bf.jb o r).mg - (bf.jb o r).bu=r.opn - bf.gy o r:=by show r.mg - (r.bu+bf.gy o r)=_;omega
  refine(gL hO (by rw[hx];exact rz (by omega) (by omega))).mono ?_;rintro en A ⟨rfl,U⟩;exact⟨by rw[hx],(hO.same U).cell 11,t,J.same U,q2.trans U.touch⟩
 have A9:Hd (r.opn - bf.gy o r=0→∀W,Cmid F base w b g S (e.dx i k o r) W→Cl 170 #[iP b,iP (g.blk k)] W fun en w'=>en=rV #[]∧Hd (qj F base w b g (e.sw i k) w')):=fun I W m=>zG3 inv hH ho hr hne hos hsh hop hrs hrst Ae I W m
 have A8:Hd (r.opn - bf.gy o r≠0→r.bg - bf.gy o r=0→∀W,Cmid F base w b g S (e.dx i k o r) W→Cl 192 #[iP b,iP (g.blk k)] W fun en A=>en=.returned (iV ((e.dx i k o r).again (bf.jb o r)))∧Hd (Cl 167 #[iP b,iP (g.blk k),iV ((e.dx i k o r).again (bf.jb o r))] A fun en w'=>en=rV #[]∧Hd (qj F base w b g (e.sw i k) w'))):=fun I d W m=>zG4 inv hH ho hr hne hos hsh hop hrs hrst hro hd I d W m
 have Ah:Hd (r.opn - bf.gy o r≠0→r.bg - bf.gy o r≠0→∀W,Cmid F base w b g S (e.dx i k o r) W→qj F base w b g (e.sw i k) W):=by
  rintro I d W ⟨t,J,q2⟩;have Ak:e.sw i k=e.dx i k o r:=by
   rw[bf.gZ e i k o r ho hr hne];unfold bf.rq;rw[if_neg (show¬(bf.jb o r).opn=0 from I),if_neg (show¬(bf.jb o r).bg=0 from d)]
  rw[Ak];exact⟨t,S,J,hH.traded' ho hr hne hsh hrs d,q2⟩
 have D:cI w (g.blk k) 11 r.bg:=G.cell 11;clear h inv hH ho hr hne hos hsh hop hrs hrst hro hsu hd l G u H v Af Am Aq p A4 A5 R T z Ae Ag Ad An Ao Ap;generalize e.sw i k=e9 at *;generalize (e.dx i k o r).again (bf.jb o r)=ag at *;generalize e.dx i k o r=e1 at *;generalize bf.gy o r=n at *;by_cases hc:r.bg<o.opn
 ·obtain rfl:n=r.bg:=by rw[←j.o,if_pos hc]
  clear j;have HV:=hid (And.intro q s);clear q s;go_enter func169,ntmps169;go_wp2_with fail;go_region_held3(fun X=>X.cell? (iA (g.blk k) 11)=sI r.bg) (first|exact D|exact C) ((go_at_call 153;refine(Aa.o w.drew ((Same.refl w).drew)).mono ?_;rintro en A ⟨rfl,C,i0,k0,k3,K⟩));clear D;go_wp2_with fail;go_region_held3(fun X=>X.cell? (iA (g.blk i) 0)=sI o.id∧X.cell? (iA (g.blk k) 0)=sI r.id∧X.cell? (iA (g.blk k) 3)=sI r.bn) (first|exact⟨i0,k0,k3⟩|exact⟨V,Y,c⟩) ((go_at_call 94;refine(Ac.o A.drew (K.drew)).mono ?_;rintro en w2 ⟨rfl,A0,A2,A1,A3,A6,L,c,A7,M,Z,N,V,Y,HM⟩));clear C i0 k0 k3 V Y K;go_wp2_with fail;apply merge
  ·intro hh;go_region_law(fail);all_goals exact hh
  rw[HV.o.1,HV.o.2];go_wp2_with fail;try simp only[Int.sub_self]at HM
  refine(Ab.o _ HM.drew).mono ?_;rintro en w3 ⟨rfl,C,E⟩;clear HM A0 A2 A1 A3 A6 L c A7 M Z N;by_cases I:r.opn - r.bg=0
  ·have x:=hid (A9.o I w3 E.o);go_wp2_with fail;refine x.mono ?_;rintro en w4 ⟨rfl,f⟩;go_wp2;go_end0;exact⟨rfl,f⟩
  by_cases d:r.bg - r.bg=0
  ·have x:=hid (A8.o I d w3 E.o);go_wp2_with fail;refine x.mono ?_;rintro en w4 ⟨rfl,y⟩;go_wp2_with fail;refine y.mono ?_;rintro en w5 ⟨rfl,f⟩;go_wp2;go_end0;exact⟨rfl,f⟩
  exact absurd (Int.sub_self _) d
 obtain rfl:n=o.opn:=by rw[←j.o,if_neg hc]
 clear j;have HV:=hid (And.intro q s);clear q s;go_enter func169,ntmps169;go_wp2_with fail;go_region_held3(fun X=>X.cell? (iA (g.blk k) 11)=sI r.bg) (first|exact D|exact C) ((go_at_call 153;refine(Aa.o w.drew ((Same.refl w).drew)).mono ?_;rintro en A ⟨rfl,C,i0,k0,k3,K⟩));clear D;go_wp2_with fail;go_region_held3(fun X=>X.cell? (iA (g.blk i) 0)=sI o.id∧X.cell? (iA (g.blk k) 0)=sI r.id∧X.cell? (iA (g.blk k) 3)=sI r.bn) (first|exact⟨i0,k0,k3⟩|exact⟨V,Y,c⟩) ((go_at_call 94;refine(Ac.o A.drew (K.drew)).mono ?_;rintro en w2 ⟨rfl,A0,A2,A1,A3,A6,L,c,A7,M,Z,N,V,Y,HM⟩));clear C i0 k0 k3 V Y K;go_wp2_with fail;apply merge
 ·intro hh;go_region_law(fail);all_goals exact hh
 rw[HV.o.1,HV.o.2];go_wp2_with fail;try simp only[Int.sub_self]at HM
 refine(Ab.o _ HM.drew).mono ?_;rintro en w3 ⟨rfl,C,E⟩;clear HM A0 A2 A1 A3 A6 L c A7 M Z N;by_cases I:r.opn - o.opn=0
 ·have x:=hid (A9.o I w3 E.o);go_wp2_with fail;refine x.mono ?_;rintro en w4 ⟨rfl,f⟩;go_wp2;go_end0;exact⟨rfl,f⟩
 by_cases d:r.bg - o.opn=0
 ·have x:=hid (A8.o I d w3 E.o);go_wp2_with fail;refine x.mono ?_;rintro en w4 ⟨rfl,y⟩;go_wp2_with fail;refine y.mono ?_;rintro en w5 ⟨rfl,f⟩;go_wp2;go_end0;exact⟨rfl,f⟩
 have f:=hid (Ah.o I d w3 E.o);go_wp2;go_end0;exact⟨rfl,f⟩
end
end
end Go.Proofs.YtehmdohpmpbnnaaGreatDoor
