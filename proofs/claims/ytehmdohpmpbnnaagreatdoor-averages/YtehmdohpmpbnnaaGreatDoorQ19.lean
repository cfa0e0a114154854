import Derived.Test.YtehmdohpmpbnnaaGreatDoorQ00
import Derived.Test.YtehmdohpmpbnnaaGreatDoorQ03
import Derived.Test.YtehmdohpmpbnnaaGreatDoorQ06
import Derived.Test.YtehmdohpmpbnnaaGreatDoorQ18
set_option linter.all false
set_option maxRecDepth 100000
set_option maxHeartbeats 8000000
namespace Go.Proofs.YtehmdohpmpbnnaaGreatDoor
variable{w w':World}{q i:Nat}{o:Ord}{v:Nat→Int}
open Go.Proofs.Tryz
open Go.Extern Go.Maps Go.RowKit
theorem zCc(a b:Int):Cl 253 #[iV a,iV b] w fun en w'=>en=.returned (.bool (decide (b<a)))∧w'=w:=by
 go_enter func253,ntmps253;go_wp2;go_ret;exact⟨rfl,rfl⟩
theorem zCd(a b:Int):Cl 257 #[iV a,iV b] w fun en w'=>en=.returned (.bool (decide (a<b)))∧w'=w:=by
 go_enter func257,ntmps257;go_wp2;go_ret;exact⟨rfl,rfl⟩
def aG(g:Gh)(r:Option Nat):Value:=nR (r.map g.blk)
section
variable {F:Nat→Prop} {base:Nat} {w:World} {b:Nat} {e:bf} {g:Gh} {S:jk}
theorem zG(lim:Int)(h:dw F base w b e g S)(inv:bf.fe e)(hH:Holds e S [] []):
 Cl 254 #[iP g.wz,iV lim,.func (.func 253) #[] #[]] w fun en w'=> ∃r,en=.returned (aG g r)∧(∃seen,jT 1 lim e.all g S.aP seen r∧∀j∈S.aP,ent e.all g j∈seen)∧Below w.heap.size w w':=by
 have Ac:=h.body.aP;have d0:w.cell? (iA g.wz 0)=some (.map (some g.fV)):=by simp[World.cell?,h.body.wz]
 have M:∀j∈S.aP,∃x,e.all[j]? =some x∧¬x.bg=0:=fun j hj=>by
  obtain⟨x,V,n,h3⟩:=hH.lS j hj;exact⟨x,V,h3.resolve_right (by simp)⟩
 have s:∀i j,i∈S.aP→j∈S.aP→g.blk i=g.blk j→i=j:=fun i j hi hj hij=>by
  obtain⟨x,V,_⟩:=M i hi;obtain⟨y,n,_⟩:=M j hj;exact h.body.inj i j (List.getElem?_eq_some_iff.1 V).1 (List.getElem?_eq_some_iff.1 n).1 hij
 have Ab:∀(W:World),Bw w W→∀j∈S.aP,∃x,e.all[j]? =some x∧¬x.bg=0∧OA W (g.blk j) j x:=fun W hW j hj=>by
  obtain⟨x,V,n⟩:=M j hj;have Ae:x.dm=1:=Classical.byContradiction fun hc=>n ((inv.ok j x V).dead hc)
  have c:=h.oa V Ae;exact⟨x,V,n,⟨(hW.block _ c.lt).trans c.blk⟩⟩
 have Ai:=hid M;have B:=hid s;have U:=hid Ab;have A4:=hid inv.apart;go_enter func254,ntmps254;go_wp2_with(first
  |(at_range;refine aU _ rfl _ _ rfl je underlying89 rfl Ac ?_;intro w0 z A7 Am)
  |go_in)
 go_frame;go_loopw [7] (fun fv wr=> ∃(seen Z:List (Int×Option Nat)) (r:Option Nat),fv=aG g r∧PR jf prog 3 wr g.fV w.heap.size (S.aP.map fun i=>(ru e.all i,some (g.blk i))) seen Z∧jT 1 lim e.all g S.aP seen r∧Bw w wr) (fun _ wr=>wr.rangeLeft g.fV w.heap.size)
 case atStart=>exact⟨[],_,none,rfl,z,jT.nil,(Below.refl w.heap.size w).grown A7 (Nat.le_refl _) (by simp)⟩
 case round=>
  obtain⟨seen,Z,r,rfl,u,Y,q⟩:=hrel;have D:=hid Y;have R:=hid q;go_wp2_with(first
   |(at_next;refine bA _ rfl _ rfl je underlying3 g.fV w.heap.size seen Z rfl u ?_ ?_)
   |go_in)
  ·intro h0;have m:Hd (∀j∈S.aP,ent e.all g j∈seen):=fun j hj=>by
    have:=u.1;rw[h0,List.append_nil]at this;exact this.mem_iff.2 (List.mem_map_of_mem (f:=fun i=>(ru e.all i,some (g.blk i))) hj)
   go_wp2;go_ret;exact⟨r,rfl,⟨seen,D.o,m.o⟩,R.o⟩
  intro k v rem' w1 E t d hv A0 A8 An Aa A6;subst d hv;have A2:jf.val (some (g.blk E))=iP (g.blk E):=rfl;rw[A2]at A6⊢;have K:Bw w w1:=R.grown A8 R.size (by intro k d;injection d with d;omega);obtain⟨x,hx,Ad,c⟩:=U.o w1 K E t;have x3:cI w1 (g.blk E) 3 x.bn:=c.cell 3;have Ah:cI w1 (g.blk E) 12 x.dh:=c.cell 12;go_wp2_with fail;refine(zFh lim x.bn).mono ?_;rintro en L ⟨rfl,C⟩;have A1:PR jf prog 3 L g.fV w.heap.size (S.aP.map fun i=>(ru e.all i,some (g.blk i))) (seen++ [ent e.all g E]) rem':=A0.zm (by rw[C.heap]) (by rw[C.heap]);have J:=hid A1;have A:Hd (Bw w L):=⟨C.os.trans K.os,C.tape.trans K.tape,C.output.trans K.output,by rw[C.heap];exact K.size,fun k d=>by rw[C.heap];exact K.block k d⟩;have I:Hd (L.rangeLeft g.fV w.heap.size<wr.rangeLeft g.fV w.heap.size):=by
   show _<_;have:L.rangeLeft g.fV w.heap.size=w1.rangeLeft g.fV w.heap.size:=by unfold World.rangeLeft;rw[C.heap]
   rw[this];exact Aa
  have p:=c.same C;have x3:cI L (g.blk E) 3 x.bn:=p.cell 3;have Ah:cI L (g.blk E) 12 x.dh:=p.cell 12;have O:=hid hx;have A5:=hid Ad;have T:=hid t;cases q1:decide (x.bn<lim)
  case true=>
   go_wp2;go_roundw
   case rel=>exact⟨_,rem',r,rfl,J.o,D.skip B.o T.o O.o (by simpa [bt] using q1),A.o⟩
   case measure=>exact I.o
  case false=>
   have HQ:Hd (bt 1 lim x.bn=false):=by show _=_;simpa [bt] using q1
   cases r with
   |none=>
    unfold aG nR;simp only[Option.map_none];go_wp2_with fail;go_quiet (fail);go_wp2_with fail;go_roundw
    case rel=>exact⟨_,rem',some E,rfl,J.zm rfl rfl,D.start B.o T.o O.o HQ.o,⟨A.os,A.tape,A.output,A.size,A.block⟩⟩
    case measure=>exact I.o
   |some k=>
    obtain⟨A9,y,hy,Al,_⟩:=D.o;obtain⟨y',Ag,A3,X⟩:=U.o L A.o k A9;obtain rfl:y=y':=Option.some.inj (hy.symm.trans Ag);have y3:cI L (g.blk k) 3 y.bn:=X.cell 3;have Ao:cI L (g.blk k) 12 y.dh:=X.cell 12;have Ak:=hid X;have HY:=hid hy;have N:Hd (E≠k→x.dh≠y.dh):=fun hne=>A4.o E k x y O.o hy hne A5.o A3
    have Aj:Hd (OA L (g.blk E) E x):=by
     obtain⟨x',Af,_,h3⟩:=U.o L A.o E T.o;obtain rfl:x=x':=Option.some.inj (O.o.symm.trans Af);exact h3
    have H:Hd (∀W,Cl 253 #[iV x.bn,iV y.bn] W fun en w3=>en=.returned (.bool (decide (y.bn<x.bn)))∧w3=W):=fun W=>zCc x.bn y.bn
    unfold aG nR;simp only[Option.map_some];cases l:decide (y.bn<x.bn)
    case true=>
     have G:Hd (bf.ahead 1 x y=true):=by show _=_;unfold bf.ahead;simp at l⊢;exact .inl l
     simp only[l]at H;go_wp2_with fail;go_quiet (exact Calls.quiet_of_same (H.o _));go_wp2_with fail;go_roundw
     case rel=>exact⟨_,rem',some E,rfl,J.zm rfl rfl,D.take B.o T.o O.o HY.o HQ.o G.o,⟨A.os,A.tape,A.output,A.size,A.block⟩⟩
     case measure=>exact I.o
    case false=>
     simp only[l]at H;cases q3:(x.bn == y.bn)
     case false=>
      have G:Hd (bf.ahead 1 x y=false):=by show _=_;unfold bf.ahead;rw[q3];simpa using l
      go_wp2_with fail;go_quiet (exact Calls.quiet_of_same (H.o _));go_wp2_with fail;go_roundw
      case rel=>exact⟨_,rem',some k,rfl,J.zm rfl rfl,D.stay B.o T.o O.o HY.o N.o G.o,⟨A.os,A.tape,A.output,A.size,A.block⟩⟩
      case measure=>exact I.o
     case true=>
      cases q4:decide (x.dh<y.dh)
      case true=>
       have G:Hd (bf.ahead 1 x y=true):=by show _=_;unfold bf.ahead;rw[q3,q4];simp
       go_wp2_with fail;go_quiet (exact Calls.quiet_of_same (H.o _));go_wp2_with fail;go_roundw
       case rel=>exact⟨_,rem',some E,rfl,J.zm rfl rfl,D.take B.o T.o O.o HY.o HQ.o G.o,⟨A.os,A.tape,A.output,A.size,A.block⟩⟩
       case measure=>exact I.o
      case false=>
       have G:Hd (bf.ahead 1 x y=false):=by show _=_;unfold bf.ahead;rw[q3,q4];simpa using l
       go_wp2_with fail;go_quiet (exact Calls.quiet_of_same (H.o _));go_wp2_with fail;go_roundw
       case rel=>exact⟨_,rem',some k,rfl,J.zm rfl rfl,D.stay B.o T.o O.o HY.o N.o G.o,⟨A.os,A.tape,A.output,A.size,A.block⟩⟩
       case measure=>exact I.o
theorem zG0(lim:Int)(h:dw F base w b e g S)(inv:bf.fe e)(hH:Holds e S [] []):
 Cl 254 #[iP g.xg,iV lim,.func (.func 257) #[] #[]] w fun en w'=> ∃r,en=.returned (aG g r)∧(∃seen,jT 2 lim e.all g S.sel seen r∧∀j∈S.sel,ent e.all g j∈seen)∧Below w.heap.size w w':=by
 have Ac:=h.body.sel;have d0:w.cell? (iA g.xg 0)=some (.map (some g.fZ)):=by simp[World.cell?,h.body.xg]
 have M:∀j∈S.sel,∃x,e.all[j]? =some x∧¬x.bg=0:=fun j hj=>by
  obtain⟨x,V,n,h3⟩:=hH.lT j hj;exact⟨x,V,h3.resolve_right (by simp)⟩
 have s:∀i j,i∈S.sel→j∈S.sel→g.blk i=g.blk j→i=j:=fun i j hi hj hij=>by
  obtain⟨x,V,_⟩:=M i hi;obtain⟨y,n,_⟩:=M j hj;exact h.body.inj i j (List.getElem?_eq_some_iff.1 V).1 (List.getElem?_eq_some_iff.1 n).1 hij
 have Ab:∀(W:World),Bw w W→∀j∈S.sel,∃x,e.all[j]? =some x∧¬x.bg=0∧OA W (g.blk j) j x:=fun W hW j hj=>by
  obtain⟨x,V,n⟩:=M j hj;have Ae:x.dm=1:=Classical.byContradiction fun hc=>n ((inv.ok j x V).dead hc)
  have c:=h.oa V Ae;exact⟨x,V,n,⟨(hW.block _ c.lt).trans c.blk⟩⟩
 have Ai:=hid M;have B:=hid s;have U:=hid Ab;have A4:=hid inv.apart;go_enter func254,ntmps254;go_wp2_with(first
  |(at_range;refine aU _ rfl _ _ rfl je underlying89 rfl Ac ?_;intro w0 z A7 Am)
  |go_in)
 go_frame;go_loopw [7] (fun fv wr=> ∃(seen Z:List (Int×Option Nat)) (r:Option Nat),fv=aG g r∧PR jf prog 3 wr g.fZ w.heap.size (S.sel.map fun i=>(ru e.all i,some (g.blk i))) seen Z∧jT 2 lim e.all g S.sel seen r∧Bw w wr) (fun _ wr=>wr.rangeLeft g.fZ w.heap.size)
 case atStart=>exact⟨[],_,none,rfl,z,jT.nil,(Below.refl w.heap.size w).grown A7 (Nat.le_refl _) (by simp)⟩
 case round=>
  obtain⟨seen,Z,r,rfl,u,Y,q⟩:=hrel;have D:=hid Y;have R:=hid q;go_wp2_with(first
   |(at_next;refine bA _ rfl _ rfl je underlying3 g.fZ w.heap.size seen Z rfl u ?_ ?_)
   |go_in)
  ·intro h0;have m:Hd (∀j∈S.sel,ent e.all g j∈seen):=fun j hj=>by
    have:=u.1;rw[h0,List.append_nil]at this;exact this.mem_iff.2 (List.mem_map_of_mem (f:=fun i=>(ru e.all i,some (g.blk i))) hj)
   go_wp2;go_ret;exact⟨r,rfl,⟨seen,D.o,m.o⟩,R.o⟩
  intro k v rem' w1 E t d hv A0 A8 An Aa A6;subst d hv;have A2:jf.val (some (g.blk E))=iP (g.blk E):=rfl;rw[A2]at A6⊢;have K:Bw w w1:=R.grown A8 R.size (by intro k d;injection d with d;omega);obtain⟨x,hx,Ad,c⟩:=U.o w1 K E t;have x3:cI w1 (g.blk E) 3 x.bn:=c.cell 3;have Ah:cI w1 (g.blk E) 12 x.dh:=c.cell 12;go_wp2_with fail;refine(zFi lim x.bn).mono ?_;rintro en L ⟨rfl,C⟩;have A1:PR jf prog 3 L g.fZ w.heap.size (S.sel.map fun i=>(ru e.all i,some (g.blk i))) (seen++ [ent e.all g E]) rem':=A0.zm (by rw[C.heap]) (by rw[C.heap]);have J:=hid A1;have A:Hd (Bw w L):=⟨C.os.trans K.os,C.tape.trans K.tape,C.output.trans K.output,by rw[C.heap];exact K.size,fun k d=>by rw[C.heap];exact K.block k d⟩;have I:Hd (L.rangeLeft g.fZ w.heap.size<wr.rangeLeft g.fZ w.heap.size):=by
   show _<_;have:L.rangeLeft g.fZ w.heap.size=w1.rangeLeft g.fZ w.heap.size:=by unfold World.rangeLeft;rw[C.heap]
   rw[this];exact Aa
  have p:=c.same C;have x3:cI L (g.blk E) 3 x.bn:=p.cell 3;have Ah:cI L (g.blk E) 12 x.dh:=p.cell 12;have O:=hid hx;have A5:=hid Ad;have T:=hid t;cases q1:decide (lim<x.bn)
  case true=>
   go_wp2;go_roundw
   case rel=>exact⟨_,rem',r,rfl,J.o,D.skip B.o T.o O.o (by simpa [bt] using q1),A.o⟩
   case measure=>exact I.o
  case false=>
   have HQ:Hd (bt 2 lim x.bn=false):=by show _=_;simpa [bt] using q1
   cases r with
   |none=>
    unfold aG nR;simp only[Option.map_none];go_wp2_with fail;go_quiet (fail);go_wp2_with fail;go_roundw
    case rel=>exact⟨_,rem',some E,rfl,J.zm rfl rfl,D.start B.o T.o O.o HQ.o,⟨A.os,A.tape,A.output,A.size,A.block⟩⟩
    case measure=>exact I.o
   |some k=>
    obtain⟨A9,y,hy,Al,_⟩:=D.o;obtain⟨y',Ag,A3,X⟩:=U.o L A.o k A9;obtain rfl:y=y':=Option.some.inj (hy.symm.trans Ag);have y3:cI L (g.blk k) 3 y.bn:=X.cell 3;have Ao:cI L (g.blk k) 12 y.dh:=X.cell 12;have Ak:=hid X;have HY:=hid hy;have N:Hd (E≠k→x.dh≠y.dh):=fun hne=>A4.o E k x y O.o hy hne A5.o A3
    have Aj:Hd (OA L (g.blk E) E x):=by
     obtain⟨x',Af,_,h3⟩:=U.o L A.o E T.o;obtain rfl:x=x':=Option.some.inj (O.o.symm.trans Af);exact h3
    have H:Hd (∀W,Cl 257 #[iV x.bn,iV y.bn] W fun en w3=>en=.returned (.bool (decide (x.bn<y.bn)))∧w3=W):=fun W=>zCd x.bn y.bn
    unfold aG nR;simp only[Option.map_some];cases l:decide (x.bn<y.bn)
    case true=>
     have G:Hd (bf.ahead 2 x y=true):=by show _=_;unfold bf.ahead;simp at l⊢;exact .inl l
     simp only[l]at H;go_wp2_with fail;go_quiet (exact Calls.quiet_of_same (H.o _));go_wp2_with fail;go_roundw
     case rel=>exact⟨_,rem',some E,rfl,J.zm rfl rfl,D.take B.o T.o O.o HY.o HQ.o G.o,⟨A.os,A.tape,A.output,A.size,A.block⟩⟩
     case measure=>exact I.o
    case false=>
     simp only[l]at H;cases q3:(x.bn == y.bn)
     case false=>
      have G:Hd (bf.ahead 2 x y=false):=by show _=_;unfold bf.ahead;rw[q3];simpa using l
      go_wp2_with fail;go_quiet (exact Calls.quiet_of_same (H.o _));go_wp2_with fail;go_roundw
      case rel=>exact⟨_,rem',some k,rfl,J.zm rfl rfl,D.stay B.o T.o O.o HY.o N.o G.o,⟨A.os,A.tape,A.output,A.size,A.block⟩⟩
      case measure=>exact I.o
     case true=>
      cases q4:decide (x.dh<y.dh)
      case true=>
       have G:Hd (bf.ahead 2 x y=true):=by show _=_;unfold bf.ahead;rw[q3,q4];simp
       go_wp2_with fail;go_quiet (exact Calls.quiet_of_same (H.o _));go_wp2_with fail;go_roundw
       case rel=>exact⟨_,rem',some E,rfl,J.zm rfl rfl,D.take B.o T.o O.o HY.o HQ.o G.o,⟨A.os,A.tape,A.output,A.size,A.block⟩⟩
       case measure=>exact I.o
      case false=>
       have G:Hd (bf.ahead 2 x y=false):=by show _=_;unfold bf.ahead;rw[q3,q4];simpa using l
       go_wp2_with fail;go_quiet (exact Calls.quiet_of_same (H.o _));go_wp2_with fail;go_roundw
       case rel=>exact⟨_,rem',some k,rfl,J.zm rfl rfl,D.stay B.o T.o O.o HY.o N.o G.o,⟨A.os,A.tape,A.output,A.size,A.block⟩⟩
       case measure=>exact I.o
end
theorem bf.upd_self{e:bf}{f:Ord→Ord}(h:∀x,e.all[i]? =some x→f x=x):e.upd i f=e:=by
 have:e.all.modify i f=e.all:=by
  rw[bf.oU f id e.all i h];exact List.modify_id _ _
 unfold bf.upd;rw[this]
section
variable {F:Nat→Prop} {base:Nat} {w:World} {b i k:Nat} {e:bf} {g:Gh} {S:jk} {o r:Ord}
theorem Holds.traded(h:Holds e S [] [])(ho:e.all[i]? =some o)(hr:e.all[k]? =some r)(hne:i≠k)(hsh:o.bg=0):Holds (e.dx i k o r) S [] [k]:=by
 have B:=h.upd (f:=fun _=>bf.kg o r) (odd':=[]) ho rfl rfl rfl (fun _ _=>Iff.rfl) (.inr ⟨by simp,Iff.rfl⟩);have A:(e.upd i fun _=>bf.kg o r).all[k]? =some r:=(bf.upd_ne _ _ _ _ hne).trans hr;have C:=B.upd (f:=fun _=>bf.jb o r) (odd':=[k]) A rfl rfl rfl (fun j hj=>by simp[hj]) (.inl (by simp));exact C.vz rfl
theorem Holds.traded'(h:Holds e S [] [])(ho:e.all[i]? =some o)(hr:e.all[k]? =some r)(hne:i≠k)(hsh:o.bg=0)(h1:¬r.bg=0)(h2:¬(bf.jb o r).bg=0):Holds (e.dx i k o r) S [] []:=by
 have B:=h.upd (f:=fun _=>bf.kg o r) (odd':=[]) ho rfl rfl rfl (fun _ _=>Iff.rfl) (.inr ⟨by simp,Iff.rfl⟩);have A:(e.upd i fun _=>bf.kg o r).all[k]? =some r:=(bf.upd_ne _ _ _ _ hne).trans hr;have C:=B.upd (f:=fun _=>bf.jb o r) (odd':=[]) A rfl rfl rfl (fun j hj=>Iff.rfl) (.inr ⟨by simp,⟨fun hc=>absurd hc h2,fun hc=>absurd hc h1⟩⟩);exact C.vz rfl
theorem dw.traded(h:dw F base w b e g S)(ho:e.all[i]? =some o)(hr:e.all[k]? =some r)(hne:i≠k)(hos:o.dm=1)(hrs:r.dm=1)(hni:i∉S.ended)(hnk:k∉S.ended)(a c:Int)(ha:a=e.worth+bf.gy o r*r.bn)(hc:c=e.gq+bf.gy o r):
 dw F base (((((w.setCell (iA b 14) (iV a)).setCell (iA b 15) (iV c)).setCell (iA (g.blk i) 10) (iV (o.bu+bf.gy o r))).setCell (iA (g.blk k) 10) (iV (r.bu+bf.gy o r))).setCell (iA (g.blk k) 11) (iV (r.bg - bf.gy o r))) b (({ e with worth:=a,gq:=c }.upd i fun _=>bf.kg o r).upd k fun _=>bf.jb o r) g S
 ∧Touch F w (((((w.setCell (iA b 14) (iV a)).setCell (iA b 15) (iV c)).setCell (iA (g.blk i) 10) (iV (o.bu+bf.gy o r))).setCell (iA (g.blk k) 10) (iV (r.bu+bf.gy o r))).setCell (iA (g.blk k) 11) (iV (r.bg - bf.gy o r))):=by
 have C:dw F base (w.setCell (iA b 14) (iV a)) b { e with worth:=a } g S:=h.set 14 _ { e with worth:=a } (by simp[aF]) rfl rfl rfl rfl;have H:Touch F w (w.setCell (iA b 14) (iV a)):=(Touch.refl F w).set b _ _ h.own;have D:dw F base ((w.setCell (iA b 14) (iV a)).setCell (iA b 15) (iV c)) b { e with worth:=a,gq:=c } g S:=C.set 15 _ { e with worth:=a,gq:=c } (by simp[aF]) rfl rfl rfl rfl;have I:=H.set b 15 (iV c) h.own;obtain⟨E,J⟩:=D.wr ho hos hni 10 (iV (o.bu+bf.gy o r)) (fun _=>bf.kg o r) rfl (by simp[Ord.code,bf.kg]);have A:({ e with worth:=a,gq:=c }.upd i fun _=>bf.kg o r).all[k]? =some r:=(bf.upd_ne _ _ _ _ hne).trans hr;obtain⟨G,K⟩:=E.wr A hrs hnk 10 (iV (r.bu+bf.gy o r)) (fun _=>{ r with bu:=r.bu+bf.gy o r }) rfl (by simp[Ord.code]);obtain⟨B,L⟩:=G.wr (bf.upd_same _ k _ r A) hrs hnk 11 (iV (r.bg - bf.gy o r)) (fun _=>bf.jb o r) rfl (by simp[Ord.code,bf.jb]);rw[bf.aV]at B
 exact⟨B,((I.trans J).trans K).trans L⟩
end
section
variable {F:Nat→Prop} {base:Nat} {w:World} {b i:Nat} {e:bf} {g:Gh} {S:jk} {o:Ord}
theorem Holds.inBuy(hH:Holds e S [] [])(j:Nat):j∈S.aP↔∃x,e.all[j]? =some x∧bf.bU 1 x=true:=by
 constructor
 ·intro E;obtain⟨x,A,B,C⟩:=hH.lS j E;exact⟨x,A,by simp[bf.bU,B];exact C.resolve_right (by simp)⟩
 rintro⟨x,A,B⟩;obtain⟨C,D⟩:=bf.dM B;exact hH.vZ j x A D C (by simp)
theorem Holds.inSel(hH:Holds e S [] [])(inv:bf.fe e)(j:Nat):j∈S.sel↔∃x,e.all[j]? =some x∧bf.bU 2 x=true:=by
 constructor
 ·intro D;obtain⟨x,A,B,C⟩:=hH.lT j D;have E:=((inv.ok j x A).side).resolve_left B;exact⟨x,A,by simp[bf.bU,E];exact C.resolve_right (by simp)⟩
 rintro⟨x,A,B⟩;obtain⟨C,G⟩:=bf.dM B;exact hH.wB j x A (by omega) C (by simp)
theorem zG1(h:dw F base w b e g S)(inv:bf.fe e)(hH:Holds e S [] [])(ho:e.all[i]? =some o)(hop:0<o.opn)(hs:o.side=1):
 Cl 256 #[iP g.xg,iV o.bn] w fun en w'=>en=.returned (aG g (e.bH i))∧Below w.heap.size w w':=by
 have B:=hid (zG0 o.bn h inv hH);have C:Hd (∀r,(∃seen,jT 2 o.bn e.all g S.sel seen r∧∀j∈S.sel,ent e.all g j∈seen)→e.bH i=r):=fun r ⟨seen,h1,h2⟩=>h1.bH h2 inv (hH.inSel inv) ho hop (by omega)
 go_enter func256,ntmps256;go_wp2_with fail;refine B.mono ?_;rintro en H ⟨r,rfl,G,E⟩;have A:=hid E;have D:=hid (C r G);go_wp2;go_ret;exact⟨by rw[D.o];try rfl,A⟩
theorem zG2(h:dw F base w b e g S)(inv:bf.fe e)(hH:Holds e S [] [])(ho:e.all[i]? =some o)(hop:0<o.opn)(hs:¬o.side=1):
 Cl 250 #[iP g.wz,iV o.bn] w fun en w'=>en=.returned (aG g (e.bH i))∧Below w.heap.size w w':=by
 have B:=hid (zG o.bn h inv hH);have H:=((inv.ok i o ho).side).resolve_left hs;have C:Hd (∀r,(∃seen,jT 1 o.bn e.all g S.aP seen r∧∀j∈S.aP,ent e.all g j∈seen)→e.bH i=r):=fun r ⟨seen,h1,h2⟩=>h1.bH h2 inv hH.inBuy ho hop (by omega)
 go_enter func250,ntmps250;go_wp2_with fail;refine B.mono ?_;rintro en I ⟨r,rfl,G,E⟩;have A:=hid E;have D:=hid (C r G);go_wp2;go_ret;exact⟨by rw[D.o];try rfl,A⟩
end
section
variable {F:Nat→Prop} {base:Nat} {w:World} {b i k:Nat} {e:bf} {g:Gh} {S:jk} {o r:Ord}
def qj(F:Nat→Prop)(base:Nat)(w:World)(b:Nat)(g:Gh)(e':bf)(w':World):Prop:= ∃t S',dw F base w' b e' { g with txt:=t } S'∧Holds e' S' [] []∧Touch F w w'
def Cmid(F:Nat→Prop)(base:Nat)(w:World)(b:Nat)(g:Gh)(S:jk)(e':bf)(w':World):Prop:= ∃t,dw F base w' b e' { g with txt:=t } S∧Touch F w w'
theorem zG3(inv:bf.fe e)(hH:Holds e S [] [])(ho:e.all[i]? =some o)(hr:e.all[k]? =some r)(hne:i≠k)(hos:o.dm=1)(hsh:o.bg=0)(hop:0<o.opn)(hrs:r.bg≠0)(hrst:r.dm=1)(hlen:e.all.length≤1000000000)(h0:(bf.jb o r).opn=0)(W:World)(hW:Cmid F base w b g S (e.dx i k o r) W):
 Cl 170 #[iP b,iP (g.blk k)] W fun en w'=>en=rV #[]∧Hd (qj F base w b g (e.sw i k) w'):=by
 have A:=bf.fe.dx inv i k o r ho hr hne hos hsh hop hrs;have E:(e.dx i k o r).all[k]? =some (bf.jb o r):=by rw[bf.cK,if_pos rfl,hr];rfl
 have H:=A.ok k _ E;have B:=hrst;have C:=hH.traded ho hr hne hsh;obtain⟨t,L,O⟩:=hW;have K:=(L.small C).mono (by rw[bf.gD];exact hlen);have D:(bf.jb o r).bg=0:=by have:=H.kH;have:=H.kJ;omega
 have I:=H.live B;refine(zCb (fun r=>{ r with dm:=2 }) L E B (C.live E B) (rz (by have:=H.nC;omega) (by have:=H.nD;omega)) K (by simp[Ord.state,h0,D,I])).mono ?_;rintro en w' ⟨rfl,M,N⟩;have G:e.sw i k=(e.dx i k o r).upd k fun r=>{ r with dm:=2 }:=by
  rw[bf.gZ e i k o r ho hr hne];unfold bf.rq;rw[if_pos h0]
 refine⟨rfl,t,_,by rw[G];exact M,?_,O.trans N⟩;rw[G];have J:((e.dx i k o r).upd k fun o=>{ o with bg:=0 })=e.dx i k o r:=bf.upd_self (fun x hx=>by
  obtain rfl:bf.jb o r=x:=Option.some.inj (E.symm.trans hx);show{ bf.jb o r with bg:=0 }=bf.jb o r;rw[←D])
 exact(C.leave A E).gone A E B (List.mem_cons_self ..) (fun j hj=>by simp[hj]) (fun j hj=>by simpa using hj) (by simp) rfl rfl D (by rw[J];exact A)
theorem zG4(inv:bf.fe e)(hH:Holds e S [] [])(ho:e.all[i]? =some o)(hr:e.all[k]? =some r)(hne:i≠k)(hos:o.dm=1)(hsh:o.bg=0)(hop:0<o.opn)(hrs:r.bg≠0)(hrst:r.dm=1)(hro:Room 2 e)(hd:Dr e)(h0:(bf.jb o r).opn≠0)(h1:(bf.jb o r).bg=0)(W:World)(hW:Cmid F base w b g S (e.dx i k o r) W):
 Cl 192 #[iP b,iP (g.blk k)] W fun en w1=>en=.returned (iV ((e.dx i k o r).again (bf.jb o r)))∧Hd (Cl 167 #[iP b,iP (g.blk k),iV ((e.dx i k o r).again (bf.jb o r))] w1 fun en w'=>en=rV #[]∧Hd (qj F base w b g (e.sw i k) w')):=by
 have A:=bf.fe.dx inv i k o r ho hr hne hos hsh hop hrs;have H:(e.dx i k o r).all[k]? =some (bf.jb o r):=by rw[bf.cK,if_pos rfl,hr];rfl
 have B:=A.ok k _ H;have N:=inv.ok k _ hr;have C:(bf.jb o r).dm=1:=hrst;have D:=hH.traded ho hr hne hsh;obtain⟨t,O,U⟩:=hW;have M:=(O.small D).mono (m:=1000000000) (by rw[bf.gD];exact hro.len);have K:(bf.jb o r).typ=2:=Classical.byContradiction fun hc=>by
  have L:r.typ≠2:=hc;rcases N.whole L with R|R
  ·exact hrs R
  have s:(bf.jb o r).opn=r.opn - bf.gy o r:=rfl;have u:(bf.jb o r).bg=r.bg - bf.gy o r:=rfl;omega
 refine(zFy O H C B K (by have:=hro.fD;show e.drawn<_;omega) ⟨hd.len,hd.bd⟩).mono ?_;rintro en w1 ⟨rfl,n,p⟩;refine⟨rfl,?_⟩;have V:1≤(e.dx i k o r).again (bf.jb o r)∧(e.dx i k o r).again (bf.jb o r)≤1000:=by
  have v:=bf.next_bd B C h0 K (e.dx i k o r).draw.1 (by rw[bf.draw_raw];exact Int.emod_nonneg _ (by omega));have Y:=B.sum;have Z:=B.fJ;have c:=B.jN;have d:=B.fH;unfold bf.again;omega
 have E:aD (bf.jb o r).id:=rz (by have:=B.nC;omega) (by have:=B.nD;omega);have J:aD (bf.jb o r).bn:=rz B.lM (by have:=B.gY;have:=A.oN;omega);have X:((e.dx i k o r).draw.2).out.length=e.out.length+22:=by
  show(e.out++_).length=_;rw[List.length_append,bf.gX]
 refine(zAs (o:=bf.jb o r) _ n H C (D.live H C) E J (rz (by omega) (by omega)) (by have:=hro.qC;show e.dh<_;omega) M (by have:=hro.seq;show e.seq+1<_;omega) (by have:=hro.out;omega)).mono ?_;rintro en y ⟨rfl,q,h,l⟩;have G:e.sw i k=(e.dx i k o r).draw.2.lay k ((e.dx i k o r).again (bf.jb o r)):=by
  rw[bf.gZ e i k o r ho hr hne];unfold bf.rq;rw[if_neg h0,if_pos h1];rfl
 refine⟨rfl,q,_,by rw[G];exact h,?_,(U.trans p).trans l⟩;rw[G];have I:(e.dx i k o r).draw.2.all[k]? =some (bf.jb o r):=H;have T:=Holds.lay (f:=fun x=>{ x with dh:=((e.dx i k o r).dh+1:Nat),bg:=(e.dx i k o r).again (bf.jb o r) }) (e:=(e.dx i k o r).draw.2) (D.vz rfl) A.drew I rfl rfl rfl (fun j hj=>by simpa using hj) (show¬(e.dx i k o r).again (bf.jb o r)=0 by omega);refine T.vz ?_;unfold bf.lay;rw[I];rfl
end
section
variable {F:Nat→Prop} {base:Nat} {w w':World} {b i nb vb:Nat} {e:bf} {g:Gh} {S:jk} {o:Ord}
structure jk.In(S:jk)(n:Nat):Prop where
 day:∀j∈S.day,j<n
 qf:∀j∈S.qf,j<n
 ended:∀j∈S.ended,j<n
 aP:∀j∈S.aP,j<n
 sel:∀j∈S.sel,j<n
theorem Holds.into{out odd:List Nat}(hH:Holds e S out odd):S.In e.all.length:=by
 have lt:∀{j:Nat} {x:Ord},e.all[j]? =some x→j<e.all.length:=fun A=>(List.getElem?_eq_some_iff.1 A).1
 refine⟨fun j hj=>?_,fun j hj=>?_,fun j hj=>?_,fun j hj=>?_,fun j hj=>?_⟩
 ·obtain⟨x,A,_⟩:=(hH.day j).1 hj;exact lt A
 ·obtain⟨x,A,_⟩:=(hH.qf j).1 hj;exact lt A
 ·obtain⟨x,A,_⟩:=(hH.ended j).1 hj;exact lt A
 ·obtain⟨x,A,_⟩:=hH.lS j hj;exact lt A
 obtain⟨x,A,_⟩:=hH.lT j hj;exact lt A
theorem dw.pN(h:dw F base w b e g S):S.day.Nodup∧S.qf.Nodup∧S.ended.Nodup:=⟨fE (h.body.day.nodup je),fE (h.body.qf.nodup je),fE (h.body.ended.nodup je)⟩
theorem Holds.alive(hH:Holds e S [] [])(hd:S.day.Nodup)(ho:S.qf.Nodup):S.day.length+S.qf.length=e.alive:=by
 have G:(S.day++S.qf).Perm ((List.range e.all.length).filter (bf.aN e)):=by
  refine(List.perm_ext_iff_of_nodup ?_ (List.nodup_range.filter _)).2 fun j=>?_
  ·refine List.nodup_append.2 ⟨hd,ho,fun a ha c hc e1=>?_⟩;subst e1;obtain⟨x,A,_,B,_⟩:=(hH.day a).1 ha;obtain⟨y,C,_,D,_⟩:=(hH.qf a).1 hc;obtain rfl:x=y:=Option.some.inj (A.symm.trans C);exact D B
  rw[List.mem_append,hH.day,hH.qf,List.mem_filter,List.mem_range];constructor
  ·rintro(⟨x,A,B,_⟩|⟨x,A,B,_⟩)
   ·exact⟨(List.getElem?_eq_some_iff.1 A).1,by unfold bf.aN;rw[A];simp[B]⟩
   exact⟨(List.getElem?_eq_some_iff.1 A).1,by unfold bf.aN;rw[A];simp[B]⟩
  rintro⟨A,B⟩;have C:e.all[j]? =some e.all[j]:=List.getElem?_eq_getElem A;have D:e.all[j].dm=1:=by unfold bf.aN at B;rw[C]at B;simpa using B
  by_cases E:e.all[j].jr=1
  ·exact .inl ⟨_,C,D,E,by simp⟩
  exact .inr ⟨_,C,D,E,by simp⟩
 rw[←bf.count_range,List.countP_eq_length_filter,←G.length_eq,List.length_append]
theorem Holds.count(hH:Holds e S [] [])(hd:S.day.Nodup)(ho:S.qf.Nodup)(he:S.ended.Nodup):S.day.length+S.qf.length+S.ended.length=e.all.length:=by
 have H:(S.day++S.qf++S.ended).Perm (List.range e.all.length):=by
  refine(List.perm_ext_iff_of_nodup ?_ List.nodup_range).2 fun j=>?_
  ·refine List.nodup_append.2 ⟨List.nodup_append.2 ⟨hd,ho,fun a D c hc e1=>?_⟩,he,fun a D c hc e1=>?_⟩
   ·subst e1;obtain⟨x,A,_,E,_⟩:=(hH.day a).1 D;obtain⟨y,B,_,C,_⟩:=(hH.qf a).1 hc;obtain rfl:x=y:=Option.some.inj (A.symm.trans B);exact C E
   subst e1;obtain⟨y,B,C⟩:=(hH.ended a).1 hc;rcases List.mem_append.1 D with D|D
   ·obtain⟨x,A,E,_⟩:=(hH.day a).1 D;obtain rfl:x=y:=Option.some.inj (A.symm.trans B);exact C E
   obtain⟨x,A,E,_⟩:=(hH.qf a).1 D;obtain rfl:x=y:=Option.some.inj (A.symm.trans B);exact C E
  rw[List.mem_append,List.mem_append,hH.day,hH.qf,hH.ended,List.mem_range];constructor
  ·rintro((⟨x,A,_⟩|⟨x,A,_⟩)|⟨x,A,_⟩)<;>exact(List.getElem?_eq_some_iff.1 A).1
  intro A;have B:e.all[j]? =some e.all[j]:=List.getElem?_eq_getElem A;by_cases C:e.all[j].dm=1
  ·by_cases G:e.all[j].jr=1
   ·exact .inl (.inl ⟨_,B,C,G,by simp⟩)
   exact .inl (.inr ⟨_,B,C,G,by simp⟩)
  exact .inr ⟨_,B,C⟩
 have:=H.length_eq;rw[List.length_append,List.length_append,List.length_range]at this;exact this
def Gh.more(g:Gh)(n nb:Nat):Gh:={ g with blk:=fun i=>if i=n then nb else g.blk i }
theorem zCe(al:List Ord)(o:Ord){j:Nat}(h:j<al.length):ru (al++ [o]) j=ru al j:=by unfold ru;rw[List.getElem?_append_left h]
theorem zG5(al:List Ord)(o:Ord){j:Nat}(h:j<al.length):kZ (al++ [o]) j=kZ al j:=by unfold kZ;rw[List.getElem?_append_left h]
theorem dw.newOrder(h:dw F base w b e g S)(hw:Below w.heap.size w w')(hnb:w.heap.size≤nb)(hlt:nb<w'.heap.size)(hin:S.In e.all.length)(hblk:w'.heap[nb]? =some (.cells (o.code e.all.length) 202 (0,0))):dw F base w' b { e with all:=e.all++ [o] } (g.more e.all.length nb) S:=by
 have G:=h.below hw;have I:∀l:List Nat,(∀j∈l,j<e.all.length)→l.map (fun i=>(ru (e.all++ [o]) i,some ((g.more e.all.length nb).blk i)))=l.map fun i=>(ru e.all i,some (g.blk i)):=fun l hl=>List.map_congr_left fun j E=>by
  have:=hl j E;rw[zCe e.all o this];show(_,some (if j=e.all.length then nb else g.blk j))=_;rw[if_neg (by omega)]
 have L:S.ended.map (fun i=>(ru (e.all++ [o]) i,kZ (e.all++ [o]) i))=S.ended.map fun i=>(ru e.all i,kZ e.all i):=List.map_congr_left fun j E=>by
  have:=hin.ended j E;rw[zCe e.all o this,zG5 e.all o this]
 have B:=G.body;have A:∀i,i<(e.all++ [o]).length→i=e.all.length∨i<e.all.length:=fun i C=>by rw[List.length_append]at C;simp at C;omega
 refine⟨G.blk,G.own,G.up,G.low,G.txt,⟨(I _ hin.day)▸B.day,(I _ hin.qf)▸B.qf,L▸B.ended,B.wz,B.xg,(I _ hin.aP)▸B.aP,(I _ hin.sel)▸B.sel,B.maps,fun i x H hs=>?_,fun i j C E D=>?_,B.fD,B.jL,B.fd,fun i C=>?_⟩,fun i C=>?_,G.fb⟩
 ·show w'.heap[if i=e.all.length then nb else g.blk i]? =_;have H:(e.all++ [o])[i]? =some x:=H;by_cases J:i=e.all.length
  ·subst J;rw[if_pos rfl,hblk];rw[List.getElem?_append_right (Nat.le_refl _),Nat.sub_self]at H;obtain rfl:o=x:=by simpa using H
   rfl
  rw[if_neg J];have K:i<e.all.length:=(A i (List.getElem?_eq_some_iff.1 H).1).resolve_left J;rw[List.getElem?_append_left K]at H;exact B.ord i x H hs
 ·have D:(if i=e.all.length then nb else g.blk i)=if j=e.all.length then nb else g.blk j:=D
  rcases A i C with rfl|C
  ·rcases A j E with rfl|E
   ·rfl
   rw[if_pos rfl,if_neg (by omega)]at D;have:=h.old j E;omega
  rcases A j E with rfl|E
  ·rw[if_pos rfl,if_neg (by omega)]at D;have:=h.old i C;omega
  rw[if_neg (by omega),if_neg (by omega)]at D;exact B.inj i j C E D
 ·show F (if i=e.all.length then nb else g.blk i);rcases A i C with rfl|C
  ·rw[if_pos rfl];exact h.up nb hnb
  rw[if_neg (by omega)];exact B.fo i C
 show(if i=e.all.length then nb else g.blk i)<_;rcases A i C with rfl|C
 ·rw[if_pos rfl];exact hlt
 rw[if_neg (by omega)];exact G.old i C
theorem Holds.newOrder(hH:Holds e S [] [])(hs:o.dm=1)(hsh:o.bg=0):Holds { e with all:=e.all++ [o] } S [e.all.length] []:=by
 have at_:∀(j:Nat) (x:Ord),(e.all++ [o])[j]? =some x↔e.all[j]? =some x∨(j=e.all.length∧x=o):=by
  intro j x;rcases Nat.lt_trichotomy j e.all.length with A|A|A
  ·rw[List.getElem?_append_left A];exact⟨.inl,fun hc=>hc.elim id (fun hc=>by omega)⟩
  ·subst A;rw[List.getElem?_append_right (Nat.le_refl _),Nat.sub_self,List.getElem?_eq_none (Nat.le_refl _)];simp[eq_comm]
  rw[List.getElem?_eq_none (by rw[List.length_append];simp;omega),List.getElem?_eq_none (by omega)];simp;omega
 have lt:∀{j:Nat} {x:Ord},e.all[j]? =some x→j<e.all.length:=fun hx=>(List.getElem?_eq_some_iff.1 hx).1
 refine⟨fun j=>?_,fun j=>?_,fun j=>?_,fun j hj=>?_,fun j x hx hs' hn hq=>?_,fun j hj=>?_,fun j x hx hs' hn hq=>?_⟩
 ·rw[hH.day];constructor
  ·rintro⟨x,A,B,C,_⟩;exact⟨x,(at_ j x).2 (.inl A),B,C,by have:=lt A;simp;omega⟩
  rintro⟨x,A,B,C,D⟩;rcases(at_ j x).1 A with A|⟨A,_⟩
  ·exact⟨x,A,B,C,by simp⟩
  exact absurd A (by simpa using D)
 ·rw[hH.qf];constructor
  ·rintro⟨x,A,B,C,_⟩;exact⟨x,(at_ j x).2 (.inl A),B,C,by have:=lt A;simp;omega⟩
  rintro⟨x,A,B,C,D⟩;rcases(at_ j x).1 A with A|⟨A,_⟩
  ·exact⟨x,A,B,C,by simp⟩
  exact absurd A (by simpa using D)
 ·rw[hH.ended];constructor
  ·rintro⟨x,A,B⟩;exact⟨x,(at_ j x).2 (.inl A),B⟩
  rintro⟨x,A,B⟩;rcases(at_ j x).1 A with A|⟨_,rfl⟩
  ·exact⟨x,A,B⟩
  exact absurd hs B
 ·obtain⟨x,A,B,C⟩:=hH.lS j hj;exact⟨x,(at_ j x).2 (.inl A),B,C⟩
 ·rcases(at_ j x).1 hx with A|⟨_,rfl⟩
  ·exact hH.vZ j x A hs' hn hq
  exact absurd hsh hn
 ·obtain⟨x,A,B,C⟩:=hH.lT j hj;exact⟨x,(at_ j x).2 (.inl A),B,C⟩
 rcases(at_ j x).1 hx with A|⟨_,rfl⟩
 ·exact hH.wB j x A hs' hn hq
 exact absurd hsh hn
theorem Holds.join(hH:Holds e S [i] [])(inv:bf.fe e)(ho:e.all[i]? =some o)(hs:o.dm=1):Holds e (S.join e.all o i) [] []:=by
 unfold jk.join;have J:=jS inv ho (l:=S.day) (fun j hj=>by obtain⟨x,G,_⟩:=(hH.day j).1 hj;exact⟨x,G⟩);have K:=jS inv ho (l:=S.qf) (fun j hj=>by obtain⟨x,G,_⟩:=(hH.qf j).1 hj;exact⟨x,G⟩);by_cases E:o.jr=1
 ·rw[if_pos E];refine⟨fun j=>?_,fun j=>?_,hH.ended,hH.lS,hH.vZ,hH.lT,hH.wB⟩
  ·show j∈less e.all S.day o.id++ [i]↔_;rw[List.mem_append,J,hH.day];constructor
   ·rintro(⟨⟨x,A,C,B,H⟩,I⟩|A)
    ·exact⟨x,A,C,B,by simp⟩
    obtain rfl:j=i:=by simpa using A
    exact⟨o,ho,hs,E,by simp⟩
   rintro⟨x,A,C,B,_⟩;by_cases D:j=i
   ·right;simp[D]
   exact .inl ⟨⟨x,A,C,B,by simpa using D⟩,D⟩
  show j∈S.qf↔_;rw[hH.qf];constructor
  ·rintro⟨x,A,C,B,_⟩;exact⟨x,A,C,B,by simp⟩
  rintro⟨x,A,C,B,_⟩;refine⟨x,A,C,B,fun hc=>?_⟩;obtain rfl:j=i:=by simpa using hc
  obtain rfl:o=x:=Option.some.inj (ho.symm.trans A);exact B E
 rw[if_neg E];refine⟨fun j=>?_,fun j=>?_,hH.ended,hH.lS,hH.vZ,hH.lT,hH.wB⟩
 ·show j∈S.day↔_;rw[hH.day];constructor
  ·rintro⟨x,A,C,B,_⟩;exact⟨x,A,C,B,by simp⟩
  rintro⟨x,A,C,B,_⟩;refine⟨x,A,C,B,fun hc=>?_⟩;obtain rfl:j=i:=by simpa using hc
  obtain rfl:o=x:=Option.some.inj (ho.symm.trans A);exact E B
 show j∈less e.all S.qf o.id++ [i]↔_;rw[List.mem_append,K,hH.qf];constructor
 ·rintro(⟨⟨x,A,C,B,H⟩,I⟩|A)
  ·exact⟨x,A,C,B,by simp⟩
  obtain rfl:j=i:=by simpa using A
  exact⟨o,ho,hs,E,by simp⟩
 rintro⟨x,A,C,B,_⟩;by_cases D:j=i
 ·right;simp[D]
 exact .inl ⟨⟨x,A,C,B,by simpa using D⟩,D⟩
theorem dw.shrink(h:dw F base w b e g S)(hw:Below w.heap.size w w')(h1:w.heap.size≤vb)(h2:vb<w'.heap.size):dw (fun k=>F k∧k≠vb) base w' b e g S:=by
 have A:=h.below hw;have B:=A.body;have lt:∀{k:Nat} {c:Array Value} {t:TypeId} {f:Nat×Nat},w.heap[k]? =some (.cells c t f)→k≠vb:=fun hq=>by have:=(Array.getElem?_eq_some_iff.1 hq).1;omega
 have C:=h.body;obtain⟨G,H,I,J,K,L⟩:=B.fd;refine⟨A.blk,⟨A.own,lt h.blk⟩,fun k hk=>⟨A.up k hk,by omega⟩,A.low,⟨A.txt.row,fun q hq=>⟨A.txt.own q hq,by have:=h.txt.lt q hq;omega⟩⟩,⟨B.day,B.qf,B.ended,B.wz,B.xg,B.aP,B.sel,B.maps,B.ord,B.inj,B.fD,B.jL,⟨⟨G,by have:=C.day.lt;omega⟩,⟨H,by have:=C.qf.lt;omega⟩,⟨I,by have:=C.ended.lt;omega⟩,⟨J,by have:=C.aP.lt;omega⟩,⟨K,by have:=C.sel.lt;omega⟩,⟨L,lt C.fD⟩⟩,fun i hi=>⟨B.fo i hi,by have:=h.old i hi;omega⟩⟩,A.old,⟨A.fb.1,lt C.wz⟩,⟨A.fb.2.1,lt C.xg⟩,fun q hq=>⟨A.fb.2.2 q hq,?_⟩⟩;rcases C.jL.2 with⟨M,_⟩|⟨d,D,E,O,R,N,_⟩
 ·rw[M]at hq;exact absurd hq (by simp[Value.ownBlock])
 rw[O]at hq;have:d=q:=by simpa [Value.ownBlock] using hq
 subst this;exact lt N
theorem dw.qD(h:dw (fun k=>F k∧k≠vb) base w b e g S):dw F base w b e g S:=by
 have B:=h.body;obtain⟨A,C,D,E,G,H⟩:=B.fd;exact⟨h.blk,h.own.1,fun k hk=>(h.up k hk).1,h.low,⟨h.txt.row,fun q hq=>(h.txt.own q hq).1⟩,⟨B.day,B.qf,B.ended,B.wz,B.xg,B.aP,B.sel,B.maps,B.ord,B.inj,B.fD,B.jL,⟨A.1,C.1,D.1,E.1,G.1,H.1⟩,fun i hi=>(B.fo i hi).1⟩,h.old,h.fb.1.1,h.fb.2.1.1,fun q hq=>(h.fb.2.2 q hq).1⟩
theorem qj.qD{w0:World}{e':bf}(h:qj (fun k=>F k∧k≠vb) base w b g e' w')(h0:Touch F w0 w):qj F base w0 b g e' w':=by
 obtain⟨t,A,B,C,D⟩:=h;exact⟨t,A,B.qD,C,h0.trans D.wide⟩
end
theorem OA.set(h:OA w q i o)(c:Addr)(u:Value)(hc:q≠c.block):OA (w.setCell c u) q i o:=⟨by rw[Below.heap_setCell _ _ _ _ hc];exact h.blk⟩
theorem OA.drew(h:OA w q i o):OA w.drew q i o:=⟨h.blk⟩
theorem zCf(h:OA w q i o)(hr:aD (o.mg - o.bu)):
 Cl 112 #[iP q,iV 3] w fun en w'=>en=.returned (stV o.id 3 o.bn 0 o.bu (o.mg - o.bu) 0)∧Below w.heap.size w w':=by
 have c0:w.cell? (iA q 0)=sI o.id:=h.cell 0;have Y:w.cell? (iA q 3)=sI o.bn:=h.cell 3;have L:w.cell? (iA q 10)=sI o.bu:=h.cell 10;have G:=h.lt;have n:q≠w.heap.size:=Nat.ne_of_lt G;unfold stV;go_enter func112,ntmps112;go_wp2_with fail;have E:=h.alloc (.cells #[iV 0,iV 0,iV 0,iV 0,iV 0,iV 0,iV 0] 121);have J:=hid ((Below.refl w.heap.size w).alloc (Nat.le_refl _) (.cells #[iV 0,iV 0,iV 0,iV 0,iV 0,iV 0,iV 0] 121));have A:=heap_alloc_new w (.cells #[iV 0,iV 0,iV 0,iV 0,iV 0,iV 0,iV 0] 121);have U:(w.alloc (.cells #[iV 0,iV 0,iV 0,iV 0,iV 0,iV 0,iV 0] 121)).heap.size=w.heap.size+1:=by simp
 generalize w.alloc (.cells #[iV 0,iV 0,iV 0,iV 0,iV 0,iV 0,iV 0] 121)=W at *;have r0:W.cell? (iA w.heap.size 0)=sI 0:=by simp[World.cell?,A]
 have b:W.frozen? (iA w.heap.size 0)=false:=by simp[World.frozen?,A]
 have r1:W.cell? (iA w.heap.size 1)=sI 0:=by simp[World.cell?,A]
 have c:W.frozen? (iA w.heap.size 1)=false:=by simp[World.frozen?,A]
 have r2:W.cell? (iA w.heap.size 2)=sI 0:=by simp[World.cell?,A]
 have d:W.frozen? (iA w.heap.size 2)=false:=by simp[World.frozen?,A]
 have r3:W.cell? (iA w.heap.size 3)=sI 0:=by simp[World.cell?,A]
 have f:W.frozen? (iA w.heap.size 3)=false:=by simp[World.frozen?,A]
 have r4:W.cell? (iA w.heap.size 4)=sI 0:=by simp[World.cell?,A]
 have g:W.frozen? (iA w.heap.size 4)=false:=by simp[World.frozen?,A]
 have r5:W.cell? (iA w.heap.size 5)=sI 0:=by simp[World.cell?,A]
 have j:W.frozen? (iA w.heap.size 5)=false:=by simp[World.frozen?,A]
 have r6:W.cell? (iA w.heap.size 6)=sI 0:=by simp[World.cell?,A]
 have l:W.frozen? (iA w.heap.size 6)=false:=by simp[World.frozen?,A]
 have N:w.heap.size<W.heap.size:=by omega
 have p:w.heap.size≠W.heap.size:=Nat.ne_of_lt N;clear U;have c0:W.cell? (iA q 0)=sI o.id:=E.cell 0;have Y:W.cell? (iA q 3)=sI o.bn:=E.cell 3;have L:W.cell? (iA q 10)=sI o.bu:=E.cell 10;have G:q<W.heap.size:=E.lt;have m:q≠W.heap.size:=Nat.ne_of_lt G;have K:=hid E;have R:=hid hr;have I:=hid A;clear h E hr A
 go_region_held (fun X=>X.cell? (iA q 0)=sI o.id∧X.cell? (iA q 3)=sI o.bn∧X.cell? (iA q 10)=sI o.bu) (go_keep) (fail)
 go_wp2_with fail;have Z:OA (W.alloc (.cells #[iV o.id,iV 3,iV o.bn,iV 0,iV o.bu,iV 0,iV 0] 121)).drew q i o:=(K.alloc _).drew;have H:Below w.heap.size w (W.alloc (.cells #[iV o.id,iV 3,iV o.bn,iV 0,iV o.bu,iV 0,iV 0] 121)).drew:=dX (zA3 J.o _);have F:=heap_alloc_new W (.cells #[iV o.id,iV 3,iV o.bn,iV 0,iV o.bu,iV 0,iV 0] 121);have F:(W.alloc (.cells #[iV o.id,iV 3,iV o.bn,iV 0,iV o.bu,iV 0,iV 0] 121)).drew.heap[W.heap.size]? =_:=F;have S:(W.alloc (.cells #[iV o.id,iV 3,iV o.bn,iV 0,iV o.bu,iV 0,iV 0] 121)).drew.heap[w.heap.size]? =some (.cells #[iV 0,iV 0,iV 0,iV 0,iV 0,iV 0,iV 0] 121 (0,0)):=(Below.heap_alloc W _ _ N).trans I.o;generalize (W.alloc (.cells #[iV o.id,iV 3,iV o.bn,iV 0,iV o.bu,iV 0,iV 0] 121)).drew=X at *;have T:w.heap.size≤W.heap.size:=by omega
 have D:X.heap[w.heap.size]? =some (.cells #[iV 0,iV 0,iV 0,iV 0,iV 0,iV 0,iV 0] 121 (0,0)):=S;have V:w.heap.size≠W.heap.size:=by omega
 clear K J I r0 r1 r2 r3 r4 r5 r6 b c d f g j l c0 Y L;generalize W.heap.size=z at *;refine(gL Z R.o).mono ?_;rintro en B ⟨rfl,C⟩;rw[←C.heap]at F;have O:Hd (Below w.heap.size w B):=⟨C.os.trans H.os,C.tape.trans H.tape,C.output.trans H.output,by rw[C.heap];exact H.size,fun k hk=>by rw[C.heap];exact H.block k hk⟩;have s0:B.cell? (iA z 0)=sI o.id:=by simp[World.cell?,F]
 have s1:B.cell? (iA z 1)=sI 3:=by simp[World.cell?,F]
 have s2:B.cell? (iA z 2)=sI o.bn:=by simp[World.cell?,F]
 have s3:B.cell? (iA z 3)=sI 0:=by simp[World.cell?,F]
 have s4:B.cell? (iA z 4)=sI o.bu:=by simp[World.cell?,F]
 have s5:B.cell? (iA z 5)=sI 0:=by simp[World.cell?,F]
 have s6:B.cell? (iA z 6)=sI 0:=by simp[World.cell?,F]
 have t5:B.frozen? (iA z 5)=false:=by simp[World.frozen?,F]
 rw[←C.heap]at D;have s:B.cell? (iA w.heap.size 0)=sI 0:=by simp[World.cell?,D]
 have u0:B.frozen? (iA w.heap.size 0)=false:=by simp[World.frozen?,D]
 have t:B.cell? (iA w.heap.size 1)=sI 0:=by simp[World.cell?,D]
 have u1:B.frozen? (iA w.heap.size 1)=false:=by simp[World.frozen?,D]
 have u:B.cell? (iA w.heap.size 2)=sI 0:=by simp[World.cell?,D]
 have u2:B.frozen? (iA w.heap.size 2)=false:=by simp[World.frozen?,D]
 have x:B.cell? (iA w.heap.size 3)=sI 0:=by simp[World.cell?,D]
 have u3:B.frozen? (iA w.heap.size 3)=false:=by simp[World.frozen?,D]
 have y:B.cell? (iA w.heap.size 4)=sI 0:=by simp[World.cell?,D]
 have u4:B.frozen? (iA w.heap.size 4)=false:=by simp[World.frozen?,D]
 have p5:B.cell? (iA w.heap.size 5)=sI 0:=by simp[World.cell?,D]
 have u5:B.frozen? (iA w.heap.size 5)=false:=by simp[World.frozen?,D]
 have p6:B.cell? (iA w.heap.size 6)=sI 0:=by simp[World.cell?,D]
 have u6:B.frozen? (iA w.heap.size 6)=false:=by simp[World.frozen?,D]
 have M:w.heap.size≤w.heap.size:=Nat.le_refl _;clear C F Z H D;go_wp2;refine bodyPost_ret (v:=.agg #[iV o.id,iV 3,iV o.bn,iV 0,iV o.bu,iV (o.mg - o.bu),iV 0]) (by simp[results,Tryz.results112,go_sem,s0,s1,s2,s3,s4,s5,s6,s,t,u,x,y,p5,p6,V]) rfl ⟨rfl,?_⟩;iterate 7 (refine Below.setCell ?_ M _)
 exact Below.setCell O.o T _
theorem zCg(h:OA w q i o)(hr:aD (o.mg - o.bu)):
 Cl 112 #[iP q,iV 1] w fun en w'=>en=.returned (stV o.id 1 o.bn (o.mg - o.bu) o.bu 0 o.bg)∧Below w.heap.size w w':=by
 have c0:w.cell? (iA q 0)=sI o.id:=h.cell 0;have c:w.cell? (iA q 3)=sI o.bn:=h.cell 3;have L:w.cell? (iA q 10)=sI o.bu:=h.cell 10;have G:=h.lt;have t:q≠w.heap.size:=Nat.ne_of_lt G;unfold stV;go_enter func112,ntmps112;go_wp2_with fail;have F:=h.alloc (.cells #[iV 0,iV 0,iV 0,iV 0,iV 0,iV 0,iV 0] 121);have J:=hid ((Below.refl w.heap.size w).alloc (Nat.le_refl _) (.cells #[iV 0,iV 0,iV 0,iV 0,iV 0,iV 0,iV 0] 121));have A:=heap_alloc_new w (.cells #[iV 0,iV 0,iV 0,iV 0,iV 0,iV 0,iV 0] 121);have Z:(w.alloc (.cells #[iV 0,iV 0,iV 0,iV 0,iV 0,iV 0,iV 0] 121)).heap.size=w.heap.size+1:=by simp
 generalize w.alloc (.cells #[iV 0,iV 0,iV 0,iV 0,iV 0,iV 0,iV 0] 121)=W at *;have r0:W.cell? (iA w.heap.size 0)=sI 0:=by simp[World.cell?,A]
 have f:W.frozen? (iA w.heap.size 0)=false:=by simp[World.frozen?,A]
 have r1:W.cell? (iA w.heap.size 1)=sI 0:=by simp[World.cell?,A]
 have g:W.frozen? (iA w.heap.size 1)=false:=by simp[World.frozen?,A]
 have r2:W.cell? (iA w.heap.size 2)=sI 0:=by simp[World.cell?,A]
 have j:W.frozen? (iA w.heap.size 2)=false:=by simp[World.frozen?,A]
 have r3:W.cell? (iA w.heap.size 3)=sI 0:=by simp[World.cell?,A]
 have l:W.frozen? (iA w.heap.size 3)=false:=by simp[World.frozen?,A]
 have r4:W.cell? (iA w.heap.size 4)=sI 0:=by simp[World.cell?,A]
 have m:W.frozen? (iA w.heap.size 4)=false:=by simp[World.frozen?,A]
 have r5:W.cell? (iA w.heap.size 5)=sI 0:=by simp[World.cell?,A]
 have n:W.frozen? (iA w.heap.size 5)=false:=by simp[World.frozen?,A]
 have r6:W.cell? (iA w.heap.size 6)=sI 0:=by simp[World.cell?,A]
 have p:W.frozen? (iA w.heap.size 6)=false:=by simp[World.frozen?,A]
 have O:w.heap.size<W.heap.size:=by omega
 have u:w.heap.size≠W.heap.size:=Nat.ne_of_lt O;clear Z;have c0:W.cell? (iA q 0)=sI o.id:=F.cell 0;have c:W.cell? (iA q 3)=sI o.bn:=F.cell 3;have L:W.cell? (iA q 10)=sI o.bu:=F.cell 10;have G:q<W.heap.size:=F.lt;have s:q≠W.heap.size:=Nat.ne_of_lt G;have K:=hid F;have U:=hid hr;have I:=hid A;clear h F hr A
 go_region_held (fun X=>X.cell? (iA q 0)=sI o.id∧X.cell? (iA q 3)=sI o.bn∧X.cell? (iA q 10)=sI o.bu) (go_keep) (fail)
 go_wp2_with fail;have R:OA (W.alloc (.cells #[iV o.id,iV 1,iV o.bn,iV 0,iV o.bu,iV 0,iV 0] 121)).drew q i o:=(K.alloc _).drew;have H:Below w.heap.size w (W.alloc (.cells #[iV o.id,iV 1,iV o.bn,iV 0,iV o.bu,iV 0,iV 0] 121)).drew:=dX (zA3 J.o _);have E:=heap_alloc_new W (.cells #[iV o.id,iV 1,iV o.bn,iV 0,iV o.bu,iV 0,iV 0] 121);have E:(W.alloc (.cells #[iV o.id,iV 1,iV o.bn,iV 0,iV o.bu,iV 0,iV 0] 121)).drew.heap[W.heap.size]? =_:=E;have V:(W.alloc (.cells #[iV o.id,iV 1,iV o.bn,iV 0,iV o.bu,iV 0,iV 0] 121)).drew.heap[w.heap.size]? =some (.cells #[iV 0,iV 0,iV 0,iV 0,iV 0,iV 0,iV 0] 121 (0,0)):=(Below.heap_alloc W _ _ O).trans I.o;generalize (W.alloc (.cells #[iV o.id,iV 1,iV o.bn,iV 0,iV o.bu,iV 0,iV 0] 121)).drew=X at *;have M:w.heap.size≤W.heap.size:=by omega
 have D:X.heap[w.heap.size]? =some (.cells #[iV 0,iV 0,iV 0,iV 0,iV 0,iV 0,iV 0] 121 (0,0)):=V;have b:w.heap.size≠W.heap.size:=by omega
 clear K J I r0 r1 r2 r3 r4 r5 r6 f g j l m n p c0 c L;generalize W.heap.size=z at *
 have T:Hd (∀Y,Same X Y→Cl 153 #[iP q] Y fun en B=>en=.returned (iV (o.mg - o.bu))∧B.cell? (iA q 11)=sI o.bg∧(B.cell? (iA z 0)=sI o.id∧B.cell? (iA z 1)=sI 1∧B.cell? (iA z 2)=sI o.bn∧B.cell? (iA z 3)=sI 0∧B.cell? (iA z 4)=sI o.bu∧B.cell? (iA z 5)=sI 0∧B.cell? (iA z 6)=sI 0∧B.frozen? (iA z 3)=false∧B.frozen? (iA z 6)=false)∧(B.cell? (iA w.heap.size 0)=sI 0∧B.frozen? (iA w.heap.size 0)=false∧B.cell? (iA w.heap.size 1)=sI 0∧B.frozen? (iA w.heap.size 1)=false∧B.cell? (iA w.heap.size 2)=sI 0∧B.frozen? (iA w.heap.size 2)=false∧B.cell? (iA w.heap.size 3)=sI 0∧B.frozen? (iA w.heap.size 3)=false∧B.cell? (iA w.heap.size 4)=sI 0∧B.frozen? (iA w.heap.size 4)=false∧B.cell? (iA w.heap.size 5)=sI 0∧B.frozen? (iA w.heap.size 5)=false∧B.cell? (iA w.heap.size 6)=sI 0∧B.frozen? (iA w.heap.size 6)=false)∧Hd (Below w.heap.size w B)):=by
  intro Y d;refine(gL (R.same d) U.o).mono ?_;rintro en B ⟨rfl,C⟩;have C:=d.trans C;rw[←C.heap]at E D;refine⟨rfl,(R.same C).cell 11,⟨by simp[World.cell?,E],by simp[World.cell?,E],by simp[World.cell?,E],by simp[World.cell?,E],by simp[World.cell?,E],by simp[World.cell?,E],by simp[World.cell?,E],by simp[World.frozen?,E],by simp[World.frozen?,E]⟩,⟨by simp[World.cell?,D],by simp[World.frozen?,D],by simp[World.cell?,D],by simp[World.frozen?,D],by simp[World.cell?,D],by simp[World.frozen?,D],by simp[World.cell?,D],by simp[World.frozen?,D],by simp[World.cell?,D],by simp[World.frozen?,D],by simp[World.cell?,D],by simp[World.frozen?,D],by simp[World.cell?,D],by simp[World.frozen?,D]⟩,?_⟩;exact⟨C.os.trans H.os,C.tape.trans H.tape,C.output.trans H.output,by rw[C.heap];exact H.size,fun k hk=>by rw[C.heap];exact H.block k hk⟩
 have A0:X.cell? (iA q 11)=sI o.bg:=R.cell 11;clear E R H D;go_region_with(first|(go_at_call 153;refine(T.o X.drew ((Same.refl X).drew)).mono ?_;rintro en B ⟨rfl,A1,⟨s0,s1,s2,s3,s4,s5,s6,t3,t6⟩,⟨x,u0,y,u1,p2,u2,p3,u3,p4,u4,p5,u5,p6,u6⟩,S⟩));all_goals(
  go_wp2;refine bodyPost_ret (v:=.agg #[iV o.id,iV 1,iV o.bn,iV (o.mg - o.bu),iV o.bu,iV 0,iV o.bg]) (by simp[results,Tryz.results112,go_sem,s0,s1,s2,s3,s4,s5,s6,x,y,p2,p3,p4,p5,p6,b]) rfl ⟨rfl,?_⟩;have N:w.heap.size≤w.heap.size:=Nat.le_refl _;iterate 7 (refine Below.setCell ?_ N _)
  exact Below.setCell (Below.setCell S.o M _) M _)
theorem bf.fe.hide{e:bf}(h:bf.fe e)(i:Nat):bf.fe (e.upd i fun o=>{ o with bg:=0 }):=by
 refine h.upd i _ (fun x hx=>?_) (fun _=>rfl) (fun x hx hx2=>absurd rfl hx2) (fun _ hl=>hl);have k:=h.ok i x hx;exact{ k with kH:=by show(0:Int)≤0;omega,kJ:=k.dN,whole:=fun _=>.inl rfl,dead:=fun _=>rfl,shp:=fun hl=>absurd hl (by show¬(0:Int)<0;omega) }
def goneC(o:Ord):Ord:={ o with cancelled:=o.opn,opn:=0,bg:=0,dm:=3 }
section
variable {F:Nat→Prop} {base:Nat} {w:World} {b i k:Nat} {e:bf} {g:Gh} {S:jk} {o r:Ord}
def Coff(F:Nat→Prop)(base:Nat)(w:World)(b:Nat)(g:Gh)(e0:bf)(reason:Int)(L:List Nat)(wr:World):Prop:= ∃t S' E,dw F base wr b E { g with txt:=t } S'∧Holds E S' L []∧Touch F w wr∧bf.fe E∧Room L.length E∧L.Nodup∧(∀j∈L,∃o,E.all[j]? =some o∧o.dm=1)∧bf.lV reason E L=e0
theorem Coff.one{e0:bf}{reason:Int}{L:List Nat}{wr:World}(hr0:0≤reason∧reason≤255)(h:Coff F base w b g e0 reason (i::L) wr):∃o:Ord,OA wr (g.blk i) i o∧aD (o.mg - o.bu)∧∀W,Same wr W→
 Cl 94 #[.pointer (some (iA b 6)),.agg #[iV 4,iV 0,iV o.id,iV 0,iV 0,iV (o.mg - o.bu),iV reason]] W fun en w1=>en=rV #[]∧w1.cell? (iA (g.blk i) 0)=sI o.id∧
  Hd (Cl 171 #[iP b,iP (g.blk i),iV 3] w1 fun en w2=>en=rV #[]∧Hd (Coff F base w b g e0 reason L w2)):=by
 obtain⟨t,m,E,N,O,p,D,C,Y,K,n⟩:=h;obtain⟨o,G,I⟩:=K i (List.mem_cons_self ..);obtain⟨X,M⟩:=List.nodup_cons.1 Y;have k:=D.ok i o G;have H:=k.open_ I;have x:0≤o.opn∧o.opn≤1000:=by have:=k.sum;have:=k.fJ;have:=k.jN;have:=k.fH;have:=k.dN;omega
 have B:aD (o.mg - o.bu):=by rw[←H];exact rz (by omega) (by omega)
 have A:aD o.id:=rz (by have:=k.nC;omega) (by have:=k.nD;omega);have z:aD 0:=⟨by omega,by omega⟩;have d:(i::L).length=L.length+1:=rfl;refine⟨o,N.oa G I,B,fun W hW=>?_⟩;refine(rA 4 0 o.id 0 0 (o.mg - o.bu) reason (N.same hW) (by have:=C.seq;omega) (by have:=C.out;omega) ⟨⟨by omega,by omega⟩,A,z,z,B,⟨by omega,by omega⟩⟩).mono ?_;rintro en w1 ⟨rfl,v,l,u⟩;refine⟨rfl,(l.oa (i:=i) G I).cell 0,?_⟩;have Z:=(N.small O).mono C.len;refine(zC9 3 [o.id,3,o.bn,0,o.bu,o.mg - o.bu,0] goneC l (i:=i) G I (O.live G I) A Z (fun W hW=>(zCf hW B).mono ?_) (by simp[Ord.state,goneC,H]) rfl (by show¬(3:Int)=1;decide)).mono ?_
 ·rintro en y ⟨rfl,T⟩;exact⟨rfl,T⟩
 rintro en w2 ⟨rfl,q,s⟩;have J:E.gone i reason=(E.tell 4 o.id 0 0 (o.mg - o.bu) reason).upd i goneC:=by
  unfold bf.gone;rw[G];simp only;rw[H];rfl
 have U:=bf.gone_inv D G I reason;have c:=bf.vP E i reason;have R:Holds (E.gone i reason) ((m.off E.all o).fin E.all o i) L []:=by
  rw[J];exact((O.gone (f:=goneC) (out':=L) D G I (List.mem_cons_self ..) (fun j hj=>by simp[hj]) (fun j hj=>by cases hj) (by show¬(3:Int)=1;decide) rfl rfl rfl (D.hide i)).vz rfl)
 refine⟨rfl,v,_,E.gone i reason,by rw[J];exact q,R,((p.trans hW.touch).trans u).trans s,U,?_,M,fun j hj=>?_,?_⟩
 ·have V:=bf.rY E i reason;have:=C.qY V c.len (by omega);exact this.mono (by omega)
 ·rw[bf.wS E i j reason (fun e1=>X (e1▸hj))];exact K j (List.mem_cons_of_mem _ hj)
 rw[←n];rfl
end
def lu(v:Nat→Int):Array Value:=#[iV (v 0),iV (v 1),iV (v 2),iV (v 3),iV (v 4),iV (v 5),iV (v 6),iV (v 7),iV (v 8)]
structure TA(w:World)(q:Nat)(v:Nat→Int):Prop where
 blk:∃t f,w.heap[q]? =some (.cells (lu v) t f)
theorem TA.cell(h:TA w q v)(j:Nat):w.cell? (iA q j)=(lu v)[j]? :=by
 obtain⟨t,f,A⟩:=h.blk;simp[World.cell?,A]
theorem TA.same(h:TA w q v)(hs:Same w w'):TA w' q v:=⟨by rw[hs.heap];exact h.blk⟩
theorem TA.lt(h:TA w q v):q<w.heap.size:=by obtain⟨t,f,A⟩:=h.blk;exact(Array.getElem?_eq_some_iff.1 A).1
theorem TA.below(h:TA w q v)(hs:Below w.heap.size w w'):TA w' q v:=⟨by rw[hs.block q h.lt];exact h.blk⟩
theorem TA.new(w:World)(v:Nat→Int)(t:TypeId):TA (w.alloc (.cells (lu v) t)) w.heap.size v:=⟨t,(0,0),heap_alloc_new w (.cells (lu v) t)⟩
theorem eY{B:Nat}{a:World}(h:Below B a w)(hs:Same w w'):Below B a w':=⟨hs.os.trans h.os,hs.tape.trans h.tape,hs.output.trans h.output,by rw[hs.heap];exact h.size,fun k hk=>by rw[hs.heap];exact h.block k hk⟩
theorem zz{a:World}(h:Below a.heap.size a w)(hs:Below w.heap.size w w'):Below a.heap.size a w':=⟨hs.os.trans h.os,hs.tape.trans h.tape,hs.output.trans h.output,Nat.le_trans h.size hs.size,fun k hk=>(hs.block k (Nat.lt_of_lt_of_le hk h.size)).trans (h.block k hk)⟩
theorem nZ(w:World)(cs:Array Value)(ty:TypeId)(j:Nat)(u:Value)(h:cs[j]? =some u):(w.alloc (.cells cs ty)).cell? (iA w.heap.size j)=some u:=by
 rw[World.cell?_alloc_at _ _ _ _ rfl];exact h
section
variable {F:Nat→Prop} {base:Nat} {w:World} {b q i:Nat} {e:bf} {g:Gh} {S:jk} {o:Ord} {v:Nat→Int}
theorem sP(n a c:Int):
 Cl 118 #[iV n,iV a,iV c] w fun en w'=>en=.returned (.bool (bf.rf n a c))∧w'=w:=by
 unfold bf.rf;by_cases A:a≤n
 ·go_enter func118,ntmps118;have B:decide (a≤n)=true:=by simpa using A
  go_wp2;go_ret;exact⟨by simp[A],rfl⟩
 go_enter func118,ntmps118;have B:decide (a≤n)=false:=by simpa using A
 go_wp2;go_ret;exact⟨by simp[A],rfl⟩
def eZ(v:Nat→Int):Bool:= !(v 0 == 0) && bf.rf (v 1) 1 2 && bf.rf (v 2) 1 3 && bf.rf (v 7) 1 3
theorem zG6:Cl 159 #[mh v] w fun en w'=>en=.returned (.bool (eZ v))∧Below w.heap.size w w':=by
 have D:Hd (∀(W:World) (n a c:Int),Cl 118 #[iV n,iV a,iV c] W fun en w'=>en=.returned (.bool (bf.rf n a c))∧w'=W):=fun W n a c=>sP n a c
 unfold mh;by_cases G:v 0=0
 ·have C:Hd (eZ v=false):=by show _=_;simp[eZ,G]
  go_enter func159,ntmps159;go_wp2;go_ret;exact⟨by rw[C.o];try rfl,(Below.refl w.heap.size w).alloc (Nat.le_refl _) _⟩
 have J:=hid G;go_enter func159,ntmps159;go_wp2_with fail;have B:=hid ((Below.refl w.heap.size w).alloc (Nat.le_refl _) (.cells #[iV (v 0),iV (v 1),iV (v 2),iV (v 3),iV (v 4),iV (v 5),iV (v 6),iV (v 7),iV (v 8)] 79));have A:=hid (TA.new w v 79);unfold lu at A;generalize w.alloc (.cells #[iV (v 0),iV (v 1),iV (v 2),iV (v 3),iV (v 4),iV (v 5),iV (v 6),iV (v 7),iV (v 8)] 79)=W at *;refine(D W (v 1) 1 2).mono ?_;rintro en E ⟨rfl,rfl⟩;cases H:bf.rf (v 1) 1 2
 ·have C:Hd (eZ v=false):=by show _=_;simp[eZ,H]
  go_wp2;go_ret;exact⟨by rw[C.o];try rfl,B⟩
 have L:cI E w.heap.size 2 (v 2):=A.cell 2;have M:cI E w.heap.size 7 (v 7):=A.cell 7;go_wp2_with fail;refine(D E (v 2) 1 3).mono ?_;rintro en K ⟨rfl,rfl⟩;cases I:bf.rf (v 2) 1 3
 ·have C:Hd (eZ v=false):=by show _=_;simp[eZ,I]
  go_wp2;go_ret;exact⟨by rw[C.o];try rfl,B⟩
 go_wp2_with fail;refine(D K (v 7) 1 3).mono ?_;rintro en N ⟨rfl,rfl⟩;have C:Hd (eZ v=(v 0 != 0 && bf.rf (v 7) 1 3)):=by show _=_;simp[eZ,H,I,bne]
 go_wp2;go_ret;exact⟨by rw[C.o];try rfl,B⟩
def bR(mp typ bn:Int):Bool:=if typ=3 then bn == 0 else bf.rf bn 1 mp
theorem xM(typ bn:Int)(h:dw F base w b e g S):Cl 161 #[iP b,iV typ,iV bn] w fun en w'=>en=.returned (.bool (bR e.mp typ bn))∧Same w w':=by
 have c1:cI w b 1 e.mp:=h.cell 1;have D:=hid (zC4 (w:=w) bn 1 e.mp);by_cases B:typ=3
 ·have A:Hd (bR e.mp typ bn=(bn == 0)):=if_pos B;go_enter func161,ntmps161;go_wp2;go_ret;exact⟨by have:=A;first|(rw[this];done)|(rw[this];rfl)|(subst B;rw[this];rfl),Same.refl w⟩
 have A:Hd (bR e.mp typ bn=bf.rf bn 1 e.mp):=if_neg B;go_enter func161,ntmps161;go_wp2_with fail;refine D.mono ?_;rintro en G ⟨rfl,E⟩;have C:=hid E;go_wp2;go_ret;exact⟨by rw[A.o];try rfl,C⟩
def qtyB(mq:Int)(v:Nat→Int):Bool:=bf.rf (v 4) 1 mq && (if v 2=2 then bf.rf (v 5) 1 (v 4) else v 5 == 0)
theorem zG7(h:dw F base w b e g S):Cl 162 #[iP b,mh v] w fun en w'=>en=.returned (.bool (qtyB e.mq v))∧Below w.heap.size w w':=by
 have c2:cI w b 2 e.mq:=h.cell 2;have D:=h.lt;have K:Hd (∀(W:World) (n a c:Int),Cl 118 #[iV n,iV a,iV c] W fun en w'=>en=.returned (.bool (bf.rf n a c))∧w'=W):=fun W n a c=>sP n a c
 clear h;unfold mh;cases H:bf.rf (v 4) 1 e.mq
 ·have E:Hd (qtyB e.mq v=false):=by show _=_;simp[qtyB,H]
  have C:Hd (∀W,Cl 118 #[iV (v 4),iV 1,iV e.mq] W fun en w'=>en=rB false∧w'=W):=fun W=>by have:=K.o W (v 4) 1 e.mq;rw[H]at this;exact this
  go_enter func162,ntmps162;go_wp2_with fail;have G:(w.alloc (.cells #[iV (v 0),iV (v 1),iV (v 2),iV (v 3),iV (v 4),iV (v 5),iV (v 6),iV (v 7),iV (v 8)] 79)).cell? (iA b 2)=sI e.mq:=(World.cell?_alloc_lt _ _ (iA b 2) D).trans c2;have A:=hid ((Below.refl w.heap.size w).alloc (Nat.le_refl _) (.cells #[iV (v 0),iV (v 1),iV (v 2),iV (v 3),iV (v 4),iV (v 5),iV (v 6),iV (v 7),iV (v 8)] 79));have B:=hid (TA.new w v 79);unfold lu at B;generalize w.alloc (.cells #[iV (v 0),iV (v 1),iV (v 2),iV (v 3),iV (v 4),iV (v 5),iV (v 6),iV (v 7),iV (v 8)] 79)=W at *;have L:cI W w.heap.size 4 (v 4):=B.cell 4;clear c2;go_quiet (exact Calls.quiet_of_same (C.o _));go_wp2;go_ret;exact⟨by rw[E.o];try rfl,⟨A.os,A.tape,A.output,A.size,A.block⟩⟩
 have C:Hd (∀W,Cl 118 #[iV (v 4),iV 1,iV e.mq] W fun en w'=>en=rB true∧w'=W):=fun W=>by have:=K.o W (v 4) 1 e.mq;rw[H]at this;exact this
 by_cases I:v 2=2
 ·have E:Hd (qtyB e.mq v=bf.rf (v 5) 1 (v 4)):=by show _=_;simp[qtyB,H,I]
  have J:=hid I;clear I;go_enter func162,ntmps162;go_wp2_with fail;have G:(w.alloc (.cells #[iV (v 0),iV (v 1),iV (v 2),iV (v 3),iV (v 4),iV (v 5),iV (v 6),iV (v 7),iV (v 8)] 79)).cell? (iA b 2)=sI e.mq:=(World.cell?_alloc_lt _ _ (iA b 2) D).trans c2;have A:=hid ((Below.refl w.heap.size w).alloc (Nat.le_refl _) (.cells #[iV (v 0),iV (v 1),iV (v 2),iV (v 3),iV (v 4),iV (v 5),iV (v 6),iV (v 7),iV (v 8)] 79));have B:=hid (TA.new w v 79);unfold lu at B;generalize w.alloc (.cells #[iV (v 0),iV (v 1),iV (v 2),iV (v 3),iV (v 4),iV (v 5),iV (v 6),iV (v 7),iV (v 8)] 79)=W at *;have M:cI W w.heap.size 2 2:=by rw[←J.o];exact B.cell 2
  have L:cI W w.heap.size 4 (v 4):=B.cell 4;have N:cI W w.heap.size 5 (v 5):=B.cell 5;clear c2;go_quiet (exact Calls.quiet_of_same (C.o _));go_wp2_with fail;refine(K.o (W.drewN nq) (v 5) 1 (v 4)).mono ?_;rintro en O ⟨rfl,rfl⟩;go_wp2;go_ret;exact⟨by rw[E.o];try rfl,⟨A.os,A.tape,A.output,A.size,A.block⟩⟩
 have E:Hd (qtyB e.mq v=(v 5 == 0)):=by show _=_;simp[qtyB,H,I]
 go_enter func162,ntmps162;go_wp2_with fail;have G:(w.alloc (.cells #[iV (v 0),iV (v 1),iV (v 2),iV (v 3),iV (v 4),iV (v 5),iV (v 6),iV (v 7),iV (v 8)] 79)).cell? (iA b 2)=sI e.mq:=(World.cell?_alloc_lt _ _ (iA b 2) D).trans c2;have A:=hid ((Below.refl w.heap.size w).alloc (Nat.le_refl _) (.cells #[iV (v 0),iV (v 1),iV (v 2),iV (v 3),iV (v 4),iV (v 5),iV (v 6),iV (v 7),iV (v 8)] 79));have B:=hid (TA.new w v 79);unfold lu at B;generalize w.alloc (.cells #[iV (v 0),iV (v 1),iV (v 2),iV (v 3),iV (v 4),iV (v 5),iV (v 6),iV (v 7),iV (v 8)] 79)=W at *;have M:cI W w.heap.size 2 (v 2):=B.cell 2;have L:cI W w.heap.size 4 (v 4):=B.cell 4;have N:cI W w.heap.size 5 (v 5):=B.cell 5;clear c2;go_quiet (exact Calls.quiet_of_same (C.o _));go_wp2;go_ret;exact⟨by rw[E.o];try rfl,⟨A.os,A.tape,A.output,A.size,A.block⟩⟩
def offB(mp:Int)(v:Nat→Int):Bool:=if v 2=3 then(if v 1=1 then bf.rf (v 6) (-mp) 0 else bf.rf (v 6) 0 mp) else v 6 == 0
theorem zG8(h:dw F base w b e g S)(hm:1≤e.mp∧e.mp≤1000000):Cl 163 #[iP b,mh v] w fun en w'=>en=.returned (.bool (offB e.mp v))∧Below w.heap.size w w':=by
 have c1:cI w b 1 e.mp:=h.cell 1;have D:=h.lt;have N:wrap64 (-e.mp)= -e.mp:=by unfold wrap64;omega
 have K:IntKind.i64.wrap (-e.mp)= -e.mp:=aM _ (by omega) (by omega);have J:Hd (∀(W:World) (n a c:Int),Cl 118 #[iV n,iV a,iV c] W fun en w'=>en=.returned (.bool (bf.rf n a c))∧w'=W):=fun W n a c=>sP n a c
 unfold mh;by_cases B:v 2=3
 ·by_cases E:v 1=1
  ·have C:Hd (offB e.mp v=bf.rf (v 6) (-e.mp) 0):=(if_pos B).trans (if_pos E);have M:=hid B;have L:=hid E;go_enter func163,ntmps163;rw[E,B];go_wp2_with fail;have G:(w.alloc (.cells #[iV (v 0),iV 1,iV 3,iV (v 3),iV (v 4),iV (v 5),iV (v 6),iV (v 7),iV (v 8)] 79)).cell? (iA b 1)=sI e.mp:=(World.cell?_alloc_lt _ _ (iA b 1) D).trans c1;have H:=nZ w #[iV (v 0),iV 1,iV 3,iV (v 3),iV (v 4),iV (v 5),iV (v 6),iV (v 7),iV (v 8)] 79 6 (iV (v 6)) rfl;have A:=hid ((Below.refl w.heap.size w).alloc (Nat.le_refl _) (.cells #[iV (v 0),iV 1,iV 3,iV (v 3),iV (v 4),iV (v 5),iV (v 6),iV (v 7),iV (v 8)] 79));have I:(w.alloc (.cells #[iV (v 0),iV 1,iV 3,iV (v 3),iV (v 4),iV (v 5),iV (v 6),iV (v 7),iV (v 8)] 79)).cell? (iA w.heap.size 6)=sI (v 6):=H;generalize w.alloc (.cells #[iV (v 0),iV 1,iV 3,iV (v 3),iV (v 4),iV (v 5),iV (v 6),iV (v 7),iV (v 8)] 79)=W at *;go_quiet (exact Calls.quiet_of_same (J _ _ _ _))
   go_wp2;go_ret;exact⟨by rw[C.o];try rfl,⟨A.os,A.tape,A.output,A.size,A.block⟩⟩
  have C:Hd (offB e.mp v=bf.rf (v 6) 0 e.mp):=(if_pos B).trans (if_neg E);go_enter func163,ntmps163;rw[B];go_wp2_with fail;have G:(w.alloc (.cells #[iV (v 0),iV (v 1),iV 3,iV (v 3),iV (v 4),iV (v 5),iV (v 6),iV (v 7),iV (v 8)] 79)).cell? (iA b 1)=sI e.mp:=(World.cell?_alloc_lt _ _ (iA b 1) D).trans c1;have H:=nZ w #[iV (v 0),iV (v 1),iV 3,iV (v 3),iV (v 4),iV (v 5),iV (v 6),iV (v 7),iV (v 8)] 79 6 (iV (v 6)) rfl;have A:=hid ((Below.refl w.heap.size w).alloc (Nat.le_refl _) (.cells #[iV (v 0),iV (v 1),iV 3,iV (v 3),iV (v 4),iV (v 5),iV (v 6),iV (v 7),iV (v 8)] 79));have I:(w.alloc (.cells #[iV (v 0),iV (v 1),iV 3,iV (v 3),iV (v 4),iV (v 5),iV (v 6),iV (v 7),iV (v 8)] 79)).cell? (iA w.heap.size 6)=sI (v 6):=H;generalize w.alloc (.cells #[iV (v 0),iV (v 1),iV 3,iV (v 3),iV (v 4),iV (v 5),iV (v 6),iV (v 7),iV (v 8)] 79)=W at *;go_quiet (exact Calls.quiet_of_same (J _ _ _ _));go_wp2;go_ret
  exact⟨by rw[C.o];try rfl,⟨A.os,A.tape,A.output,A.size,A.block⟩⟩
 have C:Hd (offB e.mp v=(v 6 == 0)):=if_neg B;go_enter func163,ntmps163;go_wp2;go_ret;exact⟨by rw[C.o];try rfl,(Below.refl w.heap.size w).alloc (Nat.le_refl _) _⟩
def timeB(now:Int)(v:Nat→Int):Bool:=if v 7=3 then decide (now<v 8) else v 8 == 0
theorem zG9(h:dw F base w b e g S):Cl 164 #[iP b,mh v] w fun en w'=>en=.returned (.bool (timeB e.now v))∧Below w.heap.size w w':=by
 have E:cI w b 4 e.now:=h.cell 4;have C:=h.lt;unfold mh;by_cases D:v 7=3
 ·have B:Hd (timeB e.now v=decide (e.now<v 8)):=if_pos D;go_enter func164,ntmps164;rw[D];go_wp2_with fail;have G:(w.alloc (.cells #[iV (v 0),iV (v 1),iV (v 2),iV (v 3),iV (v 4),iV (v 5),iV (v 6),iV 3,iV (v 8)] 79)).cell? (iA b 4)=sI e.now:=(World.cell?_alloc_lt _ _ (iA b 4) C).trans E;have H:(w.alloc (.cells #[iV (v 0),iV (v 1),iV (v 2),iV (v 3),iV (v 4),iV (v 5),iV (v 6),iV 3,iV (v 8)] 79)).cell? (iA w.heap.size 8)=sI (v 8):=nZ w #[iV (v 0),iV (v 1),iV (v 2),iV (v 3),iV (v 4),iV (v 5),iV (v 6),iV 3,iV (v 8)] 79 8 (iV (v 8)) rfl;have A:=hid ((Below.refl w.heap.size w).alloc (Nat.le_refl _) (.cells #[iV (v 0),iV (v 1),iV (v 2),iV (v 3),iV (v 4),iV (v 5),iV (v 6),iV 3,iV (v 8)] 79));generalize w.alloc (.cells #[iV (v 0),iV (v 1),iV (v 2),iV (v 3),iV (v 4),iV (v 5),iV (v 6),iV 3,iV (v 8)] 79)=W at *;go_quiet (fail);go_wp2;go_ret
  exact⟨by rw[B.o];try rfl,⟨A.os,A.tape,A.output,A.size,A.block⟩⟩
 have B:Hd (timeB e.now v=(v 8 == 0)):=if_neg D;go_enter func164,ntmps164;go_wp2;go_ret;exact⟨by rw[B.o];try rfl,(Below.refl w.heap.size w).alloc (Nat.le_refl _) _⟩
end
end Go.Proofs.YtehmdohpmpbnnaaGreatDoor
