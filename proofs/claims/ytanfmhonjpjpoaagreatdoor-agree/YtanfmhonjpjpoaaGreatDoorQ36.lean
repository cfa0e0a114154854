import Derived.Test.YtanfmhonjpjpoaaGreatDoorQ00
import Derived.Test.YtanfmhonjpjpoaaGreatDoorQ09
import Derived.Test.YtanfmhonjpjpoaaGreatDoorRows
import Derived.LaidLaws
import Derived.LaidHandle
import Derived.ProofKit
set_option linter.all false
set_option maxRecDepth 100000
set_option maxHeartbeats 8000000
namespace Go.Proofs.YtanfmhonjpjpoaaGreatDoor
variable{W:World}{P:Program}{r:List (String×DataW Unit)}
open Go.ChangeShapes Go.RowKit Go.WideShapes
theorem zB9{n nm:String}{text:List UInt8}{ps:List MemPlace}{g:Nat}{ti tp te ts:TypeId}{ms:Array (String×TypeId)}{f:Field}
 (h:DataW.LaidVars P W ((n,.iface nm (.ptr (.agg [.lit (.string text)])))::r) ps)
 (hrows: ∀b off,MemPlace.cell b off∈ps→(∃c t,W.heap[b]? =some (.cells c t (0,0)))∧∀u v,W.cell? (iA b off)=some (.iface u v)→Value.okWide P W .any 0 u v)
 (hg:P.globalNamed n=some g) (ht:(P.globals[g]?).map (·.type)=some ti) (hi:P.underlying ti=some (.interface ms)) (hrow: ∀u,P.typeName? 3 u=some nm→u=tp)
 (hp:P.underlying tp=some (.pointer te)) (he:P.underlying te=some (.struct #[f])) (hft:f.type=ts) (hfo:f.offset=0) (hs:P.underlying ts=some .string) (hc:P.cellsOf te=1) (hcs:P.cellsOf ts=1):
 ∃(a:Addr) (s:ByteArray) (q:List MemPlace),W.cell? (iA g 0)=some (.iface tp (.pointer (some a)))∧W.cell? a=some (.string s)∧s.data.toList=text∧
  (∃c t,W.heap[a.block]? =some (.cells c t (0,0)))∧ps=.cell g 0::.cell a.block a.off::q∧DataW.LaidVars P W r q:=by
 obtain⟨g0,t0,cs0,f0,p0,q0,hg0,ht0,hv0,hd0,hq,e0⟩:=h;obtain rfl:=Option.some.inj (hg.symm.trans hg0);obtain rfl:=Option.some.inj (ht.symm.trans ht0);subst e0;obtain⟨l0⟩:=cs0;have ok0: ∀u v,l0= [.iface u v]→Value.okWide P W .any 0 u v:=fun u v e=>by
  subst e;exact(hrows g 0 (by simp[MemPlace.row])).2 u v (by simpa using World.var?_cell hg0 hv0 0)
 obtain⟨a0,s0,rfl,hc0,hs0,hz0,rfl⟩:=errorString_of_trod hi hrow hp he hft hfo hs hc hcs hd0 ok0;refine⟨a0,s0,q0,by simpa using World.var?_cell hg0 hv0 0,hc0,hs0,(hrows a0.block a0.off (by simp[MemPlace.row])).1,by simp[MemPlace.row],hq⟩
theorem zBa{x y:MemPlace}{q:List MemPlace}
 (h: ∀b off,MemPlace.cell b off∈x::y::q→(∃c t,W.heap[b]? =some (.cells c t (0,0)))∧∀u v,W.cell? (iA b off)=some (.iface u v)→Value.okWide P W .any 0 u v):
 ∀b off,MemPlace.cell b off∈q→(∃c t,W.heap[b]? =some (.cells c t (0,0)))∧∀u v,W.cell? (iA b off)=some (.iface u v)→Value.okWide P W .any 0 u v:=
 fun b off hm=>h b off (List.mem_cons_of_mem _ (List.mem_cons_of_mem _ hm))
theorem zTa{s:ByteArray}{l:List UInt8}(h:s.data.toList=l):s.size=l.length:=by
 rw[←h,Array.length_toList];rfl
def nine(d:Nat→List UInt8):List (String×DataW Unit):=
 [("orderbook/orderbook.ErrConfig",.iface "*errors.errorString" (.ptr (.agg [.lit (.string (d 0))]))),("orderbook/orderbook.ErrKind",.iface "*errors.errorString" (.ptr (.agg [.lit (.string (d 1))]))),
  ("orderbook/orderbook.ErrRange",.iface "*errors.errorString" (.ptr (.agg [.lit (.string (d 2))]))),("orderbook/orderbook.ErrShort",.iface "*errors.errorString" (.ptr (.agg [.lit (.string (d 3))]))),
  ("orderbook/orderbook.ErrFrame",.iface "*errors.errorString" (.ptr (.agg [.lit (.string (d 4))]))),("orderbook/orderbook.ErrRecord",.iface "*errors.errorString" (.ptr (.agg [.lit (.string (d 5))]))),
  ("orderbook/orderbook.ErrGap",.iface "*errors.errorString" (.ptr (.agg [.lit (.string (d 6))]))),("orderbook/orderbook.ErrBroken",.iface "*errors.errorString" (.ptr (.agg [.lit (.string (d 7))])))]
theorem star: "*" ++ "errors.errorString" = "*errors.errorString" :=by decide
theorem Tryz.typeE(u:TypeId)(h:Tryz.prog.typeName? 3 u=some "*errors.errorString"):u=325:=
 typeName_ptr_named (nm:= "errors.errorString") (by rw[star];kernel_rfl) (by kernel_rfl) (by decide) u (by rw[star];exact h)
theorem zRc{d:Nat→List UInt8}(hd: ∀k,k<8→(d k).length≠0∧(d k).length≤1000)(h:laidMet Tryz.prog (nine d) W)
 (hh:W.cell? (iA 8 0)=some (.iface 248 (.agg #[.pointer (some (iA 11 79))]))): ∃a s,Errs W a s:=by
 obtain⟨ps,hv,hnd,hrows⟩:=h;obtain⟨a0,s0,q0,c0,t0,l0,r0,rfl,h0⟩:=zB9 (g:=0) hv hrows (by kernel_rfl) (by kernel_rfl) Tryz.underlying79 Tryz.typeE Tryz.underlying325 Tryz.underlying346 rfl rfl Tryz.underlying9 (by kernel_rfl) (by kernel_rfl);have o1:=zBa hrows;obtain⟨a1,s1,q1,c1,t1,l1,r1,rfl,h1⟩:=zB9 (g:=1) h0 o1 (by kernel_rfl) (by kernel_rfl) Tryz.underlying79 Tryz.typeE Tryz.underlying325 Tryz.underlying346 rfl rfl Tryz.underlying9 (by kernel_rfl) (by kernel_rfl);have o2:=zBa o1;obtain⟨a2,s2,q2,c2,t2,l2,r2,rfl,h2⟩:=zB9 (g:=2) h1 o2 (by kernel_rfl) (by kernel_rfl) Tryz.underlying79 Tryz.typeE Tryz.underlying325 Tryz.underlying346 rfl rfl Tryz.underlying9 (by kernel_rfl) (by kernel_rfl);have o3:=zBa o2
 obtain⟨a3,s3,q3,c3,t3,l3,r3,rfl,h3⟩:=zB9 (g:=3) h2 o3 (by kernel_rfl) (by kernel_rfl) Tryz.underlying79 Tryz.typeE Tryz.underlying325 Tryz.underlying346 rfl rfl Tryz.underlying9 (by kernel_rfl) (by kernel_rfl);have o4:=zBa o3;obtain⟨a4,s4,q4,c4,t4,l4,r4,rfl,h4⟩:=zB9 (g:=4) h3 o4 (by kernel_rfl) (by kernel_rfl) Tryz.underlying79 Tryz.typeE Tryz.underlying325 Tryz.underlying346 rfl rfl Tryz.underlying9 (by kernel_rfl) (by kernel_rfl);have o5:=zBa o4;obtain⟨a5,s5,q5,c5,t5,l5,r5,rfl,h5⟩:=zB9 (g:=5) h4 o5 (by kernel_rfl) (by kernel_rfl) Tryz.underlying79 Tryz.typeE Tryz.underlying325 Tryz.underlying346 rfl rfl Tryz.underlying9 (by kernel_rfl) (by kernel_rfl);have o6:=zBa o5;obtain⟨a6,s6,q6,c6,t6,l6,r6,rfl,h6⟩:=zB9 (g:=6) h5 o6 (by kernel_rfl) (by kernel_rfl) Tryz.underlying79 Tryz.typeE Tryz.underlying325 Tryz.underlying346 rfl rfl Tryz.underlying9 (by kernel_rfl) (by kernel_rfl)
 have o7:=zBa o6;obtain⟨a7,s7,q7,c7,t7,l7,r7,rfl,h7⟩:=zB9 (g:=7) h6 o7 (by kernel_rfl) (by kernel_rfl) Tryz.underlying79 Tryz.typeE Tryz.underlying325 Tryz.underlying346 rfl rfl Tryz.underlying9 (by kernel_rfl) (by kernel_rfl);have o8:=zBa o7;have n01:a0≠a1:=by rintro rfl;simp at hnd
 have n02:a0≠a2:=by rintro rfl;simp at hnd
 have n03:a0≠a3:=by rintro rfl;simp at hnd
 have n04:a0≠a4:=by rintro rfl;simp at hnd
 have n05:a0≠a5:=by rintro rfl;simp at hnd
 have n06:a0≠a6:=by rintro rfl;simp at hnd
 have n07:a0≠a7:=by rintro rfl;simp at hnd
 have n12:a1≠a2:=by rintro rfl;simp at hnd
 have n13:a1≠a3:=by rintro rfl;simp at hnd
 have n14:a1≠a4:=by rintro rfl;simp at hnd
 have n15:a1≠a5:=by rintro rfl;simp at hnd
 have n16:a1≠a6:=by rintro rfl;simp at hnd
 have n17:a1≠a7:=by rintro rfl;simp at hnd
 have n23:a2≠a3:=by rintro rfl;simp at hnd
 have n24:a2≠a4:=by rintro rfl;simp at hnd
 have n25:a2≠a5:=by rintro rfl;simp at hnd
 have n26:a2≠a6:=by rintro rfl;simp at hnd
 have n27:a2≠a7:=by rintro rfl;simp at hnd
 have n34:a3≠a4:=by rintro rfl;simp at hnd
 have n35:a3≠a5:=by rintro rfl;simp at hnd
 have n36:a3≠a6:=by rintro rfl;simp at hnd
 have n37:a3≠a7:=by rintro rfl;simp at hnd
 have n45:a4≠a5:=by rintro rfl;simp at hnd
 have n46:a4≠a6:=by rintro rfl;simp at hnd
 have n47:a4≠a7:=by rintro rfl;simp at hnd
 have n56:a5≠a6:=by rintro rfl;simp at hnd
 have n57:a5≠a7:=by rintro rfl;simp at hnd
 have n67:a6≠a7:=by rintro rfl;simp at hnd
 have z0:=hd 0 (by omega);have z1:=hd 1 (by omega);have z2:=hd 2 (by omega);have z3:=hd 3 (by omega);have z4:=hd 4 (by omega);have z5:=hd 5 (by omega);have z6:=hd 6 (by omega);have z7:=hd 7 (by omega);rw[←l0,Array.length_toList]at z0;rw[←l1,Array.length_toList]at z1;rw[←l2,Array.length_toList]at z2;rw[←l3,Array.length_toList]at z3;rw[←l4,Array.length_toList]at z4;rw[←l5,Array.length_toList]at z5;rw[←l6,Array.length_toList]at z6;rw[←l7,Array.length_toList]at z7;refine⟨fun|0=>a0|1=>a1|2=>a2|3=>a3|4=>a4|5=>a5|6=>a6|_=>a7,fun|0=>s0|1=>s1|2=>s2|3=>s3|4=>s4|5=>s5|6=>s6|_=>s7,c0,c1,c2,c3,c4,c5,c6,c7,hh,?_,?_,?_⟩
 ·intro i j hi hj hij;have h1:i=0∨i=1∨i=2∨i=3∨i=4∨i=5∨i=6∨i=7:=by omega
  have h2:j=0∨j=1∨j=2∨j=3∨j=4∨j=5∨j=6∨j=7:=by omega
  rcases h1 with rfl|rfl|rfl|rfl|rfl|rfl|rfl|rfl<;>rcases h2 with rfl|rfl|rfl|rfl|rfl|rfl|rfl|rfl<;>first|exact absurd rfl hij|assumption|(apply Ne.symm;assumption)
 ·intro k hk;have h1:k=0∨k=1∨k=2∨k=3∨k=4∨k=5∨k=6∨k=7:=by omega
  rcases h1 with rfl|rfl|rfl|rfl|rfl|rfl|rfl|rfl
  ·exact r0
  ·exact r1
  ·exact r2
  ·exact r3
  ·exact r4
  ·exact r5
  ·exact r6
  ·exact r7
 ·intro k hk;have h1:k=0∨k=1∨k=2∨k=3∨k=4∨k=5∨k=6∨k=7:=by omega
  rcases h1 with rfl|rfl|rfl|rfl|rfl|rfl|rfl|rfl
  ·exact⟨t0,z0⟩
  ·exact⟨t1,z1⟩
  ·exact⟨t2,z2⟩
  ·exact⟨t3,z3⟩
  ·exact⟨t4,z4⟩
  ·exact⟨t5,z5⟩
  ·exact⟨t6,z6⟩
  ·exact⟨t7,z7⟩
theorem Tryz.own:ownKnob Tryz.prog.godebug=none:=by kernel_rfl
theorem Tryz.rt:(Tryz.prog.cutTypes.find? (·.1 == "internal/reflectlite.rtype")).map (·.2)=some 248:=by kernel_rfl
theorem Tryz.oneRow:((List.range 358).filter fun t=>Tryz.prog.rowNamed t [101,114,114,111,114])= [79]:=by kernel_rfl
theorem Tryz.size:Tryz.prog.types.size=358:=by kernel_rfl
theorem Tryz.et:Tryz.prog.globalNamed "errors.errorType" =some 8:=by kernel_rfl
theorem zRd(h:handlesMet Tryz.prog (("errors.errorType",Rows.laid_errors_errorType)::r) W):
 W.cell? (iA 8 0)=some (.iface 248 (.agg #[.pointer (some (iA 11 79))])):=by
 obtain⟨name,u,ty,e1,e2,e3,e4,e5⟩:=h _ (List.mem_cons_self ..);have en:name= [101,114,114,111,114]:=(Option.some.inj e1).symm;subst en;obtain rfl:=Option.some.inj (Tryz.rt.symm.trans e2);have hm:ty∈(List.range 358).filter fun t=>Tryz.prog.rowNamed t [101,114,114,111,114]:=List.mem_filter.2 ⟨List.mem_range.2 (by rw[←Tryz.size];exact e3),e4⟩
 rw[Tryz.oneRow]at hm;obtain rfl:=List.mem_singleton.1 hm;have hh:typeHandle Tryz.prog 79=.pointer (some (iA 11 79)):=by kernel_rfl
 rw[hh]at e5;simpa using World.var?_cell Tryz.et e5 0
end Go.Proofs.YtanfmhonjpjpoaaGreatDoor
