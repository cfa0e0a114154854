import Derived.Test.YtanfmhonjpjpoaaGreatDoorQ00
import Derived.Test.YtanfmhonjpjpoaaGreatDoorQ09
import Derived.Test.YtanfmhonjpjpoaaGreatDoorQ36
import Derived.Test.YtanfmhonjpjpoaaGreatDoorRows
import Derived.LaidLaws
import Derived.LaidHandle
import Derived.ProofKit
import Derived.Deep.Slices
import Derived.ChangeSame
import Derived.OpenShut
import Derived.SizedLaws
set_option linter.all false
set_option maxRecDepth 100000
set_option maxHeartbeats 8000000
namespace Go.Proofs.YtanfmhonjpjpoaaGreatDoor
variable{W:World}{n:Nat}{cs:List Value}{P:Program}{r:List (String×DataW Unit)}
section
open Go.Extern Go.Maps Go.RowKit
theorem KS.low{w0 w:World}{wb:Nat}(h:KS w0 w wb n):Below w0.heap.size w0 w:=by
 rcases h with⟨c0,c1,c2,ds,h,_⟩|⟨e,h⟩
 ·exact h.1
 ·exact h.ke.1
theorem zPo(w:World)(ad:Nat→Addr)(st:Nat→ByteArray)(hE:Errs w ad st)(hW:Wids w)(v:Value)(h:ScrK w v):
 Calls Tryz.prog 4 #[v] w fun en w'=>en=.returned (.bool true)∧Below w.heap.size w w':=by
 have HAL:=hid (kalive w hE hW);have HEN:Hid (Errs w ad st∧Wids w):=⟨hE,hW⟩;clear hE hW;rcases h with⟨p,c,rfl⟩|⟨g,o,L,c,K,A,B,V,rfl,hg,hL,hS⟩
 ·go_enter Tryz.func4,Tryz.ntmps4;go_wp2_with fail;refine HAL.out.mono ?_;rintro en w1 ⟨rfl,hb1⟩;have HB1:=hid (hb1.alloc hb1.size (.cells #[.int .i64 0,.int .i64 0,.int .i64 0,.slice none 0 0,.pointer none,.bool false,.string ⟨#[]⟩,.int .i64 0,.slice none 0 0,.int .i64 0,.bool false] 33));clear hb1 HAL;go_wp2_with fail;go_loopw [5] (fun iv wr=>iv=.int .i64 0∧Below w.heap.size w wr) (fun _ _=>0)
  case atStart=>exact⟨rfl,HB1.out⟩
  case round=>
   obtain⟨rfl,hbw⟩:=hrel;have HBW:=hid hbw;clear hbw;go_wp2;go_ret;exact⟨rfl,HBW.out⟩
 ·have HS:=hid hS;clear hS;by_cases hbig:(16384:Int)<(L:Int)
  ·go_enter Tryz.func4,Tryz.ntmps4;go_wp2;go_ret;exact⟨rfl,Below.refl _ _⟩
  ·go_enter Tryz.func4,Tryz.ntmps4;go_wp2_with fail;refine HAL.out.mono ?_;rintro en w1 ⟨rfl,hb1⟩;have HB1:=hid hb1;have hsz:=hb1.size;have HKS0:Hid (KS w1 (w1.alloc (.cells #[.int .i64 0,.int .i64 0,.int .i64 0,.slice none 0 0,.pointer none,.bool false,.string ⟨#[]⟩,.int .i64 0,.slice none 0 0,.int .i64 0,.bool false] 33)) w1.heap.size 0):=.inl ⟨0,0,0,[],zGo (by omega) (by omega) (by omega),Nat.zero_le _⟩;have HCL:Hid (∀W,Below w1.heap.size w1 W→∀j u,w.cell? ⟨g,j,none⟩=u→W.cell? ⟨g,j,none⟩=u):=fun W hW j u hu=>by
    rw[←hu];exact(World.cell?_of_block (a:=⟨g,j,none⟩) (hW.block g (by omega))).trans (World.cell?_of_block (a:=⟨g,j,none⟩) (HB1.out.block g hg))
   have HSTP:Hid (∀(k:Nat) (W:World) (kk a bb:Int) (u:Nat→Int),k<L→KS w1 W w1.heap.size k→(-9223372036854775808≤a∧a≤9223372036854775807)→(-9223372036854775808≤bb∧bb≤9223372036854775807)→(∀i,i<9→-9223372036854775808≤u i∧u i≤9223372036854775807)→Calls Tryz.prog 8 #[.pointer (some ⟨w1.heap.size,0,none⟩),.agg #[.int .i64 kk,.int .i64 a,.int .i64 bb,.int .i64 (u 0),.int .i64 (u 1),.int .i64 (u 2),.int .i64 (u 3),.int .i64 (u 4),.int .i64 (u 5),.int .i64 (u 6),.int .i64 (u 7),.int .i64 (u 8)],.bool false] W fun en w'=>en=.returned (.bool true)∧Hid (KS w1 w' w1.heap.size (k+1))):=fun k W kk a bb u hk hK ha hb hu=>kstep hK (by omega) (HEN.out.1.below HB1.out) (HEN.out.2.below HB1.out) kk a bb u ha hb hu
   clear hb1 HAL hsz;go_wp2_with fail;go_loopw [5] (fun iv wr=> ∃k:Nat,iv=.int .i64 k∧k≤L∧KS w1 wr w1.heap.size k) (fun iv _=>L - (intOf iv).toNat)
   case atStart=>exact⟨0,rfl,Nat.zero_le _,HKS0.out⟩
   case round=>
    obtain⟨k,rfl,hk,hKS⟩:=hrel;have HKS:=hid hKS;clear hKS;by_cases hlt:k<L
    ·have hkI:(k:Int)<(L:Int):=by omega
     have hw1:wrap64 ((k:Int)+1)=(k:Int)+1:=by unfold wrap64;omega
     have hs:=HS.out k hlt;have hkeep:=fun j u=>HCL.out wr HKS.out.low j u
     have HST:=hid (HSTP.out k wr (K k) (A k) (B k) (V k) hlt HKS.out hs.2.2.2.2.1 hs.2.2.2.2.2 (fun i hi=>(hs.2.2.2.1 i hi).2));have s0:wr.cell? ⟨g,o+k*12,none⟩=some (.int .i64 (K k)):=hkeep _ _ hs.1;have s1:wr.cell? ⟨g,o+k*12+1,none⟩=some (.int .i64 (A k)):=hkeep _ _ hs.2.1;have s2:wr.cell? ⟨g,o+k*12+2,none⟩=some (.int .i64 (B k)):=hkeep _ _ hs.2.2.1;have s3:wr.cell? ⟨g,o+k*12+3,none⟩=some (.int .i64 (V k 0)):=hkeep _ _ (hs.2.2.2.1 0 (by omega)).1;have s4:wr.cell? ⟨g,o+k*12+4,none⟩=some (.int .i64 (V k 1)):=hkeep _ _ (hs.2.2.2.1 1 (by omega)).1;have s5:wr.cell? ⟨g,o+k*12+5,none⟩=some (.int .i64 (V k 2)):=hkeep _ _ (hs.2.2.2.1 2 (by omega)).1;have s6:wr.cell? ⟨g,o+k*12+6,none⟩=some (.int .i64 (V k 3)):=hkeep _ _ (hs.2.2.2.1 3 (by omega)).1;have s7:wr.cell? ⟨g,o+k*12+7,none⟩=some (.int .i64 (V k 4)):=hkeep _ _ (hs.2.2.2.1 4 (by omega)).1
     have s8:wr.cell? ⟨g,o+k*12+8,none⟩=some (.int .i64 (V k 5)):=hkeep _ _ (hs.2.2.2.1 5 (by omega)).1;have s9:wr.cell? ⟨g,o+k*12+9,none⟩=some (.int .i64 (V k 6)):=hkeep _ _ (hs.2.2.2.1 6 (by omega)).1;have s10:wr.cell? ⟨g,o+k*12+10,none⟩=some (.int .i64 (V k 7)):=hkeep _ _ (hs.2.2.2.1 7 (by omega)).1;have s11:wr.cell? ⟨g,o+k*12+11,none⟩=some (.int .i64 (V k 8)):=hkeep _ _ (hs.2.2.2.1 8 (by omega)).1;clear hs hkeep;go_wp2_with fail;refine HST.out.mono ?_;rintro en W2 ⟨rfl,HZ⟩;clear s0 s1 s2 s3 s4 s5 s6 s7 s8 s9 s10 s11 HST;go_wp2;go_roundw
     case rel=>exact⟨k+1,by go_num,hlt,HZ.out⟩
     case measure=>exact zGm hlt
    ·obtain rfl:k=L:=by omega
     have hkI: ¬(k:Int)<(k:Int):=by omega
     go_wp2;go_ret;exact⟨rfl,HB1.out.trans (HKS.out.low.mono HB1.out.size)⟩
end
section
open Go.ChangeShapes Go.RowKit Go.WideShapes
theorem zB5{n nm:String}{text:List UInt8}{ps:List MemPlace}{g:Nat}{ti tp te ts:TypeId}{ms:Array (String×TypeId)}{f:Field}
 (h:DataW.LaidVars P W ((n,.iface nm (.ptr (.agg [.lit (.string text)])))::r) ps)
 (hrows: ∀b off,MemPlace.cell b off∈ps→(∃c t,W.heap[b]? =some (.cells c t (0,0)))∧∀u v,W.cell? (iA b off)=some (.iface u v)→Value.okWide P W .any 0 u v)
 (hg:P.globalNamed n=some g) (ht:(P.globals[g]?).map (·.type)=some ti) (hi:P.underlying ti=some (.interface ms)) (hrow: ∀u,P.typeName? 3 u=some nm→u=tp)
 (hp:P.underlying tp=some (.pointer te)) (he:P.underlying te=some (.struct #[f])) (hft:f.type=ts) (hfo:f.offset=0) (hs:P.underlying ts=some .string) (hc:P.cellsOf te=1) (hcs:P.cellsOf ts=1):
 ∃(a:Addr) (s:ByteArray) (q:List MemPlace),W.cell? (iA g 0)=some (.iface tp (.pointer (some a)))∧W.cell? a=some (.string s)∧s.data.toList=text∧
  (∃c t,W.heap[a.block]? =some (.cells c t (0,0)))∧ps=.cell g 0::.cell a.block a.off::q∧DataW.LaidVars P W r q:=by
 obtain⟨g0,t0,cs0,f0,p0,q0,hg0,ht0,hv0,hd0,hq,e0⟩:=h;obtain rfl:=Option.some.inj (hg.symm.trans hg0);obtain rfl:=Option.some.inj (ht.symm.trans ht0);subst e0;obtain⟨l0⟩:=cs0;have ok0: ∀u v,l0= [.iface u v]→Value.okWide P W .any 0 u v:=fun u v e=>by
  subst e;exact(hrows g 0 (by simp[MemPlace.row])).2 u v (by simpa using World.var?_cell hg0 hv0 0)
 obtain⟨a0,s0,rfl,hc0,hs0,hz0,rfl⟩:=errorString_of_trod hi hrow hp he hft hfo hs hc hcs hd0 ok0;refine⟨a0,s0,q0,by simpa using World.var?_cell hg0 hv0 0,hc0,hs0,(hrows a0.block a0.off (by simp[MemPlace.row])).1,by simp[MemPlace.row],hq⟩
theorem zB6{x y:MemPlace}{q:List MemPlace}
 (h: ∀b off,MemPlace.cell b off∈x::y::q→(∃c t,W.heap[b]? =some (.cells c t (0,0)))∧∀u v,W.cell? (iA b off)=some (.iface u v)→Value.okWide P W .any 0 u v):
 ∀b off,MemPlace.cell b off∈q→(∃c t,W.heap[b]? =some (.cells c t (0,0)))∧∀u v,W.cell? (iA b off)=some (.iface u v)→Value.okWide P W .any 0 u v:=
 fun b off hm=>h b off (List.mem_cons_of_mem _ (List.mem_cons_of_mem _ hm))
theorem zQu{s:ByteArray}{l:List UInt8}(h:s.data.toList=l):s.size=l.length:=by
 rw[←h,Array.length_toList];rfl
def nine(d:Nat→List UInt8):List (String×DataW Unit):=
 [("orderbook/orderbook.ErrConfig",.iface "*errors.errorString" (.ptr (.agg [.lit (.string (d 0))]))),("orderbook/orderbook.ErrKind",.iface "*errors.errorString" (.ptr (.agg [.lit (.string (d 1))]))),
  ("orderbook/orderbook.ErrRange",.iface "*errors.errorString" (.ptr (.agg [.lit (.string (d 2))]))),("orderbook/orderbook.ErrShort",.iface "*errors.errorString" (.ptr (.agg [.lit (.string (d 3))]))),
  ("orderbook/orderbook.ErrFrame",.iface "*errors.errorString" (.ptr (.agg [.lit (.string (d 4))]))),("orderbook/orderbook.ErrRecord",.iface "*errors.errorString" (.ptr (.agg [.lit (.string (d 5))]))),
  ("orderbook/orderbook.ErrGap",.iface "*errors.errorString" (.ptr (.agg [.lit (.string (d 6))]))),("orderbook/orderbook.ErrBroken",.iface "*errors.errorString" (.ptr (.agg [.lit (.string (d 7))])))]
theorem star: "*" ++ "errors.errorString" = "*errors.errorString" :=by decide
theorem Tryz.typeE(u:TypeId)(h:Tryz.prog.typeName? 3 u=some "*errors.errorString"):u=325:=
 typeName_ptr_named (nm:= "errors.errorString") (by rw[star];kernel_rfl) (by kernel_rfl) (by decide) u (by rw[star];exact h)
theorem zPp{d:Nat→List UInt8}(hd: ∀k,k<8→(d k).length≠0∧(d k).length≤1000)(h:laidMet Tryz.prog (nine d) W)
 (hh:W.cell? (iA 8 0)=some (.iface 248 (.agg #[.pointer (some (iA 11 79))]))): ∃a s,Errs W a s:=by
 obtain⟨ps,hv,hnd,hrows⟩:=h;obtain⟨a0,s0,q0,c0,t0,l0,r0,rfl,h0⟩:=zB5 (g:=0) hv hrows (by kernel_rfl) (by kernel_rfl) Tryz.underlying79 Tryz.typeE Tryz.underlying325 Tryz.underlying346 rfl rfl Tryz.underlying9 (by kernel_rfl) (by kernel_rfl);have o1:=zB6 hrows;obtain⟨a1,s1,q1,c1,t1,l1,r1,rfl,h1⟩:=zB5 (g:=1) h0 o1 (by kernel_rfl) (by kernel_rfl) Tryz.underlying79 Tryz.typeE Tryz.underlying325 Tryz.underlying346 rfl rfl Tryz.underlying9 (by kernel_rfl) (by kernel_rfl);have o2:=zB6 o1;obtain⟨a2,s2,q2,c2,t2,l2,r2,rfl,h2⟩:=zB5 (g:=2) h1 o2 (by kernel_rfl) (by kernel_rfl) Tryz.underlying79 Tryz.typeE Tryz.underlying325 Tryz.underlying346 rfl rfl Tryz.underlying9 (by kernel_rfl) (by kernel_rfl);have o3:=zB6 o2
 obtain⟨a3,s3,q3,c3,t3,l3,r3,rfl,h3⟩:=zB5 (g:=3) h2 o3 (by kernel_rfl) (by kernel_rfl) Tryz.underlying79 Tryz.typeE Tryz.underlying325 Tryz.underlying346 rfl rfl Tryz.underlying9 (by kernel_rfl) (by kernel_rfl);have o4:=zB6 o3;obtain⟨a4,s4,q4,c4,t4,l4,r4,rfl,h4⟩:=zB5 (g:=4) h3 o4 (by kernel_rfl) (by kernel_rfl) Tryz.underlying79 Tryz.typeE Tryz.underlying325 Tryz.underlying346 rfl rfl Tryz.underlying9 (by kernel_rfl) (by kernel_rfl);have o5:=zB6 o4;obtain⟨a5,s5,q5,c5,t5,l5,r5,rfl,h5⟩:=zB5 (g:=5) h4 o5 (by kernel_rfl) (by kernel_rfl) Tryz.underlying79 Tryz.typeE Tryz.underlying325 Tryz.underlying346 rfl rfl Tryz.underlying9 (by kernel_rfl) (by kernel_rfl);have o6:=zB6 o5;obtain⟨a6,s6,q6,c6,t6,l6,r6,rfl,h6⟩:=zB5 (g:=6) h5 o6 (by kernel_rfl) (by kernel_rfl) Tryz.underlying79 Tryz.typeE Tryz.underlying325 Tryz.underlying346 rfl rfl Tryz.underlying9 (by kernel_rfl) (by kernel_rfl)
 have o7:=zB6 o6;obtain⟨a7,s7,q7,c7,t7,l7,r7,rfl,h7⟩:=zB5 (g:=7) h6 o7 (by kernel_rfl) (by kernel_rfl) Tryz.underlying79 Tryz.typeE Tryz.underlying325 Tryz.underlying346 rfl rfl Tryz.underlying9 (by kernel_rfl) (by kernel_rfl);have o8:=zB6 o7;have n01:a0≠a1:=by rintro rfl;simp at hnd
 have n02:a0≠a2:=by rintro rfl;simp at hnd
 have n03:a0≠a3:=by rintro rfl;simp at hnd
 have n04:a0≠a4:=by rintro rfl;simp at hnd
 have n05:a0≠a5:=by rintro rfl;simp at hnd
 have n06:a0≠a6:=by rintro rfl;simp at hnd
 have n07:a0≠a7:=by rintro rfl;simp at hnd
 have n12:a1≠a2:=by rintro rfl;simp at hnd
 have n13:a1≠a3:=by rintro rfl;simp at hnd
 have n14:a1≠a4:=by rintro rfl;simp at hnd
 have n15:a1≠a5:=by rintro rfl;simp at hnd
 have n16:a1≠a6:=by rintro rfl;simp at hnd
 have n17:a1≠a7:=by rintro rfl;simp at hnd
 have n23:a2≠a3:=by rintro rfl;simp at hnd
 have n24:a2≠a4:=by rintro rfl;simp at hnd
 have n25:a2≠a5:=by rintro rfl;simp at hnd
 have n26:a2≠a6:=by rintro rfl;simp at hnd
 have n27:a2≠a7:=by rintro rfl;simp at hnd
 have n34:a3≠a4:=by rintro rfl;simp at hnd
 have n35:a3≠a5:=by rintro rfl;simp at hnd
 have n36:a3≠a6:=by rintro rfl;simp at hnd
 have n37:a3≠a7:=by rintro rfl;simp at hnd
 have n45:a4≠a5:=by rintro rfl;simp at hnd
 have n46:a4≠a6:=by rintro rfl;simp at hnd
 have n47:a4≠a7:=by rintro rfl;simp at hnd
 have n56:a5≠a6:=by rintro rfl;simp at hnd
 have n57:a5≠a7:=by rintro rfl;simp at hnd
 have n67:a6≠a7:=by rintro rfl;simp at hnd
 have z0:=hd 0 (by omega);have z1:=hd 1 (by omega);have z2:=hd 2 (by omega);have z3:=hd 3 (by omega);have z4:=hd 4 (by omega);have z5:=hd 5 (by omega);have z6:=hd 6 (by omega);have z7:=hd 7 (by omega);rw[←l0,Array.length_toList]at z0;rw[←l1,Array.length_toList]at z1;rw[←l2,Array.length_toList]at z2;rw[←l3,Array.length_toList]at z3;rw[←l4,Array.length_toList]at z4;rw[←l5,Array.length_toList]at z5;rw[←l6,Array.length_toList]at z6;rw[←l7,Array.length_toList]at z7;refine⟨fun|0=>a0|1=>a1|2=>a2|3=>a3|4=>a4|5=>a5|6=>a6|_=>a7,fun|0=>s0|1=>s1|2=>s2|3=>s3|4=>s4|5=>s5|6=>s6|_=>s7,c0,c1,c2,c3,c4,c5,c6,c7,hh,?_,?_,?_⟩
 ·intro i j hi hj hij;have h1:i=0∨i=1∨i=2∨i=3∨i=4∨i=5∨i=6∨i=7:=by omega
  have h2:j=0∨j=1∨j=2∨j=3∨j=4∨j=5∨j=6∨j=7:=by omega
  rcases h1 with rfl|rfl|rfl|rfl|rfl|rfl|rfl|rfl<;>rcases h2 with rfl|rfl|rfl|rfl|rfl|rfl|rfl|rfl<;>first|exact absurd rfl hij|assumption|(apply Ne.symm;assumption)
 ·intro k hk;have h1:k=0∨k=1∨k=2∨k=3∨k=4∨k=5∨k=6∨k=7:=by omega
  rcases h1 with rfl|rfl|rfl|rfl|rfl|rfl|rfl|rfl
  ·exact r0
  ·exact r1
  ·exact r2
  ·exact r3
  ·exact r4
  ·exact r5
  ·exact r6
  ·exact r7
 ·intro k hk;have h1:k=0∨k=1∨k=2∨k=3∨k=4∨k=5∨k=6∨k=7:=by omega
  rcases h1 with rfl|rfl|rfl|rfl|rfl|rfl|rfl|rfl
  ·exact⟨t0,z0⟩
  ·exact⟨t1,z1⟩
  ·exact⟨t2,z2⟩
  ·exact⟨t3,z3⟩
  ·exact⟨t4,z4⟩
  ·exact⟨t5,z5⟩
  ·exact⟨t6,z6⟩
  ·exact⟨t7,z7⟩
theorem Tryz.own:ownKnob Tryz.prog.godebug=none:=by kernel_rfl
theorem Tryz.rt:(Tryz.prog.cutTypes.find? (·.1 == "internal/reflectlite.rtype")).map (·.2)=some 248:=by kernel_rfl
theorem Tryz.oneRow:((List.range 358).filter fun t=>Tryz.prog.rowNamed t [101,114,114,111,114])= [79]:=by kernel_rfl
theorem Tryz.size:Tryz.prog.types.size=358:=by kernel_rfl
theorem Tryz.et:Tryz.prog.globalNamed "errors.errorType" =some 8:=by kernel_rfl
theorem zPq(h:handlesMet Tryz.prog (("errors.errorType",Rows.laid_errors_errorType)::r) W):
 W.cell? (iA 8 0)=some (.iface 248 (.agg #[.pointer (some (iA 11 79))])):=by
 obtain⟨name,u,ty,e1,e2,e3,e4,e5⟩:=h _ (List.mem_cons_self ..);have en:name= [101,114,114,111,114]:=(Option.some.inj e1).symm;subst en;obtain rfl:=Option.some.inj (Tryz.rt.symm.trans e2);have hm:ty∈(List.range 358).filter fun t=>Tryz.prog.rowNamed t [101,114,114,111,114]:=List.mem_filter.2 ⟨List.mem_range.2 (by rw[←Tryz.size];exact e3),e4⟩
 rw[Tryz.oneRow]at hm;obtain rfl:=List.mem_singleton.1 hm;have hh:typeHandle Tryz.prog 79=.pointer (some (iA 11 79)):=by kernel_rfl
 rw[hh]at e5;simpa using World.var?_cell Tryz.et e5 0
end
section
open Go.ChangeShapes Go.Deep Go.RowKit Go.WideShapes
section
variable {H:Type} {enc:TypeId×Value→H} {w:World} {base:Nat} {spare:Nat→Bool} {held:Bool}
theorem Tryz.opFields:(Tryz.prog.fieldsOf 37).toList.map (fun f=>(f.type,f.offset))= [(3,0),(3,1),(3,2),(35,3)]:=by kernel_rfl
theorem Tryz.opStruct:Tryz.prog.underlying 37=some (.struct (Tryz.prog.fieldsOf 37)):=by kernel_rfl
theorem Tryz.cells3:Tryz.prog.cellsOf 3=1:=by kernel_rfl
theorem Tryz.cells9:Tryz.prog.cellsOf 35=9:=by kernel_rfl
theorem Tryz.cellsOp:Tryz.prog.cellsOf 37=12:=by kernel_rfl
theorem Tryz.und9:Tryz.prog.underlying 35=some (.array 9 3):=by kernel_rfl
theorem zPr{n:Int}(h:(Lit.int .i64 n).wf=true): -9223372036854775808≤n∧n≤9223372036854775807:=by
 simp[Lit.wf,IntKind.min,IntKind.max,IntKind.bits,IntKind.signed]at h;exact h
theorem zCp{o:Nat}{y:Option (DataW H×List MemPlace)}(h:DataW.trod enc Tryz.prog w base spare held n 3 ((cs.drop o).take 1)=y)(hy:y.isSome=true): ∃x,cs[o]? =some (.int .i64 x)∧-9223372036854775808≤x∧x≤9223372036854775807:=by
 obtain⟨y',rfl⟩:=Option.isSome_iff_exists.1 hy;obtain⟨x,h1,_,h2⟩:=DataW.trod_int Tryz.underlying3 h;exact⟨x,cell_of_cut h1,zPr h2⟩
theorem zPs{y:DataW H×List MemPlace}(h:DataW.trod enc Tryz.prog w base spare held n 37 cs=some y):
 ∃(k a b:Int) (v:Nat→Int),cs[0]? =some (.int .i64 k)∧cs[1]? =some (.int .i64 a)∧cs[2]? =some (.int .i64 b)∧(∀j,j<9→cs[3+j]? =some (.int .i64 (v j))∧-9223372036854775808≤v j∧v j≤9223372036854775807)∧(-9223372036854775808≤a∧a≤9223372036854775807)∧(-9223372036854775808≤b∧b≤9223372036854775807):=by
 obtain⟨xs,m,-,hy,hlen,hxl,hf⟩:=DataW.trod_struct Tryz.opStruct h;have hfs:=Tryz.opFields;generalize Tryz.prog.fieldsOf 37=fs at *;have hsz:fs.size=4:=by
  have:=congrArg List.length hfs;simpa using this
 have hget: ∀j,j<4→∃f,fs[j]? =some f∧(fs.toList.map (fun f=>(f.type,f.offset)))[j]? =some (f.type,f.offset):=fun j hj=>by
  have hj':j<fs.size:=by omega
  exact⟨fs[j],Array.getElem?_eq_getElem hj',by simp[hj']⟩
 have hx: ∀j,j<4→(xs[j]?).isSome=true:=fun j hj=>by
  rw[List.getElem?_eq_getElem (by omega)];rfl
 obtain⟨f0,p0,q0⟩:=hget 0 (by omega);obtain⟨f1,p1,q1⟩:=hget 1 (by omega);obtain⟨f2,p2,q2⟩:=hget 2 (by omega);obtain⟨f5,p5,q5⟩:=hget 3 (by omega);rw[hfs]at q0 q1 q2 q5;simp only[List.getElem?_cons_zero,List.getElem?_cons_succ,Option.some.injEq,Prod.mk.injEq]at q0 q1 q2 q5;have g0:=hf 0 f0 p0;have g1:=hf 1 f1 p1;have g2:=hf 2 f2 p2;have g5:=hf 3 f5 p5;rw[←q0.1,←q0.2,Tryz.cells3]at g0;rw[←q1.1,←q1.2,Tryz.cells3]at g1;rw[←q2.1,←q2.2,Tryz.cells3]at g2;rw[←q5.1,←q5.2,Tryz.cells9]at g5;obtain⟨k,k1,_⟩:=zCp g0 (hx 0 (by omega));obtain⟨a,a1,a2⟩:=zCp g1 (hx 1 (by omega));obtain⟨b,b1,b2⟩:=zCp g2 (hx 2 (by omega));obtain⟨y5,e5⟩:=Option.isSome_iff_exists.1 (hx 3 (by omega));rw[e5]at g5;obtain⟨zs,m2,-,-,hzc,hzl,hz⟩:=DataW.trod_array Tryz.und9 g5;rw[Tryz.cells3]at hz;have each: ∀j,j<9→∃x,cs[3+j]? =some (.int .i64 x)∧-9223372036854775808≤x∧x≤9223372036854775807:=fun j hj=>by
  have hzj:=hz j hj;rw[Nat.mul_one]at hzj;obtain⟨x,x1,x2⟩:=zCp hzj (by rw[List.getElem?_eq_getElem (by omega)];rfl);refine⟨x,?_,x2⟩;rw[List.getElem?_take_of_lt hj,List.getElem?_drop]at x1;exact x1
 obtain⟨v,hv⟩:=choose_lt each;exact⟨k,a,b,v,k1,a1,b1,hv,a2,b2⟩
theorem Tryz.opBytes':decide (0<Tryz.prog.bytesOf 37)=true:=by kernel_rfl
theorem Tryz.opBytes:0<Tryz.prog.bytesOf 37:=of_decide_eq_true Tryz.opBytes'
theorem zPt{fuel:Nat}{x:DataW H×List MemPlace}(h:DataW.trod enc Tryz.prog w base spare held fuel 25 cs=some x)(hw: ∀n∈x.1.weights Tryz.prog 25,n≤reachBytes):
 ∃v,cs= [v]∧ScrK w v:=by
 rcases open_slice Tryz.underlying25 h with⟨h0,_⟩|⟨ad,L,c,m,n,Dt,Pl,rfl,hb,hl,hm,hmm,rfl,hx⟩
 ·exact⟨_,h0,.inl ⟨_,_,rfl⟩⟩
 have hlm:L≤m:=by rw[hmm];split<;>omega
 rw[Tryz.cellsOp]at hx;rcases Nat.eq_zero_or_pos L with rfl|hL0
 ·exact⟨_,rfl,.inl ⟨_,_,rfl⟩⟩
 have hLr:L≤reachBytes:=by
  have h1:=hw (((List.range L).map Dt).length*Tryz.prog.bytesOf 37+((List.range (m - L)).map fun j=>Dt (L+j)).length*Tryz.prog.bytesOf 37) (by
   rw[DataW.weights,Tryz.underlying25];rw[←Nat.add_mul];exact List.mem_cons_self)
  have h2:=Tryz.opBytes;simp only[List.length_map,List.length_range]at h1;exact Nat.le_trans (Nat.le_trans (Nat.le_mul_of_pos_right L h2) (Nat.le_add_right _ _)) h1
 obtain⟨g,o,sp⟩:=ad;have each: ∀i,i<L→∃q:(Int×Int×Int)×(Nat→Int),w.cell? ((⟨g,o,sp⟩:Addr).add (i*12))=some (.int .i64 q.1.1)∧w.cell? ((⟨g,o,sp⟩:Addr).add (i*12+1))=some (.int .i64 q.1.2.1)∧w.cell? ((⟨g,o,sp⟩:Addr).add (i*12+2))=some (.int .i64 q.1.2.2)∧(∀j,j<9→w.cell? ((⟨g,o,sp⟩:Addr).add (i*12+(3+j)))=some (.int .i64 (q.2 j))∧-9223372036854775808≤q.2 j∧q.2 j≤9223372036854775807)∧(-9223372036854775808≤q.1.2.1∧q.1.2.1≤9223372036854775807)∧(-9223372036854775808≤q.1.2.2∧q.1.2.2≤9223372036854775807):=fun i hi=>by
  obtain⟨cs',h1,h2⟩:=hx i (by omega);obtain⟨_,hlen,hcell⟩:=World.cells?_some h1;obtain⟨k,a,b,v,e0,e1,e2,e5,r1,r2⟩:=zPs h2;have at': ∀j,j<12→w.cell? ((⟨g,o,sp⟩:Addr).add (i*12+j))=cs'[j]? :=fun j hj=>by
   have:=hcell j hj;rw[add_add]at this;exact this
  refine⟨((k,a,b),v),?_,(at' 1 (by omega)).trans e1,(at' 2 (by omega)).trans e2,fun j hj=>⟨(at' (3+j) (by omega)).trans (e5 j hj).1,(e5 j hj).2⟩,r1,r2⟩;have:=(at' 0 (by omega)).trans e0
  rwa [Nat.add_zero]at this
 obtain⟨q,hq⟩:=choose_lt each;obtain rfl:sp=none:=by
  have h0:=(hq 0 hL0).1;cases sp with
  |none=>rfl
  |some z=>
   exfalso;simp[World.cell?,Addr.add]at h0;split at h0<;>simp_all
 have hadd: ∀j,(⟨g,o,none⟩:Addr).add j=⟨g,o+j,none⟩:=fun j=>add_plain g o j
 refine⟨_,rfl,.inr ⟨g,o,L,c,fun i=>(q i).1.1,fun i=>(q i).1.2.1,fun i=>(q i).1.2.2,fun i=>(q i).2,rfl,?_,Nat.le_trans hLr (by unfold reachBytes;decide),fun i hi=>?_⟩⟩
 ·have h0:=(hq 0 hL0).1;rw[hadd]at h0;rcases Nat.lt_or_ge g w.heap.size with z|z
  ·exact z
  ·simp[World.cell?,Array.getElem?_eq_none z]at h0
 ·obtain⟨a1,a2,a3,a4,a5,a6⟩:=hq i hi;rw[hadd]at a1;rw[hadd,←Nat.add_assoc]at a2 a3;refine⟨a1,a2,a3,fun j hj=>⟨?_,(a4 j hj).2⟩,a5,a6⟩;have:=(a4 j hj).1
  rwa [hadd,←Nat.add_assoc]at this
end
end
end Go.Proofs.YtanfmhonjpjpoaaGreatDoor
