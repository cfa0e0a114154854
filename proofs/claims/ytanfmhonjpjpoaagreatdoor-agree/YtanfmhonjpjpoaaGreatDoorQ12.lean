import Derived.Test.YtanfmhonjpjpoaaGreatDoorQ00
import Derived.Test.YtanfmhonjpjpoaaGreatDoorQ09
import Derived.Laws.StructEq
import Derived.Deep.RegionHeld
import Derived.Deep.QuietTactic
import Derived.BigQuiet
import Derived.Laws.IdiomStrings
set_option linter.all false
set_option maxRecDepth 100000
set_option maxHeartbeats 8000000
namespace Go.Proofs.YtanfmhonjpjpoaaGreatDoor
open Go.Extern Go.RowKit
theorem Tryz.recStruct:Tryz.prog.underlying 73=some (.struct (Tryz.prog.fieldsOf 73)):=by kernel_rfl
theorem Tryz.recHeld:Tryz.prog.stoodInHeld 73=false:=by kernel_rfl
theorem Tryz.recGuard:Tryz.prog.eqGuardType Tryz.prog.depth 73=false:=by kernel_rfl
theorem zBg(d:Nat)(xs ys:Array Value)(f:Field)(fs:List Field)(a b:Int)(t:TypeId)(o:Nat)(W:World)(hn:(f.name == "_")=false)(ht:f.type=t)(ho:f.offset=o)(hu:Tryz.prog.underlying t=some (.int .i64))
 (hx:(part t xs o).run Tryz.prog W=.ok (.int .i64 a) W) (hy:(part t ys o).run Tryz.prog W=.ok (.int .i64 b) W):
 (Op.eqFields (d+1) xs ys (f::fs)).run Tryz.prog W=if a == b then(Op.eqFields (d+1) xs ys fs).run Tryz.prog W else .ok false W:=by
 have hne:f.name≠ "_" :=by simpa using hn
 subst ht ho;rw[Op.eqFields,if_pos hne];simp only[Sem.run_bind,hx,hy,Result.andThen_ok,run_equalIn_int W d f.type .i64 .i64 a b hu];cases hab:(a == b)<;>simp
theorem eq7(l:List Field)(h:l.map (fun f=>(f.name == "_",f.type,f.offset))= [(false,3,0),(false,3,1),(false,3,2),(false,3,3),(false,3,4),(false,3,5),(false,3,6)])
 (a0 a1 a2 a3 a4 a5 a6 b0 b1 b2 b3 b4 b5 b6:Int) (W:World):
 (((Op.eqFields 9999 #[iV a0,iV a1,iV a2,iV a3,iV a4,iV a5,iV a6] #[iV b0,iV b1,iV b2,iV b3,iV b4,iV b5,iV b6] l).run Tryz.prog W).andThen fun b w'=>Result.ok (Value.bool (!b)) w')=.ok (Value.bool (!(a0 == b0 && a1 == b1 && a2 == b2 && a3 == b3 && a4 == b4 && a5 == b5 && a6 == b6))) W:=by
 rcases l with _|⟨f0,_|⟨f1,_|⟨f2,_|⟨f3,_|⟨f4,_|⟨f5,_|⟨f6,_|⟨f7,l⟩⟩⟩⟩⟩⟩⟩⟩
 ·simp at h
 ·simp at h
 ·simp at h
 ·simp at h
 ·simp at h
 ·simp at h
 ·simp at h
 ·simp only[List.map_cons,List.map_nil,List.cons.injEq,Prod.mk.injEq,and_true]at h;obtain⟨⟨n0,t0,o0⟩,⟨n1,t1,o1⟩,⟨n2,t2,o2⟩,⟨n3,t3,o3⟩,⟨n4,t4,o4⟩,⟨n5,t5,o5⟩,⟨n6,t6,o6⟩⟩:=h;rw[zBg 9998 _ _ f0 _ a0 b0 3 0 W n0 t0 o0 Tryz.underlying3 (by kernel_rfl) (by kernel_rfl),
   zBg 9998 _ _ f1 _ a1 b1 3 1 W n1 t1 o1 Tryz.underlying3 (by kernel_rfl) (by kernel_rfl),
   zBg 9998 _ _ f2 _ a2 b2 3 2 W n2 t2 o2 Tryz.underlying3 (by kernel_rfl) (by kernel_rfl),
   zBg 9998 _ _ f3 _ a3 b3 3 3 W n3 t3 o3 Tryz.underlying3 (by kernel_rfl) (by kernel_rfl),
   zBg 9998 _ _ f4 _ a4 b4 3 4 W n4 t4 o4 Tryz.underlying3 (by kernel_rfl) (by kernel_rfl),
   zBg 9998 _ _ f5 _ a5 b5 3 5 W n5 t5 o5 Tryz.underlying3 (by kernel_rfl) (by kernel_rfl),
   zBg 9998 _ _ f6 _ a6 b6 3 6 W n6 t6 o6 Tryz.underlying3 (by kernel_rfl) (by kernel_rfl)]
  cases (a0 == b0)<;>cases (a1 == b1)<;>cases (a2 == b2)<;>cases (a3 == b3)<;>cases (a4 == b4)<;>cases (a5 == b5)<;>cases (a6 == b6)<;>rfl
 ·simp at h
theorem neqRec(a0 a1 a2 a3 a4 a5 a6 b0 b1 b2 b3 b4 b5 b6:Int)(W:World):
 (binOp .neq 73 (recW a0 a1 a2 a3 a4 a5 a6) (recW b0 b1 b2 b3 b4 b5 b6)).run Tryz.prog W=.ok (.bool (!(a0 == b0 && a1 == b1 && a2 == b2 && a3 == b3 && a4 == b4 && a5 == b5 && a6 == b6))) W:=by
 have h1:=Tryz.recStruct;have h2:=Tryz.recHeld;rw[run_neq_struct,run_equalIn_struct W 9999 _ _ _ h1 h2];have hfs:(Tryz.prog.fieldsOf 73).toList.map (fun f=>(f.name == "_",f.type,f.offset))= [(false,3,0),(false,3,1),(false,3,2),(false,3,3),(false,3,4),(false,3,5),(false,3,6)]:=by kernel_rfl
 exact eq7 _ hfs _ _ _ _ _ _ _ _ _ _ _ _ _ _ W
def ErrIs(w:World)(a:Nat→Addr)(err:Value)(n pl:Int):Prop:=
 (err=.nilIface∧n=0∧pl= -1)∨(∃k:Nat,k<8∧err=.iface 325 (.pointer (some (a k)))∧n=(k:Int)+1∧pl= -1)∨
 (∃k b o:Nat,k<8∧err=.iface 130 (.pointer (some (iA b o)))∧n=(k:Int)+1∧w.cell? (iA b o)=sI pl∧w.cell? (iA b (o+1))=some (.iface 325 (.pointer (some (a k)))))
theorem ErrIs.below{w w':World}{a:Nat→Addr}{err:Value}{n pl:Int}(h:ErrIs w a err n pl)(hb:Below w.heap.size w w'):ErrIs w' a err n pl:=by
 rcases h with h|h|⟨k,b,o,h1,h2,h3,h4,h5⟩
 ·exact .inl h
 ·exact .inr (.inl h)
 ·exact .inr (.inr ⟨k,b,o,h1,h2,h3,(hb.cell (p:=(iA b o)) (zBf h4)).trans h4,(hb.cell (p:=(iA b (o+1))) (zBf (a:=(iA b (o+1))) h5)).trans h5⟩)
theorem Below.drewN'{B:Nat}{a w:World}(h:Below B a w)(n:Nat):Below B a (w.drewN n):=⟨h.os,h.tape,h.output,h.size,h.block⟩
theorem zLp(w:World)(t:TypeId)(v:Nat→Int)(j:Nat)(hj:j<9):
 (w.alloc (.cells #[iV (v 0),iV (v 1),iV (v 2),iV (v 3),iV (v 4),iV (v 5),iV (v 6),iV (v 7),iV (v 8)] t)).cell? (iA w.heap.size j)=sI (v j):=by
 have h:j=0∨j=1∨j=2∨j=3∨j=4∨j=5∨j=6∨j=7∨j=8:=by omega
 rcases h with rfl|rfl|rfl|rfl|rfl|rfl|rfl|rfl|rfl<;>simp
theorem zLq(w:World)(t:TypeId)(l:List UInt8)(hm:l.length≤1000):((w.alloc (.cells (l.map bcell).toArray t)).drew).ownsRow w.heap.size t 1 (sL w.heap.size l.length l.length) l.length (l.map bcell):=by
 refine⟨by simp,.inr ⟨w.heap.size,l.length,(l.map bcell).toArray,rfl,Nat.le_refl _,?_,Nat.le_refl _,by unfold maxLen;omega,by simp,?_⟩⟩
 ·show(w.alloc _).heap[w.heap.size]? =_;exact heap_alloc_new w _
 ·rw[List.take_of_length_le (by simp)]
theorem zDu(W:World)(B:Nat)(v:Value)(n:Nat)(l:List UInt8)(h:W.ownsRow B 5 1 v n (l.map bcell))(hn:l.length=n)(h0:0<n):
 (convert 107 9 v).run Tryz.prog W=.ok (.string ⟨l.toArray⟩) W∧∃g c,v=sL g n c:=by
 have hcc:= @World.ownsRow.cells _ _ _ _ _ _ _ h;obtain⟨h1,h2⟩:=h;rcases h2 with⟨rfl,rfl⟩|⟨g,cap,cur,rfl,hb,hg,hle,hm,hsz,htk⟩
 ·omega
 ·subst hn;refine⟨run_convert_bytes_back W 107 9 5 (iA g 0) cap l Tryz.underlying107 Tryz.underlying5 Tryz.underlying9 ?_,g,cap,rfl⟩;intro j hj;exact hcc rfl j _ (by simp[hj,bcell])
theorem zLr(a:Nat→Addr)(s:Nat→ByteArray)(kind:Int)(v:Nat→Int)(w:World)(hE:Errs w a s)(hW:Wids w)(hv: ∀i,i<9→-9223372036854775808≤v i∧v i≤9223372036854775807):
 Cl 70 #[cmdV kind v] w fun e w'=>
  ∃err,e=rV #[.string ⟨(encRes kind v).1.toArray⟩,err]∧ErrIs w' a err (encRes kind v).2.1 (encRes kind v).2.2∧Below w.heap.size w w':=by
 have HV:Hid (∀i,i<9→-9223372036854775808≤v i∧v i≤9223372036854775807):=hv;have HE:Hid (Errs w a s):=hE;have HW:Hid (Wids w):=hW;clear hv hE hW;have hB1:Below w.heap.size w (w.alloc (.cells #[iV kind,iV (v 0),iV (v 1),iV (v 2),iV (v 3),iV (v 4),iV (v 5),iV (v 6),iV (v 7),iV (v 8)] 102)):=(Below.refl _ _).alloc (Nat.le_refl _) _;go_enter Tryz.func70,Tryz.ntmps70;go_wp2_with fail;refine(zF9 kind _).mono ?_;rintro e w2 ⟨ta,rfl,hia,hb2⟩;have HB2:Hid (Below w.heap.size w w2):=hB1.trans (hb2.mono (by simp));by_cases hk:1≤kind∧kind≤5
 ·have hkd:decide (1≤kind∧kind≤5)=true:=by simp;omega
  rw[hkd];have hs2:w.heap.size<w2.heap.size:=by have:=hb2.size;simp at this;omega
  have hc0:=(hb2.cell (p:=(iA w.heap.size 0)) (by simp)).trans (show _=sI kind by simp);have hc1:=(hb2.cell (p:=(iA w.heap.size 1)) (by simp)).trans (show _=sI (v 0) by simp);have hc2:=(hb2.cell (p:=(iA w.heap.size 2)) (by simp)).trans (show _=sI (v 1) by simp);have hc3:=(hb2.cell (p:=(iA w.heap.size 3)) (by simp)).trans (show _=sI (v 2) by simp);have hc4:=(hb2.cell (p:=(iA w.heap.size 4)) (by simp)).trans (show _=sI (v 3) by simp);have hc5:=(hb2.cell (p:=(iA w.heap.size 5)) (by simp)).trans (show _=sI (v 4) by simp);have hc6:=(hb2.cell (p:=(iA w.heap.size 6)) (by simp)).trans (show _=sI (v 5) by simp);have hc7:=(hb2.cell (p:=(iA w.heap.size 7)) (by simp)).trans (show _=sI (v 6) by simp);have hc8:=(hb2.cell (p:=(iA w.heap.size 8)) (by simp)).trans (show _=sI (v 7) by simp);have hc9:=(hb2.cell (p:=(iA w.heap.size 9)) (by simp)).trans (show _=sI (v 8) by simp);clear hkd hb2 hB1
  go_wp2_with fail;refine(zKk v _).mono ?_;rintro e w3 ⟨rfl,hb3⟩;have hia3:=hia.below hb3;have hk3:=(hb3.cell (p:=(iA w.heap.size 0)) hs2).trans hc0;have HB3:Hid (Below w.heap.size w w3):=HB2.trans (hb3.mono (Nat.le_of_lt hs2));have hs3:w.heap.size<w3.heap.size:=Nat.lt_of_lt_of_le hs2 hb3.size;clear hc0 hc1 hc2 hc3 hc4 hc5 hc6 hc7 hc8 hc9 hb3 hia HB2;have hW3:=HW.below HB3.out;have hfs:=zFa (terms kind) (fun p hp=>by have:=zAh kind p hp;omega);have hn9:=zBs kind;generalize hF:fsum (terms kind)=F at *;have HF:Hid (fsum (terms kind)=F):=hF;have hia4:=hia3.below ((Below.refl _ _).alloc (Nat.le_refl _) (.cells #[iV (v 0),iV (v 1),iV (v 2),iV (v 3),iV (v 4),iV (v 5),iV (v 6),iV (v 7),iV (v 8)] 35));have hW4:=hW3.below ((Below.refl _ _).alloc (Nat.le_refl _) (.cells #[iV (v 0),iV (v 1),iV (v 2),iV (v 3),iV (v 4),iV (v 5),iV (v 6),iV (v 7),iV (v 8)] 35))
  have hfr: ∀W:World,IntsAt W ta (whichs kind)→Wids W→Cl 111 #[ta] W fun e w'=>e=.returned (iV (2+F))∧w'=W:=fun W h1 h2=>by
   have:=zDk kind ta W h1 h2;rw[hF]at this;exact this
  have HFR:Hid (∀W:World,IntsAt W ta (whichs kind)→Wids W→Cl 111 #[ta] W fun e w'=>e=.returned (iV (2+F))∧w'=W):=hfr;clear hF hfr;go_wp2_with fail
  go_region_held (fun w'=>w'.cell? (iA w.heap.size 0)=sI kind) (go_keep)
   (first|(go_at_call 111;refine(HFR.out _ ?_ ?_).mono ?_;exact hia4;exact hW4;rintro e w' ⟨rfl,rfl⟩))
  have HF1:Hid (byteOf (F+1)=byteOf (F+1)):=rfl;obtain⟨hk1,hk2⟩:=hk;have hs5:((w3.alloc (.cells #[iV (v 0),iV (v 1),iV (v 2),iV (v 3),iV (v 4),iV (v 5),iV (v 6),iV (v 7),iV (v 8)] 35))).heap.size=w3.heap.size+1:=by simp
  have HARR:Hid (∀j,j<9→((w3.alloc (.cells #[iV (v 0),iV (v 1),iV (v 2),iV (v 3),iV (v 4),iV (v 5),iV (v 6),iV (v 7),iV (v 8)] 35))).cell? (iA w3.heap.size j)=sI (v j)):=fun j hj=>by
   exact zLp w3 35 v j hj
  have HB5:Hid (Below w.heap.size w ((w3.alloc (.cells #[iV (v 0),iV (v 1),iV (v 2),iV (v 3),iV (v 4),iV (v 5),iV (v 6),iV (v 7),iV (v 8)] 35)))):=zA1 HB3.out _;have HI5:Hid (IntsAt ((w3.alloc (.cells #[iV (v 0),iV (v 1),iV (v 2),iV (v 3),iV (v 4),iV (v 5),iV (v 6),iV (v 7),iV (v 8)] 35))) ta (whichs kind)):=hia4;clear hia4 hia3 hW3 hW4 HFR HB3 hk3;generalize ((w3.alloc (.cells #[iV (v 0),iV (v 1),iV (v 2),iV (v 3),iV (v 4),iV (v 5),iV (v 6),iV (v 7),iV (v 8)] 35)))=w5 at *;generalize w3.heap.size=B3 at *;have hbytes:(#[.int .u8 (IntKind.u8.wrap (IntKind.i64.wrap (2+F - 1))),.int .u8 (IntKind.u8.wrap kind)]:Array Value)=([byteOf (F+1),byteOf kind].map bcell).toArray:=by
   have e1:IntKind.u8.wrap (IntKind.i64.wrap (2+F - 1))=(F+1) % 256:=by
    rw[IntKind.wrap_u8,show IntKind.i64.wrap (2+F - 1)=2+F - 1 from by simp only[IntKind.wrap,IntKind.bits,IntKind.signed];simp;omega]
    congr 1;omega
   have e2:IntKind.u8.wrap kind=kind % 256:=IntKind.wrap_u8 kind;simp[bcell,zDi,e1,e2]
  rw[hbytes];clear hbytes;generalize hz3:IntKind.u8.wrap (IntKind.i64.wrap (2+F - 1))=z3 at *;clear hz3;generalize hz1:IntKind.i64.wrap (2+F - 1)=z1 at *;clear hz1;generalize hz2:IntKind.u8.wrap kind=z2 at *;clear hz2;have hown0:=zLq w5 5 [byteOf (F+1),byteOf kind] (by simp);have HW5:Hid (Wids w5):=HW.below HB5.out;have HE5:Hid (Errs w5 a s):=HE.below HB5.out;have hlt5:w.heap.size≤w5.heap.size:=HB5.size;rw[hs5]at hown0;simp only[List.length_cons,List.length_nil]at hown0;generalize hL:[byteOf (F+1),byteOf kind]=hd at *;have HL0:Hid ([byteOf (F+1),byteOf kind]=hd):=hL;have hl2:hd.length=2:=by rw[←hL];rfl
  clear hL;have hB6:Below w5.heap.size w5 ((w5.alloc (.cells (hd.map bcell).toArray 5)).drew):=((Below.refl _ _).alloc (Nat.le_refl _) _).drew;rw[hs5]at hB6;generalize (w5.alloc (.cells (hd.map bcell).toArray 5)).drew=w6 at *;have HW6:Hid (Wids w5):=HW5;rcases HI5.out with⟨rfl,hnil⟩|⟨ba,rfl,hne,hca⟩
  ·have ht:terms kind= []:=by simpa [whichs] using hnil
   have HR:Hid (encRes kind v=(hd,0,-1)):=by
    show encRes kind v=_;have hf0:F=0:=by rw[←HF.out,ht];rfl
    rw[encRes,if_pos ⟨hk1,hk2⟩,ht,←HL0.out,hf0];rfl
   obtain⟨hcv,-⟩:=zDu w6 _ _ _ hd hown0 hl2 (by omega);have HO:Hid (Below w.heap.size w w6):=HB5.trans (hB6.mono (by omega));clear ht hnil hB6 hown0;go_wp2_with fail;refine wp_loop_rounds 1 ?_;rw[rounds_succ];go_wp2;go_ret2;refine⟨.nilIface,?_,?_,HO.out⟩
   ·rw[HR.out];rfl
   ·rw[HR.out];exact .inl ⟨rfl,rfl,rfl⟩
  ·have hlen:(whichs kind).length=(terms kind).length:=by simp[whichs]
   rw[hlen];have HA:Hid (∀i (h:i<(whichs kind).length),w5.cell? (iA ba i)=sI ((whichs kind)[i])):=hca;have HL:Hid ((whichs kind).length=(terms kind).length):=hlen;clear hca hne hlen HI5;generalize hN:(terms kind).length=n at *;have HN:Hid ((terms kind).length=n):=hN;clear hN;go_wp2_with fail;go_loopw [7,32] (fun t i wr=> ∃k:Nat,k≤n∧i=iV k∧bad ((terms kind).take k) v=none∧wr.ownsRow (B3+1) 5 1 t (2+(body ((terms kind).take k) v).length) ((hd++body ((terms kind).take k) v).map bcell)∧Below (B3+1) w5 wr) (fun _ i _=>n - (intOf i).toNat)
   case atStart=>exact⟨0,Nat.zero_le _,rfl,rfl,by simpa [body] using hown0,hB6⟩
   case round=>
    obtain⟨k,hkn,rfl,hbad,hown,hb⟩:=hrel;have hbl:(body ((terms kind).take k) v).length≤36:=by
     have h1:=zDh ((terms kind).take k) v (fun p hp=>by have:=zAh kind p (List.mem_of_mem_take hp);omega);have h2:((terms kind).take k).length≤9:=by rw[List.length_take];omega
     omega
    have HBAD:Hid (bad ((terms kind).take k) v=none):=hbad;clear hbad hown0 hB6;have hbr:Below w5.heap.size w5 wr:=by rw[hs5];exact hb
    by_cases hlt:k<n
    ·have hkt:k<(terms kind).length:=by rw[HN.out];exact hlt
     have hok:=zAh kind _ (List.getElem_mem hkt);have hwd:=zDj kind _ (List.getElem_mem hkt);have hbt:=zF7 (terms kind) k hkt v HBAD.out;have hts:body ((terms kind).take (k+1)) v=body ((terms kind).take k) v++be (terms kind)[k].2 (v (terms kind)[k].1):=by
      rw[List.take_succ_eq_append_getElem hkt,zF4]
     have hca:=(hbr.cell (p:=(iA ba k)) (zBf (HA.out k (by rw[HL.out];exact hlt)))).trans (HA.out k (by rw[HL.out];exact hlt));simp only[whichs,List.getElem_map]at hca;generalize hp:(terms kind)[k]=p at *;obtain⟨pa,pb⟩:=p;obtain⟨hp1,hp2,hp3⟩:=hok;simp only at hp1 hp2 hp3 hca hbt hts hwd;have hx:=(hbr.cell (p:=(iA B3 pa)) (by show B3<w5.heap.size;omega)).trans (HARR.out pa hp1);have hwr:Wids wr:=HW5.below hbr;have hcw:=hwr pa hp1;rw[hwd]at hcw;have hr:=HV.out pa hp1;have HTS:Hid (body ((terms kind).take (k+1)) v=body ((terms kind).take k) v++be pb (v pa)):=hts;have HBT:Hid ((fit (pa,pb) (v pa)=true→bad ((terms kind).take (k+1)) v=none)∧(fit (pa,pb) (v pa)=false→bad (terms kind) v=some k)):=hbt;have hfr:Cl 112 #[iV pa,iV (v pa)] wr fun e w'=>e=.returned (.bool (fit (pa,pb) (v pa)))∧w'=wr:=zK8 pa pb (v pa) wr hwr hp1 hwd (by omega) hr.1 hr.2
     have HFR:Hid (Cl 112 #[iV pa,iV (v pa)] wr fun e w'=>e=.returned (.bool (fit (pa,pb) (v pa)))∧w'=wr):=hfr;clear hts hbt hp hkt hfr hwd;generalize hgl:body ((terms kind).take k) v=l at *;clear hgl;generalize hgx:v pa=x at *;clear hgx;have hpz:(0:Int)≤(pa:Int)∧(pa:Int)<9:=by omega
     obtain⟨hr1,hr2⟩:=hr;generalize hft:fit (pa,pb) x=ft at *;clear hft;have hce:=(HE5.below hbr).c2;cases ft with
     |false=>
      have hf:=HBT.2 rfl;have HR:Hid (encRes kind v=([],3,(k:Int))):=by
       show encRes kind v=_;rw[encRes,if_pos ⟨hk1,hk2⟩,hf]
      clear hf;go_wp2_with fail;refine HFR.mono ?_;rintro e w' ⟨rfl,rfl⟩;go_wp2_with fail;go_region;all_goals(try go_wp2)
      all_goals go_ret2
      all_goals
       refine⟨.iface 130 (iP w'.heap.size),?_,?_,HB5.trans ((zA1 hbr _).drew.mono hlt5)⟩
       ·rw[HR.out];rfl
       ·rw[HR.out];exact .inr (.inr ⟨2,w'.heap.size,0,by omega,rfl,rfl,by simp,by simp⟩)
     |true=>
      have hf:=HBT.1 rfl;have HFF:Hid (bad ((terms kind).take (k+1)) v=none):=hf;clear hf;go_wp2_with fail;refine HFR.mono ?_;rintro e w' ⟨rfl,rfl⟩;have HAP:Hid (∀W:World,W.heap=w'.heap→Cl 113 #[u7,iV x,iV pb] W fun e w''=> ∃v',e=.returned v'∧w''.ownsRow (B3+1) 5 1 v' (2+l.length+pb) ((hd++l).map bcell++(be pb x).map bcell)∧Below (B3+1) W w''):=fun W hW=>
       zK5 (B3+1) u7 (2+l.length) ((hd++l).map bcell) x pb W (by omega) (by omega) (by rw[hW];have:=hbr.size;omega) (by unfold World.ownsRow at hown⊢;rw[hW];exact hown) hr1 hr2
      clear hown HFR;go_wp2_with fail;go_region_with(first|(go_at_call 113;refine(HAP.out w'.drew rfl).mono ?_;rintro e w'' ⟨v',rfl,ho,hb'⟩));all_goals
       have HO:Hid (w''.ownsRow (B3+1) 5 1 v' (2+(body ((terms kind).take (k+1)) v).length) ((hd++body ((terms kind).take (k+1)) v).map bcell)):=by
        show w''.ownsRow (B3+1) 5 1 v' _ _;rw[HTS.out,←List.append_assoc,List.map_append,List.length_append,zA2,←Nat.add_assoc];exact ho
       have HBW:Hid (Below (B3+1) w5 w''):=hb.trans ⟨hb'.os,hb'.tape,hb'.output,hb'.size,hb'.block⟩;clear ho hb';go_wp2;go_roundw
       case rel=>exact⟨k+1,by omega,by go_num,HFF.out,HO.out,HBW.out⟩
       case measure=>simp[intOf];omega
    ·have hkn':k=n:=by omega
     subst hkn';have htk:(terms kind).take k=terms kind:=List.take_of_length_le (by rw[HN.out];omega);have HR:Hid (encRes kind v=(hd++body (terms kind) v,0,-1)):=by
      show encRes kind v=_;have h1:=HBAD.out;rw[htk]at h1;rw[encRes,if_pos ⟨hk1,hk2⟩,h1,←HL0.out];simp only[zK7,HF.out];rfl
     rw[htk]at hbl hown;clear htk;generalize hgl:body (terms kind) v=l at *;clear hgl;obtain⟨hcv,g,c,rfl⟩:=zDu wr _ _ _ (hd++l) hown (by simp[hl2]) (by omega);clear hown;go_wp2;go_ret2;refine⟨.nilIface,?_,?_,HB5.trans (hbr.mono hlt5)⟩
     ·rw[HR.out];rfl
     ·rw[HR.out];exact .inl ⟨rfl,rfl,rfl⟩
 ·have hkd:decide (1≤kind∧kind≤5)=false:=by simp;omega
  have HR:Hid (encRes kind v=([],2,-1)):=by show _=_;rw[encRes,if_neg hk]
  rw[hkd];have hc:=(HE.below HB2.out).c1;clear hkd hk hb2 hB1;go_wp2_with fail;go_quiet (fail);go_wp2;go_ret2;refine⟨.iface 325 (.pointer (some (a 1))),?_,?_,Below.drewN' HB2.out _⟩
  ·rw[HR.out];rfl
  ·rw[HR.out];exact .inr (.inl ⟨1,by omega,rfl,rfl,rfl⟩)
end Go.Proofs.YtanfmhonjpjpoaaGreatDoor
