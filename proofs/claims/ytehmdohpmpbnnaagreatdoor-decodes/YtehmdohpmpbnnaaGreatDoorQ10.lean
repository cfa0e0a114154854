import Derived.Test.YtehmdohpmpbnnaaGreatDoorQ00
import Derived.Test.YtehmdohpmpbnnaaGreatDoorQ08
import Derived.Laws.StructEq
import Derived.ChangeKeysEq
import Derived.Deep.RegionHeld
import Derived.Deep.QuietTactic
import Derived.BigQuiet
import Derived.Laws.IdiomStrings
set_option linter.all false
set_option maxRecDepth 100000
set_option maxHeartbeats 8000000
namespace Go.Proofs.YtehmdohpmpbnnaaGreatDoor
open Go.Proofs.Tryz
open Go.Extern Go.RowKit
theorem Tryz.recStruct:prog.underlying 55=some (.struct (prog.fieldsOf 55)):=by kernel_rfl
theorem Tryz.recHeld:prog.stoodInHeld 55=false:=by kernel_rfl
theorem Tryz.jB:prog.eqGuardType prog.depth 55=false:=by kernel_rfl
theorem kX(d:Nat)(xs ys:Array Value)(f:Field)(fs:List Field)(a b:Int)(t:TypeId)(o:Nat)(W:World)(hn:(f.name == "_")=false)(ht:f.type=t)(ho:f.offset=o)(hu:prog.underlying t=some (.int .i64))
 (hx:(part t xs o).run prog W=.ok (.int .i64 a) W) (hy:(part t ys o).run prog W=.ok (.int .i64 b) W):
 (Op.eqFields (d+1) xs ys (f::fs)).run prog W=if a == b then(Op.eqFields (d+1) xs ys fs).run prog W else .ok false W:=by
 have A:f.name≠ "_" :=by simpa using hn
 subst ht ho;rw[Op.eqFields,if_pos A];simp only[Sem.run_bind,hx,hy,Result.andThen_ok,run_equalIn_int W d f.type .i64 .i64 a b hu];cases B:(a == b)<;>simp
theorem eq7(l:List Field)(h:l.map (fun f=>(f.name == "_",f.type,f.offset))= [(false,3,0),(false,3,1),(false,3,2),(false,3,3),(false,3,4),(false,3,5),(false,3,6)])
 (a0 a1 a2 a3 a4 a5 a6 b0 b1 b2 b3 b4 b5 b6:Int) (W:World):
 (((Op.eqFields 9999 #[iV a0,iV a1,iV a2,iV a3,iV a4,iV a5,iV a6] #[iV b0,iV b1,iV b2,iV b3,iV b4,iV b5,iV b6] l).run prog W).andThen fun b w'=>Result.ok (Value.bool (!b)) w')=.ok (Value.bool (!(a0 == b0 && a1 == b1 && a2 == b2 && a3 == b3 && a4 == b4 && a5 == b5 && a6 == b6))) W:=by
 rcases l with _|⟨A,_|⟨B,_|⟨C,_|⟨D,_|⟨E,_|⟨F,_|⟨G,_|⟨k,l⟩⟩⟩⟩⟩⟩⟩⟩
 ·simp at h
 ·simp at h
 ·simp at h
 ·simp at h
 ·simp at h
 ·simp at h
 ·simp at h
 ·simp only[List.map_cons,List.map_nil,List.cons.injEq,Prod.mk.injEq,and_true]at h;obtain⟨⟨H,Y,O⟩,⟨I,Z,R⟩,⟨J,c,S⟩,⟨K,d,T⟩,⟨L,g,U⟩,⟨M,i,V⟩,⟨N,j,X⟩⟩:=h;rw[kX 9998 _ _ A _ a0 b0 3 0 W H Y O underlying3 (by kernel_rfl) (by kernel_rfl),
   kX 9998 _ _ B _ a1 b1 3 1 W I Z R underlying3 (by kernel_rfl) (by kernel_rfl),
   kX 9998 _ _ C _ a2 b2 3 2 W J c S underlying3 (by kernel_rfl) (by kernel_rfl),
   kX 9998 _ _ D _ a3 b3 3 3 W K d T underlying3 (by kernel_rfl) (by kernel_rfl),
   kX 9998 _ _ E _ a4 b4 3 4 W L g U underlying3 (by kernel_rfl) (by kernel_rfl),
   kX 9998 _ _ F _ a5 b5 3 5 W M i V underlying3 (by kernel_rfl) (by kernel_rfl),
   kX 9998 _ _ G _ a6 b6 3 6 W N j X underlying3 (by kernel_rfl) (by kernel_rfl)]
  cases (a0 == b0)<;>cases (a1 == b1)<;>cases (a2 == b2)<;>cases (a3 == b3)<;>cases (a4 == b4)<;>cases (a5 == b5)<;>cases (a6 == b6)<;>rfl
 simp at h
theorem qT(a0 a1 a2 a3 a4 a5 a6 b0 b1 b2 b3 b4 b5 b6:Int)(W:World):
 (binOp .neq 55 (bM a0 a1 a2 a3 a4 a5 a6) (bM b0 b1 b2 b3 b4 b5 b6)).run prog W=.ok (.bool (!(a0 == b0 && a1 == b1 && a2 == b2 && a3 == b3 && a4 == b4 && a5 == b5 && a6 == b6))) W:=by
 have B:=Tryz.recStruct;have C:=Tryz.recHeld;rw[run_neq_struct,run_equalIn_struct W 9999 _ _ _ B C];have A:(prog.fieldsOf 55).toList.map (fun f=>(f.name == "_",f.type,f.offset))= [(false,3,0),(false,3,1),(false,3,2),(false,3,3),(false,3,4),(false,3,5),(false,3,6)]:=by kernel_rfl
 exact eq7 _ A _ _ _ _ _ _ _ _ _ _ _ _ _ _ W
theorem Tryz.arr9:prog.underlying 27=some (.array 9 3):=by kernel_rfl
theorem Tryz.intCells:prog.cellsOf 3=1:=by kernel_rfl
theorem Tryz.intInfo:(prog.info? 3).isSome=true:=by kernel_rfl
theorem Tryz.arrGuard:prog.eqGuardType prog.depth 27=false:=by kernel_rfl
theorem bN(d:Nat)(xs:Array Value)(j:Nat)(is:List Nat)(x:Int)(W:World)(hx:(part 3 xs (j*1)).run prog W=.ok (iV x) W)(h:(Op.eqItems (d+1) 3 1 xs xs is).run prog W=.ok true W):(Op.eqItems (d+1) 3 1 xs xs (j::is)).run prog W=.ok true W:=by
 simp only[Op.eqItems,Sem.run_bind,hx,Result.andThen_ok,run_equalIn_int W d 3 .i64 .i64 x x underlying3];simpa using h
theorem eq9(v:Nat→Int)(W:World):(binOp .eql 27 (vS v) (vS v)).run prog W=.ok (.bool true) W:=by
 obtain⟨i,B⟩:=Option.isSome_iff_exists.1 Tryz.intInfo;have A:=Tryz.arr9;rw[run_eql_struct,run_equalIn_array W 9999 _ _ A B,Tryz.intCells];have:(Op.eqItems 9999 3 1 #[iV (v 0),iV (v 1),iV (v 2),iV (v 3),iV (v 4),iV (v 5),iV (v 6),iV (v 7),iV (v 8)] #[iV (v 0),iV (v 1),iV (v 2),iV (v 3),iV (v 4),iV (v 5),iV (v 6),iV (v 7),iV (v 8)] (List.range 9)).run prog W=.ok true W:=by
  rw[show List.range 9= [0,1,2,3,4,5,6,7,8] from rfl];refine bN 9998 _ 0 _ (v 0) W (by kernel_rfl) ?_;refine bN 9998 _ 1 _ (v 1) W (by kernel_rfl) ?_;refine bN 9998 _ 2 _ (v 2) W (by kernel_rfl) ?_;refine bN 9998 _ 3 _ (v 3) W (by kernel_rfl) ?_;refine bN 9998 _ 4 _ (v 4) W (by kernel_rfl) ?_;refine bN 9998 _ 5 _ (v 5) W (by kernel_rfl) ?_;refine bN 9998 _ 6 _ (v 6) W (by kernel_rfl) ?_;refine bN 9998 _ 7 _ (v 7) W (by kernel_rfl) ?_;refine bN 9998 _ 8 _ (v 8) W (by kernel_rfl) ?_;rfl
 rw[this];rfl
def xD(w:World)(a:Nat→Addr)(err:Value)(n pl:Int):Prop:=
 (err=.nilIface∧n=0∧pl= -1)∨(∃k:Nat,k<8∧err=.iface 309 (.pointer (some (a k)))∧n=(k:Int)+1∧pl= -1)∨
 (∃k b o:Nat,k<8∧err=.iface 124 (.pointer (some (iA b o)))∧n=(k:Int)+1∧w.cell? (iA b o)=sI pl∧w.cell? (iA b (o+1))=some (.iface 309 (.pointer (some (a k)))))
theorem xD.below{w w':World}{a:Nat→Addr}{err:Value}{n pl:Int}(h:xD w a err n pl)(hb:Below w.heap.size w w'):xD w' a err n pl:=by
 rcases h with h|h|⟨k,b,o,C,D,E,A,B⟩
 ·exact .inl h
 ·exact .inr (.inl h)
 exact .inr (.inr ⟨k,b,o,C,D,E,(hb.cell (p:=(iA b o)) (dS A)).trans A,(hb.cell (p:=(iA b (o+1))) (dS (a:=(iA b (o+1))) B)).trans B⟩)
theorem Below.drewN'{B:Nat}{a w:World}(h:Below B a w)(n:Nat):Below B a (w.drewN n):=⟨h.os,h.tape,h.output,h.size,h.block⟩
theorem zEv(w:World)(t:TypeId)(v:Nat→Int)(j:Nat)(hj:j<9):
 (w.alloc (.cells #[iV (v 0),iV (v 1),iV (v 2),iV (v 3),iV (v 4),iV (v 5),iV (v 6),iV (v 7),iV (v 8)] t)).cell? (iA w.heap.size j)=sI (v j):=by
 have h:j=0∨j=1∨j=2∨j=3∨j=4∨j=5∨j=6∨j=7∨j=8:=by omega
 rcases h with rfl|rfl|rfl|rfl|rfl|rfl|rfl|rfl|rfl<;>simp
theorem zEw(w:World)(t:TypeId)(l:List UInt8)(hm:l.length≤1000):((w.alloc (.cells (l.map eB).toArray t)).drew).ownsRow w.heap.size t 1 (sL w.heap.size l.length l.length) l.length (l.map eB):=by
 refine⟨by simp,.inr ⟨w.heap.size,l.length,(l.map eB).toArray,rfl,Nat.le_refl _,?_,Nat.le_refl _,by unfold maxLen;omega,by simp,?_⟩⟩
 ·show(w.alloc _).heap[w.heap.size]? =_;exact heap_alloc_new w _
 rw[List.take_of_length_le (by simp)]
theorem zAo(W:World)(B:Nat)(v:Value)(n:Nat)(l:List UInt8)(h:W.ownsRow B 5 1 v n (l.map eB))(hn:l.length=n)(h0:0<n):
 (convert 86 9 v).run prog W=.ok (.string ⟨l.toArray⟩) W∧∃g c,v=sL g n c:=by
 have C:= @World.ownsRow.cells _ _ _ _ _ _ _ h;obtain⟨J,E⟩:=h;rcases E with⟨rfl,rfl⟩|⟨g,A,D,rfl,K,L,G,M,H,I⟩
 ·omega
 subst hn;refine⟨run_convert_bytes_back W 86 9 5 (iA g 0) A l underlying86 underlying5 underlying9 ?_,g,A,rfl⟩;intro j F;exact C rfl j _ (by simp[F,eB])
theorem zEx(a:Nat→Addr)(s:Nat→ByteArray)(kind:Int)(v:Nat→Int)(w:World)(hE:lq w a s)(hW:qx w)(hv:∀i,i<9→-9223372036854775808≤v i∧v i≤9223372036854775807):
 Cl 54 #[dD kind v] w fun e w'=>
  ∃err,e=rV #[.string ⟨(jl kind v).1.toArray⟩,err]∧xD w' a err (jl kind v).2.1 (jl kind v).2.2∧Below w.heap.size w w':=by
 have HV:Hd (∀i,i<9→-9223372036854775808≤v i∧v i≤9223372036854775807):=hv;have HE:Hd (lq w a s):=hE;have HW:Hd (qx w):=hW;clear hv hE hW;have A0:Below w.heap.size w (w.alloc (.cells #[iV kind,iV (v 0),iV (v 1),iV (v 2),iV (v 3),iV (v 4),iV (v 5),iV (v 6),iV (v 7),iV (v 8)] 81)):=(Below.refl _ _).alloc (Nat.le_refl _) _;go_enter func54,ntmps54;go_wp2_with fail;refine(pZ kind _).mono ?_;rintro e w2 ⟨ta,rfl,Ah,A⟩;have b:Hd (Below w.heap.size w w2):=A0.trans (A.mono (by simp));by_cases hk:1≤kind∧kind≤5
 ·have T:decide (1≤kind∧kind≤5)=true:=by simp;omega
  rw[T];have A5:w.heap.size<w2.heap.size:=by have:=A.size;simp at this;omega
  have Ag:=(A.cell (p:=(iA w.heap.size 0)) (by simp)).trans (show _=sI kind by simp);have Ar:=(A.cell (p:=(iA w.heap.size 1)) (by simp)).trans (show _=sI (v 0) by simp);have As:=(A.cell (p:=(iA w.heap.size 2)) (by simp)).trans (show _=sI (v 1) by simp);have At:=(A.cell (p:=(iA w.heap.size 3)) (by simp)).trans (show _=sI (v 2) by simp);have Au:=(A.cell (p:=(iA w.heap.size 4)) (by simp)).trans (show _=sI (v 3) by simp);have Av:=(A.cell (p:=(iA w.heap.size 5)) (by simp)).trans (show _=sI (v 4) by simp);have Aw:=(A.cell (p:=(iA w.heap.size 6)) (by simp)).trans (show _=sI (v 5) by simp);have Ax:=(A.cell (p:=(iA w.heap.size 7)) (by simp)).trans (show _=sI (v 6) by simp);have Ay:=(A.cell (p:=(iA w.heap.size 8)) (by simp)).trans (show _=sI (v 7) by simp);have Az:=(A.cell (p:=(iA w.heap.size 9)) (by simp)).trans (show _=sI (v 8) by simp);clear T A A0;go_wp2_with fail;refine(zEm v _).mono ?_
  rintro e Z ⟨rfl,N⟩;have q:=Ah.below N;have B4:=(N.cell (p:=(iA w.heap.size 0)) A5).trans Ag;have z:Hd (Below w.heap.size w Z):=b.trans (N.mono (Nat.le_of_lt A5));have Bi:w.heap.size<Z.heap.size:=Nat.lt_of_lt_of_le A5 N.size;clear Ag Ar As At Au Av Aw Ax Ay Az N Ah b;have Ae:=HW.below z.o;have Be:=zBc (terms kind) (fun p hp=>by have:=bX kind p hp;omega);have Bg:=kC kind;generalize hF:kN (terms kind)=F at *;have HF:Hd (kN (terms kind)=F):=hF;have S:=q.below ((Below.refl _ _).alloc (Nat.le_refl _) (.cells #[iV (v 0),iV (v 1),iV (v 2),iV (v 3),iV (v 4),iV (v 5),iV (v 6),iV (v 7),iV (v 8)] 27));have Af:=Ae.below ((Below.refl _ _).alloc (Nat.le_refl _) (.cells #[iV (v 0),iV (v 1),iV (v 2),iV (v 3),iV (v 4),iV (v 5),iV (v 6),iV (v 7),iV (v 8)] 27));have R:∀W:World,gG W ta (mz kind)→qx W→Cl 89 #[ta] W fun e w'=>e=.returned (iV (2+F))∧w'=W:=fun W h1 h2=>by
   have:=mM kind ta W h1 h2;rw[hF]at this;exact this
  have I:Hd (∀W:World,gG W ta (mz kind)→qx W→Cl 89 #[ta] W fun e w'=>e=.returned (iV (2+F))∧w'=W):=R;clear hF R;go_wp2_with fail
  go_region_held (fun w'=>w'.cell? (iA w.heap.size 0)=sI kind) (go_keep)
   (first|(go_at_call 89;refine(I.o _ ?_ ?_).mono ?_;exact S;exact Af;rintro e w' ⟨rfl,rfl⟩))
  have Bb:Hd (byteOf (F+1)=byteOf (F+1)):=rfl;obtain⟨A2,A3⟩:=hk;have A6:((Z.alloc (.cells #[iV (v 0),iV (v 1),iV (v 2),iV (v 3),iV (v 4),iV (v 5),iV (v 6),iV (v 7),iV (v 8)] 27))).heap.size=Z.heap.size+1:=by simp
  have A9:Hd (∀j,j<9→((Z.alloc (.cells #[iV (v 0),iV (v 1),iV (v 2),iV (v 3),iV (v 4),iV (v 5),iV (v 6),iV (v 7),iV (v 8)] 27))).cell? (iA Z.heap.size j)=sI (v j)):=fun j hj=>by
   exact zEv Z 27 v j hj
  have H:Hd (Below w.heap.size w ((Z.alloc (.cells #[iV (v 0),iV (v 1),iV (v 2),iV (v 3),iV (v 4),iV (v 5),iV (v 6),iV (v 7),iV (v 8)] 27)))):=fu z.o _;have Ab:Hd (gG ((Z.alloc (.cells #[iV (v 0),iV (v 1),iV (v 2),iV (v 3),iV (v 4),iV (v 5),iV (v 6),iV (v 7),iV (v 8)] 27))) ta (mz kind)):=S;clear S q Ae Af I z B4;generalize ((Z.alloc (.cells #[iV (v 0),iV (v 1),iV (v 2),iV (v 3),iV (v 4),iV (v 5),iV (v 6),iV (v 7),iV (v 8)] 27)))=w5 at *;generalize Z.heap.size=B3 at *;have G:(#[.int .u8 (IntKind.u8.wrap (IntKind.i64.wrap (2+F - 1))),.int .u8 (IntKind.u8.wrap kind)]:Array Value)=([byteOf (F+1),byteOf kind].map eB).toArray:=by
   have e1:IntKind.u8.wrap (IntKind.i64.wrap (2+F - 1))=(F+1) % 256:=by
    rw[IntKind.wrap_u8,show IntKind.i64.wrap (2+F - 1)=2+F - 1 from by simp only[IntKind.wrap,IntKind.bits,IntKind.signed];simp;omega]
    congr 1;omega
   have e2:IntKind.u8.wrap kind=kind % 256:=IntKind.wrap_u8 kind;simp[eB,zAj,e1,e2]
  rw[G];clear G;generalize hz3:IntKind.u8.wrap (IntKind.i64.wrap (2+F - 1))=z3 at *;clear hz3;generalize hz1:IntKind.i64.wrap (2+F - 1)=z1 at *;clear hz1;generalize hz2:IntKind.u8.wrap kind=z2 at *;clear hz2;have B:=zEw w5 5 [byteOf (F+1),byteOf kind] (by simp);have Ad:Hd (qx w5):=HW.below H.o;have An:Hd (lq w5 a s):=HE.below H.o;have u:w.heap.size≤w5.heap.size:=H.size;rw[A6]at B;simp only[List.length_cons,List.length_nil]at B;generalize hL:[byteOf (F+1),byteOf kind]=hd at *;have Ac:Hd ([byteOf (F+1),byteOf kind]=hd):=hL;have Aj:hd.length=2:=by rw[←hL];rfl
  clear hL;have M:Below w5.heap.size w5 ((w5.alloc (.cells (hd.map eB).toArray 5)).drew):=((Below.refl _ _).alloc (Nat.le_refl _) _).drew;rw[A6]at M;generalize (w5.alloc (.cells (hd.map eB).toArray 5)).drew=w6 at *;have Bc:Hd (qx w5):=Ad;rcases Ab.o with⟨rfl,y⟩|⟨ba,rfl,B5,O⟩
  ·have ht:terms kind= []:=by simpa [mz] using y
   have L:Hd (jl kind v=(hd,0,-1)):=by
    show jl kind v=_;have B2:F=0:=by rw[←HF.o,ht];rfl
    rw[jl,if_pos ⟨A2,A3⟩,ht,←Ac.o,B2];rfl
   obtain⟨B0,-⟩:=zAo w6 _ _ _ hd B Aj (by omega);have HO:Hd (Below w.heap.size w w6):=H.trans (M.mono (by omega));clear ht y M B;go_wp2_with fail;refine wp_loop_rounds 1 ?_;rw[rounds_succ];go_wp2;go_ret2;refine⟨.nilIface,?_,?_,HO.o⟩
   ·rw[L.o];rfl
   rw[L.o];exact .inl ⟨rfl,rfl,rfl⟩
  have V:(mz kind).length=(terms kind).length:=by simp[mz]
  rw[V];have HA:Hd (∀i (h:i<(mz kind).length),w5.cell? (iA ba i)=sI ((mz kind)[i])):=O;have HL:Hd ((mz kind).length=(terms kind).length):=V;clear O B5 V Ab;generalize hN:(terms kind).length=n at *;have HN:Hd ((terms kind).length=n):=hN;clear hN;go_wp2_with fail;go_loopw [7,32] (fun t i wr=> ∃k:Nat,k≤n∧i=iV k∧bad ((terms kind).take k) v=none∧wr.ownsRow (B3+1) 5 1 t (2+(body ((terms kind).take k) v).length) ((hd++body ((terms kind).take k) v).map eB)∧Below (B3+1) w5 wr) (fun _ i _=>n - (intOf i).toNat)
  case atStart=>exact⟨0,Nat.zero_le _,rfl,rfl,by simpa [body] using B,M⟩
  case round=>
   obtain⟨k,Bf,rfl,m,D,hb⟩:=hrel;have Aq:(body ((terms kind).take k) v).length≤36:=by
    have h1:=qN ((terms kind).take k) v (fun p hp=>by have:=bX kind p (List.mem_of_mem_take hp);omega);have h2:((terms kind).take k).length≤9:=by rw[List.length_take];omega
    omega
   have f:Hd (bad ((terms kind).take k) v=none):=m;clear m B M;have E:Below w5.heap.size w5 wr:=by rw[A6];exact hb
   by_cases A4:k<n
   ·have U:k<(terms kind).length:=by rw[HN.o];exact A4
    have B6:=bX kind _ (List.getElem_mem U);have d:=zAk kind _ (List.getElem_mem U);have A1:=zBb (terms kind) k U v f.o;have A8:body ((terms kind).take (k+1)) v=body ((terms kind).take k) v++be (terms kind)[k].2 (v (terms kind)[k].1):=by
     rw[List.take_succ_eq_append_getElem U,zB8]
    have O:=(E.cell (p:=(iA ba k)) (dS (HA.o k (by rw[HL.o];exact A4)))).trans (HA.o k (by rw[HL.o];exact A4));simp only[mz,List.getElem_map]at O;generalize hp:(terms kind)[k]=p at *;obtain⟨C,Y⟩:=p;obtain⟨X,B7,B8⟩:=B6;simp only at X B7 B8 O A1 A8 d;have hx:=(E.cell (p:=(iA B3 C)) (by show B3<w5.heap.size;omega)).trans (A9.o C X);have Ak:qx wr:=Ad.below E;have B1:=Ak C X;rw[d]at B1;have hr:=HV.o C X;have Ap:Hd (body ((terms kind).take (k+1)) v=body ((terms kind).take k) v++be Y (v C)):=A8;have Aa:Hd ((fit (C,Y) (v C)=true→bad ((terms kind).take (k+1)) v=none)∧(fit (C,Y) (v C)=false→bad (terms kind) v=some k)):=A1;have R:Cl 90 #[iV C,iV (v C)] wr fun e w'=>e=.returned (.bool (fit (C,Y) (v C)))∧w'=wr:=zEb C Y (v C) wr Ak X d (by omega) hr.1 hr.2
    have I:Hd (Cl 90 #[iV C,iV (v C)] wr fun e w'=>e=.returned (.bool (fit (C,Y) (v C)))∧w'=wr):=R;clear A8 A1 hp U R d;generalize hgl:body ((terms kind).take k) v=l at *;clear hgl;generalize hgx:v C=x at *;clear hgx;have Bh:(0:Int)≤(C:Int)∧(C:Int)<9:=by omega
    obtain⟨B9,Ba⟩:=hr;generalize hft:fit (C,Y) x=ft at *;clear hft;have Bd:=(An.below E).c2;cases ft with
    |false=>
     have hf:=Aa.2 rfl;have L:Hd (jl kind v=([],3,(k:Int))):=by
      show jl kind v=_;rw[jl,if_pos ⟨A2,A3⟩,hf]
     clear hf;go_wp2_with fail;refine I.mono ?_;rintro e w' ⟨rfl,rfl⟩;go_wp2_with fail;go_region;all_goals(try go_wp2)
     all_goals go_ret2
     all_goals
      refine⟨.iface 124 (iP w'.heap.size),?_,?_,H.trans ((fu E _).drew.mono u)⟩
      ·rw[L.o];rfl
      rw[L.o];exact .inr (.inr ⟨2,w'.heap.size,0,by omega,rfl,rfl,by simp,by simp⟩)
    |true=>
     have hf:=Aa.1 rfl;have Ao:Hd (bad ((terms kind).take (k+1)) v=none):=hf;clear hf;go_wp2_with fail;refine I.mono ?_;rintro e w' ⟨rfl,rfl⟩;have Al:Hd (∀W:World,W.heap=w'.heap→Cl 91 #[u7,iV x,iV Y] W fun e K=> ∃v',e=.returned v'∧K.ownsRow (B3+1) 5 1 v' (2+l.length+Y) ((hd++l).map eB++(be Y x).map eB)∧Below (B3+1) W K):=fun W hW=>
      zE8 (B3+1) u7 (2+l.length) ((hd++l).map eB) x Y W (by omega) (by omega) (by rw[hW];have:=E.size;omega) (by unfold World.ownsRow at D⊢;rw[hW];exact D) B9 Ba
     clear D I;go_wp2_with fail;go_region_with(first|(go_at_call 91;refine(Al.o w'.drew rfl).mono ?_;rintro e K ⟨v',rfl,ho,J⟩));all_goals
      have HO:Hd (K.ownsRow (B3+1) 5 1 v' (2+(body ((terms kind).take (k+1)) v).length) ((hd++body ((terms kind).take (k+1)) v).map eB)):=by
       show K.ownsRow (B3+1) 5 1 v' _ _;rw[Ap.o,←List.append_assoc,List.map_append,List.length_append,zl,←Nat.add_assoc];exact ho
      have Am:Hd (Below (B3+1) w5 K):=hb.trans ⟨J.os,J.tape,J.output,J.size,J.block⟩;clear ho J;go_wp2;go_roundw
      case rel=>exact⟨k+1,by omega,by go_num,Ao.o,HO.o,Am.o⟩
      case measure=>simp[intOf];omega
   have Ai:k=n:=by omega
   subst Ai;have A7:(terms kind).take k=terms kind:=List.take_of_length_le (by rw[HN.o];omega);have L:Hd (jl kind v=(hd++body (terms kind) v,0,-1)):=by
    show jl kind v=_;have h1:=f.o;rw[A7]at h1;rw[jl,if_pos ⟨A2,A3⟩,h1,←Ac.o];simp only[zEa,HF.o];rfl
   rw[A7]at Aq D;clear A7;generalize hgl:body (terms kind) v=l at *;clear hgl;obtain⟨B0,g,c,rfl⟩:=zAo wr _ _ _ (hd++l) D (by simp[Aj]) (by omega);clear D;go_wp2;go_ret2;refine⟨.nilIface,?_,?_,H.trans (E.mono u)⟩
   ·rw[L.o];rfl
   rw[L.o];exact .inl ⟨rfl,rfl,rfl⟩
 have T:decide (1≤kind∧kind≤5)=false:=by simp;omega
 have L:Hd (jl kind v=([],2,-1)):=by show _=_;rw[jl,if_neg hk]
 rw[T];have hc:=(HE.below b.o).c1;clear T hk A A0;go_wp2_with fail;go_quiet (fail);go_wp2;go_ret2;refine⟨.iface 309 (.pointer (some (a 1))),?_,?_,Below.drewN' b.o _⟩
 ·rw[L.o];rfl
 rw[L.o];exact .inr (.inl ⟨1,by omega,rfl,rfl,rfl⟩)
end Go.Proofs.YtehmdohpmpbnnaaGreatDoor
