import Derived.Test.YtanfmhonjpjpoaaGreatDoorQ00
import Derived.Test.YtanfmhonjpjpoaaGreatDoorQ39
set_option linter.all false
set_option maxRecDepth 100000
set_option maxHeartbeats 8000000
namespace Go.Proofs.YtanfmhonjpjpoaaGreatDoor
variable{w0 w w':World}{wb n:Nat}{e:Eng}{ad:Nat→Addr}{st:Nat→ByteArray}{ds:List Int}
open Go.Extern Go.Maps Go.RowKit
theorem kspoilt3(h:GW w0 w wb e n)(hn:n≤20000)(hE:Errs w0 ad st)(kk a bb:Int)(ha: -9223372036854775808≤a∧a≤9223372036854775807)(hbb: -9223372036854775808≤bb∧bb≤9223372036854775807)(v:Nat→Int)(hc5:pickI a 5=3):
 Calls Tryz.prog 16 #[.pointer (some ⟨wb,0,none⟩),.agg #[.int .i64 kk,.int .i64 a,.int .i64 bb,.int .i64 (v 0),.int .i64 (v 1),.int .i64 (v 2),.int .i64 (v 3),.int .i64 (v 4),.int .i64 (v 5),.int .i64 (v 6),.int .i64 (v 7),.int .i64 (v 8)]] w fun en w'=>en=.returned (.bool true)∧Hid (Below w.heap.size w w'):=by
 have hwl:=h.ke.2.2.1;have hB1:Below w.heap.size w (w.alloc (.cells #[.int .i64 kk,.int .i64 a,.int .i64 bb,.int .i64 (v 0),.int .i64 (v 1),.int .i64 (v 2),.int .i64 (v 3),.int .i64 (v 4),.int .i64 (v 5),.int .i64 (v 6),.int .i64 (v 7),.int .i64 (v 8)] 37)):=(Below.refl _ _).alloc (Nat.le_refl _) _;have h1:=h.below hB1;obtain⟨rs,c6,hrun,hl⟩:=h1.c6;have c7:=h1.c7;have hbn:=h.bnd;have HER:Hid (∀W,Below w.heap.size w W→Errs W ad st):=fun W hW=>hE.below (zAa h.ke.1 hW)
 have b1:(w.alloc (.cells #[.int .i64 kk,.int .i64 a,.int .i64 bb,.int .i64 (v 0),.int .i64 (v 1),.int .i64 (v 2),.int .i64 (v 3),.int .i64 (v 4),.int .i64 (v 5),.int .i64 (v 6),.int .i64 (v 7),.int .i64 (v 8)] 37)).cell? ⟨w.heap.size,1,none⟩=some (.int .i64 a):=by rw[World.cell?_alloc_at _ _ _ _ rfl];rfl
 have b2:(w.alloc (.cells #[.int .i64 kk,.int .i64 a,.int .i64 bb,.int .i64 (v 0),.int .i64 (v 1),.int .i64 (v 2),.int .i64 (v 3),.int .i64 (v 4),.int .i64 (v 5),.int .i64 (v 6),.int .i64 (v 7),.int .i64 (v 8)] 37)).cell? ⟨w.heap.size,2,none⟩=some (.int .i64 bb):=by rw[World.cell?_alloc_at _ _ _ _ rfl];rfl
 have HB:=hid hB1;generalize hm:e.seq=m at *;have hmb:rs.length≤42000000:=by omega
 clear h h1 hE hB1 hwl hbn hn hm;by_cases hm0:m=0
 ·subst hm0;go_enter Tryz.func16,Tryz.ntmps16;go_wp2;go_ret;exact⟨rfl,HB⟩
 obtain⟨i,hi⟩: ∃i:Nat,(i:Int)=pickI bb m:=⟨(pickI bb m).toNat,by have:=zA bb (n:=m) (by omega);omega⟩;have him:i<m:=by have:=zA bb (n:=m) (by omega);omega
 obtain⟨r7,hr7⟩: ∃i:Nat,(i:Int)=pickI bb 7:=⟨(pickI bb 7).toNat,by have:=zA bb (n:=7) (by omega);omega⟩;have hr7b:r7<7:=by have:=zA bb (n:=7) (by omega);omega
 obtain⟨r21,hr21⟩: ∃i:Nat,(i:Int)=pickI bb 21:=⟨(pickI bb 21).toNat,by have:=zA bb (n:=21) (by omega);omega⟩;have hr21b:r21<21:=by have:=zA bb (n:=21) (by omega);omega
 obtain⟨cc,hcc⟩: ∃c:Int,c=pickI a 5:=⟨_,rfl⟩;have hcb:cc=3:=hcc.trans hc5;have HPI:Hid (∀W,Calls Tryz.prog 14 #[.int .i64 bb,.int .i64 (m:Int)] W fun en w'=>en=.returned (.int .i64 (i:Int))∧w'=W):=fun W=>by rw[hi];exact kpick W bb m hbb (by omega)
 have HP7:Hid (∀W,Calls Tryz.prog 14 #[.int .i64 bb,.int .i64 7] W fun en w'=>en=.returned (.int .i64 (r7:Int))∧w'=W):=fun W=>by rw[hr7];exact kpick W bb 7 hbb (by omega)
 have HP21:Hid (∀W,Calls Tryz.prog 14 #[.int .i64 bb,.int .i64 21] W fun en w'=>en=.returned (.int .i64 (r21:Int))∧w'=W):=fun W=>by rw[hr21];exact kpick W bb 21 hbb (by omega)
 have HPA:Hid (∀W,Calls Tryz.prog 14 #[.int .i64 a,.int .i64 5] W fun en w'=>en=.returned (.int .i64 cc)∧w'=W):=fun W=>by rw[hcc];exact kpick W a 5 ha (by omega)
 have HM:=hid (And.intro hrun (And.intro hl (And.intro hmb (And.intro him (And.intro hr7b hr21b)))));clear hc5 hi hr7 hr21 hcc hrun hl hmb hr7b hr21b ha hbb;have e0:((m:Int) == 0)=false:=by simpa using (show¬(m:Int)=0 by omega)
 obtain⟨at',hat⟩: ∃x:Int,x=22*(i:Int):=⟨_,rfl⟩;obtain⟨nx,hnx⟩: ∃x:Int,x=22*(i:Int)+22:=⟨_,rfl⟩;obtain⟨fr,hfr⟩: ∃x:Int,x=(i:Int)+1:=⟨_,rfl⟩;have w1:wrap64 (22*(i:Int))=at':=by rw[hat];have:=HM.out.2;unfold wrap64;omega
 have w2:wrap64 (at' +22)=nx:=by rw[hat,hnx];have:=HM.out.2;unfold wrap64;omega
 have w3:wrap64 ((i:Int)+1)=fr:=by rw[hfr];have:=HM.out.2;unfold wrap64;omega
 have HV:=hid (And.intro hat (And.intro hnx hfr));clear hat hnx hfr him;generalize hS:ba (encR 0 rs)=S at *;have HS:=hid hS;clear hS;have HSZ:Hid (S.size=22*m):=by show S.size=22*m;rw[←HS.out,zA3,zAt,HM.out.2.1]
 go_enter Tryz.func16,Tryz.ntmps16;go_wp2_with fail;generalize (w.alloc (.cells #[.int .i64 kk,.int .i64 a,.int .i64 bb,.int .i64 (v 0),.int .i64 (v 1),.int .i64 (v 2),.int .i64 (v 3),.int .i64 (v 4),.int .i64 (v 5),.int .i64 (v 6),.int .i64 (v 7),.int .i64 (v 8)] 37))=W at *;generalize hbx:w.heap.size=bx at *;have HBXE:=hid hbx;clear hbx;go_region_held3(fun X=>X.cell? ⟨bx,2,none⟩=some (.int .i64 bb)∧X.cell? ⟨wb,7,none⟩=some (.int .i64 (m:Int))) (go_keep) (first
  |(with_reducible refine(HPI.out _).mono ?_;rintro en w' ⟨rfl,rfl⟩))
 have d6:W.drew.cell? ⟨wb,6,none⟩=some (.string S):=c6;have d7:W.drew.cell? ⟨wb,7,none⟩=some (.int .i64 (m:Int)):=c7;have a1:W.drew.cell? ⟨bx,1,none⟩=some (.int .i64 a):=b1;have a2:W.drew.cell? ⟨bx,2,none⟩=some (.int .i64 bb):=b2;have HB2:Hid (∀W',Below W.drew.heap.size W.drew W'→Below w.heap.size w W'):=fun W' hW'=>by
  have h1:Below w.heap.size w W.drew:=by
   rw[HBXE.out];exact⟨HB.out.os,HB.out.tape,HB.out.output,HB.out.size,HB.out.block⟩
  exact h1.trans (hW'.mono h1.size)
 have HER2:Hid (∀k,Errs (W.drew.drewN k) ad st):=fun k=>HER.out _ ⟨HB.out.os,HB.out.tape,HB.out.output,HB.out.size,HB.out.block⟩
 have HER1:Hid (Errs W.drew ad st):=HER.out _ ⟨HB.out.os,HB.out.tape,HB.out.output,HB.out.size,HB.out.block⟩;clear c6 c7 b1 b2 HB HPI HER;generalize W.drew=V at *;go_wp2_with fail;refine(HPA.out _).mono ?_;rintro en V ⟨rfl,rfl⟩;clear HPA;have HDN:Hid (∀k W',Below (V.drewN k).heap.size (V.drewN k) W'→Below V.heap.size V W'):=fun k W' hW'=>⟨hW'.os,hW'.tape,hW'.output,hW'.size,hW'.block⟩
 obtain⟨P1,hP1⟩: ∃P:ByteArray,P=S.extract 0 (22*i):=⟨_,rfl⟩;obtain⟨P2,hP2⟩: ∃P:ByteArray,P=S.extract (22*(i+1)) S.size:=⟨_,rfl⟩;obtain⟨P3,hP3⟩: ∃P:ByteArray,P=S.extract 0 (22*(i+1)):=⟨_,rfl⟩;obtain⟨P4,hP4⟩: ∃P:ByteArray,P=S.extract (22*i) S.size:=⟨_,rfl⟩;have hc1: ∀W,(Instr.slice 9 (.string S) none (some (.int .i64 at')) none).run Tryz.prog W=.ok (.string P1) W:=fun W=>by
  rw[run_slice_string_to_if W 9 S .i64 at' Tryz.underlying9,if_pos (by rw[HV.out.1,HSZ.out];have:=HM.out.2;omega),hP1]
  congr 3
  rw[HV.out.1];omega
 have hc2: ∀W,(Instr.slice 9 (.string S) (some (.int .i64 nx)) none none).run Tryz.prog W=.ok (.string P2) W:=fun W=>by
  rw[run_slice_string_from_if W 9 S .i64 nx Tryz.underlying9,if_pos (by rw[HV.out.2.1,HSZ.out];have:=HM.out.2;omega),hP2]
  congr 3
  rw[HV.out.2.1];omega
 have hc3: ∀W,(Instr.slice 9 (.string S) none (some (.int .i64 nx)) none).run Tryz.prog W=.ok (.string P3) W:=fun W=>by
  rw[run_slice_string_to_if W 9 S .i64 nx Tryz.underlying9,if_pos (by rw[HV.out.2.1,HSZ.out];have:=HM.out.2;omega),hP3]
  congr 3
  rw[HV.out.2.1];omega
 have hc4: ∀W,(Instr.slice 9 (.string S) (some (.int .i64 at')) none none).run Tryz.prog W=.ok (.string P4) W:=fun W=>by
  rw[run_slice_string_from_if W 9 S .i64 at' Tryz.underlying9,if_pos (by rw[HV.out.1,HSZ.out];have:=HM.out.2;omega),hP4]
  congr 3
  rw[HV.out.1];omega
 have HP1:Hid (P1=ba ((chunks 0 rs).take i).flatten):=by show P1=_;rw[hP1,←HS.out,zAv]
 have HP2:Hid (P2=ba ((chunks 0 rs).drop (i+1)).flatten):=by show P2=_;rw[hP2,←HS.out,zAq]
 have HP3:Hid (P3=ba ((chunks 0 rs).take (i+1)).flatten):=by show P3=_;rw[hP3,←HS.out,zAv]
 have HP4:Hid (P4=ba ((chunks 0 rs).drop i).flatten):=by show P4=_;rw[hP4,←HS.out,zAq]
 have HPZ:Hid (P1.size≤1000000000∧P2.size≤1000000000∧P3.size≤1000000000∧P4.size≤1000000000):=by
  have hx: ∀a c,(S.extract a c).size≤S.size:=fun a c=>by rw[ByteArray.size_extract];omega
  have h0:=HSZ.out;have h1:=HM.out.2;have e1:=hx 0 (22*i);have e2:=hx (22*(i+1)) S.size;have e3:=hx 0 (22*(i+1));have e4:=hx (22*i) S.size;rw[←hP1]at e1;rw[←hP2]at e2;rw[←hP3]at e3;rw[←hP4]at e4;exact⟨by omega,by omega,by omega,by omega⟩
 clear hP1 hP2 hP3 hP4;have HCL:Hid ((chunks 0 rs).length=m):=(zBp rs 0).trans HM.out.2.1;obtain⟨mm,hmm⟩: ∃x:Int,x=(m:Int) - 1:=⟨_,rfl⟩;have w4:wrap64 ((m:Int) - 1)=mm:=by rw[hmm];have:=HM.out.2;unfold wrap64;omega
 have HMM:=hid hmm;clear hmm;subst hcb;clear hc2 hc3 hc4;obtain⟨jj,hjj⟩: ∃x:Int,x=(i:Int)+1+(r7:Int):=⟨_,rfl⟩;have w6:wrap64 (fr+(r7:Int))=jj:=by rw[hjj,HV.out.2.2];have:=HM.out.2;unfold wrap64;omega
 go_wp2_with fail;refine(HP7.out _).mono ?_;rintro en V ⟨rfl,rfl⟩;by_cases hjm:m≤i+1+r7
 ·have hge:(m:Int)≤jj:=by rw[hjj];omega
  clear hjj;go_wp2;go_ret;exact⟨rfl,hid (HB2.out _ (Below.refl _ _))⟩
 ·have hge: ¬(m:Int)≤jj:=by rw[hjj];omega
  obtain⟨j,hj⟩: ∃j:Nat,j=i+1+r7:=⟨_,rfl⟩;have hjv:jj=(j:Int):=by rw[hjj,hj];omega
  obtain⟨kx,hkx⟩: ∃x:Int,x=22*(j:Int):=⟨_,rfl⟩;obtain⟨kn,hkn⟩: ∃x:Int,x=22*(j:Int)+22:=⟨_,rfl⟩;have w7:wrap64 (22*jj)=kx:=by rw[hkx,hjv];have:=HM.out.2;unfold wrap64;omega
  have w8:wrap64 (kx+22)=kn:=by rw[hkx,hkn];have:=HM.out.2;unfold wrap64;omega
  have w8':IntKind.i64.wrap (kx+22)=kn:=by rw[wrapEqK];exact w8
  obtain⟨P5,hP5⟩: ∃P:ByteArray,P=S.extract (22*j) (22*(j+1)):=⟨_,rfl⟩;obtain⟨P6,hP6⟩: ∃P:ByteArray,P=S.extract (22*(i+1)) (22*j):=⟨_,rfl⟩;obtain⟨P7,hP7⟩: ∃P:ByteArray,P=S.extract (22*i) (22*(i+1)):=⟨_,rfl⟩;obtain⟨P8,hP8⟩: ∃P:ByteArray,P=S.extract (22*(j+1)) S.size:=⟨_,rfl⟩;have hc5: ∀W,(Instr.slice 9 (.string S) (some (.int .i64 kx)) (some (.int .i64 kn)) none).run Tryz.prog W=.ok (.string P5) W:=fun W=>by
   rw[run_slice_string_if W 9 S .i64 .i64 kx kn Tryz.underlying9,if_pos (by rw[hkn,HSZ.out];omega),if_pos (by rw[hkx,hkn];omega),hP5]
   congr 3
   ·rw[hkx];omega
   ·rw[hkn];omega
  have hc6: ∀W,(Instr.slice 9 (.string S) (some (.int .i64 nx)) (some (.int .i64 kx)) none).run Tryz.prog W=.ok (.string P6) W:=fun W=>by
   rw[run_slice_string_if W 9 S .i64 .i64 nx kx Tryz.underlying9,if_pos (by rw[hkx,HSZ.out];omega),if_pos (by rw[hkx,HV.out.2.1];omega),hP6]
   congr 3
   ·rw[HV.out.2.1];omega
   ·rw[hkx];omega
  have hc7: ∀W,(Instr.slice 9 (.string S) (some (.int .i64 at')) (some (.int .i64 nx)) none).run Tryz.prog W=.ok (.string P7) W:=fun W=>by
   rw[run_slice_string_if W 9 S .i64 .i64 at' nx Tryz.underlying9,if_pos (by rw[HV.out.2.1,HSZ.out];have:=HM.out.2;omega),if_pos (by rw[HV.out.1,HV.out.2.1];omega),hP7]
   congr 3
   ·rw[HV.out.1];omega
   ·rw[HV.out.2.1];omega
  have hc8: ∀W,(Instr.slice 9 (.string S) (some (.int .i64 kn)) none none).run Tryz.prog W=.ok (.string P8) W:=fun W=>by
   rw[run_slice_string_from_if W 9 S .i64 kn Tryz.underlying9,if_pos (by rw[hkn,HSZ.out];omega),hP8]
   congr 3
   rw[hkn];omega
  have HX:Hid (∀W,Errs W ad st→Calls Tryz.prog 17 #[.string ((((P1++P5)++P6)++P7)++P8)] W fun en w'=> ∃nn:Int,en=.returned (.tuple #[.slice none 0 0,.int .i64 nn,.int .i64 fr])∧(nn != 0)=true∧Hid (Below W.heap.size W w')):=by
   have hcl:=HCL.out;have hjl:j<(chunks 0 rs).length:=by omega
   have one: ∀l,l<(chunks 0 rs).length→((chunks 0 rs).drop l).take (l+1 - l)= [(chunks 0 rs)[l]!]:=fun l hl=>by
    rw[show l+1 - l=1 by omega,List.drop_eq_getElem_cons hl,List.take_succ_cons,List.take_zero,getElem!_pos (chunks 0 rs) l hl]
   refine zD9 HM.out.1 HM.out.2.2.1 i (by have:=HM.out.2;omega) (((chunks 0 rs).drop j).take (j+1 - j)++(((chunks 0 rs).drop (i+1)).take (j - (i+1))++(((chunks 0 rs).drop i).take (i+1 - i)++(chunks 0 rs).drop (j+1)))) [] (by decide) (fun c hc=>?_) (.inr ⟨j,((chunks 0 rs).drop (i+1)).take (j - (i+1))++(((chunks 0 rs).drop i).take (i+1 - i)++(chunks 0 rs).drop (j+1)),(chunks 0 rs)[j]!,?_,?_,by omega⟩) (fun c=>?_) ?_ ?_ HV.out.2.2
   ·rcases List.mem_append.1 hc with hc|hc
    ·exact List.mem_of_mem_drop (List.mem_of_mem_take hc)
    rcases List.mem_append.1 hc with hc|hc
    ·exact List.mem_of_mem_drop (List.mem_of_mem_take hc)
    rcases List.mem_append.1 hc with hc|hc
    ·exact List.mem_of_mem_drop (List.mem_of_mem_take hc)
    ·exact List.mem_of_mem_drop hc
   ·rw[getElem!_pos (chunks 0 rs) j hjl];exact List.getElem?_eq_getElem hjl
   ·rw[one j hjl];rfl
   ·have c1:=c.1;rw[one j hjl]at c1;cases c1
   ·simp only[List.length_append,List.length_take,List.length_drop];have h9:=HM.out.2.1;have h8:=Nat.min_le_left (j+1 - j) ((chunks 0 rs).length - j);have h7:=Nat.min_le_left (j - (i+1)) ((chunks 0 rs).length - (i+1));have h6:=Nat.min_le_left (i+1 - i) ((chunks 0 rs).length - i);omega
   ·have e5:P5=ba (((chunks 0 rs).drop j).take (j+1 - j)).flatten:=by rw[hP5,←HS.out,zEm]
    have e6:P6=ba (((chunks 0 rs).drop (i+1)).take (j - (i+1))).flatten:=by rw[hP6,←HS.out,zEm]
    have e7:P7=ba (((chunks 0 rs).drop i).take (i+1 - i)).flatten:=by rw[hP7,←HS.out,zEm]
    have e8:P8=ba ((chunks 0 rs).drop (j+1)).flatten:=by rw[hP8,←HS.out,zAq]
    have bb2: ∀x y:List UInt8,ba x++ba y=ba (x++y):=fun x y=>zAc x y
    rw[HP1.out,e5,e6,e7,e8,bb2,bb2,bb2,bb2,List.append_nil,List.flatten_append,List.flatten_append,List.flatten_append,List.flatten_append];simp only[List.append_assoc]
  have HFZ:Hid (P1.size+P5.size+P6.size+P7.size+P8.size≤9000000000):=by
   have hx: ∀a c,(S.extract a c).size≤S.size:=fun a c=>by rw[ByteArray.size_extract];omega
   have h0:=HSZ.out;have h1:=HM.out.2;have h2:=HPZ.out.1;have e5:=hx (22*j) (22*(j+1));have e6:=hx (22*(i+1)) (22*j);have e7:=hx (22*i) (22*(i+1));have e8:=hx (22*(j+1)) S.size;rw[←hP5]at e5;rw[←hP6]at e6;rw[←hP7]at e7;rw[←hP8]at e8;show _≤_;omega
  have f1: ¬9223372036854775807<P1.size+P5.size:=by have:=HFZ.out;omega
  have f2: ¬9223372036854775807<P1.size+P5.size+P6.size:=by have:=HFZ.out;omega
  have f3: ¬9223372036854775807<P1.size+P5.size+P6.size+P7.size:=by have:=HFZ.out;omega
  have f4: ¬9223372036854775807<P1.size+P5.size+P6.size+P7.size+P8.size:=by have:=HFZ.out;omega
  have f2': ¬9223372036854775807<(P1++P5).size+P6.size:=by rw[ByteArray.size_append];exact f2
  have f3': ¬9223372036854775807<(P1++P5++P6).size+P7.size:=by rw[ByteArray.size_append,ByteArray.size_append];exact f3
  have f4': ¬9223372036854775807<(P1++P5++P6++P7).size+P8.size:=by rw[ByteArray.size_append,ByteArray.size_append,ByteArray.size_append];exact f4
  clear hjj hj hjv hkx hkn hP5 hP6 hP7 hP8 hjm;go_wp2_with fail;go_quiet (fail);clear hc1 hc5 hc6 hc7 hc8 f1 f2 f3 f4 f2' f3' f4';go_wp2_with fail;refine(HX.out _ (HER2.out _)).mono ?_;rintro en w9 ⟨nn,rfl,en0,HZ⟩;go_wp2;go_ret;exact⟨rfl,hid (HB2.out _ (HDN.out _ _ HZ.out))⟩
theorem kspoilt4(h:GW w0 w wb e n)(hn:n≤20000)(hE:Errs w0 ad st)(kk a bb:Int)(ha: -9223372036854775808≤a∧a≤9223372036854775807)(hbb: -9223372036854775808≤bb∧bb≤9223372036854775807)(v:Nat→Int)(hc5:pickI a 5=4):
 Calls Tryz.prog 16 #[.pointer (some ⟨wb,0,none⟩),.agg #[.int .i64 kk,.int .i64 a,.int .i64 bb,.int .i64 (v 0),.int .i64 (v 1),.int .i64 (v 2),.int .i64 (v 3),.int .i64 (v 4),.int .i64 (v 5),.int .i64 (v 6),.int .i64 (v 7),.int .i64 (v 8)]] w fun en w'=>en=.returned (.bool true)∧Hid (Below w.heap.size w w'):=by
 have hwl:=h.ke.2.2.1;have hB1:Below w.heap.size w (w.alloc (.cells #[.int .i64 kk,.int .i64 a,.int .i64 bb,.int .i64 (v 0),.int .i64 (v 1),.int .i64 (v 2),.int .i64 (v 3),.int .i64 (v 4),.int .i64 (v 5),.int .i64 (v 6),.int .i64 (v 7),.int .i64 (v 8)] 37)):=(Below.refl _ _).alloc (Nat.le_refl _) _;have h1:=h.below hB1;obtain⟨rs,c6,hrun,hl⟩:=h1.c6;have c7:=h1.c7;have hbn:=h.bnd;have HER:Hid (∀W,Below w.heap.size w W→Errs W ad st):=fun W hW=>hE.below (zAa h.ke.1 hW)
 have b1:(w.alloc (.cells #[.int .i64 kk,.int .i64 a,.int .i64 bb,.int .i64 (v 0),.int .i64 (v 1),.int .i64 (v 2),.int .i64 (v 3),.int .i64 (v 4),.int .i64 (v 5),.int .i64 (v 6),.int .i64 (v 7),.int .i64 (v 8)] 37)).cell? ⟨w.heap.size,1,none⟩=some (.int .i64 a):=by rw[World.cell?_alloc_at _ _ _ _ rfl];rfl
 have b2:(w.alloc (.cells #[.int .i64 kk,.int .i64 a,.int .i64 bb,.int .i64 (v 0),.int .i64 (v 1),.int .i64 (v 2),.int .i64 (v 3),.int .i64 (v 4),.int .i64 (v 5),.int .i64 (v 6),.int .i64 (v 7),.int .i64 (v 8)] 37)).cell? ⟨w.heap.size,2,none⟩=some (.int .i64 bb):=by rw[World.cell?_alloc_at _ _ _ _ rfl];rfl
 have HB:=hid hB1;generalize hm:e.seq=m at *;have hmb:rs.length≤42000000:=by omega
 clear h h1 hE hB1 hwl hbn hn hm;by_cases hm0:m=0
 ·subst hm0;go_enter Tryz.func16,Tryz.ntmps16;go_wp2;go_ret;exact⟨rfl,HB⟩
 obtain⟨i,hi⟩: ∃i:Nat,(i:Int)=pickI bb m:=⟨(pickI bb m).toNat,by have:=zA bb (n:=m) (by omega);omega⟩;have him:i<m:=by have:=zA bb (n:=m) (by omega);omega
 obtain⟨r7,hr7⟩: ∃i:Nat,(i:Int)=pickI bb 7:=⟨(pickI bb 7).toNat,by have:=zA bb (n:=7) (by omega);omega⟩;have hr7b:r7<7:=by have:=zA bb (n:=7) (by omega);omega
 obtain⟨r21,hr21⟩: ∃i:Nat,(i:Int)=pickI bb 21:=⟨(pickI bb 21).toNat,by have:=zA bb (n:=21) (by omega);omega⟩;have hr21b:r21<21:=by have:=zA bb (n:=21) (by omega);omega
 obtain⟨cc,hcc⟩: ∃c:Int,c=pickI a 5:=⟨_,rfl⟩;have hcb:cc=4:=hcc.trans hc5;have HPI:Hid (∀W,Calls Tryz.prog 14 #[.int .i64 bb,.int .i64 (m:Int)] W fun en w'=>en=.returned (.int .i64 (i:Int))∧w'=W):=fun W=>by rw[hi];exact kpick W bb m hbb (by omega)
 have HP7:Hid (∀W,Calls Tryz.prog 14 #[.int .i64 bb,.int .i64 7] W fun en w'=>en=.returned (.int .i64 (r7:Int))∧w'=W):=fun W=>by rw[hr7];exact kpick W bb 7 hbb (by omega)
 have HP21:Hid (∀W,Calls Tryz.prog 14 #[.int .i64 bb,.int .i64 21] W fun en w'=>en=.returned (.int .i64 (r21:Int))∧w'=W):=fun W=>by rw[hr21];exact kpick W bb 21 hbb (by omega)
 have HPA:Hid (∀W,Calls Tryz.prog 14 #[.int .i64 a,.int .i64 5] W fun en w'=>en=.returned (.int .i64 cc)∧w'=W):=fun W=>by rw[hcc];exact kpick W a 5 ha (by omega)
 have HM:=hid (And.intro hrun (And.intro hl (And.intro hmb (And.intro him (And.intro hr7b hr21b)))));clear hc5 hi hr7 hr21 hcc hrun hl hmb hr7b hr21b ha hbb;have e0:((m:Int) == 0)=false:=by simpa using (show¬(m:Int)=0 by omega)
 obtain⟨at',hat⟩: ∃x:Int,x=22*(i:Int):=⟨_,rfl⟩;obtain⟨nx,hnx⟩: ∃x:Int,x=22*(i:Int)+22:=⟨_,rfl⟩;obtain⟨fr,hfr⟩: ∃x:Int,x=(i:Int)+1:=⟨_,rfl⟩;have w1:wrap64 (22*(i:Int))=at':=by rw[hat];have:=HM.out.2;unfold wrap64;omega
 have w2:wrap64 (at' +22)=nx:=by rw[hat,hnx];have:=HM.out.2;unfold wrap64;omega
 have w3:wrap64 ((i:Int)+1)=fr:=by rw[hfr];have:=HM.out.2;unfold wrap64;omega
 have HV:=hid (And.intro hat (And.intro hnx hfr));clear hat hnx hfr him;generalize hS:ba (encR 0 rs)=S at *;have HS:=hid hS;clear hS;have HSZ:Hid (S.size=22*m):=by show S.size=22*m;rw[←HS.out,zA3,zAt,HM.out.2.1]
 go_enter Tryz.func16,Tryz.ntmps16;go_wp2_with fail;generalize (w.alloc (.cells #[.int .i64 kk,.int .i64 a,.int .i64 bb,.int .i64 (v 0),.int .i64 (v 1),.int .i64 (v 2),.int .i64 (v 3),.int .i64 (v 4),.int .i64 (v 5),.int .i64 (v 6),.int .i64 (v 7),.int .i64 (v 8)] 37))=W at *;generalize hbx:w.heap.size=bx at *;have HBXE:=hid hbx;clear hbx;go_region_held3(fun X=>X.cell? ⟨bx,2,none⟩=some (.int .i64 bb)∧X.cell? ⟨wb,7,none⟩=some (.int .i64 (m:Int))) (go_keep) (first
  |(with_reducible refine(HPI.out _).mono ?_;rintro en w' ⟨rfl,rfl⟩))
 have d6:W.drew.cell? ⟨wb,6,none⟩=some (.string S):=c6;have d7:W.drew.cell? ⟨wb,7,none⟩=some (.int .i64 (m:Int)):=c7;have a1:W.drew.cell? ⟨bx,1,none⟩=some (.int .i64 a):=b1;have a2:W.drew.cell? ⟨bx,2,none⟩=some (.int .i64 bb):=b2;have HB2:Hid (∀W',Below W.drew.heap.size W.drew W'→Below w.heap.size w W'):=fun W' hW'=>by
  have h1:Below w.heap.size w W.drew:=by
   rw[HBXE.out];exact⟨HB.out.os,HB.out.tape,HB.out.output,HB.out.size,HB.out.block⟩
  exact h1.trans (hW'.mono h1.size)
 have HER2:Hid (∀k,Errs (W.drew.drewN k) ad st):=fun k=>HER.out _ ⟨HB.out.os,HB.out.tape,HB.out.output,HB.out.size,HB.out.block⟩
 have HER1:Hid (Errs W.drew ad st):=HER.out _ ⟨HB.out.os,HB.out.tape,HB.out.output,HB.out.size,HB.out.block⟩;clear c6 c7 b1 b2 HB HPI HER;generalize W.drew=V at *;go_wp2_with fail;refine(HPA.out _).mono ?_;rintro en V ⟨rfl,rfl⟩;clear HPA;have HDN:Hid (∀k W',Below (V.drewN k).heap.size (V.drewN k) W'→Below V.heap.size V W'):=fun k W' hW'=>⟨hW'.os,hW'.tape,hW'.output,hW'.size,hW'.block⟩
 obtain⟨P1,hP1⟩: ∃P:ByteArray,P=S.extract 0 (22*i):=⟨_,rfl⟩;obtain⟨P2,hP2⟩: ∃P:ByteArray,P=S.extract (22*(i+1)) S.size:=⟨_,rfl⟩;obtain⟨P3,hP3⟩: ∃P:ByteArray,P=S.extract 0 (22*(i+1)):=⟨_,rfl⟩;obtain⟨P4,hP4⟩: ∃P:ByteArray,P=S.extract (22*i) S.size:=⟨_,rfl⟩;have hc1: ∀W,(Instr.slice 9 (.string S) none (some (.int .i64 at')) none).run Tryz.prog W=.ok (.string P1) W:=fun W=>by
  rw[run_slice_string_to_if W 9 S .i64 at' Tryz.underlying9,if_pos (by rw[HV.out.1,HSZ.out];have:=HM.out.2;omega),hP1]
  congr 3
  rw[HV.out.1];omega
 have hc2: ∀W,(Instr.slice 9 (.string S) (some (.int .i64 nx)) none none).run Tryz.prog W=.ok (.string P2) W:=fun W=>by
  rw[run_slice_string_from_if W 9 S .i64 nx Tryz.underlying9,if_pos (by rw[HV.out.2.1,HSZ.out];have:=HM.out.2;omega),hP2]
  congr 3
  rw[HV.out.2.1];omega
 have hc3: ∀W,(Instr.slice 9 (.string S) none (some (.int .i64 nx)) none).run Tryz.prog W=.ok (.string P3) W:=fun W=>by
  rw[run_slice_string_to_if W 9 S .i64 nx Tryz.underlying9,if_pos (by rw[HV.out.2.1,HSZ.out];have:=HM.out.2;omega),hP3]
  congr 3
  rw[HV.out.2.1];omega
 have hc4: ∀W,(Instr.slice 9 (.string S) (some (.int .i64 at')) none none).run Tryz.prog W=.ok (.string P4) W:=fun W=>by
  rw[run_slice_string_from_if W 9 S .i64 at' Tryz.underlying9,if_pos (by rw[HV.out.1,HSZ.out];have:=HM.out.2;omega),hP4]
  congr 3
  rw[HV.out.1];omega
 have HP1:Hid (P1=ba ((chunks 0 rs).take i).flatten):=by show P1=_;rw[hP1,←HS.out,zAv]
 have HP2:Hid (P2=ba ((chunks 0 rs).drop (i+1)).flatten):=by show P2=_;rw[hP2,←HS.out,zAq]
 have HP3:Hid (P3=ba ((chunks 0 rs).take (i+1)).flatten):=by show P3=_;rw[hP3,←HS.out,zAv]
 have HP4:Hid (P4=ba ((chunks 0 rs).drop i).flatten):=by show P4=_;rw[hP4,←HS.out,zAq]
 have HPZ:Hid (P1.size≤1000000000∧P2.size≤1000000000∧P3.size≤1000000000∧P4.size≤1000000000):=by
  have hx: ∀a c,(S.extract a c).size≤S.size:=fun a c=>by rw[ByteArray.size_extract];omega
  have h0:=HSZ.out;have h1:=HM.out.2;have e1:=hx 0 (22*i);have e2:=hx (22*(i+1)) S.size;have e3:=hx 0 (22*(i+1));have e4:=hx (22*i) S.size;rw[←hP1]at e1;rw[←hP2]at e2;rw[←hP3]at e3;rw[←hP4]at e4;exact⟨by omega,by omega,by omega,by omega⟩
 clear hP1 hP2 hP3 hP4;have HCL:Hid ((chunks 0 rs).length=m):=(zBp rs 0).trans HM.out.2.1;obtain⟨mm,hmm⟩: ∃x:Int,x=(m:Int) - 1:=⟨_,rfl⟩;have w4:wrap64 ((m:Int) - 1)=mm:=by rw[hmm];have:=HM.out.2;unfold wrap64;omega
 have HMM:=hid hmm;clear hmm;subst hcb;clear hc1 hc2 hc3 hc4;obtain⟨t1,ht1⟩: ∃x:Int,x=22*(i:Int)+1:=⟨_,rfl⟩;obtain⟨ct,hct⟩: ∃x:Int,x=22*(i:Int)+1+(r21:Int):=⟨_,rfl⟩;have w9:wrap64 (at' +1)=t1:=by clear w1 w2 w3 w4;rw[ht1,HV.out.1];have:=HM.out.2;unfold wrap64;omega
 have w10:wrap64 (t1+(r21:Int))=ct:=by clear w1 w2 w3 w4 w9;rw[ht1,hct];have:=HM.out.2;unfold wrap64;omega
 obtain⟨P9,hP9⟩: ∃P:ByteArray,P=S.extract 0 (22*i+(1+r21)):=⟨_,rfl⟩;have hc9: ∀W,(Instr.slice 9 (.string S) none (some (.int .i64 ct)) none).run Tryz.prog W=.ok (.string P9) W:=fun W=>by
  rw[run_slice_string_to_if W 9 S .i64 ct Tryz.underlying9,if_pos (by clear w1 w2 w3 w4 w9 w10;rw[hct,HSZ.out];have:=HM.out.2;omega),hP9]
  congr 3
  clear w1 w2 w3 w4 w9 w10;rw[hct];omega
 have HX:Hid (∀W,Errs W ad st→Calls Tryz.prog 17 #[.string P9] W fun en w'=> ∃nn:Int,en=.returned (.tuple #[.slice none 0 0,.int .i64 nn,.int .i64 fr])∧(nn != 0)=true∧Hid (Below W.heap.size W w')):=by
  clear w1 w2 w3 w4 w9 w10 e0;have hi1:i<(chunks 0 rs).length:=by have:=HCL.out;have:=HM.out.2;omega
  have hr:=HM.out.2.2.2.2.2;have h22:=zAk rs 0 _ (List.getElem_mem hi1);refine zD9 HM.out.1 HM.out.2.2.1 i (by have:=HM.out.2;omega) [] ((chunks 0 rs)[i].take (1+r21)) (by rw[List.length_take];omega) (fun c hc=>by cases hc) (.inl rfl) (fun c=>?_) (by have:=HM.out.2;simp;omega) ?_ HV.out.2.2
  ·have c1:=congrArg List.length c.2;rw[List.length_take,h22,List.length_nil]at c1;omega
  ·rw[hP9,←HS.out,List.append_nil,zRv i (1+r21) (List.getElem?_eq_getElem hi1) (by omega)]
 clear ht1 hct hP9;go_wp2_with fail;refine(HP21.out _).mono ?_;rintro en V ⟨rfl,rfl⟩;go_wp2_with fail;refine(HX.out _ HER1.out).mono ?_;rintro en w11 ⟨nn,rfl,en0,HZ⟩;go_wp2;go_ret;exact⟨rfl,hid (HB2.out _ HZ.out)⟩
theorem kspoilt(h:GW w0 w wb e n)(hn:n≤20000)(hE:Errs w0 ad st)(kk a bb:Int)(ha: -9223372036854775808≤a∧a≤9223372036854775807)(hbb: -9223372036854775808≤bb∧bb≤9223372036854775807)(v:Nat→Int):
 Calls Tryz.prog 16 #[.pointer (some ⟨wb,0,none⟩),.agg #[.int .i64 kk,.int .i64 a,.int .i64 bb,.int .i64 (v 0),.int .i64 (v 1),.int .i64 (v 2),.int .i64 (v 3),.int .i64 (v 4),.int .i64 (v 5),.int .i64 (v 6),.int .i64 (v 7),.int .i64 (v 8)]] w fun en w'=>en=.returned (.bool true)∧Hid (Below w.heap.size w w'):=by
 have hb:=zA a (n:=5) (by omega);have hc:pickI a 5=0∨pickI a 5=1∨pickI a 5=2∨pickI a 5=3∨pickI a 5=4:=by omega
 rcases hc with c|c|c|c|c
 ·exact kspoilt0 h hn hE kk a bb ha hbb v c
 ·exact kspoilt1 h hn hE kk a bb ha hbb v c
 ·exact kspoilt2 h hn hE kk a bb ha hbb v c
 ·exact kspoilt3 h hn hE kk a bb ha hbb v c
 ·exact kspoilt4 h hn hE kk a bb ha hbb v c
theorem KN.below{c0 c1 c2:Int}(h:KN w0 w wb c0 c1 c2 ds)(hb:Below w.heap.size w w'):KN w0 w' wb c0 c1 c2 ds:=by
 obtain⟨hl,hlo,b0,b1,b2,hds,hdl,dv,hwb,hdv⟩:=h;have hwl:=(Array.getElem?_eq_some_iff.1 hwb).1;exact⟨zAa hl hb,hlo,b0,b1,b2,hds,hdl,dv,(hb.block wb hwl).trans hwb,zB0 hdv fun q hq=>hb.block q (hdv.lt q hq).2⟩
def GS(w0 w:World)(wb n:Nat):Prop:=(∃c0 c1 c2 ds,KN w0 w wb c0 c1 c2 ds∧ds.length≤n)∨∃e,GW w0 w wb e n
theorem GS.below(h:GS w0 w wb n)(hb:Below w.heap.size w w'):GS w0 w' wb n:=by
 rcases h with⟨c0,c1,c2,ds,h,hn⟩|⟨e,h⟩
 ·exact .inl ⟨c0,c1,c2,ds,h.below hb,hn⟩
 ·exact .inr ⟨e,h.below hb⟩
theorem GS.later{m:Nat}(h:GS w0 w wb n)(hm:n≤m):GS w0 w wb m:=by
 rcases h with⟨c0,c1,c2,ds,h,hn⟩|⟨e,h⟩
 ·exact .inl ⟨c0,c1,c2,ds,h,Nat.le_trans hn hm⟩
 ·exact .inr ⟨e,h.later hm⟩
theorem gbegin2(h:GW w0 w wb e n):
 Calls Tryz.prog 12 #[.pointer (some ⟨wb,0,none⟩)] w fun en w'=>en=.returned (.bool true)∧w'=w:=by
 have c5:=h.c5;obtain⟨_,_,_,_,tag,nb,eb,g,S,base2,c4,_⟩:=h.ke;clear h;go_enter Tryz.func12,Tryz.ntmps12;go_wp2;go_ret;exact⟨rfl,rfl⟩
theorem zRw(h:GS w0 w wb n):
 Calls Tryz.prog 12 #[.pointer (some ⟨wb,0,none⟩)] w fun en w'=>en=.returned (.bool true)∧Hid ((∃e,GW w0 w' wb e n)∧∀k,k<w.heap.size→k≠wb→w'.heap[k]? =w.heap[k]?):=by
 rcases h with⟨c0,c1,c2,ds,h,hn⟩|⟨e,h⟩
 ·exact(kbegin n h).mono fun en w' ⟨h1,h2⟩=>⟨h1,hid ⟨⟨_,h2.out.1.gw rfl rfl rfl⟩,h2.out.2⟩⟩
 ·refine(gbegin2 h).mono ?_;rintro en w' ⟨rfl,rfl⟩;exact⟨rfl,hid ⟨⟨e,h⟩,fun _ _ _=>rfl⟩⟩
theorem gstep3(h:GS w0 w wb n)(hn:n+1≤20000)(hE:Errs w0 ad st)(hW:Wids w0)(kk a bb:Int)(hk:kk=3)(v:Nat→Int)(hv: ∀i,i<9→-9223372036854775808≤v i∧v i≤9223372036854775807):
 Calls Tryz.prog 8 #[.pointer (some ⟨wb,0,none⟩),.agg #[.int .i64 kk,.int .i64 a,.int .i64 bb,.int .i64 (v 0),.int .i64 (v 1),.int .i64 (v 2),.int .i64 (v 3),.int .i64 (v 4),.int .i64 (v 5),.int .i64 (v 6),.int .i64 (v 7),.int .i64 (v 8)],.bool true] w fun en w'=>en=.returned (.bool true)∧Hid (GS w0 w' wb (n+1)):=by
 subst hk;have hwl:wb<w.heap.size:=by
  rcases h with⟨c0,c1,c2,ds,h,_⟩|⟨e,h⟩
  ·obtain⟨_,_,_,_,_,_,_,dv,hwb,_⟩:=h;exact(Array.getElem?_eq_some_iff.1 hwb).1
  ·exact h.ke.2.2.1
 have hB1:Below w.heap.size w (w.alloc (.cells #[.int .i64 3,.int .i64 a,.int .i64 bb,.int .i64 (v 0),.int .i64 (v 1),.int .i64 (v 2),.int .i64 (v 3),.int .i64 (v 4),.int .i64 (v 5),.int .i64 (v 6),.int .i64 (v 7),.int .i64 (v 8)] 37)):=(Below.refl _ _).alloc (Nat.le_refl _) _;have HBG:=hid (zRw (h.below hB1));have HDO:Hid (∀W e,GW w0 W wb e n→Calls Tryz.prog 15 #[.pointer (some ⟨wb,0,none⟩),.agg #[.int .i64 3,.int .i64 a,.int .i64 bb,.int .i64 (v 0),.int .i64 (v 1),.int .i64 (v 2),.int .i64 (v 3),.int .i64 (v 4),.int .i64 (v 5),.int .i64 (v 6),.int .i64 (v 7),.int .i64 (v 8)]] W fun en w'=>en=.returned (.bool true)∧Hid (∃e',GW w0 w' wb e' (n+1)∧((encRes a v).2.1=0→e'=(e.apply (encRes a v).1).hush))):=fun W e hK=>kagree hK hn hE hW 3 a bb v hv
 have b0:(w.alloc (.cells #[.int .i64 3,.int .i64 a,.int .i64 bb,.int .i64 (v 0),.int .i64 (v 1),.int .i64 (v 2),.int .i64 (v 3),.int .i64 (v 4),.int .i64 (v 5),.int .i64 (v 6),.int .i64 (v 7),.int .i64 (v 8)] 37)).cell? ⟨w.heap.size,0,none⟩=some (.int .i64 3):=by rw[World.cell?_alloc_at _ _ _ _ rfl];rfl
 have HBC:Hid (∀W:World,(∀k,k<(w.alloc (.cells #[.int .i64 3,.int .i64 a,.int .i64 bb,.int .i64 (v 0),.int .i64 (v 1),.int .i64 (v 2),.int .i64 (v 3),.int .i64 (v 4),.int .i64 (v 5),.int .i64 (v 6),.int .i64 (v 7),.int .i64 (v 8)] 37)).heap.size→k≠wb→W.heap[k]? =(w.alloc (.cells #[.int .i64 3,.int .i64 a,.int .i64 bb,.int .i64 (v 0),.int .i64 (v 1),.int .i64 (v 2),.int .i64 (v 3),.int .i64 (v 4),.int .i64 (v 5),.int .i64 (v 6),.int .i64 (v 7),.int .i64 (v 8)] 37)).heap[k]?)→W.heap[w.heap.size]? =some (.cells #[.int .i64 3,.int .i64 a,.int .i64 bb,.int .i64 (v 0),.int .i64 (v 1),.int .i64 (v 2),.int .i64 (v 3),.int .i64 (v 4),.int .i64 (v 5),.int .i64 (v 6),.int .i64 (v 7),.int .i64 (v 8)] 37)):=fun W hf=>(hf w.heap.size (by simp) (by omega)).trans (heapNew w _)
 clear h hB1 hE hW hv hwl;go_enter Tryz.func8,Tryz.ntmps8;go_wp2_with fail;refine HBG.out.mono ?_;rintro en W2 ⟨rfl,HZ⟩;obtain⟨e,hK2⟩:=HZ.out.1;have HD2:=hid (HDO.out W2 e hK2);have hbx:=HBC.out W2 HZ.out.2;have x0:W2.cell? ⟨w.heap.size,0,none⟩=some (.int .i64 3):=by unfold World.cell?;rw[hbx];rfl
 have x1:W2.cell? ⟨w.heap.size,1,none⟩=some (.int .i64 a):=by unfold World.cell?;rw[hbx];rfl
 have x2:W2.cell? ⟨w.heap.size,2,none⟩=some (.int .i64 bb):=by unfold World.cell?;rw[hbx];rfl
 have x3:W2.cell? ⟨w.heap.size,3,none⟩=some (.int .i64 (v 0)):=by unfold World.cell?;rw[hbx];rfl
 have x4:W2.cell? ⟨w.heap.size,4,none⟩=some (.int .i64 (v 1)):=by unfold World.cell?;rw[hbx];rfl
 have x5:W2.cell? ⟨w.heap.size,5,none⟩=some (.int .i64 (v 2)):=by unfold World.cell?;rw[hbx];rfl
 have x6:W2.cell? ⟨w.heap.size,6,none⟩=some (.int .i64 (v 3)):=by unfold World.cell?;rw[hbx];rfl
 have x7:W2.cell? ⟨w.heap.size,7,none⟩=some (.int .i64 (v 4)):=by unfold World.cell?;rw[hbx];rfl
 have x8:W2.cell? ⟨w.heap.size,8,none⟩=some (.int .i64 (v 5)):=by unfold World.cell?;rw[hbx];rfl
 have x9:W2.cell? ⟨w.heap.size,9,none⟩=some (.int .i64 (v 6)):=by unfold World.cell?;rw[hbx];rfl
 have x10:W2.cell? ⟨w.heap.size,10,none⟩=some (.int .i64 (v 7)):=by unfold World.cell?;rw[hbx];rfl
 have x11:W2.cell? ⟨w.heap.size,11,none⟩=some (.int .i64 (v 8)):=by unfold World.cell?;rw[hbx];rfl
 clear hK2 HZ HBC HBG HDO b0 hbx;go_wp2_with fail;refine HD2.out.mono ?_;rintro en W3 ⟨rfl,HZ3⟩;go_wp2;go_ret;exact⟨rfl,hid (.inr (by obtain⟨e',h',_⟩:=HZ3.out;exact⟨e',h'⟩))⟩
theorem gstep0(h:GS w0 w wb n)(kk a bb:Int)(h1:(kk == 1)=false)(h2:(kk == 2)=false)(h3:(kk == 3)=false)(h4:(kk == 4)=false)(v:Nat→Int):
 Calls Tryz.prog 8 #[.pointer (some ⟨wb,0,none⟩),.agg #[.int .i64 kk,.int .i64 a,.int .i64 bb,.int .i64 (v 0),.int .i64 (v 1),.int .i64 (v 2),.int .i64 (v 3),.int .i64 (v 4),.int .i64 (v 5),.int .i64 (v 6),.int .i64 (v 7),.int .i64 (v 8)],.bool true] w fun en w'=>en=.returned (.bool true)∧Hid (GS w0 w' wb (n+1)):=by
 have hB1:Below w.heap.size w (w.alloc (.cells #[.int .i64 kk,.int .i64 a,.int .i64 bb,.int .i64 (v 0),.int .i64 (v 1),.int .i64 (v 2),.int .i64 (v 3),.int .i64 (v 4),.int .i64 (v 5),.int .i64 (v 6),.int .i64 (v 7),.int .i64 (v 8)] 37)):=(Below.refl _ _).alloc (Nat.le_refl _) _;have HK:=hid ((h.below hB1).later (Nat.le_succ n));have b0:(w.alloc (.cells #[.int .i64 kk,.int .i64 a,.int .i64 bb,.int .i64 (v 0),.int .i64 (v 1),.int .i64 (v 2),.int .i64 (v 3),.int .i64 (v 4),.int .i64 (v 5),.int .i64 (v 6),.int .i64 (v 7),.int .i64 (v 8)] 37)).cell? ⟨w.heap.size,0,none⟩=some (.int .i64 kk):=by rw[World.cell?_alloc_at _ _ _ _ rfl];rfl
 clear h hB1;go_enter Tryz.func8,Tryz.ntmps8;go_wp2;go_ret;exact⟨rfl,HK⟩
theorem gstep4(h:GS w0 w wb n)(hn:n+1≤20000)(hE:Errs w0 ad st)(kk a bb:Int)(hk:kk=4)(v:Nat→Int)(ha: -9223372036854775808≤a∧a≤9223372036854775807)(hbb: -9223372036854775808≤bb∧bb≤9223372036854775807):
 Calls Tryz.prog 8 #[.pointer (some ⟨wb,0,none⟩),.agg #[.int .i64 kk,.int .i64 a,.int .i64 bb,.int .i64 (v 0),.int .i64 (v 1),.int .i64 (v 2),.int .i64 (v 3),.int .i64 (v 4),.int .i64 (v 5),.int .i64 (v 6),.int .i64 (v 7),.int .i64 (v 8)],.bool true] w fun en w'=>en=.returned (.bool true)∧Hid (GS w0 w' wb (n+1)):=by
 subst hk;have hB1:Below w.heap.size w (w.alloc (.cells #[.int .i64 4,.int .i64 a,.int .i64 bb,.int .i64 (v 0),.int .i64 (v 1),.int .i64 (v 2),.int .i64 (v 3),.int .i64 (v 4),.int .i64 (v 5),.int .i64 (v 6),.int .i64 (v 7),.int .i64 (v 8)] 37)):=(Below.refl _ _).alloc (Nat.le_refl _) _;have HK:=hid ((h.below hB1).later (Nat.le_succ n));have x0:(w.alloc (.cells #[.int .i64 4,.int .i64 a,.int .i64 bb,.int .i64 (v 0),.int .i64 (v 1),.int .i64 (v 2),.int .i64 (v 3),.int .i64 (v 4),.int .i64 (v 5),.int .i64 (v 6),.int .i64 (v 7),.int .i64 (v 8)] 37)).cell? ⟨w.heap.size,0,none⟩=some (.int .i64 4):=by rw[World.cell?_alloc_at _ _ _ _ rfl];rfl
 have x1:(w.alloc (.cells #[.int .i64 4,.int .i64 a,.int .i64 bb,.int .i64 (v 0),.int .i64 (v 1),.int .i64 (v 2),.int .i64 (v 3),.int .i64 (v 4),.int .i64 (v 5),.int .i64 (v 6),.int .i64 (v 7),.int .i64 (v 8)] 37)).cell? ⟨w.heap.size,1,none⟩=some (.int .i64 a):=by rw[World.cell?_alloc_at _ _ _ _ rfl];rfl
 have x2:(w.alloc (.cells #[.int .i64 4,.int .i64 a,.int .i64 bb,.int .i64 (v 0),.int .i64 (v 1),.int .i64 (v 2),.int .i64 (v 3),.int .i64 (v 4),.int .i64 (v 5),.int .i64 (v 6),.int .i64 (v 7),.int .i64 (v 8)] 37)).cell? ⟨w.heap.size,2,none⟩=some (.int .i64 bb):=by rw[World.cell?_alloc_at _ _ _ _ rfl];rfl
 have x3:(w.alloc (.cells #[.int .i64 4,.int .i64 a,.int .i64 bb,.int .i64 (v 0),.int .i64 (v 1),.int .i64 (v 2),.int .i64 (v 3),.int .i64 (v 4),.int .i64 (v 5),.int .i64 (v 6),.int .i64 (v 7),.int .i64 (v 8)] 37)).cell? ⟨w.heap.size,3,none⟩=some (.int .i64 (v 0)):=by rw[World.cell?_alloc_at _ _ _ _ rfl];rfl
 have x4:(w.alloc (.cells #[.int .i64 4,.int .i64 a,.int .i64 bb,.int .i64 (v 0),.int .i64 (v 1),.int .i64 (v 2),.int .i64 (v 3),.int .i64 (v 4),.int .i64 (v 5),.int .i64 (v 6),.int .i64 (v 7),.int .i64 (v 8)] 37)).cell? ⟨w.heap.size,4,none⟩=some (.int .i64 (v 1)):=by rw[World.cell?_alloc_at _ _ _ _ rfl];rfl
 have x5:(w.alloc (.cells #[.int .i64 4,.int .i64 a,.int .i64 bb,.int .i64 (v 0),.int .i64 (v 1),.int .i64 (v 2),.int .i64 (v 3),.int .i64 (v 4),.int .i64 (v 5),.int .i64 (v 6),.int .i64 (v 7),.int .i64 (v 8)] 37)).cell? ⟨w.heap.size,5,none⟩=some (.int .i64 (v 2)):=by rw[World.cell?_alloc_at _ _ _ _ rfl];rfl
 have x6:(w.alloc (.cells #[.int .i64 4,.int .i64 a,.int .i64 bb,.int .i64 (v 0),.int .i64 (v 1),.int .i64 (v 2),.int .i64 (v 3),.int .i64 (v 4),.int .i64 (v 5),.int .i64 (v 6),.int .i64 (v 7),.int .i64 (v 8)] 37)).cell? ⟨w.heap.size,6,none⟩=some (.int .i64 (v 3)):=by rw[World.cell?_alloc_at _ _ _ _ rfl];rfl
 have x7:(w.alloc (.cells #[.int .i64 4,.int .i64 a,.int .i64 bb,.int .i64 (v 0),.int .i64 (v 1),.int .i64 (v 2),.int .i64 (v 3),.int .i64 (v 4),.int .i64 (v 5),.int .i64 (v 6),.int .i64 (v 7),.int .i64 (v 8)] 37)).cell? ⟨w.heap.size,7,none⟩=some (.int .i64 (v 4)):=by rw[World.cell?_alloc_at _ _ _ _ rfl];rfl
 have x8:(w.alloc (.cells #[.int .i64 4,.int .i64 a,.int .i64 bb,.int .i64 (v 0),.int .i64 (v 1),.int .i64 (v 2),.int .i64 (v 3),.int .i64 (v 4),.int .i64 (v 5),.int .i64 (v 6),.int .i64 (v 7),.int .i64 (v 8)] 37)).cell? ⟨w.heap.size,8,none⟩=some (.int .i64 (v 5)):=by rw[World.cell?_alloc_at _ _ _ _ rfl];rfl
 have x9:(w.alloc (.cells #[.int .i64 4,.int .i64 a,.int .i64 bb,.int .i64 (v 0),.int .i64 (v 1),.int .i64 (v 2),.int .i64 (v 3),.int .i64 (v 4),.int .i64 (v 5),.int .i64 (v 6),.int .i64 (v 7),.int .i64 (v 8)] 37)).cell? ⟨w.heap.size,9,none⟩=some (.int .i64 (v 6)):=by rw[World.cell?_alloc_at _ _ _ _ rfl];rfl
 have x10:(w.alloc (.cells #[.int .i64 4,.int .i64 a,.int .i64 bb,.int .i64 (v 0),.int .i64 (v 1),.int .i64 (v 2),.int .i64 (v 3),.int .i64 (v 4),.int .i64 (v 5),.int .i64 (v 6),.int .i64 (v 7),.int .i64 (v 8)] 37)).cell? ⟨w.heap.size,10,none⟩=some (.int .i64 (v 7)):=by rw[World.cell?_alloc_at _ _ _ _ rfl];rfl
 have x11:(w.alloc (.cells #[.int .i64 4,.int .i64 a,.int .i64 bb,.int .i64 (v 0),.int .i64 (v 1),.int .i64 (v 2),.int .i64 (v 3),.int .i64 (v 4),.int .i64 (v 5),.int .i64 (v 6),.int .i64 (v 7),.int .i64 (v 8)] 37)).cell? ⟨w.heap.size,11,none⟩=some (.int .i64 (v 8)):=by rw[World.cell?_alloc_at _ _ _ _ rfl];rfl
 rcases h with⟨c0,c1,c2,ds,h,hl⟩|⟨e,h⟩
 ·have c4:(w.alloc (.cells #[.int .i64 4,.int .i64 a,.int .i64 bb,.int .i64 (v 0),.int .i64 (v 1),.int .i64 (v 2),.int .i64 (v 3),.int .i64 (v 4),.int .i64 (v 5),.int .i64 (v 6),.int .i64 (v 7),.int .i64 (v 8)] 37)).cell? ⟨wb,4,none⟩=some (.pointer none):=by
   obtain⟨_,_,_,_,_,_,_,dv,hwb,_⟩:=h.below hB1;unfold World.cell?;rw[hwb];rfl
  clear h hB1;go_enter Tryz.func8,Tryz.ntmps8;go_wp2;go_ret;exact⟨rfl,HK⟩
 ·have h1:=h.below hB1;obtain⟨_,_,_,_,tag,nb,eb,g,S,base2,c4,_⟩:=h1.ke;have HSP:=hid (kspoilt h1 (by omega) hE 4 a bb ha hbb v);have HG:=hid h1;clear h hB1 h1 hE ha hbb;go_enter Tryz.func8,Tryz.ntmps8;go_wp2_with fail;refine HSP.out.mono ?_;rintro en w2 ⟨rfl,HZ⟩;clear x0 x1 x2 x3 x4 x5 x6 x7 x8 x9 x10 x11 c4;go_wp2;go_ret;exact⟨rfl,hid (.inr ⟨e,(HG.out.below HZ.out).later (Nat.le_succ n)⟩)⟩
theorem kstepW1(h:GW w0 w wb e n)(a bb:Int)(v:Nat→Int):
 Calls Tryz.prog 8 #[.pointer (some ⟨wb,0,none⟩),.agg #[.int .i64 1,.int .i64 a,.int .i64 bb,.int .i64 (v 0),.int .i64 (v 1),.int .i64 (v 2),.int .i64 (v 3),.int .i64 (v 4),.int .i64 (v 5),.int .i64 (v 6),.int .i64 (v 7),.int .i64 (v 8)],.bool true] w fun en w'=>en=.returned (.bool true)∧Hid (GS w0 w' wb (n+1)):=by
 have hB1:Below w.heap.size w (w.alloc (.cells #[.int .i64 1,.int .i64 a,.int .i64 bb,.int .i64 (v 0),.int .i64 (v 1),.int .i64 (v 2),.int .i64 (v 3),.int .i64 (v 4),.int .i64 (v 5),.int .i64 (v 6),.int .i64 (v 7),.int .i64 (v 8)] 37)):=(Below.refl _ _).alloc (Nat.le_refl _) _;have HK:Hid (GS w0 (w.alloc (.cells #[.int .i64 1,.int .i64 a,.int .i64 bb,.int .i64 (v 0),.int .i64 (v 1),.int .i64 (v 2),.int .i64 (v 3),.int .i64 (v 4),.int .i64 (v 5),.int .i64 (v 6),.int .i64 (v 7),.int .i64 (v 8)] 37)) wb (n+1)):=.inr ⟨e,(h.below hB1).later (Nat.le_succ n)⟩;have b0:(w.alloc (.cells #[.int .i64 1,.int .i64 a,.int .i64 bb,.int .i64 (v 0),.int .i64 (v 1),.int .i64 (v 2),.int .i64 (v 3),.int .i64 (v 4),.int .i64 (v 5),.int .i64 (v 6),.int .i64 (v 7),.int .i64 (v 8)] 37)).cell? ⟨w.heap.size,0,none⟩=some (.int .i64 1):=by rw[World.cell?_alloc_at _ _ _ _ rfl];rfl
 have c5:(w.alloc (.cells #[.int .i64 1,.int .i64 a,.int .i64 bb,.int .i64 (v 0),.int .i64 (v 1),.int .i64 (v 2),.int .i64 (v 3),.int .i64 (v 4),.int .i64 (v 5),.int .i64 (v 6),.int .i64 (v 7),.int .i64 (v 8)] 37)).cell? ⟨wb,5,none⟩=some (.bool true):=(h.below hB1).c5;clear h hB1;go_enter Tryz.func8,Tryz.ntmps8;go_wp2;go_ret;exact⟨rfl,HK⟩
theorem kstepW2(h:GW w0 w wb e n)(a bb:Int)(v:Nat→Int):
 Calls Tryz.prog 8 #[.pointer (some ⟨wb,0,none⟩),.agg #[.int .i64 2,.int .i64 a,.int .i64 bb,.int .i64 (v 0),.int .i64 (v 1),.int .i64 (v 2),.int .i64 (v 3),.int .i64 (v 4),.int .i64 (v 5),.int .i64 (v 6),.int .i64 (v 7),.int .i64 (v 8)],.bool true] w fun en w'=>en=.returned (.bool true)∧Hid (GS w0 w' wb (n+1)):=by
 have hB1:Below w.heap.size w (w.alloc (.cells #[.int .i64 2,.int .i64 a,.int .i64 bb,.int .i64 (v 0),.int .i64 (v 1),.int .i64 (v 2),.int .i64 (v 3),.int .i64 (v 4),.int .i64 (v 5),.int .i64 (v 6),.int .i64 (v 7),.int .i64 (v 8)] 37)):=(Below.refl _ _).alloc (Nat.le_refl _) _;have HK:Hid (GS w0 (w.alloc (.cells #[.int .i64 2,.int .i64 a,.int .i64 bb,.int .i64 (v 0),.int .i64 (v 1),.int .i64 (v 2),.int .i64 (v 3),.int .i64 (v 4),.int .i64 (v 5),.int .i64 (v 6),.int .i64 (v 7),.int .i64 (v 8)] 37)) wb (n+1)):=.inr ⟨e,(h.below hB1).later (Nat.le_succ n)⟩;have b0:(w.alloc (.cells #[.int .i64 2,.int .i64 a,.int .i64 bb,.int .i64 (v 0),.int .i64 (v 1),.int .i64 (v 2),.int .i64 (v 3),.int .i64 (v 4),.int .i64 (v 5),.int .i64 (v 6),.int .i64 (v 7),.int .i64 (v 8)] 37)).cell? ⟨w.heap.size,0,none⟩=some (.int .i64 2):=by rw[World.cell?_alloc_at _ _ _ _ rfl];rfl
 have c5:(w.alloc (.cells #[.int .i64 2,.int .i64 a,.int .i64 bb,.int .i64 (v 0),.int .i64 (v 1),.int .i64 (v 2),.int .i64 (v 3),.int .i64 (v 4),.int .i64 (v 5),.int .i64 (v 6),.int .i64 (v 7),.int .i64 (v 8)] 37)).cell? ⟨wb,5,none⟩=some (.bool true):=(h.below hB1).c5;clear h hB1;go_enter Tryz.func8,Tryz.ntmps8;go_wp2;go_ret;exact⟨rfl,HK⟩
theorem kstepN1{c0 c1 c2:Int}(h:KN w0 w wb c0 c1 c2 ds)(hn:ds.length≤n)(a bb:Int)(v:Nat→Int)(ha: -9223372036854775808≤a∧a≤9223372036854775807)(hb: -9223372036854775808≤bb∧bb≤9223372036854775807):
 Calls Tryz.prog 8 #[.pointer (some ⟨wb,0,none⟩),.agg #[.int .i64 1,.int .i64 a,.int .i64 bb,.int .i64 (v 0),.int .i64 (v 1),.int .i64 (v 2),.int .i64 (v 3),.int .i64 (v 4),.int .i64 (v 5),.int .i64 (v 6),.int .i64 (v 7),.int .i64 (v 8)],.bool true] w fun en w'=>en=.returned (.bool true)∧Hid (GS w0 w' wb (n+1)):=by
 have hB1:Below w.heap.size w (w.alloc (.cells #[.int .i64 1,.int .i64 a,.int .i64 bb,.int .i64 (v 0),.int .i64 (v 1),.int .i64 (v 2),.int .i64 (v 3),.int .i64 (v 4),.int .i64 (v 5),.int .i64 (v 6),.int .i64 (v 7),.int .i64 (v 8)] 37)):=(Below.refl _ _).alloc (Nat.le_refl _) _;have HKN:=hid (h.below hB1);obtain⟨hl,hlo,p0,p1,p2,hds,hdl,dv,hwb,hdv⟩:=h.below hB1;have hwl:wb<w.heap.size:=by obtain⟨_,_,_,_,_,_,_,_,hx,_⟩:=h;exact(Array.getElem?_eq_some_iff.1 hx).1
 have b0:(w.alloc (.cells #[.int .i64 1,.int .i64 a,.int .i64 bb,.int .i64 (v 0),.int .i64 (v 1),.int .i64 (v 2),.int .i64 (v 3),.int .i64 (v 4),.int .i64 (v 5),.int .i64 (v 6),.int .i64 (v 7),.int .i64 (v 8)] 37)).cell? ⟨w.heap.size,0,none⟩=some (.int .i64 1):=by rw[World.cell?_alloc_at _ _ _ _ rfl];rfl
 have b1:(w.alloc (.cells #[.int .i64 1,.int .i64 a,.int .i64 bb,.int .i64 (v 0),.int .i64 (v 1),.int .i64 (v 2),.int .i64 (v 3),.int .i64 (v 4),.int .i64 (v 5),.int .i64 (v 6),.int .i64 (v 7),.int .i64 (v 8)] 37)).cell? ⟨w.heap.size,1,none⟩=some (.int .i64 a):=by rw[World.cell?_alloc_at _ _ _ _ rfl];rfl
 have b2:(w.alloc (.cells #[.int .i64 1,.int .i64 a,.int .i64 bb,.int .i64 (v 0),.int .i64 (v 1),.int .i64 (v 2),.int .i64 (v 3),.int .i64 (v 4),.int .i64 (v 5),.int .i64 (v 6),.int .i64 (v 7),.int .i64 (v 8)] 37)).cell? ⟨w.heap.size,2,none⟩=some (.int .i64 bb):=by rw[World.cell?_alloc_at _ _ _ _ rfl];rfl
 have c5:(w.alloc (.cells #[.int .i64 1,.int .i64 a,.int .i64 bb,.int .i64 (v 0),.int .i64 (v 1),.int .i64 (v 2),.int .i64 (v 3),.int .i64 (v 4),.int .i64 (v 5),.int .i64 (v 6),.int .i64 (v 7),.int .i64 (v 8)] 37)).cell? ⟨wb,5,none⟩=some (.bool false):=by unfold World.cell?;rw[hwb];rfl
 have HFZ:Hid (∀j,(w.alloc (.cells #[.int .i64 1,.int .i64 a,.int .i64 bb,.int .i64 (v 0),.int .i64 (v 1),.int .i64 (v 2),.int .i64 (v 3),.int .i64 (v 4),.int .i64 (v 5),.int .i64 (v 6),.int .i64 (v 7),.int .i64 (v 8)] 37)).frozen? ⟨wb,j,none⟩=false):=fun j=>by simp[World.frozen?,hwb]
 have HCW:Hid ((w.alloc (.cells #[.int .i64 1,.int .i64 a,.int .i64 bb,.int .i64 (v 0),.int .i64 (v 1),.int .i64 (v 2),.int .i64 (v 3),.int .i64 (v 4),.int .i64 (v 5),.int .i64 (v 6),.int .i64 (v 7),.int .i64 (v 8)] 37)).cell? ⟨wb,0,none⟩=some (.int .i64 c0)∧(w.alloc (.cells #[.int .i64 1,.int .i64 a,.int .i64 bb,.int .i64 (v 0),.int .i64 (v 1),.int .i64 (v 2),.int .i64 (v 3),.int .i64 (v 4),.int .i64 (v 5),.int .i64 (v 6),.int .i64 (v 7),.int .i64 (v 8)] 37)).cell? ⟨wb,1,none⟩=some (.int .i64 c1)∧(w.alloc (.cells #[.int .i64 1,.int .i64 a,.int .i64 bb,.int .i64 (v 0),.int .i64 (v 1),.int .i64 (v 2),.int .i64 (v 3),.int .i64 (v 4),.int .i64 (v 5),.int .i64 (v 6),.int .i64 (v 7),.int .i64 (v 8)] 37)).cell? ⟨wb,2,none⟩=some (.int .i64 c2)):=⟨by unfold World.cell?;rw[hwb];rfl,by unfold World.cell?;rw[hwb];rfl,by unfold World.cell?;rw[hwb];rfl⟩;have hbw:w.heap.size≠wb:=by omega
 have HPK:Hid (∀W,Calls Tryz.prog 14 #[.int .i64 a,.int .i64 3] W fun en w'=>en=.returned (.int .i64 (pickI a 3))∧w'=W):=fun W=>kpick W a 3 ha (by omega)
 have HB:=hid hb;have HN:=hid hn;have hpk:pickI a 3=0∨pickI a 3=1∨pickI a 3=2:=by have:=zA a (n:=3) (by omega);omega
 clear h hB1 hl hlo p0 p1 p2 hds hdl hwb hdv hwl ha hb hn;rcases hpk with q|q|q
 ·rw[q]at HPK;clear q;have cj:=HCW.out.1;have fj:=HFZ.out 0;clear HCW HFZ;go_enter Tryz.func8,Tryz.ntmps8;go_wp2_with fail;generalize hbx:w.heap.size=bx at *;generalize (w.alloc (.cells #[.int .i64 1,.int .i64 a,.int .i64 bb,.int .i64 (v 0),.int .i64 (v 1),.int .i64 (v 2),.int .i64 (v 3),.int .i64 (v 4),.int .i64 (v 5),.int .i64 (v 6),.int .i64 (v 7),.int .i64 (v 8)] 37))=V1 at *;go_region_held3(fun X=>X.cell? ⟨bx,1,none⟩=some (.int .i64 a)∧X.cell? ⟨bx,2,none⟩=some (.int .i64 bb)) (first
   |exact⟨b1,b2⟩
   |exact⟨(World.cell?_setCell_other _ _ _ _ (by intro e;injection e with e1 e2;exact hbw e1.symm)).trans b1,(World.cell?_setCell_other _ _ _ _ (by intro e;injection e with e1 e2;exact hbw e1.symm)).trans b2⟩) (first
   |(with_reducible refine(HPK.out _).mono ?_;rintro en w' ⟨rfl,rfl⟩))
  all_goals(
   have HEND:Hid (GS w0 (V1.setCell ⟨wb,0,none⟩ (.int .i64 bb)).drew wb (n+1)):=by
    obtain⟨hl,hlo,p0,p1,p2,hds,hdl,dv,hwb,hdv⟩:=HKN.out;have oth: ∀k,k≠wb→(V1.setCell ⟨wb,0,none⟩ (.int .i64 bb)).heap[k]? =V1.heap[k]? :=fun k hk=>Below.heap_setCell _ _ _ _ hk
    refine .inl ⟨bb,c1,c2,ds,⟨⟨hl.os,hl.tape,hl.output,by show _≤(V1.setCell _ _).heap.size;simp;exact hl.size,fun k hk=>(oth k (by omega)).trans (hl.block k hk)⟩,hlo,HB.out,p1,p2,hds,hdl,dv,?_,zB0 hdv fun r hr=>oth r (by have:=(hdv.lt r hr).1;omega)⟩,Nat.le_succ_of_le HN.out⟩;show(V1.setCell ⟨wb,0,none⟩ (.int .i64 bb)).heap[wb]? =_;rw[zB3 _ _ _ _ _ _ _ hwb];rfl
   clear b0 b1 b2 c5 cj fj HPK HKN;generalize (V1.setCell ⟨wb,0,none⟩ (.int .i64 bb)).drew=V2 at *;go_wp2;go_ret;exact⟨rfl,HEND⟩)
 ·rw[q]at HPK;clear q;have cj:=HCW.out.2.1;have fj:=HFZ.out 1;clear HCW HFZ;go_enter Tryz.func8,Tryz.ntmps8;go_wp2_with fail;generalize hbx:w.heap.size=bx at *;generalize (w.alloc (.cells #[.int .i64 1,.int .i64 a,.int .i64 bb,.int .i64 (v 0),.int .i64 (v 1),.int .i64 (v 2),.int .i64 (v 3),.int .i64 (v 4),.int .i64 (v 5),.int .i64 (v 6),.int .i64 (v 7),.int .i64 (v 8)] 37))=V1 at *;go_region_held3(fun X=>X.cell? ⟨bx,1,none⟩=some (.int .i64 a)∧X.cell? ⟨bx,2,none⟩=some (.int .i64 bb)) (first
   |exact⟨b1,b2⟩
   |exact⟨(World.cell?_setCell_other _ _ _ _ (by intro e;injection e with e1 e2;exact hbw e1.symm)).trans b1,(World.cell?_setCell_other _ _ _ _ (by intro e;injection e with e1 e2;exact hbw e1.symm)).trans b2⟩) (first
   |(with_reducible refine(HPK.out _).mono ?_;rintro en w' ⟨rfl,rfl⟩))
  all_goals(
   have HEND:Hid (GS w0 (V1.setCell ⟨wb,1,none⟩ (.int .i64 bb)).drew wb (n+1)):=by
    obtain⟨hl,hlo,p0,p1,p2,hds,hdl,dv,hwb,hdv⟩:=HKN.out;have oth: ∀k,k≠wb→(V1.setCell ⟨wb,1,none⟩ (.int .i64 bb)).heap[k]? =V1.heap[k]? :=fun k hk=>Below.heap_setCell _ _ _ _ hk
    refine .inl ⟨c0,bb,c2,ds,⟨⟨hl.os,hl.tape,hl.output,by show _≤(V1.setCell _ _).heap.size;simp;exact hl.size,fun k hk=>(oth k (by omega)).trans (hl.block k hk)⟩,hlo,p0,HB.out,p2,hds,hdl,dv,?_,zB0 hdv fun r hr=>oth r (by have:=(hdv.lt r hr).1;omega)⟩,Nat.le_succ_of_le HN.out⟩;show(V1.setCell ⟨wb,1,none⟩ (.int .i64 bb)).heap[wb]? =_;rw[zB3 _ _ _ _ _ _ _ hwb];rfl
   clear b0 b1 b2 c5 cj fj HPK HKN;generalize (V1.setCell ⟨wb,1,none⟩ (.int .i64 bb)).drew=V2 at *;go_wp2;go_ret;exact⟨rfl,HEND⟩)
 ·rw[q]at HPK;clear q;have cj:=HCW.out.2.2;have fj:=HFZ.out 2;clear HCW HFZ;go_enter Tryz.func8,Tryz.ntmps8;go_wp2_with fail;generalize hbx:w.heap.size=bx at *;generalize (w.alloc (.cells #[.int .i64 1,.int .i64 a,.int .i64 bb,.int .i64 (v 0),.int .i64 (v 1),.int .i64 (v 2),.int .i64 (v 3),.int .i64 (v 4),.int .i64 (v 5),.int .i64 (v 6),.int .i64 (v 7),.int .i64 (v 8)] 37))=V1 at *;go_region_held3(fun X=>X.cell? ⟨bx,1,none⟩=some (.int .i64 a)∧X.cell? ⟨bx,2,none⟩=some (.int .i64 bb)) (first
   |exact⟨b1,b2⟩
   |exact⟨(World.cell?_setCell_other _ _ _ _ (by intro e;injection e with e1 e2;exact hbw e1.symm)).trans b1,(World.cell?_setCell_other _ _ _ _ (by intro e;injection e with e1 e2;exact hbw e1.symm)).trans b2⟩) (first
   |(with_reducible refine(HPK.out _).mono ?_;rintro en w' ⟨rfl,rfl⟩))
  all_goals(
   have HEND:Hid (GS w0 (V1.setCell ⟨wb,2,none⟩ (.int .i64 bb)).drew wb (n+1)):=by
    obtain⟨hl,hlo,p0,p1,p2,hds,hdl,dv,hwb,hdv⟩:=HKN.out;have oth: ∀k,k≠wb→(V1.setCell ⟨wb,2,none⟩ (.int .i64 bb)).heap[k]? =V1.heap[k]? :=fun k hk=>Below.heap_setCell _ _ _ _ hk
    refine .inl ⟨c0,c1,bb,ds,⟨⟨hl.os,hl.tape,hl.output,by show _≤(V1.setCell _ _).heap.size;simp;exact hl.size,fun k hk=>(oth k (by omega)).trans (hl.block k hk)⟩,hlo,p0,p1,HB.out,hds,hdl,dv,?_,zB0 hdv fun r hr=>oth r (by have:=(hdv.lt r hr).1;omega)⟩,Nat.le_succ_of_le HN.out⟩;show(V1.setCell ⟨wb,2,none⟩ (.int .i64 bb)).heap[wb]? =_;rw[zB3 _ _ _ _ _ _ _ hwb];rfl
   clear b0 b1 b2 c5 cj fj HPK HKN;generalize (V1.setCell ⟨wb,2,none⟩ (.int .i64 bb)).drew=V2 at *;go_wp2;go_ret;exact⟨rfl,HEND⟩)
end Go.Proofs.YtanfmhonjpjpoaaGreatDoor
