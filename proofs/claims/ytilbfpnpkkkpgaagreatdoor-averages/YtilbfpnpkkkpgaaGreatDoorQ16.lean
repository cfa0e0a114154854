import Derived.Test.YtilbfpnpkkkpgaaGreatDoorQ00
import Derived.Test.YtilbfpnpkkkpgaaGreatDoorQ04
import Derived.Test.YtilbfpnpkkkpgaaGreatDoorQ12
import Derived.Test.YtilbfpnpkkkpgaaGreatDoorQ14
import Derived.Deep.RegionHeld3
set_option linter.all false
set_option maxRecDepth 100000
set_option maxHeartbeats 8000000
namespace Go.Proofs.YtilbfpnpkkkpgaaGreatDoor
open Go.Extern Go.RowKit
theorem Tryz.infoRef:(Tryz.prog.info? 220).map (fun i=>(i.size,i.bytes))=some (7,56):=by kernel_rfl
theorem Tryz.zeroRef:(Tryz.prog.info? 220).map (fun i=>i.zero)=some (some (recW 0 0 0 0 0 0 0)):=by kernel_rfl
theorem zFl{B:Nat}{w w':World}(h:Below B w w'):Below B w w'.drew:=⟨h.os,h.tape,h.output,h.size,h.block⟩
theorem zJz{w:World}{B:Nat}{e:TypeId}{size:Nat}{v:Value}{n:Nat}{xs:List Value}(h:w.ownsRow B e size v n xs):w.drew.ownsRow B e size v n xs:=h
theorem zDn(w:World)(cs:Array Value)(ty:TypeId)(j:Nat)(u:Value)(h:cs[j]? =some u):(w.alloc (.cells cs ty)).cell? (iA w.heap.size j)=some u:=by
 rw[World.cell?_alloc_at _ _ _ _ rfl];exact h
theorem zC6(s t:ByteArray)(p a n:Nat)(h:t.data.toList=s.data.toList.drop p)(hs:a+n≤t.size):val (t.extract a (a+n)).data.toList=fld s p a n:=by
 rw[←zAo s t p a n h,zF4 t a n hs,fld,Nat.zero_add]
theorem zFm(s t:ByteArray)(p a:Nat)(h:t.data.toList=s.data.toList.drop p)(hs:a<t.size):(t[a].toNat:Int)=fld s p a 1:=by
 rw[←zAo s t p a 1 h,fld,Nat.zero_add];have e:(t.data.toList.drop a).take 1= [t[a]]:=by
  have:=zEi t a 0 (by simpa using hs);simpa using this
 rw[e];simp[val]
theorem zDo(s:ByteArray)(w:World)(hm:s.size≤1000000000):
 Cl 114 #[.string s] w fun e w'=> ∃(k:Nat) (n:Int),RecsOf s k n∧Below w.heap.size w w'∧
  ((n=0∧∃v,e=rV #[v,iV 0,iV 0]∧w'.ownsRow w.heap.size 220 7 v k (rowsC s k))∨
   (n≠0∧e=rV #[.slice none 0 0,iV n,iV (k:Int)])):=by
 obtain⟨i0,hi,hz0,hz1,hz2⟩:=zBc Tryz.infoRef Tryz.zeroRef;go_enter Tryz.func114,Tryz.ntmps114;go_wp2;go_loopw [0,5] (fun t l wr=> ∃(k:Nat) (tb:ByteArray),t=.string tb∧tb.data.toList=s.data.toList.drop (22*k)∧22*k≤s.size∧(∀i,i<k→okRec s i)∧wr.ownsRow w.heap.size 220 7 l k (rowsC s k)∧Bw w wr) (fun t _ _=>strLen t)
 case atStart=>exact⟨0,s,rfl,rfl,Nat.zero_le _,fun _ h=>absurd h (Nat.not_lt_zero _),World.ownsRow_nil _ _ _ _,Below.refl _ _⟩
 case round=>
  obtain⟨k,tb,rfl,htb,hk,hok,hown,hb⟩:=hrel;have hsa:tb.size+22*k≤s.size:=by have:=zCq s tb _ htb;omega
  have hsb:s.size≤tb.size+22*k:=by have:=zCq s tb _ htb;omega
  have HTB:Hid (tb.data.toList=s.data.toList.drop (22*k)):=htb;have HOK:Hid (∀i,i<k→okRec s i):=hok;have HOW:Hid (wr.ownsRow w.heap.size 220 7 u5 k (rowsC s k)):=hown;by_cases h0:tb.size=0
  ·have HR:Hid (RecsOf s k 0):=⟨HOK,.inl ⟨rfl,by omega⟩⟩;obtain rfl:tb=⟨#[]⟩:=by
    apply ByteArray.ext;exact Array.eq_empty_of_size_eq_zero h0
   go_wp2;go_ret3;exact⟨k,0,HR,hb,.inl ⟨rfl,_,rfl,HOW⟩⟩
  ·have hne:=zCo tb (by omega);by_cases h22:tb.size<22
   ·have HR:Hid (RecsOf s k 4):=⟨HOK,.inr (.inl ⟨rfl,by omega,by omega⟩)⟩;rcases hown.2 with⟨rfl,rfl⟩|⟨g,cap,cur,rfl,hg,hh,hle,hmx,hsz2,htk⟩;all_goals
     try clear hh htk hsz2
     go_wp2;go_ret3;exact⟨_,4,HR,hb,.inr ⟨by decide,rfl⟩⟩
   ·have hz22:22≤tb.size:=by omega
    have hc1:=fun W=>zBr tb 1 4 W (by omega)
    have hc2:=fun W=>zBr tb 5 4 W (by omega)
    have hc3:=fun W=>zBr tb 9 4 W (by omega)
    have hc4:=fun W=>zBr tb 13 4 W (by omega)
    have hc5:=fun W=>zBr tb 17 4 W (by omega)
    have hz1':=zBd tb 1 4 (by omega);have hz2':=zBd tb 5 4 (by omega);have hz3':=zBd tb 9 4 (by omega);have hz4':=zBd tb 13 4 (by omega);have hz5':=zBd tb 17 4 (by omega);have hf1:=zC6 s tb _ 1 4 HTB (by omega);have hf2:=zC6 s tb _ 5 4 HTB (by omega);have hf3:=zC6 s tb _ 9 4 HTB (by omega);have hf4:=zC6 s tb _ 13 4 HTB (by omega);have hf5:=zC6 s tb _ 17 4 HTB (by omega);have ho0:=zFm s tb _ 0 HTB (by omega);have ho6:=zFm s tb _ 21 HTB (by omega);have hb0:=zEz s (22*k) 0 1 (by omega);have hb6:=zEz s (22*k) 21 1 (by omega);have HRL:Hid ((recL s (22*k)).map (iV)= [iV (fld s (22*k) 0 1),iV (fld s (22*k) 1 4),iV (fld s (22*k) 5 4),iV (fld s (22*k) 9 4),iV (fld s (22*k) 13 4),iV (fld s (22*k) 17 4),iV (fld s (22*k) 21 1)]):=rfl;have HBADK:Hid (fld s (22*k) 0 1<1∨8<fld s (22*k) 0 1→RecsOf s k 6):=fun hq=>⟨HOK,.inr (.inr ⟨rfl,by omega,hq⟩)⟩
    have HGOODK:Hid (1≤fld s (22*k) 0 1∧fld s (22*k) 0 1≤8→okRec s k):=fun hq=>⟨by omega,hq.1,hq.2⟩
    simp only[show(1:Nat)+4=5 from rfl,show(5:Nat)+4=9 from rfl,show(9:Nat)+4=13 from rfl,show(13:Nat)+4=17 from rfl,show(17:Nat)+4=21 from rfl]at hc1 hc2 hc3 hc4 hc5 hz1' hz2' hz3' hz4' hz5' hf1 hf2 hf3 hf4 hf5;generalize fld s (22*k) 0 1=k0 at *;generalize fld s (22*k) 1 4=k1 at *;generalize fld s (22*k) 5 4=k2 at *;generalize fld s (22*k) 9 4=k3 at *;generalize fld s (22*k) 13 4=k4 at *;generalize fld s (22*k) 17 4=k5 at *;generalize fld s (22*k) 21 1=k6 at *;have hwk0:IntKind.i64.wrap k0=k0:=by simp only[IntKind.wrap,IntKind.bits,IntKind.signed];simp;omega
    have hwk6:IntKind.i64.wrap k6=k6:=by simp only[IntKind.wrap,IntKind.bits,IntKind.signed];simp;omega
    have hw0:wrap64 k0=k0:=by unfold wrap64;omega
    have hw6:wrap64 k6=k6:=by unfold wrap64;omega
    have hcut:=fun W=>zFc tb W hz22
    have HCUT:Hid (∀W,(Instr.slice 9 (.string tb) (sI 22) none none).run Tryz.prog W=.ok (.string (tb.extract 22 tb.size)) W):=hcut;have HCD':Hid ((tb.extract 22 tb.size).data.toList=tb.data.toList.drop 22):=zFd tb hz22;have hv1:=fun W=>zBm (tb.extract 1 5) W (by omega)
    have hv2:=fun W=>zBm (tb.extract 5 9) W (by omega)
    have hv3:=fun W=>zBm (tb.extract 9 13) W (by omega)
    have hv4:=fun W=>zBm (tb.extract 13 17) W (by omega)
    have hv5:=fun W=>zBm (tb.extract 17 21) W (by omega)
    rw[hf1]at hv1;rw[hf2]at hv2;rw[hf3]at hv3;rw[hf4]at hv4;rw[hf5]at hv5;have HV1:Hid (∀W,Cl 113 #[.string (tb.extract 1 5)] W fun e w'=>e=.returned (iV k1)∧w'=W):=hv1;have HV2:Hid (∀W,Cl 113 #[.string (tb.extract 5 9)] W fun e w'=>e=.returned (iV k2)∧w'=W):=hv2;have HV3:Hid (∀W,Cl 113 #[.string (tb.extract 9 13)] W fun e w'=>e=.returned (iV k3)∧w'=W):=hv3;have HV4:Hid (∀W,Cl 113 #[.string (tb.extract 13 17)] W fun e w'=>e=.returned (iV k4)∧w'=W):=hv4;have HV5:Hid (∀W,Cl 113 #[.string (tb.extract 17 21)] W fun e w'=>e=.returned (iV k5)∧w'=W):=hv5;have HOWN:Hid (wr.ownsRow w.heap.size 220 7 u5 k (rowsC s k)):=hown;have HBL:Hid (Bw w wr):=hb;have HBD:Hid ((0≤k0∧k0<4294967296)∧(tb.size+22*k≤s.size)∧(s.size≤tb.size+22*k)∧22*k≤s.size∧s.size≤1000000000):=⟨hb0,hsa,hsb,hk,hm⟩;have HINF:Hid (Tryz.prog.info? 220=some i0∧i0.zero=some (recW 0 0 0 0 0 0 0)∧i0.size=7∧i0.bytes=56):=⟨hi,hz0,hz1,hz2⟩
    have hI0:(0:Int)<(tb.size:Int):=by omega
    have hI21:(21:Int)<(tb.size:Int):=by omega
    have hN0:0<tb.size:=by omega
    have hN21:21<tb.size:=by omega
    have hlt22: ¬(tb.size:Int)<22:=by omega
    go_wp2_with fail;refine wp_region_held_drew (S:=fun _=>True) (by kernel_rfl) trivial (fun _=>?_);refine wpAnyH_take (i:=0) (v:=.string tb) (by rfl) (by kernel_rfl) (by kernel_rfl) (by kernel_rfl) (by exact fun _ _ _ h=>h) (Or.inl ⟨by rfl,?_⟩) trivial ?_
    ·intro W _;go_simp
    simp only[Act.put,List.setIfInBounds_toArray,List.set_cons_zero,List.set_cons_succ];refine wpAnyH_take (i:=1) (v:=.int .u8 (tb[0].toNat:Int)) (by rfl) (by kernel_rfl) (by kernel_rfl) (by kernel_rfl) (by exact fun _ _ _ h=>h) (Or.inl ⟨by rfl,?_⟩) trivial ?_
    ·intro W _;go_simp
    simp only[Act.put,List.setIfInBounds_toArray,List.set_cons_zero,List.set_cons_succ];refine wpAnyH_take (i:=2) (v:=iV k0) (by rfl) (by kernel_rfl) (by kernel_rfl) (by kernel_rfl) (by exact fun _ _ _ h=>h) (Or.inl ⟨by rfl,?_⟩) trivial ?_
    ·intro W _;go_simp
    simp only[Act.put,List.setIfInBounds_toArray,List.set_cons_zero,List.set_cons_succ];refine wpAnyH_take (i:=3) (v:=.string tb) (by rfl) (by kernel_rfl) (by kernel_rfl) (by kernel_rfl) (by exact fun _ _ _ h=>h) (Or.inl ⟨by rfl,?_⟩) trivial ?_
    ·intro W _;go_simp
    simp only[Act.put,List.setIfInBounds_toArray,List.set_cons_zero,List.set_cons_succ];refine wpAnyH_take (i:=4) (v:=.string (tb.extract 1 5)) (by rfl) (by kernel_rfl) (by kernel_rfl) (by kernel_rfl) (by exact fun _ _ _ h=>h) (Or.inl ⟨by rfl,?_⟩) trivial ?_
    ·intro W _;go_simp;intro hq;omega
    simp only[Act.put,List.setIfInBounds_toArray,List.set_cons_zero,List.set_cons_succ];refine zC1 (i:=5) (v:=iV k1) (by rfl) (by kernel_rfl) (by kernel_rfl) (by kernel_rfl) (by exact fun _ _ _ h=>h) ⟨by rfl,fun W _=>⟨_,_,?_,HV1 W⟩⟩ trivial ?_
    ·go_simp
    simp only[Act.put,List.setIfInBounds_toArray,List.set_cons_zero,List.set_cons_succ];refine wpAnyH_take (i:=6) (v:=.string tb) (by rfl) (by kernel_rfl) (by kernel_rfl) (by kernel_rfl) (by exact fun _ _ _ h=>h) (Or.inl ⟨by rfl,?_⟩) trivial ?_
    ·intro W _;go_simp
    simp only[Act.put,List.setIfInBounds_toArray,List.set_cons_zero,List.set_cons_succ];refine wpAnyH_take (i:=7) (v:=.string (tb.extract 5 9)) (by rfl) (by kernel_rfl) (by kernel_rfl) (by kernel_rfl) (by exact fun _ _ _ h=>h) (Or.inl ⟨by rfl,?_⟩) trivial ?_
    ·intro W _;go_simp;intro hq;omega
    simp only[Act.put,List.setIfInBounds_toArray,List.set_cons_zero,List.set_cons_succ];refine zC1 (i:=8) (v:=iV k2) (by rfl) (by kernel_rfl) (by kernel_rfl) (by kernel_rfl) (by exact fun _ _ _ h=>h) ⟨by rfl,fun W _=>⟨_,_,?_,HV2 W⟩⟩ trivial ?_
    ·go_simp
    simp only[Act.put,List.setIfInBounds_toArray,List.set_cons_zero,List.set_cons_succ];refine wpAnyH_take (i:=9) (v:=.string tb) (by rfl) (by kernel_rfl) (by kernel_rfl) (by kernel_rfl) (by exact fun _ _ _ h=>h) (Or.inl ⟨by rfl,?_⟩) trivial ?_
    ·intro W _;go_simp
    simp only[Act.put,List.setIfInBounds_toArray,List.set_cons_zero,List.set_cons_succ];refine wpAnyH_take (i:=10) (v:=.string (tb.extract 9 13)) (by rfl) (by kernel_rfl) (by kernel_rfl) (by kernel_rfl) (by exact fun _ _ _ h=>h) (Or.inl ⟨by rfl,?_⟩) trivial ?_
    ·intro W _;go_simp;intro hq;omega
    simp only[Act.put,List.setIfInBounds_toArray,List.set_cons_zero,List.set_cons_succ];refine zC1 (i:=11) (v:=iV k3) (by rfl) (by kernel_rfl) (by kernel_rfl) (by kernel_rfl) (by exact fun _ _ _ h=>h) ⟨by rfl,fun W _=>⟨_,_,?_,HV3 W⟩⟩ trivial ?_
    ·go_simp
    simp only[Act.put,List.setIfInBounds_toArray,List.set_cons_zero,List.set_cons_succ];refine wpAnyH_take (i:=12) (v:=.string tb) (by rfl) (by kernel_rfl) (by kernel_rfl) (by kernel_rfl) (by exact fun _ _ _ h=>h) (Or.inl ⟨by rfl,?_⟩) trivial ?_
    ·intro W _;go_simp
    simp only[Act.put,List.setIfInBounds_toArray,List.set_cons_zero,List.set_cons_succ];refine wpAnyH_take (i:=13) (v:=.string (tb.extract 13 17)) (by rfl) (by kernel_rfl) (by kernel_rfl) (by kernel_rfl) (by exact fun _ _ _ h=>h) (Or.inl ⟨by rfl,?_⟩) trivial ?_
    ·intro W _;go_simp;intro hq;omega
    simp only[Act.put,List.setIfInBounds_toArray,List.set_cons_zero,List.set_cons_succ];refine zC1 (i:=14) (v:=iV k4) (by rfl) (by kernel_rfl) (by kernel_rfl) (by kernel_rfl) (by exact fun _ _ _ h=>h) ⟨by rfl,fun W _=>⟨_,_,?_,HV4 W⟩⟩ trivial ?_
    ·go_simp
    simp only[Act.put,List.setIfInBounds_toArray,List.set_cons_zero,List.set_cons_succ];refine wpAnyH_take (i:=15) (v:=.string tb) (by rfl) (by kernel_rfl) (by kernel_rfl) (by kernel_rfl) (by exact fun _ _ _ h=>h) (Or.inl ⟨by rfl,?_⟩) trivial ?_
    ·intro W _;go_simp
    simp only[Act.put,List.setIfInBounds_toArray,List.set_cons_zero,List.set_cons_succ];refine wpAnyH_take (i:=16) (v:=.string (tb.extract 17 21)) (by rfl) (by kernel_rfl) (by kernel_rfl) (by kernel_rfl) (by exact fun _ _ _ h=>h) (Or.inl ⟨by rfl,?_⟩) trivial ?_
    ·intro W _;go_simp;intro hq;omega
    simp only[Act.put,List.setIfInBounds_toArray,List.set_cons_zero,List.set_cons_succ];refine zC1 (i:=17) (v:=iV k5) (by rfl) (by kernel_rfl) (by kernel_rfl) (by kernel_rfl) (by exact fun _ _ _ h=>h) ⟨by rfl,fun W _=>⟨_,_,?_,HV5 W⟩⟩ trivial ?_
    ·go_simp
    simp only[Act.put,List.setIfInBounds_toArray,List.set_cons_zero,List.set_cons_succ];refine wpAnyH_take (i:=18) (v:=.string tb) (by rfl) (by kernel_rfl) (by kernel_rfl) (by kernel_rfl) (by exact fun _ _ _ h=>h) (Or.inl ⟨by rfl,?_⟩) trivial ?_
    ·intro W _;go_simp
    simp only[Act.put,List.setIfInBounds_toArray,List.set_cons_zero,List.set_cons_succ];refine wpAnyH_take (i:=19) (v:=.int .u8 (tb[21].toNat:Int)) (by rfl) (by kernel_rfl) (by kernel_rfl) (by kernel_rfl) (by exact fun _ _ _ h=>h) (Or.inl ⟨by rfl,?_⟩) trivial ?_
    ·intro W _;go_simp
    simp only[Act.put,List.setIfInBounds_toArray,List.set_cons_zero,List.set_cons_succ];refine wpAnyH_take (i:=20) (v:=iV k6) (by rfl) (by kernel_rfl) (by kernel_rfl) (by kernel_rfl) (by exact fun _ _ _ h=>h) (Or.inl ⟨by rfl,?_⟩) trivial ?_
    ·intro W _;go_simp
    simp only[Act.put,List.setIfInBounds_toArray,List.set_cons_zero,List.set_cons_succ];refine wpAnyH_take (i:=21) (v:=recW k0 k1 k2 k3 k4 k5 k6) (by rfl) (by kernel_rfl) (by kernel_rfl) (by kernel_rfl) (by exact fun _ _ _ h=>h) (Or.inl ⟨by rfl,?_⟩) trivial ?_
    ·intro W _;go_simp
    simp only[Act.put,List.setIfInBounds_toArray,List.set_cons_zero,List.set_cons_succ];refine wpAnyH_ready (rs:=[22]) (by kernel_rfl) (by simp) ?_;refine AllReadyH.cons (by rfl) (fun K hK=>?_) AllReadyH.nil;go_simp;refine hK.out _ _ trivial (fun _=>?_);try simp only[Act.put,List.setIfInBounds_toArray,List.set_cons_zero,List.set_cons_succ]
    refine wpAnyH_ready (rs:=[23]) (by kernel_rfl) (by simp) ?_;refine AllReadyH.cons (by rfl) (fun K hK=>?_) AllReadyH.nil;go_simp;refine hK.out _ _ trivial (fun _=>?_);refine wpAnyH_done (by kernel_rfl) ?_ _;by_cases hkd:k0<1∨8<k0
    ·have HR:Hid (RecsOf s k 6):=HBADK hkd;rcases HOWN.out.2 with⟨rfl,rfl⟩|⟨g,cap,cur,rfl,hg,hh,hle,hmx,hsz2,htk⟩;all_goals
      try clear hh htk hsz2
      rcases hkd with hkd|hkd;all_goals
       go_wp2;go_ret3;exact⟨_,6,HR,zFl (zA2 HBL _),.inr ⟨by decide,rfl⟩⟩
    ·have hk1: ¬k0<1:=fun q=>hkd (.inl q)
     have hk8: ¬8<k0:=fun q=>hkd (.inr q)
     have HNX:Hid (okRec s k):=HGOODK ⟨by omega,by omega⟩;have hbs:=HBL.size;have HW2:Hid (((wr.alloc (.cells #[iV k0,iV k1,iV k2,iV k3,iV k4,iV k5,iV k6] 220)).alloc (.cells #[iV k0,iV k1,iV k2,iV k3,iV k4,iV k5,iV k6] 220)).drew.ownsRow w.heap.size 220 7 u5 k (rowsC s k)):=zJz ((HOWN.alloc _).alloc _);obtain⟨hi,hz0,hz1,hz2⟩:=HINF;obtain⟨q1,q2,q3,q4,q5⟩:=HBD;have HC1:Hid (∀(j:Nat) (u:Value),[iV k0,iV k1,iV k2,iV k3,iV k4,iV k5,iV k6][j]? =some u→((wr.alloc (.cells #[iV k0,iV k1,iV k2,iV k3,iV k4,iV k5,iV k6] 220)).alloc (.cells #[iV k0,iV k1,iV k2,iV k3,iV k4,iV k5,iV k6] 220)).drew.cell? (Addr.add (iA (wr.heap.size+1) 0) j)=some u):=fun j u hj=>by
      rw[Addr.add_lit,Nat.zero_add,←World.size_alloc wr (.cells #[iV k0,iV k1,iV k2,iV k3,iV k4,iV k5,iV k6] 220)];exact zDn (wr.alloc (.cells #[iV k0,iV k1,iV k2,iV k3,iV k4,iV k5,iV k6] 220)) #[iV k0,iV k1,iV k2,iV k3,iV k4,iV k5,iV k6] _ j u (by simp;exact hj)
     have HC2:Hid (∀u∈([iV k0,iV k1,iV k2,iV k3,iV k4,iV k5,iV k6]:List Value),u.oneCell'=true):=fun u hu=>by
      simp at hu;rcases hu with rfl|rfl|rfl|rfl|rfl|rfl|rfl<;>rfl
     have HC3:Hid (k+1≤maxLen):=by show k+1≤maxLen;unfold maxLen;omega
     have HC4:Hid ((k+1)* 56≤140737488355328):=by show(k+1)* 56≤140737488355328;omega
     have HC5:Hid (w.heap.size≤((wr.alloc (.cells #[iV k0,iV k1,iV k2,iV k3,iV k4,iV k5,iV k6] 220)).alloc (.cells #[iV k0,iV k1,iV k2,iV k3,iV k4,iV k5,iV k6] 220)).drew.heap.size):=by
      show w.heap.size≤((wr.alloc _).alloc _).heap.size;simp;omega
     go_wp2_with(at_builtin;refine wpList_append_own _ rfl _ _ 217 rfl w.heap.size 220 i0 (recW 0 0 0 0 0 0 0) 7 56 Tryz.underlying217 hi hz0 hz1 hz2 rfl (by decide) _ _ _ rfl HW2 (iA (wr.heap.size+1) 0) 1 1 [iV k0,iV k1,iV k2,iV k3,iV k4,iV k5,iV k6] rfl rfl HC1 HC2 HC3 HC4 HC5 ?_);intro v' w3 hown2 hgrow _;have hlt:=HW2.lt;have HB3:Hid (Bw w w3):=(zFl (zA2 (zA2 HBL _) _)).grown hgrow (by simp;omega) (fun q hq=>(hlt q hq).1);have HO:Hid (w3.ownsRow w.heap.size 220 7 v' (k+1) (rowsC s (k+1))):=by
      show w3.ownsRow w.heap.size 220 7 v' (k+1) (rowsC s (k+1));rw[zC4,HRL.out];exact hown2
     have hcut3:=HCUT w3;go_wp2;go_roundw
     case rel=>
      refine⟨k+1,tb.extract 22 tb.size,rfl,?_,by omega,?_,HO,HB3⟩
      ·rw[HCD'.out,HTB.out,List.drop_drop];congr 1
      ·intro i hi;rcases Nat.lt_or_ge i k with q|q
       ·exact HOK i q
       ·have:i=k:=by omega
        subst this;exact HNX
     case measure=>
      simp[strLen];omega
end Go.Proofs.YtilbfpnpkkkpgaaGreatDoor
