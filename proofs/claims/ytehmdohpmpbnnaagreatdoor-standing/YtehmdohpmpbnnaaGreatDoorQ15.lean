import Derived.Test.YtehmdohpmpbnnaaGreatDoorQ00
import Derived.Test.YtehmdohpmpbnnaaGreatDoorQ03
import Derived.Test.YtehmdohpmpbnnaaGreatDoorQ09
import Derived.Test.YtehmdohpmpbnnaaGreatDoorQ11
import Derived.Deep.RegionHeld3
set_option linter.all false
set_option maxRecDepth 100000
set_option maxHeartbeats 8000000
namespace Go.Proofs.YtehmdohpmpbnnaaGreatDoor
open Go.Proofs.Tryz
open Go.Extern Go.RowKit
theorem Tryz.infoRef:(prog.info? 143).map (fun i=>(i.size,i.bytes))=some (7,56):=by kernel_rfl
theorem Tryz.zeroRef:(prog.info? 143).map (fun i=>i.zero)=some (some (bM 0 0 0 0 0 0 0)):=by kernel_rfl
theorem zBz{B:Nat}{w w':World}(h:Below B w w'):Below B w w'.drew:=⟨h.os,h.tape,h.output,h.size,h.block⟩
theorem zF5{w:World}{B:Nat}{e:TypeId}{size:Nat}{v:Value}{n:Nat}{xs:List Value}(h:w.ownsRow B e size v n xs):w.drew.ownsRow B e size v n xs:=h
theorem zAq(w:World)(cs:Array Value)(ty:TypeId)(j:Nat)(u:Value)(h:cs[j]? =some u):(w.alloc (.cells cs ty)).cell? (iA w.heap.size j)=some u:=by
 rw[World.cell?_alloc_at _ _ _ _ rfl];exact h
theorem xH(s t:ByteArray)(p a n:Nat)(h:t.data.toList=s.data.toList.drop p)(hs:a+n≤t.size):val (t.extract a (a+n)).data.toList=xh s p a n:=by
 rw[←wh s t p a n h,zBp t a n hs,xh,Nat.zero_add]
theorem zC(s t:ByteArray)(p a:Nat)(h:t.data.toList=s.data.toList.drop p)(hs:a<t.size):(t[a].toNat:Int)=xh s p a 1:=by
 rw[←wh s t p a 1 h,xh,Nat.zero_add];have e:(t.data.toList.drop a).take 1= [t[a]]:=by
  have:=zB7 t a 0 (by simpa using hs);simpa using this
 rw[e];simp[val]
theorem kY(s:ByteArray)(w:World)(hm:s.size≤1000000000):
 Cl 66 #[.string s] w fun e w'=> ∃(k:Nat) (n:Int),aS s k n∧Below w.heap.size w w'∧
  ((n=0∧∃v,e=rV #[v,iV 0,iV 0]∧w'.ownsRow w.heap.size 143 7 v k (qy s k))∨
   (n≠0∧e=rV #[.slice none 0 0,iV n,iV (k:Int)])):=by
 obtain⟨i0,hi,U,V,X⟩:=bF Tryz.infoRef Tryz.zeroRef;go_enter func66,ntmps66;go_wp2;go_loopw [0,5] (fun t l wr=> ∃(k:Nat) (A:ByteArray),t=.string A∧A.data.toList=s.data.toList.drop (22*k)∧22*k≤s.size∧(∀i,i<k→vC s i)∧wr.ownsRow w.heap.size 143 7 l k (qy s k)∧Bw w wr) (fun t _ _=>strLen t)
 case atStart=>exact⟨0,s,rfl,rfl,Nat.zero_le _,fun _ h=>absurd h (Nat.not_lt_zero _),World.ownsRow_nil _ _ _ _,Below.refl _ _⟩
 case round=>
  obtain⟨k,A,rfl,R,hk,B2,D,hb⟩:=hrel;have B3:A.size+22*k≤s.size:=by have:=zA1 s A _ R;omega
  have B4:s.size≤A.size+22*k:=by have:=zA1 s A _ R;omega
  have B:Hd (A.data.toList=s.data.toList.drop (22*k)):=R;have H:Hd (∀i,i<k→vC s i):=B2;have Ai:Hd (wr.ownsRow w.heap.size 143 7 u5 k (qy s k)):=D;by_cases h0:A.size=0
  ·have c:Hd (aS s k 0):=⟨H,.inl ⟨rfl,by omega⟩⟩;obtain rfl:A=⟨#[]⟩:=by
    apply ByteArray.ext;exact Array.eq_empty_of_size_eq_zero h0
   go_wp2;go_ret3;exact⟨k,0,c,hb,.inl ⟨rfl,_,rfl,Ai⟩⟩
  have Bg:=sK A (by omega);by_cases B9:A.size<22
  ·have c:Hd (aS s k 4):=⟨H,.inr (.inl ⟨rfl,by omega,by omega⟩)⟩;rcases D.2 with⟨rfl,rfl⟩|⟨g,Ap,Aq,rfl,hg,hh,Ay,B1,F,T⟩;all_goals
    try clear hh T F
    go_wp2;go_ret3;exact⟨_,4,c,hb,.inr ⟨by decide,rfl⟩⟩
  have J:22≤A.size:=by omega
  have As:=fun W=>sH A 1 4 W (by omega)
  have At:=fun W=>sH A 5 4 W (by omega)
  have Au:=fun W=>sH A 9 4 W (by omega)
  have Av:=fun W=>sH A 13 4 W (by omega)
  have Aw:=fun W=>sH A 17 4 W (by omega)
  have A5:=kS A 1 4 (by omega);have A6:=kS A 5 4 (by omega);have A7:=kS A 9 4 (by omega);have A8:=kS A 13 4 (by omega);have A9:=kS A 17 4 (by omega);have m:=xH s A _ 1 4 B (by omega);have p:=xH s A _ 5 4 B (by omega);have x:=xH s A _ 9 4 B (by omega);have y:=xH s A _ 13 4 B (by omega);have z:=xH s A _ 17 4 B (by omega);have Bh:=zC s A _ 0 B (by omega);have Bi:=zC s A _ 21 B (by omega);have Ar:=zAn s (22*k) 0 1 (by omega);have Bc:=zAn s (22*k) 21 1 (by omega);have Aj:Hd ((xA s (22*k)).map (iV)= [iV (xh s (22*k) 0 1),iV (xh s (22*k) 1 4),iV (xh s (22*k) 5 4),iV (xh s (22*k) 9 4),iV (xh s (22*k) 13 4),iV (xh s (22*k) 17 4),iV (xh s (22*k) 21 1)]):=rfl;have L:Hd (xh s (22*k) 0 1<1∨8<xh s (22*k) 0 1→aS s k 6):=fun E=>⟨H,.inr (.inr ⟨rfl,by omega,E⟩)⟩
  have G:Hd (1≤xh s (22*k) 0 1∧xh s (22*k) 0 1≤8→vC s k):=fun E=>⟨by omega,E.1,E.2⟩
  simp only[show(1:Nat)+4=5 from rfl,show(5:Nat)+4=9 from rfl,show(9:Nat)+4=13 from rfl,show(13:Nat)+4=17 from rfl,show(17:Nat)+4=21 from rfl]at As At Au Av Aw A5 A6 A7 A8 A9 m p x y z;generalize xh s (22*k) 0 1=k0 at *;generalize xh s (22*k) 1 4=k1 at *;generalize xh s (22*k) 5 4=k2 at *;generalize xh s (22*k) 9 4=k3 at *;generalize xh s (22*k) 13 4=k4 at *;generalize xh s (22*k) 17 4=k5 at *;generalize xh s (22*k) 21 1=k6 at *;have B7:IntKind.i64.wrap k0=k0:=by simp only[IntKind.wrap,IntKind.bits,IntKind.signed];simp;omega
  have B8:IntKind.i64.wrap k6=k6:=by simp only[IntKind.wrap,IntKind.bits,IntKind.signed];simp;omega
  have Bj:wrap64 k0=k0:=by unfold wrap64;omega
  have Bk:wrap64 k6=k6:=by unfold wrap64;omega
  have f:=fun W=>zAp A W J
  have Z:Hd (∀W,(Instr.slice 9 (.string A) (sI 22) none none).run prog W=.ok (.string (A.extract 22 A.size)) W):=f;have Y:Hd ((A.extract 22 A.size).data.toList=A.data.toList.drop 22):=mV A J;have A0:=fun W=>jZ (A.extract 1 5) W (by omega)
  have A1:=fun W=>jZ (A.extract 5 9) W (by omega)
  have A2:=fun W=>jZ (A.extract 9 13) W (by omega)
  have A3:=fun W=>jZ (A.extract 13 17) W (by omega)
  have A4:=fun W=>jZ (A.extract 17 21) W (by omega)
  rw[m]at A0;rw[p]at A1;rw[x]at A2;rw[y]at A3;rw[z]at A4;have Ak:Hd (∀W,Cl 65 #[.string (A.extract 1 5)] W fun e w'=>e=.returned (iV k1)∧w'=W):=A0;have Al:Hd (∀W,Cl 65 #[.string (A.extract 5 9)] W fun e w'=>e=.returned (iV k2)∧w'=W):=A1;have Am:Hd (∀W,Cl 65 #[.string (A.extract 9 13)] W fun e w'=>e=.returned (iV k3)∧w'=W):=A2;have An:Hd (∀W,Cl 65 #[.string (A.extract 13 17)] W fun e w'=>e=.returned (iV k4)∧w'=W):=A3;have Ao:Hd (∀W,Cl 65 #[.string (A.extract 17 21)] W fun e w'=>e=.returned (iV k5)∧w'=W):=A4;have I:Hd (wr.ownsRow w.heap.size 143 7 u5 k (qy s k)):=D;have M:Hd (Bw w wr):=hb;have Ab:Hd ((0≤k0∧k0<4294967296)∧(A.size+22*k≤s.size)∧(s.size≤A.size+22*k)∧22*k≤s.size∧s.size≤1000000000):=⟨Ar,B3,B4,hk,hm⟩;have b:Hd (prog.info? 143=some i0∧i0.zero=some (bM 0 0 0 0 0 0 0)∧i0.size=7∧i0.bytes=56):=⟨hi,U,V,X⟩;have Ba:(0:Int)<(A.size:Int):=by omega
  have B5:(21:Int)<(A.size:Int):=by omega
  have Bb:0<A.size:=by omega
  have B6:21<A.size:=by omega
  have B0:¬(A.size:Int)<22:=by omega
  go_wp2_with fail;refine wp_region_held_drew (S:=fun _=>True) (by kernel_rfl) trivial (fun _=>?_);refine wpAnyH_take (i:=0) (v:=.string A) (by rfl) (by kernel_rfl) (by kernel_rfl) (by kernel_rfl) (by exact fun _ _ _ h=>h) (Or.inl ⟨by rfl,?_⟩) trivial ?_
  ·intro W _;go_simp
  simp only[Act.put,sT,sZ,sS];refine wpAnyH_take (i:=1) (v:=.int .u8 (A[0].toNat:Int)) (by rfl) (by kernel_rfl) (by kernel_rfl) (by kernel_rfl) (by exact fun _ _ _ h=>h) (Or.inl ⟨by rfl,?_⟩) trivial ?_
  ·intro W _;go_simp
  simp only[Act.put,sT,sZ,sS];refine wpAnyH_take (i:=2) (v:=iV k0) (by rfl) (by kernel_rfl) (by kernel_rfl) (by kernel_rfl) (by exact fun _ _ _ h=>h) (Or.inl ⟨by rfl,?_⟩) trivial ?_
  ·intro W _;go_simp
  simp only[Act.put,sT,sZ,sS];refine wpAnyH_take (i:=3) (v:=.string A) (by rfl) (by kernel_rfl) (by kernel_rfl) (by kernel_rfl) (by exact fun _ _ _ h=>h) (Or.inl ⟨by rfl,?_⟩) trivial ?_
  ·intro W _;go_simp
  simp only[Act.put,sT,sZ,sS];refine wpAnyH_take (i:=4) (v:=.string (A.extract 1 5)) (by rfl) (by kernel_rfl) (by kernel_rfl) (by kernel_rfl) (by exact fun _ _ _ h=>h) (Or.inl ⟨by rfl,?_⟩) trivial ?_
  ·intro W _;go_simp;intro E;omega
  simp only[Act.put,sT,sZ,sS];refine jA (i:=5) (v:=iV k1) (by rfl) (by kernel_rfl) (by kernel_rfl) (by kernel_rfl) (by exact fun _ _ _ h=>h) ⟨by rfl,fun W _=>⟨_,_,?_,Ak W⟩⟩ trivial ?_
  ·go_simp
  simp only[Act.put,sT,sZ,sS];refine wpAnyH_take (i:=6) (v:=.string A) (by rfl) (by kernel_rfl) (by kernel_rfl) (by kernel_rfl) (by exact fun _ _ _ h=>h) (Or.inl ⟨by rfl,?_⟩) trivial ?_
  ·intro W _;go_simp
  simp only[Act.put,sT,sZ,sS];refine wpAnyH_take (i:=7) (v:=.string (A.extract 5 9)) (by rfl) (by kernel_rfl) (by kernel_rfl) (by kernel_rfl) (by exact fun _ _ _ h=>h) (Or.inl ⟨by rfl,?_⟩) trivial ?_
  ·intro W _;go_simp;intro E;omega
  simp only[Act.put,sT,sZ,sS];refine jA (i:=8) (v:=iV k2) (by rfl) (by kernel_rfl) (by kernel_rfl) (by kernel_rfl) (by exact fun _ _ _ h=>h) ⟨by rfl,fun W _=>⟨_,_,?_,Al W⟩⟩ trivial ?_
  ·go_simp
  simp only[Act.put,sT,sZ,sS];refine wpAnyH_take (i:=9) (v:=.string A) (by rfl) (by kernel_rfl) (by kernel_rfl) (by kernel_rfl) (by exact fun _ _ _ h=>h) (Or.inl ⟨by rfl,?_⟩) trivial ?_
  ·intro W _;go_simp
  simp only[Act.put,sT,sZ,sS];refine wpAnyH_take (i:=10) (v:=.string (A.extract 9 13)) (by rfl) (by kernel_rfl) (by kernel_rfl) (by kernel_rfl) (by exact fun _ _ _ h=>h) (Or.inl ⟨by rfl,?_⟩) trivial ?_
  ·intro W _;go_simp;intro E;omega
  simp only[Act.put,sT,sZ,sS];refine jA (i:=11) (v:=iV k3) (by rfl) (by kernel_rfl) (by kernel_rfl) (by kernel_rfl) (by exact fun _ _ _ h=>h) ⟨by rfl,fun W _=>⟨_,_,?_,Am W⟩⟩ trivial ?_
  ·go_simp
  simp only[Act.put,sT,sZ,sS];refine wpAnyH_take (i:=12) (v:=.string A) (by rfl) (by kernel_rfl) (by kernel_rfl) (by kernel_rfl) (by exact fun _ _ _ h=>h) (Or.inl ⟨by rfl,?_⟩) trivial ?_
  ·intro W _;go_simp
  simp only[Act.put,sT,sZ,sS];refine wpAnyH_take (i:=13) (v:=.string (A.extract 13 17)) (by rfl) (by kernel_rfl) (by kernel_rfl) (by kernel_rfl) (by exact fun _ _ _ h=>h) (Or.inl ⟨by rfl,?_⟩) trivial ?_
  ·intro W _;go_simp;intro E;omega
  simp only[Act.put,sT,sZ,sS];refine jA (i:=14) (v:=iV k4) (by rfl) (by kernel_rfl) (by kernel_rfl) (by kernel_rfl) (by exact fun _ _ _ h=>h) ⟨by rfl,fun W _=>⟨_,_,?_,An W⟩⟩ trivial ?_
  ·go_simp
  simp only[Act.put,sT,sZ,sS];refine wpAnyH_take (i:=15) (v:=.string A) (by rfl) (by kernel_rfl) (by kernel_rfl) (by kernel_rfl) (by exact fun _ _ _ h=>h) (Or.inl ⟨by rfl,?_⟩) trivial ?_
  ·intro W _;go_simp
  simp only[Act.put,sT,sZ,sS];refine wpAnyH_take (i:=16) (v:=.string (A.extract 17 21)) (by rfl) (by kernel_rfl) (by kernel_rfl) (by kernel_rfl) (by exact fun _ _ _ h=>h) (Or.inl ⟨by rfl,?_⟩) trivial ?_
  ·intro W _;go_simp;intro E;omega
  simp only[Act.put,sT,sZ,sS];refine jA (i:=17) (v:=iV k5) (by rfl) (by kernel_rfl) (by kernel_rfl) (by kernel_rfl) (by exact fun _ _ _ h=>h) ⟨by rfl,fun W _=>⟨_,_,?_,Ao W⟩⟩ trivial ?_
  ·go_simp
  simp only[Act.put,sT,sZ,sS];refine wpAnyH_take (i:=18) (v:=.string A) (by rfl) (by kernel_rfl) (by kernel_rfl) (by kernel_rfl) (by exact fun _ _ _ h=>h) (Or.inl ⟨by rfl,?_⟩) trivial ?_
  ·intro W _;go_simp
  simp only[Act.put,sT,sZ,sS];refine wpAnyH_take (i:=19) (v:=.int .u8 (A[21].toNat:Int)) (by rfl) (by kernel_rfl) (by kernel_rfl) (by kernel_rfl) (by exact fun _ _ _ h=>h) (Or.inl ⟨by rfl,?_⟩) trivial ?_
  ·intro W _;go_simp
  simp only[Act.put,sT,sZ,sS];refine wpAnyH_take (i:=20) (v:=iV k6) (by rfl) (by kernel_rfl) (by kernel_rfl) (by kernel_rfl) (by exact fun _ _ _ h=>h) (Or.inl ⟨by rfl,?_⟩) trivial ?_
  ·intro W _;go_simp
  simp only[Act.put,sT,sZ,sS];refine wpAnyH_take (i:=21) (v:=bM k0 k1 k2 k3 k4 k5 k6) (by rfl) (by kernel_rfl) (by kernel_rfl) (by kernel_rfl) (by exact fun _ _ _ h=>h) (Or.inl ⟨by rfl,?_⟩) trivial ?_
  ·intro W _;go_simp
  simp only[Act.put,sT,sZ,sS];refine wpAnyH_ready (rs:=[22]) (by kernel_rfl) (by simp) ?_;refine AllReadyH.cons (by rfl) (fun K hK=>?_) AllReadyH.nil;go_simp;refine hK.out _ _ trivial (fun _=>?_);try simp only[Act.put,sT,sZ,sS]
  refine wpAnyH_ready (rs:=[23]) (by kernel_rfl) (by simp) ?_;refine AllReadyH.cons (by rfl) (fun K hK=>?_) AllReadyH.nil;go_simp;refine hK.out _ _ trivial (fun _=>?_);refine wpAnyH_done (by kernel_rfl) ?_ _;by_cases C:k0<1∨8<k0
  ·have c:Hd (aS s k 6):=L C;rcases I.o.2 with⟨rfl,rfl⟩|⟨g,Ap,Aq,rfl,hg,hh,Ay,B1,F,T⟩;all_goals
    try clear hh T F
    rcases C with C|C;all_goals
     go_wp2;go_ret3;exact⟨_,6,c,zBz (fu M _),.inr ⟨by decide,rfl⟩⟩
  have Be:¬k0<1:=fun q=>C (.inl q)
  have Bf:¬8<k0:=fun q=>C (.inr q)
  have Ah:Hd (vC s k):=G ⟨by omega,by omega⟩;have Bd:=M.size;have d:Hd (((wr.alloc (.cells #[iV k0,iV k1,iV k2,iV k3,iV k4,iV k5,iV k6] 143)).alloc (.cells #[iV k0,iV k1,iV k2,iV k3,iV k4,iV k5,iV k6] 143)).drew.ownsRow w.heap.size 143 7 u5 k (qy s k)):=zF5 ((I.alloc _).alloc _);obtain⟨hi,U,V,X⟩:=b;obtain⟨q1,q2,q3,q4,q5⟩:=Ab;have Ac:Hd (∀(j:Nat) (u:Value),[iV k0,iV k1,iV k2,iV k3,iV k4,iV k5,iV k6][j]? =some u→((wr.alloc (.cells #[iV k0,iV k1,iV k2,iV k3,iV k4,iV k5,iV k6] 143)).alloc (.cells #[iV k0,iV k1,iV k2,iV k3,iV k4,iV k5,iV k6] 143)).drew.cell? (Addr.add (iA (wr.heap.size+1) 0) j)=some u):=fun j u hj=>by
   rw[Addr.add_lit,Nat.zero_add,←World.size_alloc wr (.cells #[iV k0,iV k1,iV k2,iV k3,iV k4,iV k5,iV k6] 143)];exact zAq (wr.alloc (.cells #[iV k0,iV k1,iV k2,iV k3,iV k4,iV k5,iV k6] 143)) #[iV k0,iV k1,iV k2,iV k3,iV k4,iV k5,iV k6] _ j u (by simp;exact hj)
  have Ad:Hd (∀u∈([iV k0,iV k1,iV k2,iV k3,iV k4,iV k5,iV k6]:List Value),u.oneCell'=true):=fun u hu=>by
   simp at hu;rcases hu with rfl|rfl|rfl|rfl|rfl|rfl|rfl<;>rfl
  have Ae:Hd (k+1≤maxLen):=by show k+1≤maxLen;unfold maxLen;omega
  have Af:Hd ((k+1)* 56≤140737488355328):=by show(k+1)* 56≤140737488355328;omega
  have Ag:Hd (w.heap.size≤((wr.alloc (.cells #[iV k0,iV k1,iV k2,iV k3,iV k4,iV k5,iV k6] 143)).alloc (.cells #[iV k0,iV k1,iV k2,iV k3,iV k4,iV k5,iV k6] 143)).drew.heap.size):=by
   show w.heap.size≤((wr.alloc _).alloc _).heap.size;simp;omega
  go_wp2_with(at_builtin;refine wpList_append_own _ rfl _ _ 140 rfl w.heap.size 143 i0 (bM 0 0 0 0 0 0 0) 7 56 underlying140 hi U V X rfl (by decide) _ _ _ rfl d (iA (wr.heap.size+1) 0) 1 1 [iV k0,iV k1,iV k2,iV k3,iV k4,iV k5,iV k6] rfl rfl Ac Ad Ae Af Ag ?_);intro v' w3 O N _;have Az:=d.lt;have Aa:Hd (Bw w w3):=(zBz (fu (fu M _) _)).grown N (by simp;omega) (fun q E=>(Az q E).1);have HO:Hd (w3.ownsRow w.heap.size 143 7 v' (k+1) (qy s (k+1))):=by
   show w3.ownsRow w.heap.size 143 7 v' (k+1) (qy s (k+1));rw[gJ,Aj.o];exact O
  have Ax:=Z w3;go_wp2;go_roundw
  case rel=>
   refine⟨k+1,A.extract 22 A.size,rfl,?_,by omega,?_,HO,Aa⟩
   ·rw[Y.o,B.o,List.drop_drop];congr 1
   intro i hi;rcases Nat.lt_or_ge i k with q|q
   ·exact H i q
   have:i=k:=by omega
   subst this;exact Ah
  case measure=>
   simp[strLen];omega
end Go.Proofs.YtehmdohpmpbnnaaGreatDoor
