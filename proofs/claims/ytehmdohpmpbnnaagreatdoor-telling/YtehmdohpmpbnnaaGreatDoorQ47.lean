import Derived.Test.YtehmdohpmpbnnaaGreatDoorQ00
import Derived.Test.YtehmdohpmpbnnaaGreatDoorQ42
import Derived.Test.YtehmdohpmpbnnaaGreatDoorQ45
set_option linter.all false
set_option maxRecDepth 100000
set_option maxHeartbeats 8000000
namespace Go.Proofs.YtehmdohpmpbnnaaGreatDoor
open Go.Proofs.Tryz
open Go.Extern Go.RowKit
theorem yD(x:Int)(h0:0≤x)(h1:x<1000000000000):wrap64 x=x:=by unfold wrap64;omega
theorem SR.mono{b b':Nat}{w:World}{v:Value}{m:Nat}(h:SR b' w v m)(hb:b≤b'):SR b w v m:=by
 obtain⟨G,⟨D,C⟩,E⟩:=h;refine⟨G,⟨D,?_⟩,E⟩;rcases C with C|⟨g,A,B,e,F,r⟩
 ·exact .inl C
 exact .inr ⟨g,A,B,e,Nat.le_trans hb F,r⟩
def AudBack(w:World)(e:Ending)(w':World):Prop:= ∃v m n k,e=rV #[v,iV n,iV k]∧SR w.heap.size w' v m∧m≤100000000∧Below w.heap.size w w'
theorem zMf(t:ByteArray)(w:World)(ht:t.size≤100000000):
 Cl 69 #[.string t] w fun e w'=>AudBack w e w':=by
 obtain⟨N,hN⟩:∃N,t.size / 22=N:=⟨_,rfl⟩;have Z:Int.tdiv (t.size:Int) 22=(N:Int):=by
  rw[←hN];exact(Int.ofNat_tdiv t.size 22).symm
 have x:22*N≤t.size:=by omega
 have y:N≤100000000:=by omega
 clear hN;have Aa:IntKind.i64.wrap (N:Int)=(N:Int):=by simp only[IntKind.wrap,IntKind.bits,IntKind.signed];simp;omega
 have g:wrap64 (N:Int)=(N:Int):=by unfold wrap64;omega
 go_enter func69,ntmps69;go_wp2_with fail;clear Z Aa g;go_loopw [6,7] (fun a i wr=> ∃j m:Nat,i=iV j∧j≤N∧SR w.heap.size wr a m∧m≤j∧Bw w wr) (fun _ i _=>N - (intOf i).toNat)
 case atStart=>exact⟨0,0,rfl,Nat.zero_le _,SR.nil _ _,Nat.le_refl _,Below.refl _ _⟩
 case round=>
  obtain⟨j,m,rfl,hj,b,A8,J⟩:=hrel;have O:Hd (SR w.heap.size wr u6 m∧Bw w wr):=⟨b,J⟩;have D:=J.size;clear b J;by_cases A5:j<N
  ·have Ah:(j:Int)<(N:Int):=by omega
   have A2:22*j+22≤t.size:=by omega
   have A3:(22:Int)* (j:Int)<1000000000:=by omega
   have A4:(j:Int)<1000000000:=by omega
   have B:m≤100000000:=by omega
   have A6:wrap64 (22*(j:Int))=((22*j:Nat):Int):=(yD _ (by omega) (by omega)).trans (by push_cast;rfl);have A7:wrap64 (((22*j:Nat):Int)+22)=((22*j+22:Nat):Int):=(yD _ (by push_cast;omega) (by push_cast;omega)).trans (by push_cast;rfl);have c:=kS t (22*j) 22 A2;obtain⟨E,L⟩:∃E,t.extract (22*j) (22*j+22)=E:=⟨_,rfl⟩;rw[L]at c;have T:Hd (∀W,Cl 66 #[.string E] W fun e w'=> ∃(k:Nat) (n:Int),aS E k n∧Bw W w'∧
    ((n=0∧∃v,e=rV #[v,iV 0,iV 0]∧w'.ownsRow W.heap.size 143 7 v k (qy E k))∨
     (n≠0∧e=rV #[.slice none 0 0,iV n,iV (k:Int)]))):=fun W=>kY E W (by rw[c];decide)
   have U:Hd (t.extract (22*j) (22*j+22)=E):=L;clear L;go_wp2_with fail;rw[U.o];refine(T.o _).mono ?_;clear T A6 A7 U;rintro e S ⟨k,nn,z,A,I⟩;have F:Hd (Bw w S):=O.2.trans (A.mono D);have l:Hd (SR w.heap.size S u6 m):=O.1.below A;have Y:=A.size;rcases I with⟨rfl,vb,rfl,M⟩|⟨A9,rfl⟩
   ·obtain rfl:k=1:=by
     rcases z.2 with⟨_,q⟩|⟨q,_⟩|⟨q,_⟩
     ·omega
     ·exact absurd q (by decide)
     exact absurd q (by decide)
    rcases M.2 with⟨_,q⟩|⟨u,Ab,Ae,rfl,Ag,A0,Ac,Ad,d,f⟩
    ·exact absurd q (by decide)
    have K:jm S u 143 7:=jm.of_row M (zDh E 1);obtain⟨x1,Af⟩:=K.cell 1 (by omega);have s:Hd (Cl 105 #[u6,iP u] S fun e w'=>dY w.heap.size S m e w'):=zM1 w.heap.size S u6 m u ⟨l.o,K,Below.refl _ _⟩ (Nat.le_trans D Y) B;clear M A0 f d z A K;cases e1:(x1 != (j:Int)+1)
    ·go_wp2_with fail;refine s.mono ?_;rintro e w3 ⟨R,m',r,rfl,h1,V,X⟩;have H:Hd (SR w.heap.size w3 R m'∧Bw w w3):=⟨V,F.trans X⟩;clear V X;cases r
     ·go_wp2;go_ret3;exact⟨_,0,_,_,rfl,SR.nil _ _,Nat.zero_le _,H.2⟩
     go_wp2;go_roundw
     case rel=>
      exact⟨j+1,m',by go_num,A5,H.1,by omega,H.2⟩
     case measure=>simp[intOf];omega
    go_wp2;go_ret3;exact⟨_,0,_,_,rfl,SR.nil _ _,Nat.zero_le _,F.o⟩
   have hq:(nn == 0)=false:=beq_eq_false_iff_ne.2 A9;clear z A A3 A4;go_wp2;go_ret3;exact⟨_,0,_,_,rfl,SR.nil _ _,Nat.zero_le _,F.o⟩
  have Ai:¬(j:Int)<(N:Int):=by omega
  have A1:(N:Int)<1000000000:=by omega
  have B:m≤100000000:=by omega
  obtain⟨p,C,rfl,-⟩:=O.o.1.shape';have h:Hd (Cl 44 #[iP wr.heap.size] (wr.alloc (.cells #[iV 0,iV 0,iV 0,.slice none 0 0,iV 0,.slice p m C,.string ⟨#[]⟩,iV 0,iV 0,iV 0,.string ⟨#[]⟩,iV 0,iV 0] 118)) fun e w'=> ∃R,e=.returned R∧SR (wr.alloc (.cells #[iV 0,iV 0,iV 0,.slice none 0 0,iV 0,.slice p m C,.string ⟨#[]⟩,iV 0,iV 0,iV 0,.string ⟨#[]⟩,iV 0,iV 0] 118)).heap.size w' R m∧Below (wr.alloc (.cells #[iV 0,iV 0,iV 0,.slice none 0 0,iV 0,.slice p m C,.string ⟨#[]⟩,iV 0,iV 0,iV 0,.string ⟨#[]⟩,iV 0,iV 0] 118)).heap.size (wr.alloc (.cells #[iV 0,iV 0,iV 0,.slice none 0 0,iV 0,.slice p m C,.string ⟨#[]⟩,iV 0,iV 0,iV 0,.string ⟨#[]⟩,iV 0,iV 0] 118)) w'):=zM2 wr.heap.size w.heap.size _ _ m (O.1.below (gu _)) (fw wr _ _ 5 _ rfl) (by simp) B;have G:Hd (m≤100000000∧w.heap.size≤wr.heap.size):=⟨B,D⟩;clear x ht A1 B A8 hj D y;go_wp2_with fail
  ·go_ret3;exact⟨_,0,_,_,rfl,SR.nil _ _,Nat.zero_le _,O.2⟩
  refine h.mono ?_;rintro e w5 ⟨R,rfl,V,X⟩;have HX:Hd (SR w.heap.size w5 R m∧Bw w w5):=⟨V.mono (Nat.le_trans G.2 (by simp)),(fu O.2 _).trans (X.mono (Nat.le_trans G.2 (by simp)))⟩;clear V X;go_wp2;go_ret3;exact⟨_,m,_,_,rfl,HX.1,G.1,HX.2⟩
end Go.Proofs.YtehmdohpmpbnnaaGreatDoor
