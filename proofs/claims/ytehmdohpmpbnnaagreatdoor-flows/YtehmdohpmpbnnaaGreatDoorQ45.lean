import Derived.Test.YtehmdohpmpbnnaaGreatDoorQ00
import Derived.Test.YtehmdohpmpbnnaaGreatDoorQ13
import Derived.Test.YtehmdohpmpbnnaaGreatDoorQ15
import Derived.Test.YtehmdohpmpbnnaaGreatDoorQ22
import Derived.Test.YtehmdohpmpbnnaaGreatDoorQ30
import Derived.Test.YtehmdohpmpbnnaaGreatDoorQ40
import Derived.Test.YtehmdohpmpbnnaaGreatDoorQ44
set_option linter.all false
set_option maxRecDepth 100000
set_option maxHeartbeats 8000000
namespace Go.Proofs.YtehmdohpmpbnnaaGreatDoor
variable{w w' w0:World}{p:Option Addr}{base c m n b g cap k:Nat}{s:ByteArray}{M:List Ord}{tag:Nat→Tag}
open Go.Proofs.Tryz
open Go.Extern Go.RowKit
theorem zDh(s:ByteArray)(k:Nat):∀u∈qy s k,∃x,u=iV x:=fun u hu=>by
 simp only[qy,List.mem_flatMap,List.mem_map]at hu;obtain⟨i,_,y,_,rfl⟩:=hu;exact⟨y,rfl⟩
theorem tH(s:ByteArray)(k:Nat):(qy s k).length=k*7:=by
 induction k with
 |zero=>rfl
 |succ k ih=>rw[gJ,List.length_append,ih];simp[xA];omega
def rowX(s:ByteArray)(k j:Nat):Int:=match (qy s k)[j]? with|some (.int _ x)=>x|_=>0
theorem zDi(s:ByteArray)(k j:Nat)(h:j<7*k):(qy s k)[j]? =sI (rowX s k j):=by
 have B:=tH s k;have e:(qy s k)[j]? =some (qy s k)[j]:=List.getElem?_eq_getElem (by omega);obtain⟨x,A⟩:=zDh s k (qy s k)[j] (List.getElem_mem _);unfold rowX;rw[e,A]
theorem zM6(s:ByteArray)(k j i:Nat)(hj:j<k)(hi:i<7):(qy s k)[j*7+i]? =((xA s (22*j)).map (iV))[i]? :=by
 induction k with
 |zero=>omega
 |succ k ih=>
  rw[gJ];by_cases e:j<k
  ·rw[List.getElem?_append_left (by rw[tH];omega)];exact ih e
  have:j=k:=by omega
  subst this;rw[List.getElem?_append_right (by rw[tH];omega),tH,show j*7+i - j*7=i by omega]
theorem zDj{ty:TypeId}(h:w.ownsRow base ty 7 (sL g n cap) n (qy s n))(j:Nat)(hj:j<7*n):w.cell? (iA g j)=sI (rowX s n j):=by
 have:=World.ownsRow.cells h (g:=g) rfl j _ (zDi s n j hj);rw[Addr.add_lit]at this;simpa using this
theorem aL{ty:TypeId}(h:w.ownsRow base ty 7 (sL g n cap) n (qy s n))(j:Nat)(hj:j<n)(i:Nat)(hi:i<7)(x:Int)(hx:(xA s (22*j))[i]? =some x):w.cell? (iA g (j*7+i))=sI x:=by
 have:=World.ownsRow.cells h (g:=g) rfl (j*7+i) (iV x) (by rw[zM6 s n j i hj hi,List.getElem?_map,hx];rfl);rw[Addr.add_lit]at this;simpa using this
theorem zDk{B:Nat}{e:TypeId}{size:Nat}{v:Value}{xs:List Value}(h:w.ownsRow B e size v n xs)(hb:Below w.heap.size w w'):w'.ownsRow B e size v n xs:=qz h (fun q hq=>hb.block q (h.lt q hq).2)
def Got(b:Nat)(w:World)(s:ByteArray)(k:Nat)(p:Option Addr):Prop:=(p=none∧k=0)∨∃g,p=some (iA g 0)∧∃cap,w.ownsRow b 55 7 (sL g k cap) k (qy s k)
theorem yC(hB:w0.heap.size<b)(ht:∀g,b≤g→tag g=.own)(ha:Got b w s k p):tV tag w0 w 55 p k (rowX s k)∧(p=none→k=0):=by
 rcases ha with⟨O,h⟩|⟨g,rfl,G,h⟩
 ·exact⟨.inl h,fun _=>h⟩
 refine⟨?_,fun e=>by cases e⟩;have H:=(h.lt g rfl).1;refine .inr ⟨g,rfl,ht g H,by omega,?_⟩;rcases h.2 with⟨e,-⟩|⟨N,F,A,e,R,J,C,K,D,E⟩
 ·cases e
 injection e with B L M;injection B with B;injection B with B;subst B;refine⟨A,J,by rw[D];have:=Nat.mul_le_mul_right 7 C;omega,fun j hj=>?_⟩;have I:A[j]? =(qy s k)[j]? :=by
  rw[←E,List.getElem?_take_of_lt (by omega)];simp
 rw[I];exact zDi s k j hj
theorem tJ(ha:Got b w s k p)(hb:Below w.heap.size w w'):
 Got b w' s k p:=by
 rcases ha with h|⟨g,h,A,B⟩
 ·exact .inl h
 exact .inr ⟨g,h,A,zDk B hb⟩
theorem zDl{b':Nat}{v:Value}(hk:k≤1000000000)
 (ha:Got b w s k p) (hv:w.ownsRow b' 55 7 v k (qy s k)):
 Cl 25 #[.slice p k c,v] w fun e w'=>e=rB true∧∃m,w'=w.drewN m:=by
 by_cases C:k=0
 ·subst C;rcases hv.2 with⟨rfl,-⟩|⟨D,A,B,rfl,_⟩
  ·exact gN p none c 0 w
  exact gN p _ c A w
 rcases ha with⟨_,h⟩|⟨g,rfl,E,ha⟩
 ·exact absurd h C
 rcases hv.2 with⟨rfl,h⟩|⟨D,A,B,rfl,_⟩
 ·exact absurd h C
 refine(qU g D c A k (rowX s k) (rowX s k) w hk (fun j hj=>zDj ha j hj) (fun j hj=>zDj hv j hj)).mono ?_;rintro e w' ⟨rfl,h⟩;exact⟨by rw[decide_eq_true (fun _ _=>rfl)],h⟩
theorem zM7{ws:List ByteArray}{left:Int}(h:St w0 w n ws left)(hn:n≤100000000)(a:Nat→Addr)(st:Nat→ByteArray)(hE:lq w a st)(t:ByteArray)(ht:t.size≤1000000000):
 Cl 38 #[iP w0.heap.size,.string t] w fun e w'=>e=rB true∧St w0 w' (n+1) ws left:=by
 obtain⟨J,d,h,x⟩:=h;have HS:Hd (wu J d w0 w n ws left):=h;have H:Hd (∀p∈d,p.all.size≤sizes ws):=x;have M:Hd (∀g,w.heap.size≤g→J g=.own):=h.tup;have O:=h.lt;go_enter func38,ntmps38;go_wp2_with fail;refine(nU a st t _ hE ht).mono ?_;rintro e w1 ⟨k,nn,hR,hb,B⟩;have HR:Hd (aS t k nn):=hR;have HB:Hd (Bw w w1):=hb;have Aq:k≤100000000:=by
  rcases hR.2 with⟨_,q⟩|⟨_,q,_⟩|⟨_,q,_⟩<;>omega
 have Ao:=hb.size;rcases B with⟨rfl,v,rfl,hv⟩|⟨I,rfl⟩
 ·obtain⟨p,rfl,HP⟩:∃p,v=.slice p k k∧Hd (Got w.heap.size w1 t k p):=by
   rcases hv with⟨rfl,rfl⟩|⟨g,rfl,Aa,h⟩
   ·exact⟨none,rfl,.inl ⟨rfl,rfl⟩⟩
   exact⟨_,rfl,.inr ⟨g,rfl,Aa,h⟩⟩
  go_wp2_with fail;refine(kY t _ ht).mono ?_;rintro e D ⟨k',nn,X,N,B⟩;obtain⟨rfl,rfl⟩:=HR.o.uniq X;rcases B with⟨-,vb,rfl,Ad⟩|⟨I,-⟩
  ·have L:Hd (Bw w1 D):=N;have Ai:=N.size;have f:Hd (D.ownsRow w1.heap.size 143 7 vb k (qy t k)):=Ad;obtain⟨i0,hi,Ae,Af,Ag⟩:=qh Tryz.infoRec Tryz.zeroRec;have G:Hd (prog.info? 55=some i0∧i0.zero=some (bM 0 0 0 0 0 0 0)∧i0.size=7∧i0.bytes=56):=⟨hi,Ae,Af,Ag⟩;rcases f.o.2 with⟨rfl,rfl⟩|⟨gb,Ah,An,rfl,Ap,Ab,Ak,Al,z,A0⟩
   ·go_wp2_with fail;go_loopw [11,12] (fun c i wr=>c=.slice none 0 0∧i=iV 0∧wr=D) (fun _ _ _=>0)
    case atStart=>exact⟨rfl,rfl,rfl⟩
    case round=>
     obtain⟨rfl,rfl,rfl⟩:=hrel;have T:Hd (wr.ownsRow wr.heap.size 55 7 (.slice none 0 0) 0 (qy t 0)):=World.ownsRow_nil _ _ _ _;have C:Bw wr wr:=Below.refl _ _;have U:Hd (wu J d w0 wr n ws left):=((HS.below HB).below L).below C;have S:=tJ (tJ HP L) C;have E:Hd (Got w.heap.size wr t 0 p):=S;go_wp2_with fail;refine(zDl (s:=t) (by omega) E T).mono ?_;rintro e w4 ⟨rfl,m,rfl⟩;go_wp2_with fail;refine(rP (U.drewN m) hn p 0 (rowX t 0) (by omega) (yC (s:=t) O M E).1 (yC (s:=t) O M E).2).mono ?_;rintro e w5 ⟨rfl,K,Y⟩;have V:Hd (St w0 w5 (n+1) ws left):=⟨K,d,Y,H⟩;go_wp2;go_ret;exact⟨rfl,V⟩
   clear Ab A0 z;go_wp2_with fail;go_loopw [11,12] (fun c i wr=> ∃j:Nat,i=iV j∧j≤k∧wr.ownsRow D.heap.size 55 7 c j (qy t j)∧Bw D wr) (fun _ i _=>k - (intOf i).toNat)
   case atStart=>exact⟨0,rfl,Nat.zero_le _,World.ownsRow_nil _ _ _ _,Below.refl _ _⟩
   case round=>
    obtain⟨j,rfl,hj,R,C⟩:=hrel;by_cases F:j<k
    ·have Ac:(j:Int)<(k:Int):=by omega
     have A:=zDk f C;have c0:=aL A j F 0 (by omega) _ rfl;have c1:=aL A j F 1 (by omega) _ rfl;have c2:=aL A j F 2 (by omega) _ rfl;have c3:=aL A j F 3 (by omega) _ rfl;have c4:=aL A j F 4 (by omega) _ rfl;have c5:=aL A j F 5 (by omega) _ rfl;have c6:=aL A j F 6 (by omega) _ rfl;have A8:Hd ((xA t (22*j)).map (iV)= [iV (xh t (22*j) 0 1),iV (xh t (22*j) 1 4),iV (xh t (22*j) 5 4),iV (xh t (22*j) 9 4),iV (xh t (22*j) 13 4),iV (xh t (22*j) 17 4),iV (xh t (22*j) 21 1)]):=rfl;rw[Nat.add_zero]at c0;generalize xh t (22*j) 0 1=k0 at *;generalize xh t (22*j) 1 4=k1 at *;generalize xh t (22*j) 5 4=k2 at *;generalize xh t (22*j) 9 4=k3 at *;generalize xh t (22*j) 13 4=k4 at *;generalize xh t (22*j) 17 4=k5 at *;generalize xh t (22*j) 21 1=k6 at *;have Aj:=C.size;have A2:Hd (Bw D wr):=C
     have l:Hd (((wr.alloc (.cells #[iV k0,iV k1,iV k2,iV k3,iV k4,iV k5,iV k6] 143)).alloc (.cells #[iV k0,iV k1,iV k2,iV k3,iV k4,iV k5,iV k6] 55)).ownsRow D.heap.size 55 7 u11 j (qy t j)):=(R.alloc _).alloc _;have A3:Hd (∀(i:Nat) (u:Value),[iV k0,iV k1,iV k2,iV k3,iV k4,iV k5,iV k6][i]? =some u→((wr.alloc (.cells #[iV k0,iV k1,iV k2,iV k3,iV k4,iV k5,iV k6] 143)).alloc (.cells #[iV k0,iV k1,iV k2,iV k3,iV k4,iV k5,iV k6] 55)).cell? (Addr.add (iA (wr.heap.size+1) 0) i)=some u):=fun i u hi=>by
      rw[Addr.add_lit,Nat.zero_add,←World.size_alloc wr (.cells #[iV k0,iV k1,iV k2,iV k3,iV k4,iV k5,iV k6] 143)];exact zAq (wr.alloc (.cells #[iV k0,iV k1,iV k2,iV k3,iV k4,iV k5,iV k6] 143)) #[iV k0,iV k1,iV k2,iV k3,iV k4,iV k5,iV k6] _ i u (by simp;exact hi)
     have A4:Hd (∀u∈([iV k0,iV k1,iV k2,iV k3,iV k4,iV k5,iV k6]:List Value),u.oneCell'=true):=fun u hu=>by
      simp at hu;rcases hu with rfl|rfl|rfl|rfl|rfl|rfl|rfl<;>rfl
     have A5:Hd (j+1≤maxLen):=by show j+1≤maxLen;unfold maxLen;omega
     have A6:Hd ((j+1)* 56≤140737488355328):=by show(j+1)* 56≤140737488355328;omega
     have A7:Hd (D.heap.size≤((wr.alloc (.cells #[iV k0,iV k1,iV k2,iV k3,iV k4,iV k5,iV k6] 143)).alloc (.cells #[iV k0,iV k1,iV k2,iV k3,iV k4,iV k5,iV k6] 55)).heap.size):=by
      show D.heap.size≤((wr.alloc _).alloc _).heap.size;simp;omega
     go_wp2_with(at_builtin;refine wpList_append_own _ rfl _ _ 51 rfl D.heap.size 55 i0 (bM 0 0 0 0 0 0 0) 7 56 underlying51 G.1 G.2.1 G.2.2.1 G.2.2.2 rfl (by decide) _ _ _ rfl l (iA (wr.heap.size+1) 0) 1 1 [iV k0,iV k1,iV k2,iV k3,iV k4,iV k5,iV k6] rfl rfl A3 A4 A5 A6 A7 ?_);intro v' w3 b Z _;have y:=l.lt;have A1:Hd (Bw D w3):=(fu (fu A2 _) _).grown Z (by simp;omega) (fun q hq=>(y q hq).1);have HO:Hd (w3.ownsRow D.heap.size 55 7 v' (j+1) (qy t (j+1))):=by
      show w3.ownsRow D.heap.size 55 7 v' (j+1) (qy t (j+1));rw[gJ,A8.o];exact b
     go_wp2;go_roundw
     case rel=>exact⟨j+1,by go_num,by omega,HO,A1⟩
     case measure=>simp[intOf];omega
    obtain rfl:j=k:=by omega
    have Ac:¬(j:Int)<(j:Int):=by omega
    have T:Hd (wr.ownsRow D.heap.size 55 7 u11 j (qy t j)):=R;have U:Hd (wu J d w0 wr n ws left):=((HS.below HB).below L).below C;have S:=tJ (tJ HP L) C;have E:Hd (Got w.heap.size wr t j p):=S;go_wp2_with fail;refine(zDl (s:=t) (by omega) E T).mono ?_;rintro e w4 ⟨rfl,m,rfl⟩;go_wp2_with fail;refine(rP (U.drewN m) hn p j (rowX t j) (by omega) (yC (s:=t) O M E).1 (yC (s:=t) O M E).2).mono ?_;rintro e w5 ⟨rfl,K,Y⟩;have V:Hd (St w0 w5 (n+1) ws left):=⟨K,d,Y,H⟩;go_wp2;go_ret;exact⟨rfl,V⟩
  exact absurd rfl I
 have Am:Hd (nn≠0):=I;go_wp2_with fail;refine(kY t _ ht).mono ?_;rintro e D ⟨k',Ar,X,N,B⟩;obtain⟨rfl,rfl⟩:=HR.o.uniq X;rcases B with⟨e0,-⟩|⟨-,rfl⟩
 ·exact absurd e0 I
 have hq:(nn == 0)=false:=beq_eq_false_iff_ne.2 I;have A9:Hd (St w0 D (n+1) ws left):=⟨J,d,((HS.below HB).below N).mono (Nat.le_succ n),H⟩;go_wp2;go_ret;exact⟨rfl,A9⟩
theorem zM8(M:List Ord):(M.flatMap encS).length=M.length*7:=by
 induction M with
 |nil=>rfl
 |cons x r ih=>rw[List.flatMap_cons,List.length_append,ih];simp[encS];omega
def stX(M:List Ord)(j:Nat):Int:=match (M.flatMap encS)[j]? with|some (.int _ x)=>x|_=>0
theorem zM9(M:List Ord):∀u∈M.flatMap encS,∃x,u=iV x:=fun u hu=>by
 obtain⟨o,_,h⟩:=List.mem_flatMap.1 hu;simp[encS]at h;rcases h with rfl|rfl|rfl|rfl|rfl|rfl|rfl<;>exact⟨_,rfl⟩
theorem zMa(M:List Ord)(j:Nat)(h:j<7*M.length):(M.flatMap encS)[j]? =sI (stX M j):=by
 have B:=zM8 M;have e:(M.flatMap encS)[j]? =some (M.flatMap encS)[j]:=List.getElem?_eq_getElem (by omega);obtain⟨x,A⟩:=zM9 M (M.flatMap encS)[j] (List.getElem_mem _);unfold stX;rw[e,A]
theorem zMb(hm:m=M.length)(h:w.ownsRow base 121 7 (sL g m cap) m (M.flatMap encS)):vw w g 121 m (stX M)∧base≤g:=by
 subst hm;have G:=(h.lt g rfl).1;refine⟨?_,G⟩;rcases h.2 with⟨e,-⟩|⟨N,F,A,e,O,I,C,J,D,E⟩
 ·cases e
 injection e with B K L;injection B with B;injection B with B;subst B;refine⟨A,I,by rw[D];have:=Nat.mul_le_mul_right 7 C;omega,fun j hj=>?_⟩;have H:A[j]? =(M.flatMap encS)[j]? :=by
  rw[←E,List.getElem?_take_of_lt (by omega)];simp
 rw[H];exact zMa M j hj
def mZ(base:Nat)(w:World)(p:Option Addr)(m c:Nat)(M:List Ord):Prop:=m=M.length∧(m=0∨∃g,p=some (iA g 0)∧base≤g∧vw w g 121 m (stX M))
theorem mZ.of(hm:m=M.length)(h:w.ownsRow base 121 7 (.slice p m c) m (M.flatMap encS)):mZ base w p m c M:=by
 refine⟨hm,?_⟩;rcases h.2 with⟨e,E⟩|⟨D,A,B,e,O,R,H,I,J,K⟩
 ·exact .inl E
 injection e with C L N;subst C;obtain⟨F,G⟩:=zMb hm h;exact .inr ⟨D,rfl,G,F⟩
theorem mZ.below(h:mZ base w p m c M)(hb:Below w.heap.size w w'):mZ base w' p m c M:=by
 obtain⟨C,A⟩:=h;refine⟨C,?_⟩;rcases A with A|⟨g,e,D,B⟩
 ·exact .inl A
 exact .inr ⟨g,e,D,B.of_block (hb.block g B.lt)⟩
theorem mZ.free(h:mZ base w p m c M)(hB:w0.heap.size<base)(ht:∀g,base≤g→tag g=.own):tV tag w0 w 121 p m (stX M):=by
 rcases h.2 with A|⟨g,e,C,B⟩
 ·exact .inl A
 exact .inr ⟨g,e,ht g C,by omega,B⟩
theorem zDm{b':Nat}{p':Option Addr}{m' c':Nat}{M':List Ord}(hl:M.length≤1000000000)(hl':M'.length≤1000000000)(h:mZ b w p m c M)(h':mZ b' w p' m' c' M'):
 Cl 26 #[.slice p m c,.slice p' m' c'] w fun e w'=>(∃r:Bool,e=rB r∧(M=M'→r=true))∧∃j,w'=w.drewN j:=by
 have B:=qF w p p' c c' m m' (stX M) (stX M') (by rw[h.1];exact hl) (by rw[h'.1];exact hl') (h.2.imp id fun⟨g,e,_,i⟩=>⟨g,e,fun j A=>i.cell j A⟩) (h'.2.imp id fun⟨g,e,_,i⟩=>⟨g,e,fun j A=>i.cell j A⟩) 0;refine Calls.mono (w:=w) B ?_;rintro e w' ⟨rfl,j,A⟩;refine⟨⟨_,rfl,fun e=>?_⟩,j,A⟩;subst e;rw[decide_eq_true ⟨h.1.trans h'.1.symm,fun _ _=>rfl⟩]
theorem zDn(base:Nat)(w:World)(v:Value)(l:List Ord)(h:OR base w v l)(hm:l.length≤100000000):
 Cl 45 #[v] w fun e w'=> ∃(p:Option Addr) (m c:Nat),e=.returned (.slice p m c)∧Hd (mZ w.heap.size w' p m c l∧Below w.heap.size w w'):=by
 obtain⟨X,Z,T,U,V⟩:=qh Tryz.infoOSt Tryz.zeroOSt;have B:Hd (prog.info? 121=some X∧X.zero=some (.agg #[iV 0,iV 0,iV 0,iV 0,iV 0,iV 0,iV 0])∧X.size=7∧X.bytes=56):=⟨Z,T,U,V⟩;clear Z T U V;obtain⟨m,I⟩:∃m,m=l.length:=⟨_,rfl⟩;have K:Hd (m=l.length):=I;have h:w.ownsRow base 155 15 v m (rows l):=by rw[I];exact h
 have hm:m≤100000000:=by rw[I];exact hm
 obtain⟨p,cap,rfl⟩:∃p cap,v=.slice p m cap:=by
  rcases h.2 with⟨rfl,h0⟩|⟨g,cap,S,M,_⟩
  ·exact⟨none,0,by rw[h0]⟩
  exact⟨_,_,M⟩
 have F:Hd (w.ownsRow base 155 15 (.slice p m cap) m (rows l)):=h;clear h I;go_enter func45,ntmps45;go_wp2;go_loopw [3,4] (fun lv i wr=> ∃k:Nat,i=iV k∧k≤m∧Hd (wr.ownsRow w.heap.size 121 7 lv k ((l.take k).flatMap encS))∧Hd (Below w.heap.size w wr)) (fun _ i _=>m - (intOf i).toNat)
 case atStart=>exact⟨0,rfl,Nat.zero_le _,World.ownsRow_nil _ _ _ _,Below.refl _ _⟩
 case round=>
  obtain⟨k,rfl,hk,C,H⟩:=hrel;have A3:=H.size;by_cases A1:k<m
  ·have A4:(k:Int)<(m:Int):=by omega
   have A0:k<l.length:=by rw[←K.o];exact A1
   have hj:l[k]? =some l[k]:=List.getElem?_eq_getElem A0;obtain⟨g,rfl⟩:∃g,p=some (iA g 0):=by
    rcases F.o.2 with⟨Y,h6⟩|⟨d,A2,S,Y,_⟩
    ·omega
    injection Y with Y _ _;exact⟨d,Y⟩
   have f:Hd (l.take (k+1)=l.take k++ [l[k]]):=by show _=_;rw[List.take_add_one,hj];rfl
   have A:∀(j:Nat) (x:Int),l[k].cells[j]? =some x→wr.cell? (iA g (k*15+j))=sI x:=fun j x hx=>by
    have M:=zAa l k j l[k] x hj hx;have h2:=World.ownsRow.cells F.o (g:=g) rfl (15*k+j) _ M;rw[Addr.add_lit,Nat.zero_add,Nat.mul_comm]at h2;rw[World.cell?_of_block (a:=(iA g (k*15+j))) (H.o.block g (F.o.lt g rfl).2)];exact h2
   generalize l[k]=o at *;have c0:=A 0 _ rfl;have c1:=A 1 _ rfl;have c2:=A 2 _ rfl;have c3:=A 3 _ rfl;have c4:=A 4 _ rfl;have c5:=A 5 _ rfl;have c6:=A 6 _ rfl;have c7:=A 7 _ rfl;have c8:=A 8 _ rfl;have c9:=A 9 _ rfl;have n:=A 10 _ rfl;have s:=A 11 _ rfl;have t:=A 12 _ rfl;have y:=A 13 _ rfl;have z:=A 14 _ rfl;rw[Nat.add_zero]at c0;have b:Hd (encS o= [iV o.id,iV o.dm,iV o.bn,iV o.opn,iV o.bu,iV o.cancelled,iV o.bg]):=rfl;have R:Hd (((wr.alloc (.cells #[iV o.id,iV o.side,iV o.typ,iV o.mg,iV o.jw,iV o.off,iV o.jr,iV o.time,iV o.dm,iV o.bn,iV o.opn,iV o.bu,iV o.cancelled,iV o.bg,iV o.dh] 155)).alloc (.cells #[iV o.id,iV o.dm,iV o.bn,iV o.opn,iV o.bu,iV o.cancelled,iV o.bg] 121)).ownsRow w.heap.size 121 7 u3 k ((l.take k).flatMap encS)):=(C.alloc _).alloc _
   have N:Hd (∀(i:Nat) (u:Value),[iV o.id,iV o.dm,iV o.bn,iV o.opn,iV o.bu,iV o.cancelled,iV o.bg][i]? =some u→((wr.alloc (.cells #[iV o.id,iV o.side,iV o.typ,iV o.mg,iV o.jw,iV o.off,iV o.jr,iV o.time,iV o.dm,iV o.bn,iV o.opn,iV o.bu,iV o.cancelled,iV o.bg,iV o.dh] 155)).alloc (.cells #[iV o.id,iV o.dm,iV o.bn,iV o.opn,iV o.bu,iV o.cancelled,iV o.bg] 121)).cell? (Addr.add (iA (wr.heap.size+1) 0) i)=some u):=fun i u Z=>by
    rw[Addr.add_lit,Nat.zero_add,←World.size_alloc wr (.cells #[iV o.id,iV o.side,iV o.typ,iV o.mg,iV o.jw,iV o.off,iV o.jr,iV o.time,iV o.dm,iV o.bn,iV o.opn,iV o.bu,iV o.cancelled,iV o.bg,iV o.dh] 155)];exact zAq (wr.alloc (.cells #[iV o.id,iV o.side,iV o.typ,iV o.mg,iV o.jw,iV o.off,iV o.jr,iV o.time,iV o.dm,iV o.bn,iV o.opn,iV o.bu,iV o.cancelled,iV o.bg,iV o.dh] 155)) #[iV o.id,iV o.dm,iV o.bn,iV o.opn,iV o.bu,iV o.cancelled,iV o.bg] _ i u (by simp;exact Z)
   have O:Hd (∀u∈([iV o.id,iV o.dm,iV o.bn,iV o.opn,iV o.bu,iV o.cancelled,iV o.bg]:List Value),u.oneCell'=true):=fun u hu=>by
    simp at hu;rcases hu with rfl|rfl|rfl|rfl|rfl|rfl|rfl<;>rfl
   have E:Hd (k+1≤maxLen∧(k+1)* 56≤140737488355328∧w.heap.size≤((wr.alloc (.cells #[iV o.id,iV o.side,iV o.typ,iV o.mg,iV o.jw,iV o.off,iV o.jr,iV o.time,iV o.dm,iV o.bn,iV o.opn,iV o.bu,iV o.cancelled,iV o.bg,iV o.dh] 155)).alloc (.cells #[iV o.id,iV o.dm,iV o.bn,iV o.opn,iV o.bu,iV o.cancelled,iV o.bg] 121)).heap.size):=⟨by unfold maxLen;omega,by omega,by simp;omega⟩;have J:=C.lt;clear A hj;go_wp2_with(at_builtin;refine wpList_append_own _ rfl _ _ 64 rfl w.heap.size 121 X _ 7 56 underlying64 B.1 B.2.1 B.2.2.1 B.2.2.2 rfl (by decide) _ _ _ rfl R.o (iA (wr.heap.size+1) 0) 1 1 [iV o.id,iV o.dm,iV o.bn,iV o.opn,iV o.bu,iV o.cancelled,iV o.bg] rfl rfl N.o O.o E.1 E.2.1 E.2.2 ?_);intro v' w3 G D _;have HX:Hd (w3.ownsRow w.heap.size 121 7 v' (k+1) ((l.take (k+1)).flatMap encS)):=by
    show World.ownsRow _ _ _ _ _ _ _;rw[f.o,List.flatMap_append,List.flatMap_singleton,b.o];exact G
   have HY:Hd (Below w.heap.size w w3):=(fu (fu H.o _) _).grown D E.2.2 (fun q hq=>(J q hq).1);clear G D J c0 c1 c2 c3 c4 c5 c6 c7 c8 c9 n s t y z N O E R;go_wp2;go_roundw
   case rel=>exact⟨k+1,by go_num,by omega,HX,HY⟩
   case measure=>simp[intOf];omega
  have A5:¬(k:Int)<(m:Int):=by omega
  have L:k=m:=by omega
  obtain⟨p',c',rfl⟩:∃p' c',u3=.slice p' k c':=by
   rcases C.o.2 with⟨rfl,h0⟩|⟨g,cap,S,h,_⟩
   ·exact⟨_,_,by rw[h0]⟩
   exact⟨_,_,h⟩
  have HZ:Hd (mZ w.heap.size wr p' k c' l∧Below w.heap.size w wr):=by
   have M:=C.o;rw[L,K.o,List.take_length]at M;refine⟨?_,H.o⟩;rw[L,K.o];exact mZ.of rfl M
  clear L;go_wp2;go_ret;exact⟨_,_,_,rfl,HZ⟩
end Go.Proofs.YtehmdohpmpbnnaaGreatDoor
