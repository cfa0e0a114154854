import Derived.Test.YtehmdohpmpbnnaaGreatDoorQ00
import Derived.Test.YtehmdohpmpbnnaaGreatDoorQ08
import Derived.Test.YtehmdohpmpbnnaaGreatDoorQ10
import Derived.Deep.QuietTactic
import Derived.BigQuiet
import Derived.Laws.StructEq
set_option linter.all false
set_option maxRecDepth 100000
set_option maxHeartbeats 8000000
namespace Go.Proofs.YtehmdohpmpbnnaaGreatDoor
variable{s:ByteArray}
open Go.Proofs.Tryz
open Go.Extern Go.RowKit
theorem vU(a:Nat→Addr)(s:Nat→ByteArray)(err:Value)(n pl:Int)(w:World)(hE:lq w a s)(h:xD w a err n pl):
 Cl 28 #[err] w fun e w'=>e=rV #[iV n,iV pl]∧Below w.heap.size w w':=by
 rcases h with⟨rfl,rfl,rfl⟩|⟨k,A,rfl,rfl,rfl⟩|⟨k,b,o,A,rfl,rfl,B,C⟩
 ·refine(kR w).mono ?_;rintro e w' ⟨rfl,rfl⟩;exact⟨rfl,Below.refl _ _⟩
 ·exact zBj a s k A w hE
 exact wZ a s k A b o pl w hE B C
theorem zEy(a:Nat→Addr)(s:Nat→ByteArray)(kind:Int)(v:Nat→Int)(w:World)(hE:lq w a s)(hW:qx w)(hv:∀i,i<9→-9223372036854775808≤v i∧v i≤9223372036854775807):
 Cl 29 #[dD kind v] w fun e w'=>
  ∃err,e=rV #[.string ⟨(jl kind v).1.toArray⟩,err]∧xD w' a err (jl kind v).2.1 (jl kind v).2.2∧Below w.heap.size w w':=by
 have D:=hid hv;have A:=hE.alloc (.cells #[iV kind,iV (v 0),iV (v 1),iV (v 2),iV (v 3),iV (v 4),iV (v 5),iV (v 6),iV (v 7),iV (v 8)] 81);have B:=hW.below ((Below.refl _ _).alloc (Nat.le_refl _) (.cells #[iV kind,iV (v 0),iV (v 1),iV (v 2),iV (v 3),iV (v 4),iV (v 5),iV (v 6),iV (v 7),iV (v 8)] 81));go_enter func29,ntmps29;go_wp2_with fail;refine(zEx a s kind v _ A B D).mono ?_;rintro e F ⟨err,rfl,C,E⟩;go_wp2;go_ret2;exact⟨_,rfl,C,((Below.refl _ _).alloc (Nat.le_refl _) _).trans (E.mono (by simp))⟩
theorem qA(a:Nat→Addr)(s:Nat→ByteArray)(kind:Int)(v:Nat→Int)(w:World)(hE:lq w a s)(hW:qx w)(hv:∀i,i<9→-9223372036854775808≤v i∧v i≤9223372036854775807):
 Cl 17 #[iV kind,vS v] w fun e w'=>
  e=rV #[.string ⟨(jl kind v).1.toArray⟩,iV (jl kind v).2.1,iV (jl kind v).2.2]∧Below w.heap.size w w':=by
 have M:=hid hv;have E:Bw w (w.alloc (.cells #[iV (v 0),iV (v 1),iV (v 2),iV (v 3),iV (v 4),iV (v 5),iV (v 6),iV (v 7),iV (v 8)] 27)):=(Below.refl _ _).alloc (Nat.le_refl _) _;go_enter func17,ntmps17;go_wp2_with fail;refine(zEo kind v _).mono ?_;rintro e O ⟨rfl,I⟩;have A:=hid (E.trans (I.mono (by simp)));have F:=hE.below A;have H:=hW.below A;go_wp2_with fail;refine(zEy a s kind v _ F H M).mono ?_;rintro e S ⟨D,rfl,C,J⟩;have B:=hid (A.trans (J.mono A.size));have G:=hE.below B;generalize hR:jl kind v=R at *;have L:=hid hR;obtain⟨l,n,N⟩:=R;simp only at C;go_wp2_with fail;refine(vU a s D n N _ G C).mono ?_;rintro e T ⟨rfl,K⟩;go_wp2;go_ret3;exact⟨by rw[L.o];rfl,B.trans (K.mono B.size)⟩
def vC(s:ByteArray)(i:Nat):Prop:=22*i+22≤s.size∧1≤xh s (22*i) 0 1∧xh s (22*i) 0 1≤8
def aS(s:ByteArray)(k:Nat)(e:Int):Prop:=(∀i,i<k→vC s i)∧((e=0∧22*k=s.size)∨(e=4∧22*k<s.size∧s.size<22*k+22)∨(e=6∧22*k+22≤s.size∧(xh s (22*k) 0 1<1∨8<xh s (22*k) 0 1)))
theorem aS.not{k:Nat}{e:Int}(h:aS s k e):¬vC s k:=by
 rintro⟨B,C,D⟩;rcases h.2 with⟨_,A⟩|⟨_,_,A⟩|⟨_,_,A⟩<;>omega
theorem aS.uniq{k k':Nat}{e e':Int}(h:aS s k e)(h':aS s k' e'):k=k'∧e=e':=by
 have G:k=k':=by
  rcases Nat.lt_trichotomy k k' with q|q|q
  ·exact absurd (h'.1 k q) h.not
  ·exact q
  exact absurd (h.1 k' q) h'.not
 subst G;refine⟨rfl,?_⟩;rcases h.2 with⟨A,B⟩|⟨A,B,E⟩|⟨A,B,E⟩<;>rcases h'.2 with⟨C,D⟩|⟨C,D,F⟩|⟨C,D,F⟩<;>omega
def qy(s:ByteArray)(k:Nat):List Value:=(List.range k).flatMap fun i=>(xA s (22*i)).map (iV)
theorem gJ(s:ByteArray)(k:Nat):qy s (k+1)=qy s k++(xA s (22*k)).map (iV):=by
 simp[qy,List.range_succ,List.flatMap_append]
def strLen:Value→Nat| .string s=>s.size|_=>0
theorem wh(s t:ByteArray)(p a n:Nat)(h:t.data.toList=s.data.toList.drop p):xh t 0 a n=xh s p a n:=by
 unfold xh;rw[h,List.drop_drop]
 congr 2
 congr 1
 omega
theorem zA1(s t:ByteArray)(p:Nat)(h:t.data.toList=s.data.toList.drop p):t.size=s.size - p:=by
 have:=congrArg List.length h;simpa using this
theorem zAp(t:ByteArray)(w:World)(h:22≤t.size):
 (Instr.slice 9 (.string t) (sI 22) none none).run prog w=.ok (.string (t.extract 22 t.size)) w:=by
 rw[run_slice_string_from_if w 9 t .i64 22 underlying9,if_pos (by omega)];rfl
theorem mV(t:ByteArray)(h:22≤t.size):(t.extract 22 t.size).data.toList=t.data.toList.drop 22:=by
 rw[ByteArray.data_extract,Array.toList_extract,List.extract_eq_take_drop];exact List.take_of_length_le (by simp)
theorem pG{w w':World}{B:Nat}{e:TypeId}{size:Nat}{v:Value}{n:Nat}{xs:List Value}(h:w.ownsRow B e size v n xs)(hb:Below w.heap.size w w'):w'.ownsRow B e size v n xs:=by
 refine⟨h.1,?_⟩;rcases h.2 with E|⟨g,A,C,G,F,D,r⟩
 ·exact .inl E
 exact .inr ⟨g,A,C,G,F,by rw[hb.block g (Array.getElem?_eq_some_iff.1 D).1];exact D,r⟩
theorem Tryz.infoRec:(prog.info? 55).map (fun i=>(i.size,i.bytes))=some (7,56):=by kernel_rfl
theorem Tryz.zeroRec:(prog.info? 55).map (fun i=>i.zero)=some (some (bM 0 0 0 0 0 0 0)):=by kernel_rfl
theorem zEz(a:Nat→Addr)(st:Nat→ByteArray)(s:ByteArray)(w:World)(hE:lq w a st)(hm:s.size≤1000000000):
 Cl 60 #[.string s] w fun e w'=> ∃(k:Nat) (n:Int),aS s k n∧Below w.heap.size w w'∧
  ((n=0∧∃v,e=rV #[v,.nilIface]∧((v=.slice none 0 0∧k=0)∨∃g cap,v=sL g k k∧w'.ownsRow w.heap.size 55 7 (sL g k cap) k (qy s k)))∨
   (n≠0∧∃err,e=rV #[.slice none 0 0,err]∧xD w' a err n k)):=by
 obtain⟨i0,hi,A5,A6,A7⟩:=bF Tryz.infoRec Tryz.zeroRec;have HE:=hid hE;go_enter func60,ntmps60;go_wp2;go_loopw [0,4] (fun t l wr=> ∃(k:Nat) (A:ByteArray),t=.string A∧A.data.toList=s.data.toList.drop (22*k)∧22*k≤s.size∧(∀i,i<k→vC s i)∧wr.ownsRow w.heap.size 55 7 l k (qy s k)∧Bw w wr) (fun t _ _=>strLen t)
 case atStart=>exact⟨0,s,rfl,rfl,Nat.zero_le _,fun _ h=>absurd h (Nat.not_lt_zero _),World.ownsRow_nil _ _ _ _,Below.refl _ _⟩
 case round=>
  obtain⟨k,A,rfl,S,hk,A4,D,K⟩:=hrel;have Ab:A.size+22*k≤s.size:=by have:=zA1 s A _ S;omega
  have Ac:s.size≤A.size+22*k:=by have:=zA1 s A _ S;omega
  have C:=hid S;have L:=hid A4;have X:=HE.below K;by_cases h0:A.size=0
  ·have T:Hd (aS s k 0):=⟨L,.inl ⟨rfl,by omega⟩⟩;have Aa:¬(0:Int)<(A.size:Int):=by omega
   rcases D.2 with⟨rfl,rfl⟩|⟨g,cap,V,rfl,hg,m,b,c,F,N⟩
   ·clear D;go_wp2;go_ret2;exact⟨0,0,T,K,.inl ⟨rfl,_,rfl,.inl ⟨rfl,rfl⟩⟩⟩
   have z:=hid D;go_wp2;go_ret2;exact⟨k,0,T,K,.inl ⟨rfl,_,rfl,.inr ⟨g,rfl,cap,z⟩⟩⟩
  by_cases A1:A.size<22
  ·have T:Hd (aS s k 4):=⟨L,.inr (.inl ⟨rfl,by omega,by omega⟩)⟩;have Z:(0:Int)<(A.size:Int):=by omega
   have H:=nT a st A wr X A1;have I:=hid H;rcases D.2 with⟨rfl,rfl⟩|⟨g,cap,V,rfl,hg,m,b,c,F,N⟩;all_goals
    try clear m N F
    go_wp2_with fail;refine I.mono ?_;rintro e f ⟨rfl,E⟩;have G:=hid (K.trans (E.mono K.size));go_wp2;go_ret2;refine⟨_,4,T,fu (fu G _) _,.inr ⟨by decide,_,rfl,.inr (.inr ⟨3,f.heap.size+1,0,by omega,rfl,rfl,by simp,by simp⟩)⟩⟩
  by_cases M:xh A 0 0 1<1∨8<xh A 0 0 1
  ·have T:Hd (aS s k 6):=⟨L,.inr (.inr ⟨rfl,by omega,by rw[wh s A _ 0 1 C.o]at M;exact M⟩)⟩;have Z:(0:Int)<(A.size:Int):=by omega
   have H:=qR a st A wr X (by omega) (by omega) M;have I:=hid H;rcases D.2 with⟨rfl,rfl⟩|⟨g,cap,V,rfl,hg,m,b,c,F,N⟩;all_goals
    try clear m N F
    go_wp2_with fail;refine I.mono ?_;rintro e f ⟨rfl,E⟩;have G:=hid (K.trans (E.mono K.size));go_wp2;go_ret2;refine⟨_,6,T,fu (fu G _) _,.inr ⟨by decide,_,rfl,.inr (.inr ⟨5,f.heap.size+1,0,by omega,rfl,rfl,by simp,by simp⟩)⟩⟩
  have d:=vB A wr (by omega) (by omega) (by omega);rw[wh s A _ 0 1 C.o,wh s A _ 1 4 C.o,wh s A _ 5 4 C.o,wh s A _ 9 4 C.o,wh s A _ 13 4 C.o,wh s A _ 17 4 C.o,wh s A _ 21 1 C.o]at d;rw[wh s A _ 0 1 C.o]at M;have y:Hd (vC s k):=⟨by omega,by omega,by omega⟩;have A0:Hd ((xA s (22*k)).map (iV)= [iV (xh s (22*k) 0 1),iV (xh s (22*k) 1 4),iV (xh s (22*k) 5 4),iV (xh s (22*k) 9 4),iV (xh s (22*k) 13 4),iV (xh s (22*k) 17 4),iV (xh s (22*k) 21 1)]):=rfl;have Y:=fun W=>zAp A W (by omega)
  have x:=mV A (by omega);have U:=hid x;generalize xh s (22*k) 0 1=k0 at *;generalize xh s (22*k) 1 4=k1 at *;generalize xh s (22*k) 5 4=k2 at *;generalize xh s (22*k) 9 4=k3 at *;generalize xh s (22*k) 13 4=k4 at *;generalize xh s (22*k) 17 4=k5 at *;generalize xh s (22*k) 21 1=k6 at *;have H:=hid d;have Z:(0:Int)<(A.size:Int):=by omega
  go_wp2_with fail;refine H.mono ?_;rintro e f ⟨rfl,E⟩;have J:=pG D E;have A9:=K.size;have A8:=E.size;have G:=hid (K.trans (E.mono K.size));go_wp2_with(at_builtin;refine wpList_append_own _ rfl _ _ 51 rfl w.heap.size 55 i0 (bM 0 0 0 0 0 0 0) 7 56 underlying51 hi A5 A6 A7 rfl (by decide) _ _ _ rfl ((J.alloc _).alloc _) (iA (f.heap.size+1) 0) 1 1 [iV k0,iV k1,iV k2,iV k3,iV k4,iV k5,iV k6] rfl rfl ?c1 ?c2 ?c3 ?c4 ?c5 ?_)
  case c1=>
   intro j u B
   match j,B with
   |0,B=>simp at B;subst B;simp[Addr.add]
   |1,B=>simp at B;subst B;simp[Addr.add]
   |2,B=>simp at B;subst B;simp[Addr.add]
   |3,B=>simp at B;subst B;simp[Addr.add]
   |4,B=>simp at B;subst B;simp[Addr.add]
   |5,B=>simp at B;subst B;simp[Addr.add]
   |6,B=>simp at B;subst B;simp[Addr.add]
  case c2=>
   intro u hu;simp at hu;rcases hu with rfl|rfl|rfl|rfl|rfl|rfl|rfl<;>rfl
  case c3=>unfold maxLen;omega
  case c4=>omega
  case c5=>simp;omega
  intro v' w3 R O _;have A3:=((J.alloc (.cells #[iV k0,iV k1,iV k2,iV k3,iV k4,iV k5,iV k6] 55)).alloc (.cells #[iV k0,iV k1,iV k2,iV k3,iV k4,iV k5,iV k6] 55)).lt;have p:=hid ((fu (fu G _) _).grown O (by simp;omega) (fun q hq=>(A3 q hq).1));have HO:Hd (w3.ownsRow w.heap.size 55 7 v' (k+1) (qy s (k+1))):=by
   show w3.ownsRow w.heap.size 55 7 v' (k+1) (qy s (k+1));rw[gJ,A0.o];exact R
  have A2:=Y w3;go_wp2;go_roundw
  case rel=>
   refine⟨k+1,A.extract 22 A.size,rfl,?_,by omega,?_,HO,p⟩
   ·rw[U.o,C.o,List.drop_drop];congr 1
   intro i hi;rcases Nat.lt_or_ge i k with q|q
   ·exact L i q
   have:i=k:=by omega
   subst this;exact y
  case measure=>
   simp[strLen];omega
theorem fB(w:World)(m n:Nat):(w.drewN m).drewN n=w.drewN (m+n):=by simp[World.drewN,Nat.add_assoc]
def SliceOf(w:World)(size:Nat)(v:Value)(n:Nat)(X:Nat→Int):Prop:=
 (v=.slice none 0 0∧n=0)∨∃g c,v=sL g n c∧∀j,j<size*n→w.cell? (iA g j)=sI (X j)
theorem qU(ga gb ca cb n:Nat)(X Y:Nat→Int)(w:World)(hn:n≤1000000000)
 (hX:∀j,j<7*n→w.cell? (iA ga j)=sI (X j)) (hY:∀j,j<7*n→w.cell? (iA gb j)=sI (Y j)):
 Cl 25 #[sL ga n ca,sL gb n cb] w fun e w'=>e=.returned (.bool (decide (∀j,j<7*n→X j=Y j)))∧∃m,w'=w.drewN m:=by
 have A:=hid hX;have B:=hid hY;go_enter func25,ntmps25;go_wp2;go_loopw [5] (fun i wr=> ∃k m:Nat,k≤n∧(∀j,j<7*k→X j=Y j)∧i=iV k∧wr=w.drewN m) (fun i _=>n - (intOf i).toNat)
 case atStart=>exact⟨0,0,Nat.zero_le _,fun j hj=>absurd hj (by omega),rfl,rfl⟩
 case round=>
  obtain⟨k,m,z,G,rfl,rfl⟩:=hrel;have C:=hid G;by_cases L:k<n
  ·have M:=A (k*7) (by omega);have N:=A (k*7+1) (by omega);have O:=A (k*7+2) (by omega);have R:=A (k*7+3) (by omega);have S:=A (k*7+4) (by omega);have T:=A (k*7+5) (by omega);have U:=A (k*7+6) (by omega);have V:=B (k*7) (by omega);have Z:=B (k*7+1) (by omega);have b:=B (k*7+2) (by omega);have d:=B (k*7+3) (by omega);have f:=B (k*7+4) (by omega);have g:=B (k*7+5) (by omega);have l:=B (k*7+6) (by omega);have K:(k:Int)<(n:Int):=by omega
   have D:=fun W=>qT (X (k*7)) (X (k*7+1)) (X (k*7+2)) (X (k*7+3)) (X (k*7+4)) (X (k*7+5)) (X (k*7+6)) (Y (k*7)) (Y (k*7+1)) (Y (k*7+2)) (Y (k*7+3)) (Y (k*7+4)) (Y (k*7+5)) (Y (k*7+6)) W
   have J:=Tryz.jB;generalize hcc:(X (k*7) == Y (k*7) && X (k*7+1) == Y (k*7+1) && X (k*7+2) == Y (k*7+2) && X (k*7+3) == Y (k*7+3) && X (k*7+4) == Y (k*7+4) && X (k*7+5) == Y (k*7+5) && X (k*7+6) == Y (k*7+6))=c at D;have H:Hd ((∀j,j<7*n→X j=Y j)→c=true):=fun h=>by
    rw[←hcc,h (k*7) (by omega),h (k*7+1) (by omega),h (k*7+2) (by omega),h (k*7+3) (by omega),h (k*7+4) (by omega),h (k*7+5) (by omega),h (k*7+6) (by omega)];simp
   have I:Hd (c=true→∀j,j<7*(k+1)→X j=Y j):=fun h j hj=>by
    rw[h]at hcc;simp only[Bool.and_eq_true,beq_iff_eq]at hcc;obtain⟨⟨⟨⟨⟨⟨p,s⟩,t⟩,u⟩,v⟩,x⟩,y⟩:=hcc;by_cases q:j<7*k
    ·exact C j q
    obtain rfl|rfl|rfl|rfl|rfl|rfl|rfl:j=k*7∨j=k*7+1∨j=k*7+2∨j=k*7+3∨j=k*7+4∨j=k*7+5∨j=k*7+6:=by omega
    all_goals assumption
   cases c with
   |true=>
    have F:=hid (I rfl);go_wp2_with fail;go_quiet (fail);go_wp2;go_roundw
    case rel=>exact⟨k+1,_,by omega,F,by go_num,rfl⟩
    case measure=>simp[intOf];omega
   |false=>
    have E:Hd (¬∀j,j<7*n→X j=Y j):=fun h=>Bool.noConfusion (H h)
    go_wp2_with fail;go_quiet (fail);go_wp2;go_ret;exact⟨by rw[decide_eq_false E.o];rfl,_,fB _ _ _⟩
  go_wp2;go_ret;exact⟨by rw[decide_eq_true (fun j hj=>C.o j (by omega))];rfl,m,rfl⟩
theorem Tryz.staStruct:prog.underlying 121=some (.struct (prog.fieldsOf 121)):=by kernel_rfl
theorem Tryz.staHeld:prog.stoodInHeld 121=false:=by kernel_rfl
theorem Tryz.staGuard:prog.eqGuardType prog.depth 121=false:=by kernel_rfl
theorem neqSta(a0 a1 a2 a3 a4 a5 a6 b0 b1 b2 b3 b4 b5 b6:Int)(W:World):
 (binOp .neq 121 (bM a0 a1 a2 a3 a4 a5 a6) (bM b0 b1 b2 b3 b4 b5 b6)).run prog W=.ok (.bool (!(a0 == b0 && a1 == b1 && a2 == b2 && a3 == b3 && a4 == b4 && a5 == b5 && a6 == b6))) W:=by
 have B:=Tryz.staStruct;have C:=Tryz.staHeld;rw[run_neq_struct,run_equalIn_struct W 9999 _ _ _ B C];have A:(prog.fieldsOf 121).toList.map (fun f=>(f.name == "_",f.type,f.offset))= [(false,3,0),(false,3,1),(false,3,2),(false,3,3),(false,3,4),(false,3,5),(false,3,6)]:=by kernel_rfl
 exact eq7 _ A _ _ _ _ _ _ _ _ _ _ _ _ _ _ W
theorem zF(ga gb ca cb n:Nat)(X Y:Nat→Int)(w:World)(hn:n≤1000000000)
 (hX:∀j,j<7*n→w.cell? (iA ga j)=sI (X j)) (hY:∀j,j<7*n→w.cell? (iA gb j)=sI (Y j)):
 Cl 26 #[sL ga n ca,sL gb n cb] w fun e w'=>e=.returned (.bool (decide (∀j,j<7*n→X j=Y j)))∧∃m,w'=w.drewN m:=by
 have A:=hid hX;have B:=hid hY;go_enter func26,ntmps26;go_wp2;go_loopw [5] (fun i wr=> ∃k m:Nat,k≤n∧(∀j,j<7*k→X j=Y j)∧i=iV k∧wr=w.drewN m) (fun i _=>n - (intOf i).toNat)
 case atStart=>exact⟨0,0,Nat.zero_le _,fun j hj=>absurd hj (by omega),rfl,rfl⟩
 case round=>
  obtain⟨k,m,z,G,rfl,rfl⟩:=hrel;have C:=hid G;by_cases L:k<n
  ·have M:=A (k*7) (by omega);have N:=A (k*7+1) (by omega);have O:=A (k*7+2) (by omega);have R:=A (k*7+3) (by omega);have S:=A (k*7+4) (by omega);have T:=A (k*7+5) (by omega);have U:=A (k*7+6) (by omega);have V:=B (k*7) (by omega);have Z:=B (k*7+1) (by omega);have b:=B (k*7+2) (by omega);have d:=B (k*7+3) (by omega);have f:=B (k*7+4) (by omega);have g:=B (k*7+5) (by omega);have l:=B (k*7+6) (by omega);have K:(k:Int)<(n:Int):=by omega
   have D:=fun W=>neqSta (X (k*7)) (X (k*7+1)) (X (k*7+2)) (X (k*7+3)) (X (k*7+4)) (X (k*7+5)) (X (k*7+6)) (Y (k*7)) (Y (k*7+1)) (Y (k*7+2)) (Y (k*7+3)) (Y (k*7+4)) (Y (k*7+5)) (Y (k*7+6)) W
   have J:=Tryz.staGuard;generalize hcc:(X (k*7) == Y (k*7) && X (k*7+1) == Y (k*7+1) && X (k*7+2) == Y (k*7+2) && X (k*7+3) == Y (k*7+3) && X (k*7+4) == Y (k*7+4) && X (k*7+5) == Y (k*7+5) && X (k*7+6) == Y (k*7+6))=c at D;have H:Hd ((∀j,j<7*n→X j=Y j)→c=true):=fun h=>by
    rw[←hcc,h (k*7) (by omega),h (k*7+1) (by omega),h (k*7+2) (by omega),h (k*7+3) (by omega),h (k*7+4) (by omega),h (k*7+5) (by omega),h (k*7+6) (by omega)];simp
   have I:Hd (c=true→∀j,j<7*(k+1)→X j=Y j):=fun h j hj=>by
    rw[h]at hcc;simp only[Bool.and_eq_true,beq_iff_eq]at hcc;obtain⟨⟨⟨⟨⟨⟨p,s⟩,t⟩,u⟩,v⟩,x⟩,y⟩:=hcc;by_cases q:j<7*k
    ·exact C j q
    obtain rfl|rfl|rfl|rfl|rfl|rfl|rfl:j=k*7∨j=k*7+1∨j=k*7+2∨j=k*7+3∨j=k*7+4∨j=k*7+5∨j=k*7+6:=by omega
    all_goals assumption
   cases c with
   |true=>
    have F:=hid (I rfl);go_wp2_with fail;go_quiet (fail);go_wp2;go_roundw
    case rel=>exact⟨k+1,_,by omega,F,by go_num,rfl⟩
    case measure=>simp[intOf];omega
   |false=>
    have E:Hd (¬∀j,j<7*n→X j=Y j):=fun h=>Bool.noConfusion (H h)
    go_wp2_with fail;go_quiet (fail);go_wp2;go_ret;exact⟨by rw[decide_eq_false E.o];rfl,_,fB _ _ _⟩
  go_wp2;go_ret;exact⟨by rw[decide_eq_true (fun j hj=>C.o j (by omega))];rfl,m,rfl⟩
end Go.Proofs.YtehmdohpmpbnnaaGreatDoor
