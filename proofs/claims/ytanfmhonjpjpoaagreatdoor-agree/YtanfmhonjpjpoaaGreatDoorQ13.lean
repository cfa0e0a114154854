import Derived.Test.YtanfmhonjpjpoaaGreatDoorQ00
import Derived.Test.YtanfmhonjpjpoaaGreatDoorQ09
import Derived.Test.YtanfmhonjpjpoaaGreatDoorQ12
import Derived.Deep.QuietTactic
import Derived.BigQuiet
import Derived.Laws.StructEq
set_option linter.all false
set_option maxRecDepth 100000
set_option maxHeartbeats 8000000
namespace Go.Proofs.YtanfmhonjpjpoaaGreatDoor
variable{s:ByteArray}
open Go.Extern Go.RowKit
theorem zGh(w:World)(m n:Nat):(w.drewN m).drewN n=w.drewN (m+n):=by simp[World.drewN,Nat.add_assoc]
def SliceOf(w:World)(size:Nat)(v:Value)(n:Nat)(X:Nat→Int):Prop:=
 (v=.slice none 0 0∧n=0)∨∃g c,v=sL g n c∧∀j,j<size*n→w.cell? (iA g j)=sI (X j)
theorem zSr(ga gb ca cb n:Nat)(X Y:Nat→Int)(w:World)(hn:n≤1000000000)
 (hX: ∀j,j<7*n→w.cell? (iA ga j)=sI (X j)) (hY: ∀j,j<7*n→w.cell? (iA gb j)=sI (Y j)):
 Cl 35 #[sL ga n ca,sL gb n cb] w fun e w'=>e=.returned (.bool (decide (∀j,j<7*n→X j=Y j)))∧∃m,w'=w.drewN m:=by
 have HX:=hid hX;have HY:=hid hY;go_enter Tryz.func35,Tryz.ntmps35;go_wp2;go_loopw [5] (fun i wr=> ∃k m:Nat,k≤n∧(∀j,j<7*k→X j=Y j)∧i=iV k∧wr=w.drewN m) (fun i _=>n - (intOf i).toNat)
 case atStart=>exact⟨0,0,Nat.zero_le _,fun j hj=>absurd hj (by omega),rfl,rfl⟩
 case round=>
  obtain⟨k,m,hk,hsm,rfl,rfl⟩:=hrel;have HSM:=hid hsm;by_cases hlt:k<n
  ·have hx0:=HX (k*7) (by omega);have hx1:=HX (k*7+1) (by omega);have hx2:=HX (k*7+2) (by omega);have hx3:=HX (k*7+3) (by omega);have hx4:=HX (k*7+4) (by omega);have hx5:=HX (k*7+5) (by omega);have hx6:=HX (k*7+6) (by omega);have hy0:=HY (k*7) (by omega);have hy1:=HY (k*7+1) (by omega);have hy2:=HY (k*7+2) (by omega);have hy3:=HY (k*7+3) (by omega);have hy4:=HY (k*7+4) (by omega);have hy5:=HY (k*7+5) (by omega);have hy6:=HY (k*7+6) (by omega);have hkI:(k:Int)<(n:Int):=by omega
   have hneq:=fun W=>neqRec (X (k*7)) (X (k*7+1)) (X (k*7+2)) (X (k*7+3)) (X (k*7+4)) (X (k*7+5)) (X (k*7+6)) (Y (k*7)) (Y (k*7+1)) (Y (k*7+2)) (Y (k*7+3)) (Y (k*7+4)) (Y (k*7+5)) (Y (k*7+6)) W
   have hgd:=Tryz.recGuard;generalize hcc:(X (k*7) == Y (k*7) && X (k*7+1) == Y (k*7+1) && X (k*7+2) == Y (k*7+2) && X (k*7+3) == Y (k*7+3) && X (k*7+4) == Y (k*7+4) && X (k*7+5) == Y (k*7+5) && X (k*7+6) == Y (k*7+6))=c at hneq;have HC:Hid ((∀j,j<7*n→X j=Y j)→c=true):=fun h=>by
    rw[←hcc,h (k*7) (by omega),h (k*7+1) (by omega),h (k*7+2) (by omega),h (k*7+3) (by omega),h (k*7+4) (by omega),h (k*7+5) (by omega),h (k*7+6) (by omega)];simp
   have HD:Hid (c=true→∀j,j<7*(k+1)→X j=Y j):=fun h j hj=>by
    rw[h]at hcc;simp only[Bool.and_eq_true,beq_iff_eq]at hcc;obtain⟨⟨⟨⟨⟨⟨e0,e1⟩,e2⟩,e3⟩,e4⟩,e5⟩,e6⟩:=hcc;by_cases q:j<7*k
    ·exact HSM j q
    ·obtain rfl|rfl|rfl|rfl|rfl|rfl|rfl:j=k*7∨j=k*7+1∨j=k*7+2∨j=k*7+3∨j=k*7+4∨j=k*7+5∨j=k*7+6:=by omega
     all_goals assumption
   cases c with
   |true=>
    have HD1:=hid (HD rfl);go_wp2_with fail;go_quiet (fail);go_wp2;go_roundw
    case rel=>exact⟨k+1,_,by omega,HD1,by go_num,rfl⟩
    case measure=>simp[intOf];omega
   |false=>
    have HC1:Hid (¬∀j,j<7*n→X j=Y j):=fun h=>Bool.noConfusion (HC h)
    go_wp2_with fail;go_quiet (fail);go_wp2;go_ret;exact⟨by rw[decide_eq_false HC1.out];rfl,_,zGh _ _ _⟩
  ·go_wp2;go_ret;exact⟨by rw[decide_eq_true (fun j hj=>HSM.out j (by omega))];rfl,m,rfl⟩
theorem Tryz.staStruct:Tryz.prog.underlying 48=some (.struct (Tryz.prog.fieldsOf 48)):=by kernel_rfl
theorem Tryz.staHeld:Tryz.prog.stoodInHeld 48=false:=by kernel_rfl
theorem Tryz.staGuard:Tryz.prog.eqGuardType Tryz.prog.depth 48=false:=by kernel_rfl
theorem neqSta(a0 a1 a2 a3 a4 a5 a6 b0 b1 b2 b3 b4 b5 b6:Int)(W:World):
 (binOp .neq 48 (recW a0 a1 a2 a3 a4 a5 a6) (recW b0 b1 b2 b3 b4 b5 b6)).run Tryz.prog W=.ok (.bool (!(a0 == b0 && a1 == b1 && a2 == b2 && a3 == b3 && a4 == b4 && a5 == b5 && a6 == b6))) W:=by
 have h1:=Tryz.staStruct;have h2:=Tryz.staHeld;rw[run_neq_struct,run_equalIn_struct W 9999 _ _ _ h1 h2];have hfs:(Tryz.prog.fieldsOf 48).toList.map (fun f=>(f.name == "_",f.type,f.offset))= [(false,3,0),(false,3,1),(false,3,2),(false,3,3),(false,3,4),(false,3,5),(false,3,6)]:=by kernel_rfl
 exact eq7 _ hfs _ _ _ _ _ _ _ _ _ _ _ _ _ _ W
theorem zSs(ga gb ca cb n:Nat)(X Y:Nat→Int)(w:World)(hn:n≤1000000000)
 (hX: ∀j,j<7*n→w.cell? (iA ga j)=sI (X j)) (hY: ∀j,j<7*n→w.cell? (iA gb j)=sI (Y j)):
 Cl 36 #[sL ga n ca,sL gb n cb] w fun e w'=>e=.returned (.bool (decide (∀j,j<7*n→X j=Y j)))∧∃m,w'=w.drewN m:=by
 have HX:=hid hX;have HY:=hid hY;go_enter Tryz.func36,Tryz.ntmps36;go_wp2;go_loopw [5] (fun i wr=> ∃k m:Nat,k≤n∧(∀j,j<7*k→X j=Y j)∧i=iV k∧wr=w.drewN m) (fun i _=>n - (intOf i).toNat)
 case atStart=>exact⟨0,0,Nat.zero_le _,fun j hj=>absurd hj (by omega),rfl,rfl⟩
 case round=>
  obtain⟨k,m,hk,hsm,rfl,rfl⟩:=hrel;have HSM:=hid hsm;by_cases hlt:k<n
  ·have hx0:=HX (k*7) (by omega);have hx1:=HX (k*7+1) (by omega);have hx2:=HX (k*7+2) (by omega);have hx3:=HX (k*7+3) (by omega);have hx4:=HX (k*7+4) (by omega);have hx5:=HX (k*7+5) (by omega);have hx6:=HX (k*7+6) (by omega);have hy0:=HY (k*7) (by omega);have hy1:=HY (k*7+1) (by omega);have hy2:=HY (k*7+2) (by omega);have hy3:=HY (k*7+3) (by omega);have hy4:=HY (k*7+4) (by omega);have hy5:=HY (k*7+5) (by omega);have hy6:=HY (k*7+6) (by omega);have hkI:(k:Int)<(n:Int):=by omega
   have hneq:=fun W=>neqSta (X (k*7)) (X (k*7+1)) (X (k*7+2)) (X (k*7+3)) (X (k*7+4)) (X (k*7+5)) (X (k*7+6)) (Y (k*7)) (Y (k*7+1)) (Y (k*7+2)) (Y (k*7+3)) (Y (k*7+4)) (Y (k*7+5)) (Y (k*7+6)) W
   have hgd:=Tryz.staGuard;generalize hcc:(X (k*7) == Y (k*7) && X (k*7+1) == Y (k*7+1) && X (k*7+2) == Y (k*7+2) && X (k*7+3) == Y (k*7+3) && X (k*7+4) == Y (k*7+4) && X (k*7+5) == Y (k*7+5) && X (k*7+6) == Y (k*7+6))=c at hneq;have HC:Hid ((∀j,j<7*n→X j=Y j)→c=true):=fun h=>by
    rw[←hcc,h (k*7) (by omega),h (k*7+1) (by omega),h (k*7+2) (by omega),h (k*7+3) (by omega),h (k*7+4) (by omega),h (k*7+5) (by omega),h (k*7+6) (by omega)];simp
   have HD:Hid (c=true→∀j,j<7*(k+1)→X j=Y j):=fun h j hj=>by
    rw[h]at hcc;simp only[Bool.and_eq_true,beq_iff_eq]at hcc;obtain⟨⟨⟨⟨⟨⟨e0,e1⟩,e2⟩,e3⟩,e4⟩,e5⟩,e6⟩:=hcc;by_cases q:j<7*k
    ·exact HSM j q
    ·obtain rfl|rfl|rfl|rfl|rfl|rfl|rfl:j=k*7∨j=k*7+1∨j=k*7+2∨j=k*7+3∨j=k*7+4∨j=k*7+5∨j=k*7+6:=by omega
     all_goals assumption
   cases c with
   |true=>
    have HD1:=hid (HD rfl);go_wp2_with fail;go_quiet (fail);go_wp2;go_roundw
    case rel=>exact⟨k+1,_,by omega,HD1,by go_num,rfl⟩
    case measure=>simp[intOf];omega
   |false=>
    have HC1:Hid (¬∀j,j<7*n→X j=Y j):=fun h=>Bool.noConfusion (HC h)
    go_wp2_with fail;go_quiet (fail);go_wp2;go_ret;exact⟨by rw[decide_eq_false HC1.out];rfl,_,zGh _ _ _⟩
  ·go_wp2;go_ret;exact⟨by rw[decide_eq_true (fun j hj=>HSM.out j (by omega))];rfl,m,rfl⟩
def okRec(s:ByteArray)(i:Nat):Prop:=22*i+22≤s.size∧1≤fld s (22*i) 0 1∧fld s (22*i) 0 1≤8
def RecsOf(s:ByteArray)(k:Nat)(e:Int):Prop:=(∀i,i<k→okRec s i)∧((e=0∧22*k=s.size)∨(e=4∧22*k<s.size∧s.size<22*k+22)∨(e=6∧22*k+22≤s.size∧(fld s (22*k) 0 1<1∨8<fld s (22*k) 0 1)))
theorem RecsOf.not{k:Nat}{e:Int}(h:RecsOf s k e): ¬okRec s k:=by
 rintro⟨h1,h2,h3⟩;rcases h.2 with⟨_,h4⟩|⟨_,_,h4⟩|⟨_,_,h4⟩<;>omega
theorem RecsOf.uniq{k k':Nat}{e e':Int}(h:RecsOf s k e)(h':RecsOf s k' e'):k=k'∧e=e':=by
 have hk:k=k':=by
  rcases Nat.lt_trichotomy k k' with q|q|q
  ·exact absurd (h'.1 k q) h.not
  ·exact q
  ·exact absurd (h.1 k' q) h'.not
 subst hk;refine⟨rfl,?_⟩;rcases h.2 with⟨h1,h2⟩|⟨h1,h2,h3⟩|⟨h1,h2,h3⟩<;>rcases h'.2 with⟨h4,h5⟩|⟨h4,h5,h6⟩|⟨h4,h5,h6⟩<;>omega
def rowsC(s:ByteArray)(k:Nat):List Value:=(List.range k).flatMap fun i=>(recL s (22*i)).map (iV)
theorem zCn(s:ByteArray)(k:Nat):rowsC s (k+1)=rowsC s k++(recL s (22*k)).map (iV):=by
 simp[rowsC,List.range_succ,List.flatMap_append]
def strLen:Value→Nat| .string s=>s.size|_=>0
theorem zA5(s t:ByteArray)(p a n:Nat)(h:t.data.toList=s.data.toList.drop p):fld t 0 a n=fld s p a n:=by
 unfold fld;rw[h,List.drop_drop]
 congr 2
 congr 1
 omega
theorem zCo(s t:ByteArray)(p:Nat)(h:t.data.toList=s.data.toList.drop p):t.size=s.size - p:=by
 have:=congrArg List.length h;simpa using this
theorem zGi(t:ByteArray)(w:World)(h:22≤t.size):
 (Instr.slice 9 (.string t) (sI 22) none none).run Tryz.prog w=.ok (.string (t.extract 22 t.size)) w:=by
 rw[run_slice_string_from_if w 9 t .i64 22 Tryz.underlying9,if_pos (by omega)];rfl
theorem zGj(t:ByteArray)(h:22≤t.size):(t.extract 22 t.size).data.toList=t.data.toList.drop 22:=by
 rw[ByteArray.data_extract,Array.toList_extract,List.extract_eq_take_drop];exact List.take_of_length_le (by simp)
theorem zCp{w w':World}{B:Nat}{e:TypeId}{size:Nat}{v:Value}{n:Nat}{xs:List Value}(h:w.ownsRow B e size v n xs)(hb:Below w.heap.size w w'):w'.ownsRow B e size v n xs:=by
 refine⟨h.1,?_⟩;rcases h.2 with h2|⟨g,cap,cur,hv,hg,hh,r⟩
 ·exact .inl h2
 ·exact .inr ⟨g,cap,cur,hv,hg,by rw[hb.block g (Array.getElem?_eq_some_iff.1 hh).1];exact hh,r⟩
theorem Tryz.infoRec:(Tryz.prog.info? 73).map (fun i=>(i.size,i.bytes))=some (7,56):=by kernel_rfl
theorem Tryz.zeroRec:(Tryz.prog.info? 73).map (fun i=>i.zero)=some (some (recW 0 0 0 0 0 0 0)):=by kernel_rfl
theorem zSt(a:Nat→Addr)(st:Nat→ByteArray)(s:ByteArray)(w:World)(hE:Errs w a st)(hm:s.size≤1000000000):
 Cl 76 #[.string s] w fun e w'=> ∃(k:Nat) (n:Int),RecsOf s k n∧Below w.heap.size w w'∧
  ((n=0∧∃v,e=rV #[v,.nilIface]∧((v=.slice none 0 0∧k=0)∨∃g cap,v=sL g k k∧w'.ownsRow w.heap.size 73 7 (sL g k cap) k (rowsC s k)))∨
   (n≠0∧∃err,e=rV #[.slice none 0 0,err]∧ErrIs w' a err n k)):=by
 obtain⟨i0,hi,hz0,hz1,hz2⟩:=zB1 Tryz.infoRec Tryz.zeroRec;have HE:=hid hE;go_enter Tryz.func76,Tryz.ntmps76;go_wp2;go_loopw [0,4] (fun t l wr=> ∃(k:Nat) (tb:ByteArray),t=.string tb∧tb.data.toList=s.data.toList.drop (22*k)∧22*k≤s.size∧(∀i,i<k→okRec s i)∧wr.ownsRow w.heap.size 73 7 l k (rowsC s k)∧Bw w wr) (fun t _ _=>strLen t)
 case atStart=>exact⟨0,s,rfl,rfl,Nat.zero_le _,fun _ h=>absurd h (Nat.not_lt_zero _),World.ownsRow_nil _ _ _ _,Below.refl _ _⟩
 case round=>
  obtain⟨k,tb,rfl,htb,hk,hok,hown,hb⟩:=hrel;have hsa:tb.size+22*k≤s.size:=by have:=zCo s tb _ htb;omega
  have hsb:s.size≤tb.size+22*k:=by have:=zCo s tb _ htb;omega
  have HTB:=hid htb;have HOK:=hid hok;have hEr:=HE.below hb;by_cases h0:tb.size=0
  ·have HR:Hid (RecsOf s k 0):=⟨HOK,.inl ⟨rfl,by omega⟩⟩;have hng: ¬(0:Int)<(tb.size:Int):=by omega
   rcases hown.2 with⟨rfl,rfl⟩|⟨g,cap,cur,rfl,hg,hh,hle,hmx,hsz2,htk⟩
   ·clear hown;go_wp2;go_ret2;exact⟨0,0,HR,hb,.inl ⟨rfl,_,rfl,.inl ⟨rfl,rfl⟩⟩⟩
   ·have HOW:=hid hown;go_wp2;go_ret2;exact⟨k,0,HR,hb,.inl ⟨rfl,_,rfl,.inr ⟨g,rfl,cap,HOW⟩⟩⟩
  ·by_cases h22:tb.size<22
   ·have HR:Hid (RecsOf s k 4):=⟨HOK,.inr (.inl ⟨rfl,by omega,by omega⟩)⟩;have hgt:(0:Int)<(tb.size:Int):=by omega
    have HRR:=zFl a st tb wr hEr h22;have HRR':=hid HRR;rcases hown.2 with⟨rfl,rfl⟩|⟨g,cap,cur,rfl,hg,hh,hle,hmx,hsz2,htk⟩;all_goals
     try clear hh htk hsz2
     go_wp2_with fail;refine HRR'.mono ?_;rintro e w1 ⟨rfl,hb1⟩;have HB1:=hid (hb.trans (hb1.mono hb.size));go_wp2;go_ret2;refine⟨_,4,HR,zA1 (zA1 HB1 _) _,.inr ⟨by decide,_,rfl,.inr (.inr ⟨3,w1.heap.size+1,0,by omega,rfl,rfl,by simp,by simp⟩)⟩⟩
   ·by_cases hkd:fld tb 0 0 1<1∨8<fld tb 0 0 1
    ·have HR:Hid (RecsOf s k 6):=⟨HOK,.inr (.inr ⟨rfl,by omega,by rw[zA5 s tb _ 0 1 HTB.out]at hkd;exact hkd⟩)⟩;have hgt:(0:Int)<(tb.size:Int):=by omega
     have HRR:=zFm a st tb wr hEr (by omega) (by omega) hkd;have HRR':=hid HRR;rcases hown.2 with⟨rfl,rfl⟩|⟨g,cap,cur,rfl,hg,hh,hle,hmx,hsz2,htk⟩;all_goals
      try clear hh htk hsz2
      go_wp2_with fail;refine HRR'.mono ?_;rintro e w1 ⟨rfl,hb1⟩;have HB1:=hid (hb.trans (hb1.mono hb.size));go_wp2;go_ret2;refine⟨_,6,HR,zA1 (zA1 HB1 _) _,.inr ⟨by decide,_,rfl,.inr (.inr ⟨5,w1.heap.size+1,0,by omega,rfl,rfl,by simp,by simp⟩)⟩⟩
    ·have hrr:=zFn tb wr (by omega) (by omega) (by omega);rw[zA5 s tb _ 0 1 HTB.out,zA5 s tb _ 1 4 HTB.out,zA5 s tb _ 5 4 HTB.out,zA5 s tb _ 9 4 HTB.out,zA5 s tb _ 13 4 HTB.out,zA5 s tb _ 17 4 HTB.out,zA5 s tb _ 21 1 HTB.out]at hrr;rw[zA5 s tb _ 0 1 HTB.out]at hkd;have HNX:Hid (okRec s k):=⟨by omega,by omega,by omega⟩;have HRL:Hid ((recL s (22*k)).map (iV)= [iV (fld s (22*k) 0 1),iV (fld s (22*k) 1 4),iV (fld s (22*k) 5 4),iV (fld s (22*k) 9 4),iV (fld s (22*k) 13 4),iV (fld s (22*k) 17 4),iV (fld s (22*k) 21 1)]):=rfl;have hcut:=fun W=>zGi tb W (by omega)
     have HCD:=zGj tb (by omega);have HCD':=hid HCD;generalize fld s (22*k) 0 1=k0 at *;generalize fld s (22*k) 1 4=k1 at *;generalize fld s (22*k) 5 4=k2 at *;generalize fld s (22*k) 9 4=k3 at *;generalize fld s (22*k) 13 4=k4 at *;generalize fld s (22*k) 17 4=k5 at *;generalize fld s (22*k) 21 1=k6 at *;have HRR:=hid hrr;have hgt:(0:Int)<(tb.size:Int):=by omega
     go_wp2_with fail;refine HRR.mono ?_;rintro e w1 ⟨rfl,hb1⟩;have hown1:=zCp hown hb1;have hbs:=hb.size;have hbs1:=hb1.size;have HB1:=hid (hb.trans (hb1.mono hb.size));go_wp2_with(at_builtin;refine wpList_append_own _ rfl _ _ 69 rfl w.heap.size 73 i0 (recW 0 0 0 0 0 0 0) 7 56 Tryz.underlying69 hi hz0 hz1 hz2 rfl (by decide) _ _ _ rfl ((hown1.alloc _).alloc _) (iA (w1.heap.size+1) 0) 1 1 [iV k0,iV k1,iV k2,iV k3,iV k4,iV k5,iV k6] rfl rfl ?c1 ?c2 ?c3 ?c4 ?c5 ?_)
     case c1=>
      intro j u hj
      match j,hj with
      |0,hj=>simp at hj;subst hj;simp[Addr.add]
      |1,hj=>simp at hj;subst hj;simp[Addr.add]
      |2,hj=>simp at hj;subst hj;simp[Addr.add]
      |3,hj=>simp at hj;subst hj;simp[Addr.add]
      |4,hj=>simp at hj;subst hj;simp[Addr.add]
      |5,hj=>simp at hj;subst hj;simp[Addr.add]
      |6,hj=>simp at hj;subst hj;simp[Addr.add]
     case c2=>
      intro u hu;simp at hu;rcases hu with rfl|rfl|rfl|rfl|rfl|rfl|rfl<;>rfl
     case c3=>unfold maxLen;omega
     case c4=>omega
     case c5=>simp;omega
     intro v' w3 hown2 hgrow _;have hlt:=((hown1.alloc (.cells #[iV k0,iV k1,iV k2,iV k3,iV k4,iV k5,iV k6] 73)).alloc (.cells #[iV k0,iV k1,iV k2,iV k3,iV k4,iV k5,iV k6] 73)).lt;have HB3:=hid ((zA1 (zA1 HB1 _) _).grown hgrow (by simp;omega) (fun q hq=>(hlt q hq).1));have HO:Hid (w3.ownsRow w.heap.size 73 7 v' (k+1) (rowsC s (k+1))):=by
      show w3.ownsRow w.heap.size 73 7 v' (k+1) (rowsC s (k+1));rw[zCn,HRL.out];exact hown2
     have hcut3:=hcut w3;go_wp2;go_roundw
     case rel=>
      refine⟨k+1,tb.extract 22 tb.size,rfl,?_,by omega,?_,HO,HB3⟩
      ·rw[HCD'.out,HTB.out,List.drop_drop];congr 1
      ·intro i hi;rcases Nat.lt_or_ge i k with q|q
       ·exact HOK i q
       ·have:i=k:=by omega
        subst this;exact HNX
     case measure=>
      simp[strLen];omega
theorem zGk(a:Nat→Addr)(s:Nat→ByteArray)(err:Value)(n pl:Int)(w:World)(hE:Errs w a s)(h:ErrIs w a err n pl):
 Cl 29 #[err] w fun e w'=>e=rV #[iV n,iV pl]∧Below w.heap.size w w':=by
 rcases h with⟨rfl,rfl,rfl⟩|⟨k,hk,rfl,rfl,rfl⟩|⟨k,b,o,hk,rfl,rfl,h4,h5⟩
 ·refine(zCk w).mono ?_;rintro e w' ⟨rfl,rfl⟩;exact⟨rfl,Below.refl _ _⟩
 ·exact zFi a s k hk w hE
 ·exact zFk a s k hk b o pl w hE h4 h5
theorem zLs(a:Nat→Addr)(s:Nat→ByteArray)(kind:Int)(v:Nat→Int)(w:World)(hE:Errs w a s)(hW:Wids w)(hv: ∀i,i<9→-9223372036854775808≤v i∧v i≤9223372036854775807):
 Cl 38 #[cmdV kind v] w fun e w'=>
  ∃err,e=rV #[.string ⟨(encRes kind v).1.toArray⟩,err]∧ErrIs w' a err (encRes kind v).2.1 (encRes kind v).2.2∧Below w.heap.size w w':=by
 have HV:=hid hv;have hE1:=hE.alloc (.cells #[iV kind,iV (v 0),iV (v 1),iV (v 2),iV (v 3),iV (v 4),iV (v 5),iV (v 6),iV (v 7),iV (v 8)] 102);have hW1:=hW.below ((Below.refl _ _).alloc (Nat.le_refl _) (.cells #[iV kind,iV (v 0),iV (v 1),iV (v 2),iV (v 3),iV (v 4),iV (v 5),iV (v 6),iV (v 7),iV (v 8)] 102));go_enter Tryz.func38,Tryz.ntmps38;go_wp2_with fail;refine(zLr a s kind v _ hE1 hW1 HV).mono ?_;rintro e w1 ⟨err,rfl,her,hb⟩;go_wp2;go_ret2;exact⟨_,rfl,her,((Below.refl _ _).alloc (Nat.le_refl _) _).trans (hb.mono (by simp))⟩
theorem zLt(a:Nat→Addr)(s:Nat→ByteArray)(kind:Int)(v:Nat→Int)(w:World)(hE:Errs w a s)(hW:Wids w)(hv: ∀i,i<9→-9223372036854775808≤v i∧v i≤9223372036854775807):
 Cl 21 #[iV kind,arrV v] w fun e w'=>
  e=rV #[.string ⟨(encRes kind v).1.toArray⟩,iV (encRes kind v).2.1,iV (encRes kind v).2.2]∧Below w.heap.size w w':=by
 have HV:=hid hv;have hB1:Bw w (w.alloc (.cells #[iV (v 0),iV (v 1),iV (v 2),iV (v 3),iV (v 4),iV (v 5),iV (v 6),iV (v 7),iV (v 8)] 35)):=(Below.refl _ _).alloc (Nat.le_refl _) _;go_enter Tryz.func21,Tryz.ntmps21;go_wp2_with fail;refine(zKm kind v _).mono ?_;rintro e w1 ⟨rfl,hb1⟩;have HB1:=hid (hB1.trans (hb1.mono (by simp)));have hE1:=hE.below HB1;have hW1:=hW.below HB1;go_wp2_with fail;refine(zLs a s kind v _ hE1 hW1 HV).mono ?_;rintro e w2 ⟨err,rfl,her,hb2⟩;have HB2:=hid (HB1.trans (hb2.mono HB1.size));have hE2:=hE.below HB2;generalize hR:encRes kind v=R at *;have HR:=hid hR;obtain⟨l,n,pl⟩:=R;simp only at her;go_wp2_with fail;refine(zGk a s err n pl _ hE2 her).mono ?_;rintro e w3 ⟨rfl,hb3⟩;go_wp2;go_ret3;exact⟨by rw[HR.out];rfl,HB2.trans (hb3.mono HB2.size)⟩
end Go.Proofs.YtanfmhonjpjpoaaGreatDoor
