import Derived.Test.YtilbfpnpkkkpgaaGreatDoorQ00
import Derived.Test.YtilbfpnpkkkpgaaGreatDoorQ15
import Derived.Test.YtilbfpnpkkkpgaaGreatDoorQ16
import Derived.Test.YtilbfpnpkkkpgaaGreatDoorQ25
import Derived.Test.YtilbfpnpkkkpgaaGreatDoorQ32
import Derived.Test.YtilbfpnpkkkpgaaGreatDoorQ40
import Derived.Test.YtilbfpnpkkkpgaaGreatDoorQ44
set_option linter.all false
set_option maxRecDepth 100000
set_option maxHeartbeats 8000000
namespace Go.Proofs.YtilbfpnpkkkpgaaGreatDoor
variable{w w' w0:World}{p:Option Addr}{base c m n b g cap k:Nat}{s:ByteArray}{M:List Ord}{tag:Nat→Tag}
open Go.Extern Go.RowKit
theorem zH4(s:ByteArray)(k:Nat): ∀u∈rowsC s k,∃x,u=iV x:=fun u hu=>by
 simp only[rowsC,List.mem_flatMap,List.mem_map]at hu;obtain⟨i,_,y,_,rfl⟩:=hu;exact⟨y,rfl⟩
theorem zDa(s:ByteArray)(k:Nat):(rowsC s k).length=k*7:=by
 induction k with
 |zero=>rfl
 |succ k ih=>rw[zC4,List.length_append,ih];simp[recL];omega
def rowX(s:ByteArray)(k j:Nat):Int:=match (rowsC s k)[j]? with|some (.int _ x)=>x|_=>0
theorem zH5(s:ByteArray)(k j:Nat)(h:j<7*k):(rowsC s k)[j]? =sI (rowX s k j):=by
 have hl:=zDa s k;have e:(rowsC s k)[j]? =some (rowsC s k)[j]:=List.getElem?_eq_getElem (by omega);obtain⟨x,hx⟩:=zH4 s k (rowsC s k)[j] (List.getElem_mem _);unfold rowX;rw[e,hx]
theorem zR(s:ByteArray)(k j i:Nat)(hj:j<k)(hi:i<7):(rowsC s k)[j*7+i]? =((recL s (22*j)).map (iV))[i]? :=by
 induction k with
 |zero=>omega
 |succ k ih=>
  rw[zC4];by_cases e:j<k
  ·rw[List.getElem?_append_left (by rw[zDa];omega)];exact ih e
  ·have:j=k:=by omega
   subst this;rw[List.getElem?_append_right (by rw[zDa];omega),zDa,show j*7+i - j*7=i by omega]
theorem zH6{ty:TypeId}(h:w.ownsRow base ty 7 (sL g n cap) n (rowsC s n))(j:Nat)(hj:j<7*n):w.cell? (iA g j)=sI (rowX s n j):=by
 have:=World.ownsRow.cells h (g:=g) rfl j _ (zH5 s n j hj);rw[Addr.add_lit]at this;simpa using this
theorem zAq{ty:TypeId}(h:w.ownsRow base ty 7 (sL g n cap) n (rowsC s n))(j:Nat)(hj:j<n)(i:Nat)(hi:i<7)(x:Int)(hx:(recL s (22*j))[i]? =some x):w.cell? (iA g (j*7+i))=sI x:=by
 have:=World.ownsRow.cells h (g:=g) rfl (j*7+i) (iV x) (by rw[zR s n j i hj hi,List.getElem?_map,hx];rfl);rw[Addr.add_lit]at this;simpa using this
theorem zH7{B:Nat}{e:TypeId}{size:Nat}{v:Value}{xs:List Value}(h:w.ownsRow B e size v n xs)(hb:Below w.heap.size w w'):w'.ownsRow B e size v n xs:=zA9 h (fun q hq=>hb.block q (h.lt q hq).2)
def Got(b:Nat)(w:World)(s:ByteArray)(k:Nat)(p:Option Addr):Prop:=(p=none∧k=0)∨∃g,p=some (iA g 0)∧∃cap,w.ownsRow b 43 7 (sL g k cap) k (rowsC s k)
theorem zDb(hB:w0.heap.size<b)(ht: ∀g,b≤g→tag g=.own)(ha:Got b w s k p):Free tag w0 w 43 p k (rowX s k)∧(p=none→k=0):=by
 rcases ha with⟨h1,h⟩|⟨g,rfl,cap,h⟩
 ·exact⟨.inl h,fun _=>h⟩
 ·refine⟨?_,fun e=>by cases e⟩;have hb:=(h.lt g rfl).1;refine .inr ⟨g,rfl,ht g hb,by omega,?_⟩;rcases h.2 with⟨e,-⟩|⟨g',cap',cur,e,hg,hh,hle,hmx,hsz,htk⟩
  ·cases e
  ·injection e with e1 e2 e3;injection e1 with e1;injection e1 with e1;subst e1;refine⟨cur,hh,by rw[hsz];have:=Nat.mul_le_mul_right 7 hle;omega,fun j hj=>?_⟩;have hc:cur[j]? =(rowsC s k)[j]? :=by
    rw[←htk,List.getElem?_take_of_lt (by omega)];simp
   rw[hc];exact zH5 s k j hj
theorem zDc(ha:Got b w s k p)(hb:Below w.heap.size w w'):
 Got b w' s k p:=by
 rcases ha with h|⟨g,h,cap,h2⟩
 ·exact .inl h
 ·exact .inr ⟨g,h,cap,zH7 h2 hb⟩
theorem zH8{b':Nat}{v:Value}(hk:k≤1000000000)
 (ha:Got b w s k p) (hv:w.ownsRow b' 43 7 v k (rowsC s k)):
 Cl 39 #[.slice p k c,v] w fun e w'=>e=rB true∧∃m,w'=w.drewN m:=by
 by_cases hz:k=0
 ·subst hz;rcases hv.2 with⟨rfl,-⟩|⟨g',cap',cur,rfl,_⟩
  ·exact zEc p none c 0 w
  ·exact zEc p _ c cap' w
 ·rcases ha with⟨_,h⟩|⟨g,rfl,cap,ha⟩
  ·exact absurd h hz
  ·rcases hv.2 with⟨rfl,h⟩|⟨g',cap',cur,rfl,_⟩
   ·exact absurd h hz
   ·refine(zFe g g' c cap' k (rowX s k) (rowX s k) w hk (fun j hj=>zH6 ha j hj) (fun j hj=>zH6 hv j hj)).mono ?_;rintro e w' ⟨rfl,h⟩;exact⟨by rw[decide_eq_true (fun _ _=>rfl)],h⟩
theorem zR0{ws:List ByteArray}{left:Int}(h:St w0 w n ws left)(hn:n≤100000000)(a:Nat→Addr)(st:Nat→ByteArray)(hE:Errs w a st)(t:ByteArray)(ht:t.size≤1000000000):
 Cl 71 #[iP w0.heap.size,.string t] w fun e w'=>e=rB true∧St w0 w' (n+1) ws left:=by
 obtain⟨tag,ps,h,hall⟩:=h;have HS:Hid (StT tag ps w0 w n ws left):=h;have HALL:Hid (∀p∈ps,p.all.size≤sizes ws):=hall;have HTG:Hid (∀g,w.heap.size≤g→tag g=.own):=h.tup;have hlt:=h.lt;go_enter Tryz.func71,Tryz.ntmps71;go_wp2_with fail;refine(zFf a st t _ hE ht).mono ?_;rintro e w1 ⟨k,nn,hR,hb,hback⟩;have HR:Hid (RecsOf t k nn):=hR;have HB:Hid (Bw w w1):=hb;have hkt:k≤100000000:=by
  rcases hR.2 with⟨_,q⟩|⟨_,q,_⟩|⟨_,q,_⟩<;>omega
 have hbs:=hb.size;rcases hback with⟨rfl,v,rfl,hv⟩|⟨hne,rfl⟩
 ·obtain⟨p,rfl,HP⟩: ∃p,v=.slice p k k∧Hid (Got w.heap.size w1 t k p):=by
   rcases hv with⟨rfl,rfl⟩|⟨g,rfl,cap,h⟩
   ·exact⟨none,rfl,.inl ⟨rfl,rfl⟩⟩
   ·exact⟨_,rfl,.inr ⟨g,rfl,cap,h⟩⟩
  go_wp2_with fail;refine(zDo t _ ht).mono ?_;rintro e w2 ⟨k',nn,hR2,hb2,hback⟩;obtain⟨rfl,rfl⟩:=HR.out.uniq hR2;rcases hback with⟨-,vb,rfl,hvb⟩|⟨hne,-⟩
  ·have HB2:Hid (Bw w1 w2):=hb2;have hbs2:=hb2.size;have HVB:Hid (w2.ownsRow w1.heap.size 220 7 vb k (rowsC t k)):=hvb;obtain⟨i0,hi,hz0,hz1,hz2⟩:=zAa Tryz.infoRec Tryz.zeroRec;have HINF:Hid (Tryz.prog.info? 43=some i0∧i0.zero=some (recW 0 0 0 0 0 0 0)∧i0.size=7∧i0.bytes=56):=⟨hi,hz0,hz1,hz2⟩;rcases HVB.out.2 with⟨rfl,rfl⟩|⟨gb,capb,cur,rfl,hgb,hhb,hleb,hmxb,hszb,htkb⟩
   ·go_wp2_with fail;go_loopw [11,12] (fun c i wr=>c=.slice none 0 0∧i=iV 0∧wr=w2) (fun _ _ _=>0)
    case atStart=>exact⟨rfl,rfl,rfl⟩
    case round=>
     obtain⟨rfl,rfl,rfl⟩:=hrel;have HCC:Hid (wr.ownsRow wr.heap.size 43 7 (.slice none 0 0) 0 (rowsC t 0)):=World.ownsRow_nil _ _ _ _;have hbw:Bw wr wr:=Below.refl _ _;have HS3:Hid (StT tag ps w0 wr n ws left):=((HS.below HB).below HB2).below hbw;have HA3:=zDc (zDc HP HB2) hbw;have HA4:Hid (Got w.heap.size wr t 0 p):=HA3;go_wp2_with fail;refine(zH8 (s:=t) (by omega) HA4 HCC).mono ?_;rintro e w4 ⟨rfl,m,rfl⟩;go_wp2_with fail;refine(zH2 (HS3.drewN m) hn p 0 (rowX t 0) (by omega) (zDb (s:=t) hlt HTG HA4).1 (zDb (s:=t) hlt HTG HA4).2).mono ?_;rintro e w5 ⟨rfl,tag',hS5⟩;have HS5:Hid (St w0 w5 (n+1) ws left):=⟨tag',ps,hS5,HALL⟩;go_wp2;go_ret;exact⟨rfl,HS5⟩
   ·clear hhb htkb hszb;go_wp2_with fail;go_loopw [11,12] (fun c i wr=> ∃j:Nat,i=iV j∧j≤k∧wr.ownsRow w2.heap.size 43 7 c j (rowsC t j)∧Bw w2 wr) (fun _ i _=>k - (intOf i).toNat)
    case atStart=>exact⟨0,rfl,Nat.zero_le _,World.ownsRow_nil _ _ _ _,Below.refl _ _⟩
    case round=>
     obtain⟨j,rfl,hj,hown,hbw⟩:=hrel;by_cases hjk:j<k
     ·have hjI:(j:Int)<(k:Int):=by omega
      have HVBr:=zH7 HVB hbw;have c0:=zAq HVBr j hjk 0 (by omega) _ rfl;have c1:=zAq HVBr j hjk 1 (by omega) _ rfl;have c2:=zAq HVBr j hjk 2 (by omega) _ rfl;have c3:=zAq HVBr j hjk 3 (by omega) _ rfl;have c4:=zAq HVBr j hjk 4 (by omega) _ rfl;have c5:=zAq HVBr j hjk 5 (by omega) _ rfl;have c6:=zAq HVBr j hjk 6 (by omega) _ rfl;have HRL:Hid ((recL t (22*j)).map (iV)= [iV (fld t (22*j) 0 1),iV (fld t (22*j) 1 4),iV (fld t (22*j) 5 4),iV (fld t (22*j) 9 4),iV (fld t (22*j) 13 4),iV (fld t (22*j) 17 4),iV (fld t (22*j) 21 1)]):=rfl;rw[Nat.add_zero]at c0;generalize fld t (22*j) 0 1=k0 at *;generalize fld t (22*j) 1 4=k1 at *;generalize fld t (22*j) 5 4=k2 at *;generalize fld t (22*j) 9 4=k3 at *;generalize fld t (22*j) 13 4=k4 at *;generalize fld t (22*j) 17 4=k5 at *;generalize fld t (22*j) 21 1=k6 at *;have hbs3:=hbw.size;have HBL:Hid (Bw w2 wr):=hbw
      have HW2:Hid (((wr.alloc (.cells #[iV k0,iV k1,iV k2,iV k3,iV k4,iV k5,iV k6] 220)).alloc (.cells #[iV k0,iV k1,iV k2,iV k3,iV k4,iV k5,iV k6] 43)).ownsRow w2.heap.size 43 7 u11 j (rowsC t j)):=(hown.alloc _).alloc _;have HC1:Hid (∀(i:Nat) (u:Value),[iV k0,iV k1,iV k2,iV k3,iV k4,iV k5,iV k6][i]? =some u→((wr.alloc (.cells #[iV k0,iV k1,iV k2,iV k3,iV k4,iV k5,iV k6] 220)).alloc (.cells #[iV k0,iV k1,iV k2,iV k3,iV k4,iV k5,iV k6] 43)).cell? (Addr.add (iA (wr.heap.size+1) 0) i)=some u):=fun i u hi=>by
       rw[Addr.add_lit,Nat.zero_add,←World.size_alloc wr (.cells #[iV k0,iV k1,iV k2,iV k3,iV k4,iV k5,iV k6] 220)];exact zDn (wr.alloc (.cells #[iV k0,iV k1,iV k2,iV k3,iV k4,iV k5,iV k6] 220)) #[iV k0,iV k1,iV k2,iV k3,iV k4,iV k5,iV k6] _ i u (by simp;exact hi)
      have HC2:Hid (∀u∈([iV k0,iV k1,iV k2,iV k3,iV k4,iV k5,iV k6]:List Value),u.oneCell'=true):=fun u hu=>by
       simp at hu;rcases hu with rfl|rfl|rfl|rfl|rfl|rfl|rfl<;>rfl
      have HC3:Hid (j+1≤maxLen):=by show j+1≤maxLen;unfold maxLen;omega
      have HC4:Hid ((j+1)* 56≤140737488355328):=by show(j+1)* 56≤140737488355328;omega
      have HC5:Hid (w2.heap.size≤((wr.alloc (.cells #[iV k0,iV k1,iV k2,iV k3,iV k4,iV k5,iV k6] 220)).alloc (.cells #[iV k0,iV k1,iV k2,iV k3,iV k4,iV k5,iV k6] 43)).heap.size):=by
       show w2.heap.size≤((wr.alloc _).alloc _).heap.size;simp;omega
      go_wp2_with(at_builtin;refine wpList_append_own _ rfl _ _ 39 rfl w2.heap.size 43 i0 (recW 0 0 0 0 0 0 0) 7 56 Tryz.underlying39 HINF.1 HINF.2.1 HINF.2.2.1 HINF.2.2.2 rfl (by decide) _ _ _ rfl HW2 (iA (wr.heap.size+1) 0) 1 1 [iV k0,iV k1,iV k2,iV k3,iV k4,iV k5,iV k6] rfl rfl HC1 HC2 HC3 HC4 HC5 ?_);intro v' w3 hown2 hgrow _;have hlt3:=HW2.lt;have HB3:Hid (Bw w2 w3):=(zA2 (zA2 HBL _) _).grown hgrow (by simp;omega) (fun q hq=>(hlt3 q hq).1);have HO:Hid (w3.ownsRow w2.heap.size 43 7 v' (j+1) (rowsC t (j+1))):=by
       show w3.ownsRow w2.heap.size 43 7 v' (j+1) (rowsC t (j+1));rw[zC4,HRL.out];exact hown2
      go_wp2;go_roundw
      case rel=>exact⟨j+1,by go_num,by omega,HO,HB3⟩
      case measure=>simp[intOf];omega
     ·obtain rfl:j=k:=by omega
      have hjI: ¬(j:Int)<(j:Int):=by omega
      have HCC:Hid (wr.ownsRow w2.heap.size 43 7 u11 j (rowsC t j)):=hown;have HS3:Hid (StT tag ps w0 wr n ws left):=((HS.below HB).below HB2).below hbw;have HA3:=zDc (zDc HP HB2) hbw;have HA4:Hid (Got w.heap.size wr t j p):=HA3;go_wp2_with fail;refine(zH8 (s:=t) (by omega) HA4 HCC).mono ?_;rintro e w4 ⟨rfl,m,rfl⟩;go_wp2_with fail;refine(zH2 (HS3.drewN m) hn p j (rowX t j) (by omega) (zDb (s:=t) hlt HTG HA4).1 (zDb (s:=t) hlt HTG HA4).2).mono ?_;rintro e w5 ⟨rfl,tag',hS5⟩;have HS5:Hid (St w0 w5 (n+1) ws left):=⟨tag',ps,hS5,HALL⟩;go_wp2;go_ret;exact⟨rfl,HS5⟩
  ·exact absurd rfl hne
 ·have HNE:Hid (nn≠0):=hne;go_wp2_with fail;refine(zDo t _ ht).mono ?_;rintro e w2 ⟨k',nn',hR2,hb2,hback⟩;obtain⟨rfl,rfl⟩:=HR.out.uniq hR2;rcases hback with⟨e0,-⟩|⟨-,rfl⟩
  ·exact absurd e0 hne
  ·have hq:(nn == 0)=false:=beq_eq_false_iff_ne.2 hne;have HS2:Hid (St w0 w2 (n+1) ws left):=⟨tag,ps,((HS.below HB).below hb2).mono (Nat.le_succ n),HALL⟩;go_wp2;go_ret;exact⟨rfl,HS2⟩
theorem zR1(M:List Ord):(M.flatMap encS).length=M.length*7:=by
 induction M with
 |nil=>rfl
 |cons x r ih=>rw[List.flatMap_cons,List.length_append,ih];simp[encS];omega
def stX(M:List Ord)(j:Nat):Int:=match (M.flatMap encS)[j]? with|some (.int _ x)=>x|_=>0
theorem zR2(M:List Ord): ∀u∈M.flatMap encS,∃x,u=iV x:=fun u hu=>by
 obtain⟨o,_,h⟩:=List.mem_flatMap.1 hu;simp[encS]at h;rcases h with rfl|rfl|rfl|rfl|rfl|rfl|rfl<;>exact⟨_,rfl⟩
theorem zR3(M:List Ord)(j:Nat)(h:j<7*M.length):(M.flatMap encS)[j]? =sI (stX M j):=by
 have hl:=zR1 M;have e:(M.flatMap encS)[j]? =some (M.flatMap encS)[j]:=List.getElem?_eq_getElem (by omega);obtain⟨x,hx⟩:=zR2 M (M.flatMap encS)[j] (List.getElem_mem _);unfold stX;rw[e,hx]
theorem zR4(hm:m=M.length)(h:w.ownsRow base 178 7 (sL g m cap) m (M.flatMap encS)):Cells7 w g 178 m (stX M)∧base≤g:=by
 subst hm;have hb:=(h.lt g rfl).1;refine⟨?_,hb⟩;rcases h.2 with⟨e,-⟩|⟨g',cap',cur,e,hg,hh,hle,hmx,hsz,htk⟩
 ·cases e
 ·injection e with e1 e2 e3;injection e1 with e1;injection e1 with e1;subst e1;refine⟨cur,hh,by rw[hsz];have:=Nat.mul_le_mul_right 7 hle;omega,fun j hj=>?_⟩;have hc:cur[j]? =(M.flatMap encS)[j]? :=by
   rw[←htk,List.getElem?_take_of_lt (by omega)];simp
  rw[hc];exact zR3 M j hj
def SRow(base:Nat)(w:World)(p:Option Addr)(m c:Nat)(M:List Ord):Prop:=m=M.length∧(m=0∨∃g,p=some (iA g 0)∧base≤g∧Cells7 w g 178 m (stX M))
theorem SRow.of(hm:m=M.length)(h:w.ownsRow base 178 7 (.slice p m c) m (M.flatMap encS)):SRow base w p m c M:=by
 refine⟨hm,?_⟩;rcases h.2 with⟨e,h0⟩|⟨g',cap',cur,e,hg,hh,hle,hmx,hsz,htk⟩
 ·exact .inl h0
 ·injection e with e1 e2 e3;subst e1;obtain⟨h1,h2⟩:=zR4 hm h;exact .inr ⟨g',rfl,h2,h1⟩
theorem SRow.below(h:SRow base w p m c M)(hb:Below w.heap.size w w'):SRow base w' p m c M:=by
 obtain⟨h1,h2⟩:=h;refine⟨h1,?_⟩;rcases h2 with h2|⟨g,e,hg,hc⟩
 ·exact .inl h2
 ·exact .inr ⟨g,e,hg,hc.of_block (hb.block g hc.lt)⟩
theorem SRow.free(h:SRow base w p m c M)(hB:w0.heap.size<base)(ht: ∀g,base≤g→tag g=.own):Free tag w0 w 178 p m (stX M):=by
 rcases h.2 with h2|⟨g,e,hg,hc⟩
 ·exact .inl h2
 ·exact .inr ⟨g,e,ht g hg,by omega,hc⟩
theorem zH9{b':Nat}{p':Option Addr}{m' c':Nat}{M':List Ord}(hl:M.length≤1000000000)(hl':M'.length≤1000000000)(h:SRow b w p m c M)(h':SRow b' w p' m' c' M'):
 Cl 40 #[.slice p m c,.slice p' m' c'] w fun e w'=>(∃r:Bool,e=rB r∧(M=M'→r=true))∧∃j,w'=w.drewN j:=by
 have key:=zGy w p p' c c' m m' (stX M) (stX M') (by rw[h.1];exact hl) (by rw[h'.1];exact hl') (h.2.imp id fun⟨g,e,_,i⟩=>⟨g,e,fun j hj=>i.cell j hj⟩) (h'.2.imp id fun⟨g,e,_,i⟩=>⟨g,e,fun j hj=>i.cell j hj⟩) 0;refine Calls.mono (w:=w) key ?_;rintro e w' ⟨rfl,j,hj⟩;refine⟨⟨_,rfl,fun e=>?_⟩,j,hj⟩;subst e;rw[decide_eq_true ⟨h.1.trans h'.1.symm,fun _ _=>rfl⟩]
theorem zHa(base:Nat)(w:World)(v:Value)(l:List Ord)(h:OR base w v l)(hm:l.length≤100000000):
 Cl 78 #[v] w fun e w'=> ∃(p:Option Addr) (m c:Nat),e=.returned (.slice p m c)∧Hid (SRow w.heap.size w' p m c l∧Below w.heap.size w w'):=by
 obtain⟨i0,hi,hz0,hz1,hz2⟩:=zAa Tryz.infoOSt Tryz.zeroOSt;have HINF:Hid (Tryz.prog.info? 178=some i0∧i0.zero=some (.agg #[iV 0,iV 0,iV 0,iV 0,iV 0,iV 0,iV 0])∧i0.size=7∧i0.bytes=56):=⟨hi,hz0,hz1,hz2⟩;clear hi hz0 hz1 hz2;obtain⟨m,hml⟩: ∃m,m=l.length:=⟨_,rfl⟩;have HML:Hid (m=l.length):=hml;have h:w.ownsRow base 229 15 v m (rows l):=by rw[hml];exact h
 have hm:m≤100000000:=by rw[hml];exact hm
 obtain⟨p,cap,rfl⟩: ∃p cap,v=.slice p m cap:=by
  rcases h.2 with⟨rfl,h0⟩|⟨g,cap,cur,h1,_⟩
  ·exact⟨none,0,by rw[h0]⟩
  ·exact⟨_,_,h1⟩
 have HROW:Hid (w.ownsRow base 229 15 (.slice p m cap) m (rows l)):=h;clear h hml;go_enter Tryz.func78,Tryz.ntmps78;go_wp2;go_loopw [3,4] (fun lv i wr=> ∃k:Nat,i=iV k∧k≤m∧Hid (wr.ownsRow w.heap.size 178 7 lv k ((l.take k).flatMap encS))∧Hid (Below w.heap.size w wr)) (fun _ i _=>m - (intOf i).toNat)
 case atStart=>exact⟨0,rfl,Nat.zero_le _,World.ownsRow_nil _ _ _ _,Below.refl _ _⟩
 case round=>
  obtain⟨k,rfl,hk,HOWN,HBW⟩:=hrel;have hbs:=HBW.size;by_cases hlt:k<m
  ·have hkI:(k:Int)<(m:Int):=by omega
   have hlk:k<l.length:=by rw[←HML.out];exact hlt
   have hj:l[k]? =some l[k]:=List.getElem?_eq_getElem hlk;obtain⟨g,rfl⟩: ∃g,p=some (iA g 0):=by
    rcases HROW.out.2 with⟨h5,h6⟩|⟨d,cap',cur,h5,_⟩
    ·omega
    ·injection h5 with h5 _ _;exact⟨d,h5⟩
   have HTK:Hid (l.take (k+1)=l.take k++ [l[k]]):=by show _=_;rw[List.take_add_one,hj];rfl
   have hcc: ∀(j:Nat) (x:Int),l[k].cells[j]? =some x→wr.cell? (iA g (k*15+j))=sI x:=fun j x hx=>by
    have h1:=zCr l k j l[k] x hj hx;have h2:=World.ownsRow.cells HROW.out (g:=g) rfl (15*k+j) _ h1;rw[Addr.add_lit,Nat.zero_add,Nat.mul_comm]at h2;rw[World.cell?_of_block (a:=(iA g (k*15+j))) (HBW.out.block g (HROW.out.lt g rfl).2)];exact h2
   generalize l[k]=o at *;have c0:=hcc 0 _ rfl;have c1:=hcc 1 _ rfl;have c2:=hcc 2 _ rfl;have c3:=hcc 3 _ rfl;have c4:=hcc 4 _ rfl;have c5:=hcc 5 _ rfl;have c6:=hcc 6 _ rfl;have c7:=hcc 7 _ rfl;have c8:=hcc 8 _ rfl;have c9:=hcc 9 _ rfl;have c10:=hcc 10 _ rfl;have c11:=hcc 11 _ rfl;have c12:=hcc 12 _ rfl;have c13:=hcc 13 _ rfl;have c14:=hcc 14 _ rfl;rw[Nat.add_zero]at c0;have HEN:Hid (encS o= [iV o.id,iV o.status,iV o.price,iV o.opn,iV o.filled,iV o.cancelled,iV o.shown]):=rfl;have HOW:Hid (((wr.alloc (.cells #[iV o.id,iV o.side,iV o.typ,iV o.qty,iV o.peak,iV o.off,iV o.life,iV o.time,iV o.status,iV o.price,iV o.opn,iV o.filled,iV o.cancelled,iV o.shown,iV o.stamp] 229)).alloc (.cells #[iV o.id,iV o.status,iV o.price,iV o.opn,iV o.filled,iV o.cancelled,iV o.shown] 178)).ownsRow w.heap.size 178 7 u3 k ((l.take k).flatMap encS)):=(HOWN.alloc _).alloc _
   have HC1:Hid (∀(i:Nat) (u:Value),[iV o.id,iV o.status,iV o.price,iV o.opn,iV o.filled,iV o.cancelled,iV o.shown][i]? =some u→((wr.alloc (.cells #[iV o.id,iV o.side,iV o.typ,iV o.qty,iV o.peak,iV o.off,iV o.life,iV o.time,iV o.status,iV o.price,iV o.opn,iV o.filled,iV o.cancelled,iV o.shown,iV o.stamp] 229)).alloc (.cells #[iV o.id,iV o.status,iV o.price,iV o.opn,iV o.filled,iV o.cancelled,iV o.shown] 178)).cell? (Addr.add (iA (wr.heap.size+1) 0) i)=some u):=fun i u hi=>by
    rw[Addr.add_lit,Nat.zero_add,←World.size_alloc wr (.cells #[iV o.id,iV o.side,iV o.typ,iV o.qty,iV o.peak,iV o.off,iV o.life,iV o.time,iV o.status,iV o.price,iV o.opn,iV o.filled,iV o.cancelled,iV o.shown,iV o.stamp] 229)];exact zDn (wr.alloc (.cells #[iV o.id,iV o.side,iV o.typ,iV o.qty,iV o.peak,iV o.off,iV o.life,iV o.time,iV o.status,iV o.price,iV o.opn,iV o.filled,iV o.cancelled,iV o.shown,iV o.stamp] 229)) #[iV o.id,iV o.status,iV o.price,iV o.opn,iV o.filled,iV o.cancelled,iV o.shown] _ i u (by simp;exact hi)
   have HC2:Hid (∀u∈([iV o.id,iV o.status,iV o.price,iV o.opn,iV o.filled,iV o.cancelled,iV o.shown]:List Value),u.oneCell'=true):=fun u hu=>by
    simp at hu;rcases hu with rfl|rfl|rfl|rfl|rfl|rfl|rfl<;>rfl
   have HC3:Hid (k+1≤maxLen∧(k+1)* 56≤140737488355328∧w.heap.size≤((wr.alloc (.cells #[iV o.id,iV o.side,iV o.typ,iV o.qty,iV o.peak,iV o.off,iV o.life,iV o.time,iV o.status,iV o.price,iV o.opn,iV o.filled,iV o.cancelled,iV o.shown,iV o.stamp] 229)).alloc (.cells #[iV o.id,iV o.status,iV o.price,iV o.opn,iV o.filled,iV o.cancelled,iV o.shown] 178)).heap.size):=⟨by unfold maxLen;omega,by omega,by simp;omega⟩;have hltr:=HOWN.lt;clear hcc hj;go_wp2_with(at_builtin;refine wpList_append_own _ rfl _ _ 108 rfl w.heap.size 178 i0 _ 7 56 Tryz.underlying108 HINF.1 HINF.2.1 HINF.2.2.1 HINF.2.2.2 rfl (by decide) _ _ _ rfl HOW.out (iA (wr.heap.size+1) 0) 1 1 [iV o.id,iV o.status,iV o.price,iV o.opn,iV o.filled,iV o.cancelled,iV o.shown] rfl rfl HC1.out HC2.out HC3.1 HC3.2.1 HC3.2.2 ?_);intro v' w3 hown3 hgrow3 _;have HX:Hid (w3.ownsRow w.heap.size 178 7 v' (k+1) ((l.take (k+1)).flatMap encS)):=by
    show World.ownsRow _ _ _ _ _ _ _;rw[HTK.out,List.flatMap_append,List.flatMap_singleton,HEN.out];exact hown3
   have HY:Hid (Below w.heap.size w w3):=(zA2 (zA2 HBW.out _) _).grown hgrow3 HC3.2.2 (fun q hq=>(hltr q hq).1);clear hown3 hgrow3 hltr c0 c1 c2 c3 c4 c5 c6 c7 c8 c9 c10 c11 c12 c13 c14 HC1 HC2 HC3 HOW;go_wp2;go_roundw
   case rel=>exact⟨k+1,by go_num,by omega,HX,HY⟩
   case measure=>simp[intOf];omega
  ·have hkM: ¬(k:Int)<(m:Int):=by omega
   have hke:k=m:=by omega
   obtain⟨p',c',rfl⟩: ∃p' c',u3=.slice p' k c':=by
    rcases HOWN.out.2 with⟨rfl,h0⟩|⟨g,cap,cur,h,_⟩
    ·exact⟨_,_,by rw[h0]⟩
    ·exact⟨_,_,h⟩
   have HZ:Hid (SRow w.heap.size wr p' k c' l∧Below w.heap.size w wr):=by
    have h1:=HOWN.out;rw[hke,HML.out,List.take_length]at h1;refine⟨?_,HBW.out⟩;rw[hke,HML.out];exact SRow.of rfl h1
   clear hke;go_wp2;go_ret;exact⟨_,_,_,rfl,HZ⟩
end Go.Proofs.YtilbfpnpkkkpgaaGreatDoor
