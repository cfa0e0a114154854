import Derived.Test.YtanfmhonjpjpoaaGreatDoorQ00
import Derived.Test.YtanfmhonjpjpoaaGreatDoorQ07
import Derived.Test.YtanfmhonjpjpoaaGreatDoorQ13
import Derived.Test.YtanfmhonjpjpoaaGreatDoorQ17
import Derived.Test.YtanfmhonjpjpoaaGreatDoorQ18
import Derived.Test.YtanfmhonjpjpoaaGreatDoorQ20
import Derived.Test.YtanfmhonjpjpoaaGreatDoorQ24
import Derived.Test.YtanfmhonjpjpoaaGreatDoorQ27
import Derived.Laws.Rows
import Derived.Laws.MakeOwn
import Derived.Deep.AppendLies
import Derived.Deep.RegionHeld3
set_option linter.all false
set_option maxRecDepth 100000
set_option maxHeartbeats 8000000
namespace Go.Proofs.YtanfmhonjpjpoaaGreatDoor
variable{W w w' a b c:World}{k d ed bb bm sb sm base:Nat}{o r:Obj}{P:Program}{ad:Nat→Addr}{st:Nat→ByteArray}
section
open Go.Extern Go.RowKit
theorem zHs(W:World)(o:Obj)(k:Nat)(h:k=W.heap.size):(W.alloc o).heap[k]? =some o:=by rw[h];exact heap_alloc_new W o
def FaultAt(w:World)(a:Nat→Addr)(j k:Nat)(err:Value):Prop:= ∃b:Nat,err=.iface 130 (.pointer (some ⟨b,0,none⟩))∧w.heap[b]? =some (.cells #[.int .i64 (k:Int),.iface 325 (.pointer (some (a j)))] 134 (0,0))
def RAhead(w:World)(a:Nat→Addr)(s:ByteArray)(k:Nat)(err:Value):Prop:=(22*k=s.size∧err=.nilIface)∨(22*k<s.size∧s.size<22*k+22∧FaultAt w a 3 k err)∨(22*k+22≤s.size∧¬okRec s k∧FaultAt w a 5 k err)
theorem zPz(a:Nat→Addr)(st:Nat→ByteArray)(s:ByteArray)(w:World)(hE:Errs w a st)(hm:s.size≤1000000000):
 Calls Tryz.prog 82 #[.string s] w fun e w'=> ∃(k:Nat) (v err:Value),e=.returned (.tuple #[v,err])∧22*k≤s.size∧Below w.heap.size w w'∧w'.ownsRow w.heap.size 73 7 v k (rowsC s k)∧(∀i,i<k→okRec s i)∧RAhead w' a s k err:=by
 obtain⟨i0,hi,hz0,hz1,hz2⟩:=zB1 Tryz.infoRec Tryz.zeroRec;have HE:Hid (Errs w a st):=hE;clear hE;go_enter Tryz.func82,Tryz.ntmps82;go_wp2;go_loopw [0,4] (fun t l wr=> ∃(k:Nat) (tb:ByteArray),t=.string tb∧tb.data.toList=s.data.toList.drop (22*k)∧22*k≤s.size∧(∀i,i<k→okRec s i)∧wr.ownsRow w.heap.size 73 7 l k (rowsC s k)∧Below w.heap.size w wr) (fun t _ _=>strLen t)
 case atStart=>exact⟨0,s,rfl,rfl,Nat.zero_le _,fun _ h=>absurd h (Nat.not_lt_zero _),World.ownsRow_nil _ _ _ _,Below.refl _ _⟩
 case round=>
  obtain⟨k,tb,rfl,htb,hk,hok,hown,hb⟩:=hrel;have hsa:tb.size+22*k≤s.size:=by have:=zCo s tb _ htb;omega
  have hsb:s.size≤tb.size+22*k:=by have:=zCo s tb _ htb;omega
  have HTB:Hid (tb.data.toList=s.data.toList.drop (22*k)):=htb;have HOK:Hid (∀i,i<k→okRec s i):=hok;have HK:Hid (22*k≤s.size):=hk;have hEr:=HE.out.below hb;clear htb hok;by_cases h0:tb.size=0
  ·have HR:Hid (RecsOf s k 0):=⟨HOK.out,.inl ⟨rfl,by omega⟩⟩;have hng: ¬(0:Int)<(tb.size:Int):=by omega
   rcases hown.2 with⟨rfl,rfl⟩|⟨g,cap,cur,rfl,hg,hh,hle,hmx,hsz2,htk⟩
   ·clear hown;go_wp2;go_ret2;exact⟨0,_,_,rfl,Nat.zero_le _,hb,World.ownsRow_nil _ _ _ _,HOK.out,.inl ⟨by omega,rfl⟩⟩
   ·have HOW:Hid (wr.ownsRow w.heap.size 73 7 (.slice (some ⟨g,0,none⟩) k cap) k (rowsC s k)):=hown;clear hown hh htk hsz2;go_wp2;go_ret2;exact⟨k,_,_,rfl,HK.out,hb,HOW.out,HOK.out,.inl ⟨by omega,rfl⟩⟩
  ·by_cases h22:tb.size<22
   ·have HR:Hid (RecsOf s k 4):=⟨HOK.out,.inr (.inl ⟨rfl,by omega,by omega⟩)⟩;have hgt:(0:Int)<(tb.size:Int):=by omega
    have HRR:=zFl a st tb wr hEr h22;have HRR':Hid (Calls Tryz.prog 130 #[.string tb] wr fun e w'=>e=.returned (.tuple #[recW 0 0 0 0 0 0 0,.iface 325 (.pointer (some (a 3)))])∧Below wr.heap.size wr w'):=HRR;clear HRR;rcases hown.2 with⟨rfl,rfl⟩|⟨g,cap,cur,rfl,hg,hh,hle,hmx,hsz2,htk⟩;all_goals
     have HOWN:=hid hown;clear hown;try clear hh htk hsz2
     go_wp2_with fail;refine HRR'.out.mono ?_;rintro e w1 ⟨rfl,hb1⟩;have HB1:Hid (Below w.heap.size w w1):=hb.trans (hb1.mono hb.size);have HO1:=hid (zCp HOWN.out hb1);clear hb hb1 HOWN;go_wp2;go_ret2;refine⟨_,_,_,rfl,HK.out,zA1 (zA1 HB1.out _) _,(HO1.out.alloc _).alloc _,HOK.out,.inr (.inl ⟨by omega,by omega,w1.heap.size+1,rfl,zHs _ _ _ (by simp)⟩)⟩
   ·by_cases hkd:fld tb 0 0 1<1∨8<fld tb 0 0 1
    ·have HR:Hid (RecsOf s k 6):=⟨HOK.out,.inr (.inr ⟨rfl,by omega,by rw[zA5 s tb _ 0 1 HTB.out]at hkd;exact hkd⟩)⟩;have hgt:(0:Int)<(tb.size:Int):=by omega
     have HRR:=zFm a st tb wr hEr (by omega) (by omega) hkd;have HRR':Hid (Calls Tryz.prog 130 #[.string tb] wr fun e w'=>e=.returned (.tuple #[recW 0 0 0 0 0 0 0,.iface 325 (.pointer (some (a 5)))])∧Below wr.heap.size wr w'):=HRR;clear HRR hkd;rcases hown.2 with⟨rfl,rfl⟩|⟨g,cap,cur,rfl,hg,hh,hle,hmx,hsz2,htk⟩;all_goals
      have HOWN:=hid hown;clear hown;try clear hh htk hsz2
      go_wp2_with fail;refine HRR'.out.mono ?_;rintro e w1 ⟨rfl,hb1⟩;have HB1:Hid (Below w.heap.size w w1):=hb.trans (hb1.mono hb.size);have HO1:=hid (zCp HOWN.out hb1);clear hb hb1 HOWN;go_wp2;go_ret2;refine⟨_,_,_,rfl,HK.out,zA1 (zA1 HB1.out _) _,(HO1.out.alloc _).alloc _,HOK.out,.inr (.inr ⟨by omega,HR.out.not,w1.heap.size+1,rfl,zHs _ _ _ (by simp)⟩)⟩
    ·have hrr:=zFn tb wr (by omega) (by omega) (by omega);rw[zA5 s tb _ 0 1 HTB.out,zA5 s tb _ 1 4 HTB.out,zA5 s tb _ 5 4 HTB.out,zA5 s tb _ 9 4 HTB.out,zA5 s tb _ 13 4 HTB.out,zA5 s tb _ 17 4 HTB.out,zA5 s tb _ 21 1 HTB.out]at hrr;rw[zA5 s tb _ 0 1 HTB.out]at hkd;have HNX:Hid (okRec s k):=⟨by omega,by omega,by omega⟩;have HRL:Hid ((recL s (22*k)).map (Value.int .i64)= [.int .i64 (fld s (22*k) 0 1),.int .i64 (fld s (22*k) 1 4),.int .i64 (fld s (22*k) 5 4),.int .i64 (fld s (22*k) 9 4),.int .i64 (fld s (22*k) 13 4),.int .i64 (fld s (22*k) 17 4),.int .i64 (fld s (22*k) 21 1)]):=rfl;have hcut:=fun W=>zGi tb W (by omega)
     have HCD:=zGj tb (by omega);have HCD':Hid ((tb.extract 22 tb.size).data.toList=tb.data.toList.drop 22):=HCD;clear HCD hkd;generalize fld s (22*k) 0 1=k0 at *;generalize fld s (22*k) 1 4=k1 at *;generalize fld s (22*k) 5 4=k2 at *;generalize fld s (22*k) 9 4=k3 at *;generalize fld s (22*k) 13 4=k4 at *;generalize fld s (22*k) 17 4=k5 at *;generalize fld s (22*k) 21 1=k6 at *;have HRR:Hid (Calls Tryz.prog 130 #[.string tb] wr fun e w'=>e=.returned (.tuple #[recW k0 k1 k2 k3 k4 k5 k6,.nilIface])∧Below wr.heap.size wr w'):=hrr;clear hrr;have hgt:(0:Int)<(tb.size:Int):=by omega
     go_wp2_with fail;refine HRR.out.mono ?_;rintro e w1 ⟨rfl,hb1⟩;have hown1:=zCp hown hb1;have hbs:=hb.size;have hbs1:=hb1.size;have HB1:Hid (Below w.heap.size w w1):=hb.trans (hb1.mono hb.size);clear hown hb hb1;go_wp2_with(at_builtin;refine wpList_append_own _ rfl _ _ 69 rfl w.heap.size 73 i0 (recW 0 0 0 0 0 0 0) 7 56 Tryz.underlying69 hi hz0 hz1 hz2 rfl (by decide) _ _ _ rfl ((hown1.alloc _).alloc _) ⟨w1.heap.size+1,0,none⟩ 1 1 [.int .i64 k0,.int .i64 k1,.int .i64 k2,.int .i64 k3,.int .i64 k4,.int .i64 k5,.int .i64 k6] rfl rfl ?c1 ?c2 ?c3 ?c4 ?c5 ?_)
     case c1=>
      intro j u hj
      match j,hj with
      |0,hj=>simp at hj;subst hj;simp[Addr.add]
      |1,hj=>simp at hj;subst hj;simp[Addr.add]
      |2,hj=>simp at hj;subst hj;simp[Addr.add]
      |3,hj=>simp at hj;subst hj;simp[Addr.add]
      |4,hj=>simp at hj;subst hj;simp[Addr.add]
      |5,hj=>simp at hj;subst hj;simp[Addr.add]
      |6,hj=>simp at hj;subst hj;simp[Addr.add]
     case c2=>
      intro u hu;simp at hu;rcases hu with rfl|rfl|rfl|rfl|rfl|rfl|rfl<;>rfl
     case c3=>unfold maxLen;omega
     case c4=>omega
     case c5=>simp;omega
     intro v' w3 hown2 hgrow _;have hlt:=((hown1.alloc (.cells #[.int .i64 k0,.int .i64 k1,.int .i64 k2,.int .i64 k3,.int .i64 k4,.int .i64 k5,.int .i64 k6] 73)).alloc (.cells #[.int .i64 k0,.int .i64 k1,.int .i64 k2,.int .i64 k3,.int .i64 k4,.int .i64 k5,.int .i64 k6] 73)).lt;have HB3:Hid (Below w.heap.size w w3):=(zA1 (zA1 HB1.out _) _).grown hgrow (by simp;omega) (fun q hq=>(hlt q hq).1);have HO:Hid (w3.ownsRow w.heap.size 73 7 v' (k+1) (rowsC s (k+1))):=by
      show w3.ownsRow w.heap.size 73 7 v' (k+1) (rowsC s (k+1));rw[zCn,HRL.out];exact hown2
     clear hown2 hgrow hlt hown1;have hcut3:=hcut w3;clear hcut;go_wp2;go_roundw
     case rel=>
      refine⟨k+1,tb.extract 22 tb.size,rfl,?_,by omega,?_,HO.out,HB3.out⟩
      ·rw[HCD'.out,HTB.out,List.drop_drop];congr 1
      ·intro i hi;rcases Nat.lt_or_ge i k with q|q
       ·exact HOK.out i q
       ·have:i=k:=by omega
        subst this;exact HNX.out
     case measure=>
      simp[strLen];omega
end
section
open Go.Extern Go.Maps Go.RowKit
theorem Tryz.infoStC:(Tryz.prog.info? 48).map (fun i=>(i.size,i.bytes))=some (7,56):=by kernel_rfl
theorem Tryz.zeroStC2:(Tryz.prog.info? 48).map (fun i=>i.zero)=some (some (.agg #[iV 0,iV 0,iV 0,iV 0,iV 0,iV 0,iV 0])):=by kernel_rfl
def ordAt(al:List Ord)(j:Nat):Ord:=match al[j]? with|some o=>o|none=>ord0
theorem zEd{al:List Ord}{j:Nat}{o:Ord}(h:al[j]? =some o):ordAt al j=o:=by unfold ordAt;rw[h]
theorem zQ(al:List Ord):(List.range al.length).map (ordAt al)=al:=by
 apply List.ext_getElem?;intro i;by_cases h:i<al.length
 ·rw[List.getElem?_map,List.getElem?_range h,Option.map_some,List.getElem?_eq_getElem h];rw[zEd (List.getElem?_eq_getElem h)]
 ·rw[List.getElem?_eq_none (by simp;omega),List.getElem?_eq_none (by omega)]
section
variable {w:World}
def entX(X:Nat→Ord)(j:Nat):Int×List Int:=((X j).id,(X j).state)
theorem zQ0{X:Nat→Ord}{l js:List Nat}(hids:(l.map fun j=>(X j).id).Nodup)(hsub: ∀j∈js,j∈l)(hp:(js.map (entX X)).Perm (l.map (entX X))):js.Perm l:=by
 have hnd:l.Nodup:=List.Pairwise.of_map _ (fun a c hac e1=>hac (e1▸rfl)) hids;have hinj: ∀i∈l,∀j∈l,(X i).id=(X j).id→i=j:=fun i hi j hj e=>by
  obtain⟨a,ha⟩:=List.getElem?_of_mem hi;obtain⟨b,hb⟩:=List.getElem?_of_mem hj;have h1:(l.map fun j=>(X j).id)[a]? =some (X i).id:=by rw[List.getElem?_map,ha];rfl
  have h2:(l.map fun j=>(X j).id)[b]? =some (X i).id:=by rw[List.getElem?_map,hb,e];rfl
  have hla:=(List.getElem?_eq_some_iff.1 h1).1;have hlb:=(List.getElem?_eq_some_iff.1 h2).1;rw[List.getElem?_eq_getElem hla]at h1;rw[List.getElem?_eq_getElem hlb]at h2;have h4:=Option.some.inj (h1.trans h2.symm);have h3:a=b:=by
   rcases Nat.lt_trichotomy a b with h|h|h
   ·exact absurd h4 (List.pairwise_iff_getElem.1 hids a b hla hlb h)
   ·exact h
   ·exact absurd h4.symm (List.pairwise_iff_getElem.1 hids b a hlb hla h)
  subst h3;exact Option.some.inj (ha.symm.trans hb)
 have hn1:((l.map (entX X)).map Prod.fst).Nodup:=by rw[List.map_map];exact hids
 have hn2:(l.map (entX X)).Nodup:=List.Pairwise.of_map Prod.fst (fun a c hac e1=>hac (e1▸rfl)) hn1;have hjn:js.Nodup:=List.Pairwise.of_map _ (fun a c hac e1=>hac (e1▸rfl)) (hp.symm.nodup hn2);refine(List.perm_ext_iff_of_nodup hjn hnd).2 fun j=>⟨hsub j,fun hj=>?_⟩
 obtain⟨k,hk,he⟩:=List.mem_map.1 (hp.mem_iff.2 (List.mem_map_of_mem (f:=entX X) hj));have:(X k).id=(X j).id:=by
  unfold entX at he;injection he
 rw[←hinj k (hsub k hk) j hj this];exact hk
theorem zHt(LN:Nat)(LO:List Ord)(hLN:LN=LO.length)(bs:List Nat)(E:List Nat)(X:Nat→Ord)(endM:Nat)(p:Option Addr)(cap:Nat)(hbl:bs.length=LN)(hpm:PM aggElem Tryz.prog 3 w endM (E.map fun i=>((X i).id,(X i).state)))(hrow:w.ownsRow 0 158 1 (.slice p LN cap) LN (bs.map ptrV))(hl:LN≤100000000)(hl2:E.length≤100000000)
 (hst: ∀(j:Nat) (b:Nat) (o:Ord),bs[j]? =some b→LO[j]? =some o→∀W,Below w.heap.size w W→Cl 77 #[iP b,iV 1] W fun en w'=>en=.returned (.agg #[iV o.id,iV o.status,iV o.price,iV o.opn,iV o.filled,iV o.cancelled,iV o.shown])∧Below W.heap.size W w'):
 Cl 48 #[.slice p LN cap,.map (some endM)] w fun en w'=> ∃(g0:Nat) (M:List Ord),en=.returned (sL g0 M.length M.length)∧M.Perm (LO++E.map X)∧M.Pairwise (fun x y=>x.id≤y.id)∧w'.ownsRow w.heap.size 48 7 (sL g0 M.length M.length) M.length (M.flatMap encS)∧Below w.heap.size w w':=by
 obtain⟨i0,hi,hz0,hz1,hz2⟩:=zB1 Tryz.infoStC Tryz.zeroStC2;have HINF:Hid (Tryz.prog.info? 48=some i0∧i0.zero=some (.agg #[iV 0,iV 0,iV 0,iV 0,iV 0,iV 0,iV 0])∧i0.size=7∧i0.bytes=56):=⟨hi,hz0,hz1,hz2⟩;have hlen:=fun ty=>hpm.len Tryz.underlying113 ty
 simp only[List.length_map]at hlen;have HIDS:Hid ((E.map fun j=>(X j).id).Nodup):=by
  have:=hpm.nodup keyedInt;rw[List.map_map]at this;exact this
 have HBL:=hid hbl;have hwa:wrap64 ((LN:Int)+(E.length:Int))=((LN+E.length:Nat):Int):=by unfold wrap64;omega
 obtain⟨wm,hmk,hown0,hgr0⟩:=run_make_own (P:=Tryz.prog) w w.heap.size 44 48 i0 _ 7 Tryz.underlying44 hi hz0 hz1 .i64 .i64 (LN+E.length) (by rw[hz2];omega) (by unfold maxLen;omega) (Nat.le_refl _);rw[Int.natCast_add]at hmk;have HOW0:=hid hown0;have HB0:Hid (Bw w wm):=(Below.refl w.heap.size w).grown hgr0 (Nat.le_refl _) (by simp);have HROW:=hid hrow;have HST1:=hid hst;have hes:=hl2;have HLN:Hid (LN=LO.length):=hLN;clear hrow hown0 hgr0 hi hz0 hz1 hz2 hst hbl hLN;go_enter Tryz.func48,Tryz.ntmps48;go_wp2_with fail;go_loopw [5,18] (fun lv iv wr=> ∃k:Nat,iv=iV k∧k≤LN∧lv=sL w.heap.size k (LN+E.length)∧wr.ownsRow w.heap.size 48 7 (sL w.heap.size k (LN+E.length)) k ((LO.take k).flatMap encS)∧Bw w wr) (fun _ iv _=>LN - (intOf iv).toNat)
 case atStart=>exact⟨0,rfl,Nat.zero_le _,rfl,HOW0.out,HB0.out⟩
 case round=>
  obtain⟨k,rfl,hk,rfl,hown,hbw⟩:=hrel;have HO1:=hid hown;have HBW:=hid hbw;clear hown hbw;by_cases hlt:k<LN
  ·have hkI:(k:Int)<(LN:Int):=by omega
   have hw1:wrap64 ((k:Int)+1)=(k:Int)+1:=by unfold wrap64;omega
   have hlt2:k<LO.length:=by rw[←HLN.out];exact hlt
   have hlt3:k<bs.length:=by rw[HBL.out];exact hlt
   have hj:LO[k]? =some LO[k]:=List.getElem?_eq_getElem hlt2;have hjb:bs[k]? =some bs[k]:=List.getElem?_eq_getElem hlt3;obtain⟨vb,rfl⟩: ∃vb,p=some (iA vb 0):=by
    rcases HROW.out.2 with⟨h5,h6⟩|⟨d,cap',cur,h5,_⟩
    ·omega
    ·injection h5 with h5 _ _;exact⟨d,h5⟩
   have ck:wr.cell? (iA vb k)=some (iP (bs[k])):=by
    have h1:=HROW.cellAt k (by omega);rw[List.getElem?_map,hjb]at h1;unfold World.cell? at h1⊢;rw[HBW.out.block vb ((HROW.out.lt vb rfl).2)];exact h1
   have HS1:=hid (HST1.out k bs[k] LO[k] hjb hj wr HBW.out);have HTK:Hid (LO.take (k+1)=LO.take k++ [LO[k]]):=by show _=_;rw[List.take_add_one,hj];rfl
   clear hj hjb;generalize LO[k]=o at *;generalize bs[k]=j0 at *;clear hlt2 hlt3;go_wp2_with fail;refine HS1.mono ?_;rintro en w1 ⟨rfl,hb1⟩;have HO2:=hid (zCs HO1.out (fun q hq=>hb1.block q hq));have HB1:=hid (zAa HBW.out hb1);have hsz1:=HB1.size;clear hb1 HS1 HO1 ck;go_wp2_with(first
    |(at_builtin;refine zFb _ rfl _ _ 44 rfl w.heap.size 48 i0 _ 7 56 Tryz.underlying44 HINF.1 HINF.2.1 HINF.2.2.1 HINF.2.2.2 rfl (by decide) w.heap.size k (LN+E.length) _ rfl (HO2.alloc _) (iA w1.heap.size 0) 1 1 [iV o.id,iV o.status,iV o.price,iV o.opn,iV o.filled,iV o.cancelled,iV o.shown] rfl rfl ?c1 ?c2 ?c0 ?c3 ?c4 ?c5 ?_)
    |go_in)
   case c0=>omega
   case c1=>
    intro j u hj;rw[Addr.add_lit,Nat.zero_add];rw[World.cell?_alloc_at _ _ _ _ rfl];simpa using hj
   case c2=>intro u hu;simp at hu;rcases hu with rfl|rfl|rfl|rfl|rfl|rfl|rfl<;>rfl
   case c3=>unfold maxLen;omega
   case c4=>omega
   case c5=>simp;omega
   intro w2 hown2 hgrow;have HO3:Hid (w2.ownsRow w.heap.size 48 7 (sL w.heap.size (k+1) (LN+E.length)) (k+1) ((LO.take (k+1)).flatMap encS)):=by
    show World.ownsRow _ _ _ _ _ _ _;rw[HTK.out,List.flatMap_append,List.flatMap_singleton];exact hown2
   have HB2:Hid (Bw w w2):=(HB1.alloc hsz1 _).grown hgrow (by simp;omega) (fun q hq=>by injection hq with hq;omega);clear hown2 hgrow HO2 HB1;go_wp2;go_roundw
   case rel=>exact⟨k+1,by go_num,hlt,rfl,HO3.out,HB2.out⟩
   case measure=>simp[intOf];omega
  ·have hke:k=LN:=by omega
   subst hke;rw[HLN.out,List.take_length,←HLN.out]at HO1;have hpm1:=hpm.of_block (w':=wr) (HBW.block _ hpm.lt);have hml:=hpm.lt;go_wp2_with(first
    |(at_range;refine zBu _ rfl _ _ rfl keyedInt Tryz.underlying113 rfl hpm1 ?_;intro w0 hpr0 hg0 hs0)
    |go_in)
   go_frame;have HB0:Hid (Bw w w0):=HBW.grown hg0 HBW.size (by simp);have HO0:=hid (HO1.kept hg0 (.inr (by simp[Value.ownBlock])));have HRB:Hid (w.heap.size≤wr.heap.size∧w.heap.size≠wr.heap.size):=⟨HBW.size,fun hc=>by have:=(HO1.lt w.heap.size rfl).2;omega⟩;have HPM:=hid hpm;clear hpm1 hg0 HO1 HBW hpm;generalize hrb:wr.heap.size=rb at *;go_loopw [5] (fun lv wr2=> ∃(rem:List (Int×List Int)) (js:List Nat),lv=sL w.heap.size (k+js.length) (k+E.length)∧PR aggElem Tryz.prog 3 wr2 endM rb (E.map fun i=>((X i).id,(X i).state)) (js.map (entX X)) rem∧(∀j∈js,j∈E)∧wr2.ownsRow w.heap.size 48 7 (sL w.heap.size (k+js.length) (k+E.length)) (k+js.length) ((LO++js.map X).flatMap encS)∧Bw w wr2) (fun _ wr2=>wr2.rangeLeft endM rb)
   case atStart=>exact⟨_,[],rfl,hpr0,(fun j hj=>by cases hj),(by simpa using HO0.out),HB0.out⟩
   case round=>
    obtain⟨rem,js,rfl,hpr,hsub,hown,hbw⟩:=hrel;have HSB:=hid hsub;have HOW:=hid hown;have HBW:=hid hbw;have hjl:js.length≤E.length:=by
     have:=hpr.1.length_eq;simp at this;omega
    clear hsub hown hbw;go_wp2_with(first
     |(at_next;refine zBv _ rfl _ rfl keyedInt Tryz.underlying3 endM rb (js.map (entX X)) rem rfl hpr ?_ ?_)
     |go_in)
    ·intro h0;have HALL:Hid (js.Perm E):=zQ0 HIDS.out HSB.out (by have:=hpr.1;rw[h0,List.append_nil]at this;exact this);have HJE:Hid (js.length=E.length):=HALL.length_eq;clear hpr;have HM:Hid ((LO++js.map X).Perm (LO++E.map X)):=(HALL.map X).append_left LO;have HSR:Hid (Cl 78 #[sL w.heap.size (k+js.length) (k+E.length),.func (.func 79) #[] #[]] wr fun en w'=>en=rV #[]∧Hid (∃M':List Ord,M'.Perm (LO++js.map X)∧M'.Pairwise (fun x y=>x.id≤y.id)∧M'.length=k+js.length∧w'.ownsRow w.heap.size 48 7 (sL w.heap.size (k+js.length) (k+E.length)) (k+js.length) (M'.flatMap encS)∧Below w.heap.size wr w')):=by
      have hml2:(LO++js.map X).length=k+js.length:=by rw[List.length_append,List.length_map,←HLN.out]
      refine(zNg (B:=w.heap.size) (LO++js.map X) _ (by rw[hml2];exact HOW.out) HBW.size (by rw[hml2];omega)).mono ?_;rintro en w' ⟨rfl,M',h1,h2,h3,h4⟩;rw[hml2]at h3;exact⟨rfl,M',h1,h2,h1.length_eq.trans hml2,h3,h4⟩
     go_wp2_with fail;refine HSR.mono ?_;rintro en w2 ⟨rfl,HZ⟩;clear HSR;go_wp2;go_ret;obtain⟨M',h1,h2,hM,h3,h4⟩:=HZ.out;refine⟨w.heap.size,M',?_,h1.trans HM.out,h2,?_,h4.os.trans HBW.os,h4.tape.trans HBW.tape,h4.output.trans HBW.output,Nat.le_trans HBW.size h4.size,fun q hq=>(h4.block q hq).trans (HBW.block q hq)⟩
     ·rw[hM,HJE.out];rfl
     ·rw[hM];rw[←HJE.out]at h3;exact h3
    ·intro kk v rem' w1 j0 hj0 hkk hv hpr1 hg1 hs1 hlt1 hen;subst hkk hv;have hval:aggElem.val (X j0).state=.agg #[iV (X j0).id,iV (X j0).status,iV (X j0).price,iV (X j0).opn,iV (X j0).filled,iV (X j0).cancelled,iV (X j0).shown]:=rfl;rw[hval]at hen⊢;have hjl2:js.length+1≤E.length:=by
      have:=hpr1.1.length_eq;simp at this;omega
     have HPR:=hid hpr1;have HLT:=hid hlt1;have HJ:=hid hj0;have HB1:Hid (Bw w w1):=HBW.grown hg1 HBW.size (by intro q hq;injection hq with hq;have:=HRB.1;omega);have HO1:=hid (HOW.kept hg1 (.inr (fun hc=>HRB.2 (by simpa [Value.ownBlock] using hc))));have HML2:Hid (w.heap.size≤w1.heap.size∧rb<w1.heap.size):=⟨HB1.size,HPR.lt⟩;have HXJ:Hid (encS (X j0)= [iV (X j0).id,iV (X j0).status,iV (X j0).price,iV (X j0).opn,iV (X j0).filled,iV (X j0).cancelled,iV (X j0).shown]):=rfl;clear hpr1 hg1 hs1 hlt1 hj0 hval hpr HOW HBW;generalize hXo:X j0=o at *;have HXO:=hid hXo;clear hXo;go_wp2_with(first
      |(at_builtin;refine zFb _ rfl _ _ 44 rfl w.heap.size 48 i0 _ 7 56 Tryz.underlying44 HINF.1 HINF.2.1 HINF.2.2.1 HINF.2.2.2 rfl (by decide) w.heap.size (k+js.length) (k+E.length) _ rfl ((HO1.alloc _).alloc _) (iA (w1.heap.size+1) 0) 1 1 [iV o.id,iV o.status,iV o.price,iV o.opn,iV o.filled,iV o.cancelled,iV o.shown] rfl rfl ?c1 ?c2 ?c0 ?c3 ?c4 ?c5 ?_)
      |go_in)
     case c0=>omega
     case c1=>
      intro j u hj;rw[Addr.add_lit,Nat.zero_add];have h9:w1.heap.size+1=(w1.alloc (.cells #[iV o.id,iV o.status,iV o.price,iV o.opn,iV o.filled,iV o.cancelled,iV o.shown] 48)).heap.size:=by simp
      rw[h9,World.cell?_alloc_at _ _ _ _ rfl];simpa using hj
     case c2=>intro u hu;simp at hu;rcases hu with rfl|rfl|rfl|rfl|rfl|rfl|rfl<;>rfl
     case c3=>unfold maxLen;omega
     case c4=>omega
     case c5=>have:=HML2.out;simp;omega
     intro w2 hown2 hgrow;have hup: ∀q,q<w1.heap.size→q≠w.heap.size→w2.heap[q]? =w1.heap[q]? :=fun q hq hne=>by
      rw[hgrow.block q (by simp;omega) (fun e1=>hne (by injection e1))];rw[Below.heap_alloc _ _ q (by simp;omega)];exact Below.heap_alloc w1 _ q hq
     have hbm:w2.heap[endM]? =w1.heap[endM]? :=hup endM (Nat.lt_of_lt_of_le hml HML2.1) (by omega);have hbr:w2.heap[rb]? =w1.heap[rb]? :=hup rb HML2.2 (fun e1=>HRB.2 e1.symm);have HPR2:=hid (HPR.of_blocks hbm hbr);have HLT2:Hid (w2.rangeLeft endM rb<wr.rangeLeft endM rb):=by
      show _<_;have:w2.rangeLeft endM rb=w1.rangeLeft endM rb:=by unfold World.rangeLeft;rw[hbm,hbr]
      rw[this];exact HLT.out
     have HB2:Hid (Bw w w2):=((HB1.alloc HML2.1 _).alloc (by have:=HML2.1;simp;omega) _).grown hgrow (by have:=HML2.1;simp;omega) (fun q hq=>by injection hq with hq;omega);have HO2:Hid (w2.ownsRow w.heap.size 48 7 (sL w.heap.size (k+(js++ [j0]).length) (k+E.length)) (k+(js++ [j0]).length) ((LO++(js++ [j0]).map X).flatMap encS)):=by
      have e2:k+(js++ [j0]).length=k+js.length+1:=by rw[List.length_append];rfl
      show World.ownsRow _ _ _ _ _ _ _;rw[e2,List.map_append,←List.append_assoc,List.flatMap_append,List.map_singleton,List.flatMap_singleton,HXO.out,HXJ.out,List.flatMap_append,List.append_assoc];exact hown2
     have HJS:Hid (∀j∈js++ [j0],j∈E):=fun j hj=>by
      rcases List.mem_append.1 hj with h1|h1
      ·exact HSB.out j h1
      ·obtain rfl:j=j0:=by simpa using h1
       exact HJ.out
     have HPR3:Hid (PR aggElem Tryz.prog 3 w2 endM rb (E.map fun i=>((X i).id,(X i).state)) ((js++ [j0]).map (entX X)) rem'):=by
      show PR _ _ _ _ _ _ _ _ _;have e9:[(o.id,o.state)]=(([j0]:List Nat).map (entX X)):=by simp[entX,HXO.out]
      rw[List.map_append,←e9];exact HPR2.out
     have HLE:Hid (k+(js++ [j0]).length=k+js.length+1):=by show _=_;rw[List.length_append];rfl
     clear hown2 hgrow hup hbm hbr HPR2 HO1 HB1 HPR HLT;go_wp2;go_roundw
     case rel=>exact⟨rem',js++ [j0],by rw[HLE.out],HPR3.out,HJS.out,HO2.out,HB2.out⟩
     case measure=>exact HLT2.out
end
section
variable {F:Nat→Prop} {base:Nat} {w:World} {b:Nat} {e:Eng} {g:Gh} {S:Sets}
theorem zQ1(L:List Nat)(p:Option Addr)(cap:Nat)(h:CRep F base w b e g S)(inv:Eng.EInv e)(hH:Holds e S [] [])(hl:e.all.length≤100000000)(hL: ∀j,j∈L↔∃o,e.all[j]? =some o∧o.status=1)(hnd:L.Nodup)(hrow:w.ownsRow 0 158 1 (.slice p L.length cap) L.length (L.map fun j=>ptrV (g.blk j))):
 Cl 48 #[.slice p L.length cap,.map (some g.endM)] w fun en w'=> ∃(g0:Nat) (M:List Ord),en=.returned (sL g0 M.length M.length)∧M.Perm e.all∧M.Pairwise (fun x y=>x.id≤y.id)∧w'.ownsRow w.heap.size 48 7 (sL g0 M.length M.length) M.length (M.flatMap encS)∧Below w.heap.size w w':=by
 have hsm:=h.small hH;have hLl:L.length≤e.all.length:=by
  have:=zC7 (b:=List.range e.all.length) hnd (fun j hj=>by obtain⟨o,h1,_⟩:=(hL j).1 hj;rw[List.mem_range];exact(List.getElem?_eq_some_iff.1 h1).1);simpa using this
 have hen:S.ended.map (fun i=>(idAt e.all i,stAt e.all i))=S.ended.map (fun i=>((ordAt e.all i).id,(ordAt e.all i).state)):=List.map_congr_left fun j hj=>by
  obtain⟨o,ho,_⟩:=(hH.ended j).1 hj;rw[zEd ho,zAe ho];unfold stAt;rw[ho]
 have hpm:=h.body.ended;rw[hen]at hpm;have hne:=h.nodups.2.2;have key:=zHt (w:=w) L.length (L.map (ordAt e.all)) (by simp) (L.map g.blk) S.ended (ordAt e.all) g.endM p cap (by simp) hpm (by rw[List.map_map];exact hrow) (by omega) (by have:=hsm.ended;omega) (fun j bb o hb ho W hW=>by
  rw[List.getElem?_map]at hb ho;obtain⟨k,hk,rfl⟩:=Option.map_eq_some_iff.1 hb;obtain⟨k',hk',rfl⟩:=Option.map_eq_some_iff.1 ho;obtain rfl:k=k':=Option.some.inj (hk.symm.trans hk');obtain⟨o,ho,hs⟩:=(hL k).1 (List.mem_of_getElem? hk);rw[zEd ho];have kk:=inv.ok k o ho;have hop:=kk.open_ hs;have hc:=kk.live hs;have hO:=(h.below hW).oa ho hs;refine(zH7 hO (by rw[←hop];exact zA0 kk.opn0 (by have:=kk.sum;have:=kk.fil0;have:=kk.can0;have:=kk.qty1;omega))).mono ?_;rintro en w' ⟨rfl,hb⟩;exact⟨by unfold stV;rw[←hop,hc,hs],hb⟩)
 refine key.mono ?_;rintro en w' ⟨g0,M,rfl,h1,h2,h3,h4⟩;refine⟨g0,M,rfl,h1.trans ?_,h2,h3,h4⟩;have hp:(L++S.ended).Perm (List.range e.all.length):=by
  refine(List.perm_ext_iff_of_nodup ?_ List.nodup_range).2 fun j=>?_
  ·refine List.nodup_append.2 ⟨hnd,hne,fun a ha c hc e1=>?_⟩;subst e1;obtain⟨x,q1,q2⟩:=(hL a).1 ha;obtain⟨y,q3,q4⟩:=(hH.ended a).1 hc;obtain rfl:x=y:=Option.some.inj (q1.symm.trans q3);exact q4 q2
  ·rw[List.mem_append,hL,hH.ended,List.mem_range];constructor
   ·rintro(⟨x,q1,_⟩|⟨x,q1,_⟩)<;>exact(List.getElem?_eq_some_iff.1 q1).1
   ·intro hj;have h3:e.all[j]? =some e.all[j]:=List.getElem?_eq_getElem hj;by_cases h4:e.all[j].status=1
    ·exact .inl ⟨_,h3,h4⟩
    ·exact .inr ⟨_,h3,h4⟩
 have:=hp.map (ordAt e.all);rw[zQ,List.map_append]at this;exact this
theorem zQ2(h:CRep F base w b e g S)(inv:Eng.EInv e)(hH:Holds e S [] [])(hl:e.all.length≤100000000):
 Cl 26 #[iP b] w fun en w'=> ∃(g0:Nat) (M:List Ord),en=.returned (sL g0 M.length M.length)∧M.Perm e.all∧M.Pairwise (fun x y=>x.id≤y.id)∧w'.ownsRow w.heap.size 48 7 (sL g0 M.length M.length) M.length (M.flatMap encS)∧Below w.heap.size w w':=by
 have c10:w.cell? (iA b 10)=some (.map (some g.endM)):=h.cell 10;have HAL:Hid (∀W,Same w W→Cl 49 #[.pointer (some (iA b 8))] W fun en w1=> ∃(p:Option Addr) (n cap:Nat),en=.returned (.slice p n cap)∧w1.cell? (iA b 10)=some (.map (some g.endM))∧Hid (Cl 48 #[.slice p n cap,.map (some g.endM)] w1 fun en w2=> ∃(v:Value),en=.returned v∧w2.cell? (iA b 10)=some (.map (some g.endM))∧Hid (∃(g0:Nat) (M:List Ord),v=sL g0 M.length M.length∧M.Perm e.all∧M.Pairwise (fun x y=>x.id≤y.id)∧w2.ownsRow w.heap.size 48 7 (sL g0 M.length M.length) M.length (M.flatMap encS)∧Bw w w2))):=by
  intro W hW;have hC:=h.same hW;refine(zHi hC hH hl).mono ?_;rintro en w1 ⟨v,L,rfl,h1,h2,h3⟩;obtain⟨p,cap,rfl⟩: ∃p cap,v=.slice p L.length cap:=by
   rcases h1.row.2 with⟨h5,h6⟩|⟨d,cap,cur,h5,_⟩
   ·exact⟨none,0,by rw[h5,h6]⟩
   ·exact⟨_,_,h5⟩
  have hC1:=hC.below h3;refine⟨p,L.length,cap,rfl,hC1.cell 10,?_⟩;have hrow0:w1.ownsRow 0 158 1 (.slice p L.length cap) L.length (L.map fun j=>ptrV (g.blk j)):=by
   refine⟨h1.row.1,?_⟩;rcases h1.row.2 with h5|⟨d,cap,cur,q4,q5,q6⟩
   ·exact .inl h5
   ·exact .inr ⟨d,cap,cur,q4,Nat.zero_le _,q6⟩
  refine(zQ1 L p cap hC1 inv hH hl h2 (h1.up.imp (fun h=>Nat.ne_of_lt h)) hrow0).mono ?_;rintro en w2 ⟨g0,M,rfl,r1,r2,r3,r4⟩;have hsz:w.heap.size≤w1.heap.size:=by have:=h3.size;rw[hW.heap]at this;exact this
  have hB1:Bw w w1:=⟨h3.os.trans hW.os,h3.tape.trans hW.tape,h3.output.trans hW.output,hsz,fun k hk=>by rw[h3.block k (by rw[hW.heap];exact hk),hW.heap]⟩;refine⟨_,rfl,(hC1.below r4).cell 10,g0,M,rfl,r1,r2,⟨r3.1,?_⟩,zAa hB1 r4⟩;rcases r3.2 with h5|⟨d,cap,cur,q4,q5,q6⟩
  ·exact .inl h5
  ·exact .inr ⟨d,cap,cur,q4,by omega,q6⟩
 go_enter Tryz.func26,Tryz.ntmps26;go_wp2_with fail;go_region_held3(fun X=>X.cell? (iA b 10)=some (.map (some g.endM))) (first|exact c10|exact c10' |exact c10'') (first|(go_at_call 49;refine(HAL _ (Same.refl _).drew).mono ?_;rintro en w1 ⟨p,n,cap,rfl,c10',HST⟩)|(go_at_call 48;refine HST.mono ?_;rintro en w2 ⟨v,rfl,c10'',HZ⟩));go_wp2;go_ret;obtain⟨g0,M,rfl,h1,h2,h3,h4⟩:=HZ;exact⟨g0,M,rfl,h1,h2,h3,h4⟩
end
def Grow(w w':World):Prop:=Below w.heap.size w w'
theorem Grow.refl(w:World):Grow w w:=Below.refl _ _
theorem Grow.trans(h:Grow a b)(h2:Grow b c):Grow a c:=zAa h h2
theorem Grow.alloc(h:Grow a b)(o:Obj):Grow a (b.alloc o):=Below.alloc h (Below.size h) o
theorem Grow.same(h:Grow a b)(s:Same b c):Grow a c:=⟨s.os.trans h.os,s.tape.trans h.tape,s.output.trans h.output,by rw[s.heap];exact h.size,fun k hk=>by rw[s.heap];exact h.block k hk⟩
theorem Grow.drew(h:Grow a b):Grow a b.drew:=h.same (Same.refl b).drew
theorem zHu(W:World):W.drew.heap=W.heap:=(Same.refl W).drew.heap
theorem zHv(g:Hid (Grow b c))(h:Grow a b):Grow a c:=h.trans g.out
theorem zBn(h:k=W.heap.size):(W.alloc o).heap[k]? =some o:=by rw[h];exact heap_alloc_new W o
theorem zC(h2:W.heap[k]? =some r):(W.alloc o).heap[k]? =some r:=((Grow.refl W).alloc o).block k (Array.getElem?_eq_some_iff.1 h2).1 |>.trans h2
theorem zEe(h2:W.heap[k]? =some r):W.drew.heap[k]? =some r:=by rw[(Same.refl W).drew.heap];exact h2
theorem PM.grow{V:Type}{E:Elem V}{K:TypeId}{b:Nat}{l:List (Int×V)}(h:PM E P K w b l)(hg:Grow w w'):PM E P K w' b l:=h.of_block (Below.block hg b h.lt)
theorem Grow.heap(hg:Grow w w')(h:w.heap[k]? =some o):w'.heap[k]? =some o:=by
 rw[Below.block hg k (Array.getElem?_eq_some_iff.1 h).1];exact h
theorem mkM(W:World):(Instr.makeMap 110 none).run Tryz.prog W=.ok (.map (some W.heap.size)) (W.alloc (.map #[] 0)):=by kernel_rfl
theorem mkE(W:World):(Instr.makeMap 113 none).run Tryz.prog W=.ok (.map (some W.heap.size)) (W.alloc (.map #[] 0)):=by kernel_rfl
theorem zEf{W':World}(g:Hid (Grow W W'))(h:W.heap[k]? =some r):W'.heap[k]? =some r:=g.out.heap h
theorem zEg{V:Type}(E:Elem V){K:TypeId}{n:Nat}(h:W.heap[n]? =some (.map #[] 0)):PM E P K W n ([]:List (Int×V)):=by
 have hn:=(Array.getElem?_eq_some_iff.1 h).1;have hs:({ W with heap:=W.heap.extract 0 n }:World).heap.size=n:=by
  show(W.heap.extract 0 n).size=n;simp;omega
 have k:=PM.made E P K ({ W with heap:=W.heap.extract 0 n }:World);have k2:=heap_alloc_new ({ W with heap:=W.heap.extract 0 n }:World) (.map #[] 0);rw[hs]at k k2;exact k.of_block (h.trans k2.symm)
section
variable {V:Type} {E:Elem V} {P:Program} {K:TypeId} {W W':World} {b:Nat} {l:List (Int×V)}
theorem zD0(h:PM E P K W b l):PM E P K (W.alloc o) b l:=h.grow ((Grow.refl W).alloc o)
theorem zD1(h:PM E P K W b l):PM E P K W.drew b l:=h.grow (Grow.refl W).drew
theorem zD2(g:Hid (Grow W W'))(h:PM E P K W b l):PM E P K W' b l:=h.grow g.out
end
theorem zQ3(w:World):Cl 108 #[] w fun en w'=> ∃m,en=.returned (.agg #[.map (some m)])∧w.heap.size≤m∧m<w'.heap.size∧Hid (PM ptrElem Tryz.prog 3 w' m [])∧Hid (Grow w w'):=by
 have HM:=mkM;go_enter Tryz.func108,Tryz.ntmps108;go_wp2;refine bodyPost_ret (v:=.agg #[.map (some (w.heap.size+1))]) (by simp[results,Tryz.results108,go_sem]) rfl ⟨_,rfl,?_⟩;have k:=PM.made ptrElem Tryz.prog 3 (w.alloc (.cells #[.map (some (w.heap.size+1))] 216));rw[World.size_alloc]at k;exact⟨by omega,by simp only[World.size_alloc];omega,k,((Grow.refl w).alloc _).alloc _⟩
theorem zQ4(w:World):Cl 107 #[] w fun en w'=> ∃d o,en=.returned (.agg #[.map (some d),.map (some o)])∧w.heap.size≤d∧d<o∧o<w'.heap.size∧Hid (PM ptrElem Tryz.prog 3 w' d [])∧Hid (PM ptrElem Tryz.prog 3 w' o [])∧Hid (Grow w w'):=by
 have HM:=mkM;go_enter Tryz.func107,Tryz.ntmps107;go_wp2;refine bodyPost_ret (v:=.agg #[.map (some (w.heap.size+1)),.map (some (w.heap.size+1+1))]) (by simp[results,Tryz.results107,go_sem]) rfl ⟨_,_,rfl,?_⟩;have k:=PM.made ptrElem Tryz.prog 3 (w.alloc (.cells #[.map (some (w.heap.size+1)),.map (some (w.heap.size+1+1))] 112));have k2:=PM.made ptrElem Tryz.prog 3 ((w.alloc (.cells #[.map (some (w.heap.size+1)),.map (some (w.heap.size+1+1))] 112)).alloc (.map #[] 0));simp only[World.size_alloc]at k k2;exact⟨by omega,by omega,by simp only[World.size_alloc];omega,k.grow ((Grow.refl _).alloc _),k2,(((Grow.refl w).alloc _).alloc _).alloc _⟩
structure NewParts(w W:World)(d o en bb bm sb sm:Nat):Prop where
 day:PM ptrElem Tryz.prog 3 W d []
 oth:PM ptrElem Tryz.prog 3 W o []
 ended:PM aggElem Tryz.prog 3 W en []
 buy:PM ptrElem Tryz.prog 3 W bm []
 sel:PM ptrElem Tryz.prog 3 W sm []
 buyB:W.heap[bb]? =some (.cells #[.map (some bm)] 219 (0,0))
 selB:W.heap[sb]? =some (.cells #[.map (some sm)] 221 (0,0))
 maps:[d,o,en,bm,sm].Nodup
 lo:w.heap.size≤d∧w.heap.size≤o∧w.heap.size≤en∧w.heap.size≤bm∧w.heap.size≤sm∧w.heap.size≤bb∧w.heap.size≤sb
 grow:Grow w W
theorem zQ5{en:Ending}{a b c:Int}{dv:Value}{nb o:Nat}(h1:en=rV #[iP nb,.nilIface])(h2:w'.heap[nb]? =some (.cells #[iV a,iV b,iV c,.iface 65 dv,iV 0,.string ⟨#[]⟩,iV 0,.slice none 0 0,.map (some d),.map (some o),.map (some ed),.iface 214 (iP bb),.iface 220 (iP sb),iV 0,iV 0,iV 0] 117 (0,0)))
 (h3:w'.heap[bb]? =some (.cells #[.map (some bm)] 219 (0,0))) (h4:w'.heap[sb]? =some (.cells #[.map (some sm)] 221 (0,0))) (h5:w.heap.size≤nb)
 (p1:PM ptrElem Tryz.prog 3 w' d []) (p2:PM ptrElem Tryz.prog 3 w' o []) (p3:w'.heap[ed]? =some (.map #[] 0)) (p4:PM ptrElem Tryz.prog 3 w' bm []) (p5:PM ptrElem Tryz.prog 3 w' sm [])
 (hm:(d≠o∧d≠ed∧d≠bm∧d≠sm)∧(o≠ed∧o≠bm∧o≠sm)∧(ed≠bm∧ed≠sm)∧bm≠sm) (hl:w.heap.size≤d∧w.heap.size≤o∧w.heap.size≤ed∧w.heap.size≤bm∧w.heap.size≤sm∧w.heap.size≤bb∧w.heap.size≤sb) (hg:Grow w w'):
 ∃nb d o ed bb bm sb sm,en=rV #[iP nb,.nilIface]∧Hid (w.heap.size≤nb∧w'.heap[nb]? =some (.cells #[iV a,iV b,iV c,.iface 65 dv,iV 0,.string ⟨#[]⟩,iV 0,.slice none 0 0,.map (some d),.map (some o),.map (some ed),.iface 214 (iP bb),.iface 220 (iP sb),iV 0,iV 0,iV 0] 117 (0,0))∧NewParts w w' d o ed bb bm sb sm):=
 ⟨nb,d,o,ed,bb,bm,sb,sm,h1,h5,h2,p1,p2,zEg _ p3,p4,p5,h3,h4,by
  obtain⟨⟨a1,a2,a3,a4⟩,⟨a5,a6,a7⟩,⟨a8,a9⟩,a10⟩:=hm;simp[a1,a2,a3,a4,a5,a6,a7,a8,a9,a10],hl,hg⟩
theorem zQ6(w:World)(a b c:Int)(dv:Value)(hc:okCfg a b c=true):
 Cl 69 #[.agg #[iV a,iV b,iV c],.iface 65 dv] w fun en w'=> ∃nb d o ed bb bm sb sm,en=rV #[iP nb,.nilIface]∧Hid (w.heap.size≤nb∧w'.heap[nb]? =some (.cells #[iV a,iV b,iV c,.iface 65 dv,iV 0,.string ⟨#[]⟩,iV 0,.slice none 0 0,.map (some d),.map (some o),.map (some ed),.iface 214 (iP bb),.iface 220 (iP sb),iV 0,iV 0,iV 0] 117 (0,0))∧NewParts w w' d o ed bb bm sb sm):=by
 have HC:Hid ((Eng.inn a 1 64 && Eng.inn b 1 1000000 && Eng.inn c 1 1000)=true):=by
  show _=_;rw[←hc];unfold okCfg Eng.inn;simp[Bool.and_assoc]
 clear hc;have HM:=mkE;have HN:Hid (∀W:World,Cl 106 #[.agg #[iV a,iV b,iV c]] W fun en w'=>en=rB true∧Grow W w'):=fun W=>(zGy a b c).mono (by rintro en w' ⟨rfl,h⟩;rw[HC.out];exact⟨rfl,h⟩)
 go_enter Tryz.func69,Tryz.ntmps69;go_wp2_with fail;have hb1:=heap_alloc_new w (.cells #[iV a,iV b,iV c] 59);have G1:Hid (Grow w (w.alloc (.cells #[iV a,iV b,iV c] 59))):=(Grow.refl w).alloc _;generalize w.alloc (.cells #[iV a,iV b,iV c] 59)=W at *;refine(HN.out W).mono ?_;rintro en w2 ⟨rfl,hs⟩;have hb2:=hs.heap hb1;have r0:w2.cell? (iA w.heap.size 0)=sI a:=by simp[World.cell?,hb2]
 have r1:w2.cell? (iA w.heap.size 1)=sI b:=by simp[World.cell?,hb2]
 have r2:w2.cell? (iA w.heap.size 2)=sI c:=by simp[World.cell?,hb2]
 have G2:Hid (Grow w w2):=G1.trans hs;clear hs hb1 hb2 G1;have HK:Hid (∀X,Grow w2 X→X.cell? (iA w.heap.size 0)=sI a∧X.cell? (iA w.heap.size 1)=sI b∧X.cell? (iA w.heap.size 2)=sI c):=fun X hX=>⟨(hX.cell (zA4 r0)).trans r0,(hX.cell (zA4 r1)).trans r1,(hX.cell (zA4 r2)).trans r2⟩
 have HNR:Hid (∀W:World,Cl 107 #[] W fun en w'=> ∃d o,en=.returned (.agg #[.map (some d),.map (some o)])∧W.heap.size≤d∧d<o∧o<w'.heap.size∧Hid (PM ptrElem Tryz.prog 3 w' d [])∧Hid (PM ptrElem Tryz.prog 3 w' o [])∧Hid (Grow W w')):=zQ4;have HNH:Hid (∀W:World,Cl 108 #[] W fun en w'=> ∃m,en=.returned (.agg #[.map (some m)])∧W.heap.size≤m∧m<w'.heap.size∧Hid (PM ptrElem Tryz.prog 3 w' m [])∧Hid (Grow W w')):=zQ3;have GR:Hid (Grow w2 w2):=Grow.refl w2;go_wp2_with fail
 go_region_held3(fun X=>X.cell? (iA w.heap.size 0)=sI a∧X.cell? (iA w.heap.size 1)=sI b∧X.cell? (iA w.heap.size 2)=sI c) ((refine HK.out _ ?_;repeat(first|exact GR.out|refine Grow.alloc ?_ _|refine Grow.drew ?_|refine zHv (by assumption) ?_))) (first|(go_at_call 107;refine(HNR.out _).mono ?_;rintro en w3 ⟨d,o,rfl,l1,l2,l3,P1,P2,GC⟩;(try simp only[World.size_alloc,zHu]at l1))|(go_at_call 108;refine(HNH.out _).mono ?_;rintro en w4 ⟨m,rfl,l4,l5,P3,GC⟩;(try simp only[World.size_alloc,zHu]at l4)));all_goals
  go_wp2;go_ret2;have z2:w.heap.size≤w2.heap.size:=G2.size;refine zQ5 rfl (zBn (by first|rfl|simp only[World.size_alloc])) (by repeat(first|with_reducible exact zBn (by first|rfl|simp only[World.size_alloc])|with_reducible refine zC ?_|with_reducible refine zEe ?_|with_reducible refine zEf (by assumption) ?_)) (by repeat(first|with_reducible exact zBn (by first|rfl|simp only[World.size_alloc])|with_reducible refine zC ?_|with_reducible refine zEe ?_|with_reducible refine zEf (by assumption) ?_)) ?_ ?_ ?_ ?_ ?_ ?_ ?_ ?_ ?_
  ·(try simp only[World.size_alloc]);omega
  ·repeat(first|with_reducible exact Hid.out (by assumption)|with_reducible refine zD0 ?_|with_reducible refine zD1 ?_|with_reducible refine zD2 (by assumption) ?_)
  ·repeat(first|with_reducible exact Hid.out (by assumption)|with_reducible refine zD0 ?_|with_reducible refine zD1 ?_|with_reducible refine zD2 (by assumption) ?_)
  ·repeat(first|with_reducible exact zBn (by first|rfl|simp only[World.size_alloc])|with_reducible refine zC ?_|with_reducible refine zEe ?_|with_reducible refine zEf (by assumption) ?_)
  ·repeat(first|with_reducible exact Hid.out (by assumption)|with_reducible refine zD0 ?_|with_reducible refine zD1 ?_|with_reducible refine zD2 (by assumption) ?_)
  ·repeat(first|with_reducible exact Hid.out (by assumption)|with_reducible refine zD0 ?_|with_reducible refine zD1 ?_|with_reducible refine zD2 (by assumption) ?_)
  ·(try simp only[World.size_alloc]);omega
  ·(try simp only[World.size_alloc]);omega
  ·repeat(first|with_reducible exact G2.out|with_reducible refine Grow.alloc ?_ _|with_reducible refine Grow.drew ?_|with_reducible refine zHv (by assumption) ?_)
theorem zQ7(w:World)(a b c:Int)(dv:Value)(hE:Errs w ad st)(hc:okCfg a b c=false):
 Cl 69 #[.agg #[iV a,iV b,iV c],dv] w fun en w'=>en=rV #[.pointer none,.iface 325 (.pointer (some (ad 0)))]∧Grow w w':=by
 have HC:Hid ((Eng.inn a 1 64 && Eng.inn b 1 1000000 && Eng.inn c 1 1000)=false):=by
  show _=_;rw[←hc];unfold okCfg Eng.inn;simp[Bool.and_assoc]
 have HE:=hid hE;have HN:Hid (∀W:World,Cl 106 #[.agg #[iV a,iV b,iV c]] W fun en w'=>en=rB false∧Grow W w'):=fun W=>(zGy a b c).mono (by rintro en w' ⟨rfl,h⟩;rw[HC.out];exact⟨rfl,h⟩)
 go_enter Tryz.func69,Tryz.ntmps69;go_wp2_with fail;have G1:Hid (Grow w (w.alloc (.cells #[iV a,iV b,iV c] 59))):=(Grow.refl w).alloc _;generalize w.alloc (.cells #[iV a,iV b,iV c] 59)=W at *;refine(HN W).mono ?_;rintro en w2 ⟨rfl,hs⟩;have G2:Hid (Grow w w2):=G1.trans hs;have e0:=(HE.below G2).c0;go_wp2_with fail;go_quiet (fail);go_wp2;go_ret2;exact⟨rfl,G2.same ((Same.refl w2).drewN nq)⟩
theorem zQ8{n size:Nat}{t:TypeId}{v:Value}{xs:List Value}(h:w.ownsRow base t size v n xs)(hg:Grow w w'):w'.ownsRow base t size v n xs:=by
 refine⟨h.1,?_⟩;rcases h.2 with h2|⟨g',cap,cur,hv,hgb,hh,r⟩
 ·exact .inl h2
 ·exact .inr ⟨g',cap,cur,hv,hgb,hg.heap hh,r⟩
def noSets:Sets:=⟨[],[],[],[],[]⟩
def newGh(d o ed bb bm sb sm dB:Nat)(dls:Value):Gh:=⟨fun _=>0,d,o,ed,bb,bm,sb,sm,dB,.slice none 0 0,dls⟩
theorem NewParts.rep{F:Nat→Prop}{nb o dB:Nat}{a b c:Int}{ds:List Int}{dls:Value}(h:NewParts w w' d o ed bb bm sb sm)
 (hn:w'.heap[nb]? =some (.cells #[iV a,iV b,iV c,.iface 65 (iP dB),iV 0,.string ⟨#[]⟩,iV 0,.slice none 0 0,.map (some d),.map (some o),.map (some ed),.iface 214 (iP bb),.iface 220 (iP sb),iV 0,iV 0,iV 0] 117 (0,0)))
 (hd:w.heap[dB]? =some (.cells #[dls,iV 0] 94 (0,0))) (hl:w.ownsRow base 3 1 dls ds.length (ds.map (iV))) (hb:base≤w.heap.size) (hlo:w.heap.size≤nb) (hF: ∀k,w.heap.size≤k→F k) (hFd:F dB) (hFl: ∀q,dls.ownBlock=some q→F q):
 CRep F base w' nb (newEng a b c ds) (newGh d o ed bb bm sb sm dB dls) noSets∧Holds (newEng a b c ds) noSets [] []∧Eng.Pegs (newEng a b c ds):=by
 obtain⟨l1,l2,l3,l4,l5,l6,l7⟩:=h.lo;have hs:w.heap.size≤w'.heap.size:=Below.size h.grow;have none: ∀(i:Nat) (x:Ord),(newEng a b c ds).all[i]? =some x→False:=fun i x hx=>by
  have hx:([]:List Ord)[i]? =some x:=hx;simp at hx
 refine⟨⟨hn,hF _ hlo,fun k hk=>hF k (by omega),by omega,⟨World.ownsRow_nil _ _ _ _,fun q hq=>by simp[newGh,Value.ownBlock]at hq⟩,⟨h.day,h.oth,h.ended,h.buyB,h.selB,h.buy,h.sel,h.maps,fun i x hx=>(none i x hx).elim,fun i j hi=>(Nat.not_lt_zero i hi).elim,h.grow.heap hd,zQ8 hl h.grow,⟨hF _ l1,hF _ l2,hF _ l3,hF _ l4,hF _ l5,hFd⟩,fun i hi=>(Nat.not_lt_zero i hi).elim⟩,fun i hi=>(Nat.not_lt_zero i hi).elim,hF _ l6,hF _ l7,hFl⟩,?_,fun i x hx=>(none i x hx).elim⟩;exact⟨fun j=>⟨fun hj=>by simp[noSets]at hj,fun⟨x,hx,_⟩=>(none j x hx).elim⟩,fun j=>⟨fun hj=>by simp[noSets]at hj,fun⟨x,hx,_⟩=>(none j x hx).elim⟩,fun j=>⟨fun hj=>by simp[noSets]at hj,fun⟨x,hx,_⟩=>(none j x hx).elim⟩,fun j hj=>by simp[noSets]at hj,fun j x hx=>(none j x hx).elim,fun j hj=>by simp[noSets]at hj,fun j x hx=>(none j x hx).elim⟩
theorem NewParts.back{o:Nat}(h:NewParts W w' d o ed bb bm sb sm)(hg:Grow w W):NewParts w w' d o ed bb bm sb sm:=by
 have k:=Below.size hg;obtain⟨l1,l2,l3,l4,l5,l6,l7⟩:=h.lo;exact⟨h.day,h.oth,h.ended,h.buy,h.sel,h.buyB,h.selB,h.maps,⟨by omega,by omega,by omega,by omega,by omega,by omega,by omega⟩,hg.trans h.grow⟩
def engNew(a b c:Int)(dv:Value)(d o ed bb sb:Nat):Obj:=.cells #[iV a,iV b,iV c,.iface 65 dv,iV 0,.string ⟨#[]⟩,iV 0,.slice none 0 0,.map (some d),.map (some o),.map (some ed),.iface 214 (iP bb),.iface 220 (iP sb),iV 0,iV 0,iV 0] 117 (0,0)
theorem zQ9(w:World)(a b c:Int)(dv:Value)(hc:okCfg a b c=true):
 Cl 37 #[.agg #[iV a,iV b,iV c],.iface 65 dv] w fun en w'=> ∃nb d o ed bb bm sb sm,en=rV #[iP nb,.nilIface]∧Hid (w.heap.size≤nb∧w'.heap[nb]? =some (engNew a b c dv d o ed bb sb)∧NewParts w w' d o ed bb bm sb sm):=by
 have HN:Hid (∀W:World,Grow w W→Cl 69 #[.agg #[iV a,iV b,iV c],.iface 65 dv] W fun en w'=> ∃nb d o ed bb bm sb sm,en=rV #[iP nb,.nilIface]∧Hid (w.heap.size≤nb∧w'.heap[nb]? =some (engNew a b c dv d o ed bb sb)∧NewParts w w' d o ed bb bm sb sm)):=fun W hW=>(zQ6 W a b c dv hc).mono (by
  rintro en w' ⟨nb,d,o,ed,bb,bm,sb,sm,rfl,hz⟩;exact⟨nb,d,o,ed,bb,bm,sb,sm,rfl,Nat.le_trans (Below.size hW) hz.out.1,hz.out.2.1,hz.out.2.2.back hW⟩)
 go_enter Tryz.func37,Tryz.ntmps37;go_wp2_with fail;refine(HN _ ((Grow.refl w).alloc _)).mono ?_;rintro en w2 ⟨nb,d,o,ed,bb,bm,sb,sm,rfl,HZ⟩;go_wp2;go_ret2;exact⟨_,_,_,_,_,_,_,_,rfl,HZ⟩
theorem zQa(w:World)(a b c:Int)(dv:Value)(hE:Errs w ad st)(hc:okCfg a b c=false):
 Cl 37 #[.agg #[iV a,iV b,iV c],dv] w fun en w'=>en=rV #[.pointer none,.iface 325 (.pointer (some (ad 0)))]∧Hid (Grow w w'):=by
 have HN:Hid (∀W:World,Grow w W→Cl 69 #[.agg #[iV a,iV b,iV c],dv] W fun en w'=>en=rV #[.pointer none,.iface 325 (.pointer (some (ad 0)))]∧Hid (Grow w w')):=fun W hW=>(zQ7 W a b c dv (hE.below hW) hc).mono (by
  rintro en w' ⟨rfl,hz⟩;exact⟨rfl,hW.trans hz⟩)
 go_enter Tryz.func37,Tryz.ntmps37;go_wp2_with fail;refine(HN _ ((Grow.refl w).alloc _)).mono ?_;rintro en w2 ⟨rfl,HZ⟩;go_wp2;go_ret2;exact⟨rfl,HZ⟩
end
end Go.Proofs.YtanfmhonjpjpoaaGreatDoor
