import Derived.Test.YtilbfpnpkkkpgaaGreatDoorQ00
import Derived.Test.YtilbfpnpkkkpgaaGreatDoorQ07
import Derived.Test.YtilbfpnpkkkpgaaGreatDoorQ18
import Derived.Test.YtilbfpnpkkkpgaaGreatDoorQ21
import Derived.Test.YtilbfpnpkkkpgaaGreatDoorQ25
import Derived.Test.YtilbfpnpkkkpgaaGreatDoorQ26
import Derived.Laws.MakeOwn
import Derived.Deep.AppendLies
import Derived.Deep.RegionHeld3
import Derived.BigQuiet
set_option linter.all false
set_option maxRecDepth 100000
set_option maxHeartbeats 8000000
namespace Go.Proofs.YtilbfpnpkkkpgaaGreatDoor
variable{w W w' a c:World}{base b k nb r d ed bb bm sb sm:Nat}{F:Nat→Prop}{e:Eng}{g:Gh}{S:Sets}{o:Obj}{P:Program}{ad:Nat→Addr}{st:Nat→ByteArray}
section
open Go.Extern Go.Maps Go.RowKit
theorem Tryz.infoStC:(Tryz.prog.info? 178).map (fun i=>(i.size,i.bytes))=some (7,56):=by kernel_rfl
theorem Tryz.zeroStC2:(Tryz.prog.info? 178).map (fun i=>i.zero)=some (some (.agg #[.int .i64 0,.int .i64 0,.int .i64 0,.int .i64 0,.int .i64 0,.int .i64 0,.int .i64 0])):=by kernel_rfl
def ordAt(al:List Ord)(j:Nat):Ord:=match al[j]? with|some o=>o|none=>ord0
theorem zE2{al:List Ord}{j:Nat}{o:Ord}(h:al[j]? =some o):ordAt al j=o:=by unfold ordAt;rw[h]
theorem zNh(al:List Ord):(List.range al.length).map (ordAt al)=al:=by
 apply List.ext_getElem?;intro i;by_cases h:i<al.length
 ·rw[List.getElem?_map,List.getElem?_range h,Option.map_some,List.getElem?_eq_getElem h];rw[zE2 (List.getElem?_eq_getElem h)]
 ·rw[List.getElem?_eq_none (by simp;omega),List.getElem?_eq_none (by omega)]
section
variable {w:World}
def entX(X:Nat→Ord)(j:Nat):Int×List Int:=((X j).id,(X j).state)
theorem zNi{X:Nat→Ord}{l js:List Nat}(hids:(l.map fun j=>(X j).id).Nodup)(hsub: ∀j∈js,j∈l)(hp:(js.map (entX X)).Perm (l.map (entX X))):js.Perm l:=by
 have hnd:l.Nodup:=List.Pairwise.of_map _ (fun a c hac e1=>hac (e1▸rfl)) hids;have hinj: ∀i∈l,∀j∈l,(X i).id=(X j).id→i=j:=fun i hi j hj e=>by
  obtain⟨a,ha⟩:=List.getElem?_of_mem hi;obtain⟨b,hb⟩:=List.getElem?_of_mem hj;have h1:(l.map fun j=>(X j).id)[a]? =some (X i).id:=by rw[List.getElem?_map,ha];rfl
  have h2:(l.map fun j=>(X j).id)[b]? =some (X i).id:=by rw[List.getElem?_map,hb,e];rfl
  have hla:=(List.getElem?_eq_some_iff.1 h1).1;have hlb:=(List.getElem?_eq_some_iff.1 h2).1;rw[List.getElem?_eq_getElem hla]at h1;rw[List.getElem?_eq_getElem hlb]at h2;have h4:=Option.some.inj (h1.trans h2.symm);have h3:a=b:=by
   rcases Nat.lt_trichotomy a b with h|h|h
   ·exact absurd h4 (List.pairwise_iff_getElem.1 hids a b hla hlb h)
   ·exact h
   ·exact absurd h4.symm (List.pairwise_iff_getElem.1 hids b a hlb hla h)
  subst h3;exact Option.some.inj (ha.symm.trans hb)
 have hn1:((l.map (entX X)).map Prod.fst).Nodup:=by rw[List.map_map];exact hids
 have hn2:(l.map (entX X)).Nodup:=List.Pairwise.of_map Prod.fst (fun a c hac e1=>hac (e1▸rfl)) hn1;have hjn:js.Nodup:=List.Pairwise.of_map _ (fun a c hac e1=>hac (e1▸rfl)) (hp.symm.nodup hn2);refine(List.perm_ext_iff_of_nodup hjn hnd).2 fun j=>⟨hsub j,fun hj=>?_⟩
 obtain⟨k,hk,he⟩:=List.mem_map.1 (hp.mem_iff.2 (List.mem_map_of_mem (f:=entX X) hj));have:(X k).id=(X j).id:=by
  unfold entX at he;injection he
 rw[←hinj k (hsub k hk) j hj this];exact hk
def KeptB(L B:Nat)(w w':World):Prop:=B≤w'.heap.size∧∀q,q<B→q≠L→w'.heap[q]? =w.heap[q]?
structure Lives(w W w':World)(A:List Ord)(E:List Nat)(X:Nat→Ord)(LN:Nat)(p:Option Addr)(cap:Nat)(LO:List Ord)(bs:List Nat):Prop where
 len:LN=LO.length
 bl:bs.length=LN
 row:w'.ownsRow W.heap.size 151 1 (.slice p LN cap) LN (bs.map ptrV)
 low:Below W.heap.size W w'
 all:(LO++E.map X).Perm A
 st: ∀(j:Nat) (b:Nat) (o:Ord),bs[j]? =some b→LO[j]? =some o→∀U,Below w.heap.size w U→Calls Tryz.prog 154 #[.pointer (some ⟨b,0,none⟩),.int .i64 1] U fun en w'=>en=.returned (.agg #[.int .i64 o.id,.int .i64 o.status,.int .i64 o.price,.int .i64 o.opn,.int .i64 o.filled,.int .i64 o.cancelled,.int .i64 o.shown])∧Below U.heap.size U w'
theorem zNj(b LN:Nat)(A:List Ord)(E:List Nat)(X:Nat→Ord)(endM:Nat)(c10:w.cell? ⟨b,10,none⟩=some (.map (some endM)))(hbl:b<w.heap.size)(hpm:PM aggElem Tryz.prog 3 w endM (E.map fun i=>((X i).id,(X i).state)))(hl:LN≤100000000)(hl2:E.length≤100000000)
 (hcn: ∀W,Same w W→Calls Tryz.prog 92 #[.pointer (some ⟨b,8,none⟩)] W fun en w'=>en=.returned (.int .i64 (LN:Int))∧Same W w')
 (hal: ∀W,Below w.heap.size w W→Calls Tryz.prog 63 #[.pointer (some ⟨b,8,none⟩)] W fun en w'=> ∃(p:Option Addr) (cap:Nat) (LO:List Ord) (bs:List Nat),en=.returned (.slice p LN cap)∧Hid (Lives w W w' A E X LN p cap LO bs)):
 Calls Tryz.prog 121 #[.pointer (some ⟨b,0,none⟩)] w fun en w'=> ∃(g0:Nat) (M:List Ord),en=.returned (.slice (some ⟨g0,0,none⟩) M.length M.length)∧M.Perm A∧M.Pairwise (fun x y=>x.id≤y.id)∧w'.ownsRow w.heap.size 178 7 (.slice (some ⟨g0,0,none⟩) M.length M.length) M.length (M.flatMap encS)∧Below w.heap.size w w':=by
 obtain⟨i0,hi,hz0,hz1,hz2⟩:=zBc Tryz.infoStC Tryz.zeroStC2;have HINF:Hid (Tryz.prog.info? 178=some i0∧i0.zero=some (.agg #[.int .i64 0,.int .i64 0,.int .i64 0,.int .i64 0,.int .i64 0,.int .i64 0,.int .i64 0])∧i0.size=7∧i0.bytes=56):=⟨hi,hz0,hz1,hz2⟩;have HLEN:Hid (∀W:World,W.heap[endM]? =w.heap[endM]? →∀ty,(Builtin.len_ #[70] ty #[.map (some endM)]).run Tryz.prog W=.ok (.int .i64 (E.length:Int)) W):=fun W hW ty=>by
  have:=(hpm.of_block (w':=W) hW).len Tryz.underlying70 ty;rw[List.length_map]at this;exact this
 have HIDS:Hid ((E.map fun j=>(X j).id).Nodup):=by
  have:=hpm.nodup keyedInt;rw[List.map_map]at this;exact this
 have hml:=hpm.lt;have hwa:wrap64 ((LN:Int)+(E.length:Int))=(LN:Int)+(E.length:Int):=by unfold wrap64;omega
 have hwb:IntKind.i64.wrap ((LN:Int)+(E.length:Int))=(LN:Int)+(E.length:Int):=zAb _ (by omega) (by omega);have HCN:Hid (∀W,Same w W→Calls Tryz.prog 92 #[.pointer (some ⟨b,8,none⟩)] W fun en w1=>en=.returned (.int .i64 (LN:Int))∧w1.cell? ⟨b,10,none⟩=some (.map (some endM))∧(∀ty,(Builtin.len_ #[70] ty #[.map (some endM)]).run Tryz.prog w1=.ok (.int .i64 (E.length:Int)) w1)∧∃wm,(Instr.makeSlice 108 (.int .i64 0) (.int .i64 ((LN:Int)+(E.length:Int)))).run Tryz.prog w1=.ok (.slice (some ⟨w.heap.size,0,none⟩) 0 (LN+E.length)) wm∧wm.cell? ⟨b,10,none⟩=some (.map (some endM))∧(∀ty,(Builtin.len_ #[70] ty #[.map (some endM)]).run Tryz.prog wm=.ok (.int .i64 (E.length:Int)) wm)∧Hid (wm.ownsRow w.heap.size 178 7 (.slice (some ⟨w.heap.size,0,none⟩) 0 (LN+E.length)) 0 []∧Below w.heap.size w wm∧w.heap.size<wm.heap.size)):=by
  intro W hW;refine(hcn W hW).mono ?_;rintro en w1 ⟨rfl,hs⟩;have hS:=hW.trans hs;obtain⟨wm,hmk,hown0,hgr0⟩:=run_make_own (P:=Tryz.prog) w1 w.heap.size 108 178 i0 _ 7 Tryz.underlying108 hi hz0 hz1 .i64 .i64 (LN+E.length) (by rw[hz2];omega) (by unfold maxLen;omega) (by rw[hS.heap];exact Nat.le_refl _);rw[Int.natCast_add]at hmk;have hsz:w1.heap.size=w.heap.size:=by rw[hS.heap]
  rw[hsz]at hmk hown0;have hB1:Below w.heap.size w w1:=⟨hS.os,hS.tape,hS.output,by omega,fun k _=>by rw[hS.heap]⟩;have hB:Below w.heap.size w wm:=hB1.grown hgr0 (by omega) (by simp);refine⟨rfl,?_,HLEN.out w1 (by rw[hS.heap]),wm,hmk,?_,HLEN.out wm (hB.block _ hml),hown0,hB,(hown0.lt _ rfl).2⟩
  ·unfold World.cell? at c10⊢;rw[hS.heap];exact c10
  ·unfold World.cell? at c10⊢;rw[hB.block b hbl];exact c10
 have HAL:=hid hal;have l10:=HLEN.out w.drew rfl;have HC10:=hid (And.intro c10 hbl);have hes:=hl2;clear hi hz0 hz1 hz2 hcn hal HLEN;go_enter Tryz.func121,Tryz.ntmps121;go_wp2_with fail;go_region_held3(fun X=>X.cell? ⟨b,10,none⟩=some (.map (some endM))∧∀ty,(Builtin.len_ #[70] ty #[.map (some endM)]).run Tryz.prog X=.ok (.int .i64 (E.length:Int)) X) (first|exact⟨c10,l10⟩|exact⟨c10',l10'⟩|exact⟨cm,lm⟩) (first|(go_at_call 92;refine(HCN.out _ (Same.refl _).drew).mono ?_;rintro en w1 ⟨rfl,c10',l10',wm,hmk,cm,lm,HOW⟩));clear HCN l10 l10' lm c10 c10' hmk cm hwa hwb;have hsm:=HOW.out.2.2;go_wp2_with fail;refine(HAL.out wm HOW.out.2.1).mono ?_;rintro en w3 ⟨p,cap,LO,bs,rfl,HLV⟩;have HLN:Hid (LN=LO.length):=HLV.out.len;have HB3:Hid (Below w.heap.size w w3):=HOW.out.2.1.trans (HLV.out.low.mono (Nat.le_of_lt hsm));have hs3:wm.heap.size≤w3.heap.size:=HLV.out.low.size
 have HO3:Hid (w3.ownsRow w.heap.size 178 7 (.slice (some ⟨w.heap.size,0,none⟩) 0 (LN+E.length)) 0 []):=zC5 HOW.out.1 (fun q hq=>HLV.out.low.block q hq);clear HAL HOW;go_wp2_with fail;go_loopw [3,24] (fun lv iv wr=> ∃k:Nat,iv=.int .i64 k∧k≤LN∧lv=.slice (some ⟨w.heap.size,0,none⟩) k (LN+E.length)∧wr.ownsRow w.heap.size 178 7 (.slice (some ⟨w.heap.size,0,none⟩) k (LN+E.length)) k ((LO.take k).flatMap encS)∧Below w.heap.size w wr∧KeptB w.heap.size w3.heap.size w3 wr) (fun _ iv _=>LN - (intOf iv).toNat)
 case atStart=>exact⟨0,rfl,Nat.zero_le _,rfl,HO3.out,HB3.out,Nat.le_refl _,fun _ _ _=>rfl⟩
 case round=>
  obtain⟨k,rfl,hk,rfl,hown,hbw,hkp⟩:=hrel;have HO1:=hid hown;have HBW:=hid hbw;have HKP:=hid hkp;clear hown hbw hkp;by_cases hlt:k<LN
  ·have hkI:(k:Int)<(LN:Int):=by omega
   have hw1:wrap64 ((k:Int)+1)=(k:Int)+1:=by unfold wrap64;omega
   have hlt2:k<LO.length:=by rw[←HLN.out];exact hlt
   have hlt3:k<bs.length:=by rw[HLV.out.bl];exact hlt
   have hj:LO[k]? =some LO[k]:=List.getElem?_eq_getElem hlt2;have hjb:bs[k]? =some bs[k]:=List.getElem?_eq_getElem hlt3;obtain⟨vb,rfl⟩: ∃vb,p=some ⟨vb,0,none⟩:=by
    rcases HLV.out.row.2 with⟨h5,h6⟩|⟨d,cap',cur,h5,_⟩
    ·omega
    ·injection h5 with h5 _ _;exact⟨d,h5⟩
   have ck:wr.cell? ⟨vb,k,none⟩=some (.pointer (some ⟨bs[k],0,none⟩)):=by
    have h1:=HLV.out.row.cellAt k (by omega);have h2:=HLV.out.row.lt vb rfl;rw[List.getElem?_map,hjb]at h1;unfold World.cell? at h1⊢;rw[HKP.out.2 vb h2.2 (by omega)];exact h1
   have HS1:=hid (HLV.out.st k bs[k] LO[k] hjb hj wr HBW.out);have HTK:Hid (LO.take (k+1)=LO.take k++ [LO[k]]):=by show _=_;rw[List.take_add_one,hj];rfl
   clear hj hjb;generalize LO[k]=o at *;generalize bs[k]=j0 at *;clear hlt2 hlt3;go_wp2_with fail;refine HS1.out.mono ?_;rintro en w1 ⟨rfl,hb1⟩;have HO2:=hid (zC5 HO1.out (fun q hq=>hb1.block q hq));have HB1:=hid (zB HBW.out hb1);have HK1:Hid (KeptB w.heap.size w3.heap.size w3 w1):=⟨Nat.le_trans HKP.out.1 hb1.size,fun q h1 h2=>(hb1.block q (Nat.lt_of_lt_of_le h1 HKP.out.1)).trans (HKP.out.2 q h1 h2)⟩;have hsz1:=HB1.out.size;clear hb1 HS1 HO1 ck;go_wp2_with(first
    |(at_builtin;refine zEq _ rfl _ _ 108 rfl w.heap.size 178 i0 _ 7 56 Tryz.underlying108 HINF.out.1 HINF.out.2.1 HINF.out.2.2.1 HINF.out.2.2.2 rfl (by decide) w.heap.size k (LN+E.length) _ rfl (HO2.out.alloc _) ⟨w1.heap.size,0,none⟩ 1 1 [.int .i64 o.id,.int .i64 o.status,.int .i64 o.price,.int .i64 o.opn,.int .i64 o.filled,.int .i64 o.cancelled,.int .i64 o.shown] rfl rfl ?c1 ?c2 ?c0 ?c3 ?c4 ?c5 ?_)
    |go_in)
   case c0=>omega
   case c1=>
    intro j u hj;rw[Addr.add_lit,Nat.zero_add];rw[World.cell?_alloc_at _ _ _ _ rfl];simpa using hj
   case c2=>intro u hu;simp at hu;rcases hu with rfl|rfl|rfl|rfl|rfl|rfl|rfl<;>rfl
   case c3=>unfold maxLen;omega
   case c4=>omega
   case c5=>simp;omega
   intro w2 hown2 hgrow;have HO3:Hid (w2.ownsRow w.heap.size 178 7 (.slice (some ⟨w.heap.size,0,none⟩) (k+1) (LN+E.length)) (k+1) ((LO.take (k+1)).flatMap encS)):=by
    show World.ownsRow _ _ _ _ _ _ _;rw[HTK.out,List.flatMap_append,List.flatMap_singleton];exact hown2
   have HB2:Hid (Below w.heap.size w w2):=(HB1.out.alloc hsz1 _).grown hgrow (by simp;omega) (fun q hq=>by injection hq with hq;omega);have HK2:Hid (KeptB w.heap.size w3.heap.size w3 w2):=by
    have hs1:=HK1.out.1;have hs2:=hgrow.size;simp at hs2;refine⟨by omega,fun q h1 h2=>?_⟩;rw[hgrow.block q (by simp;omega) (fun e1=>h2 (by injection e1)),Below.heap_alloc _ _ q (by omega)];exact HK1.out.2 q h1 h2
   clear hown2 hgrow HO2 HB1 HK1;go_wp2;go_roundw
   case rel=>exact⟨k+1,by go_num,hlt,rfl,HO3.out,HB2.out,HK2.out⟩
   case measure=>simp[intOf];omega
  ·have hke:k=LN:=by omega
   subst hke;rw[HLN.out,List.take_length,←HLN.out]at HO1;have hpm1:=hpm.of_block (w':=wr) (HBW.out.block _ hpm.lt);have c10:wr.cell? ⟨b,10,none⟩=some (.map (some endM)):=by have:=HC10.out.1;unfold World.cell? at this⊢;rw[HBW.out.block b HC10.out.2];exact this
   go_wp2_with(first
    |(at_range;refine zBp _ rfl _ _ rfl keyedInt Tryz.underlying70 rfl hpm1 ?_;intro w0 hpr0 hg0 hs0)
    |go_in)
   go_frame;have HB0:Hid (Below w.heap.size w w0):=HBW.out.grown hg0 HBW.out.size (by simp);have HO0:=hid (HO1.out.kept hg0 (.inr (by simp[Value.ownBlock])));have HRB:Hid (w.heap.size≤wr.heap.size∧w.heap.size≠wr.heap.size):=⟨HBW.out.size,fun hc=>by have:=(HO1.out.lt w.heap.size rfl).2;omega⟩;have HPM:=hid hpm;clear hpm1 hg0 HO1 HBW hpm;generalize hrb:wr.heap.size=rb at *;go_loopw [3] (fun lv wr2=> ∃(rem:List (Int×List Int)) (js:List Nat),lv=.slice (some ⟨w.heap.size,0,none⟩) (k+js.length) (k+E.length)∧PR aggElem Tryz.prog 3 wr2 endM rb (E.map fun i=>((X i).id,(X i).state)) (js.map (entX X)) rem∧(∀j∈js,j∈E)∧wr2.ownsRow w.heap.size 178 7 (.slice (some ⟨w.heap.size,0,none⟩) (k+js.length) (k+E.length)) (k+js.length) ((LO++js.map X).flatMap encS)∧Below w.heap.size w wr2) (fun _ wr2=>wr2.rangeLeft endM rb)
   case atStart=>exact⟨_,[],rfl,hpr0,(fun j hj=>by cases hj),(by simpa using HO0.out),HB0.out⟩
   case round=>
    obtain⟨rem,js,rfl,hpr,hsub,hown,hbw⟩:=hrel;have HSB:=hid hsub;have HOW:=hid hown;have HBW:=hid hbw;have hjl:js.length≤E.length:=by
     have:=hpr.1.length_eq;simp at this;omega
    clear hsub hown hbw;go_wp2_with(first
     |(at_next;refine zBq _ rfl _ rfl keyedInt Tryz.underlying3 endM rb (js.map (entX X)) rem rfl hpr ?_ ?_)
     |go_in)
    ·intro h0;have HALL:Hid (js.Perm E):=zNi HIDS.out HSB.out (by have:=hpr.1;rw[h0,List.append_nil]at this;exact this);have HJE:Hid (js.length=E.length):=HALL.out.length_eq;clear hpr;have HM:Hid ((LO++js.map X).Perm (LO++E.map X)):=(HALL.out.map X).append_left LO;have HSR:Hid (Calls Tryz.prog 155 #[.slice (some ⟨w.heap.size,0,none⟩) (k+js.length) (k+E.length),.func (.func 156) #[] #[]] wr fun en w'=>en=.returned (.tuple #[])∧Hid (∃M':List Ord,M'.Perm (LO++js.map X)∧M'.Pairwise (fun x y=>x.id≤y.id)∧M'.length=k+js.length∧w'.ownsRow w.heap.size 178 7 (.slice (some ⟨w.heap.size,0,none⟩) (k+js.length) (k+E.length)) (k+js.length) (M'.flatMap encS)∧Below w.heap.size wr w')):=by
      have hml2:(LO++js.map X).length=k+js.length:=by rw[List.length_append,List.length_map,←HLN.out]
      refine(zM2 (B:=w.heap.size) (LO++js.map X) _ (by rw[hml2];exact HOW.out) HBW.out.size (by rw[hml2];omega)).mono ?_;rintro en w' ⟨rfl,M',h1,h2,h3,h4⟩;rw[hml2]at h3;exact⟨rfl,M',h1,h2,h1.length_eq.trans hml2,h3,h4⟩
     go_wp2_with fail;refine HSR.out.mono ?_;rintro en w2 ⟨rfl,HZ⟩;clear HSR;go_wp2;go_ret;obtain⟨M',h1,h2,hM,h3,h4⟩:=HZ.out;refine⟨w.heap.size,M',?_,(h1.trans HM.out).trans HLV.out.all,h2,?_,h4.os.trans HBW.out.os,h4.tape.trans HBW.out.tape,h4.output.trans HBW.out.output,Nat.le_trans HBW.out.size h4.size,fun q hq=>(h4.block q hq).trans (HBW.out.block q hq)⟩
     ·rw[hM,HJE.out];rfl
     ·rw[hM];rw[←HJE.out]at h3;exact h3
    ·intro kk v rem' w1 j0 hj0 hkk hv hpr1 hg1 hs1 hlt1 hen;subst hkk hv;have hval:aggElem.val (X j0).state=.agg #[.int .i64 (X j0).id,.int .i64 (X j0).status,.int .i64 (X j0).price,.int .i64 (X j0).opn,.int .i64 (X j0).filled,.int .i64 (X j0).cancelled,.int .i64 (X j0).shown]:=rfl;rw[hval]at hen⊢;have hjl2:js.length+1≤E.length:=by
      have:=hpr1.1.length_eq;simp at this;omega
     have HPR:=hid hpr1;have HLT:=hid hlt1;have HJ:=hid hj0;have HB1:Hid (Below w.heap.size w w1):=HBW.out.grown hg1 HBW.out.size (by intro q hq;injection hq with hq;have:=HRB.out.1;omega);have HO1:=hid (HOW.out.kept hg1 (.inr (fun hc=>HRB.out.2 (by simpa [Value.ownBlock] using hc))));have HML2:Hid (w.heap.size≤w1.heap.size∧rb<w1.heap.size):=⟨HB1.out.size,HPR.out.lt⟩;have HXJ:Hid (encS (X j0)= [.int .i64 (X j0).id,.int .i64 (X j0).status,.int .i64 (X j0).price,.int .i64 (X j0).opn,.int .i64 (X j0).filled,.int .i64 (X j0).cancelled,.int .i64 (X j0).shown]):=rfl;clear hpr1 hg1 hs1 hlt1 hj0 hval hpr HOW HBW;generalize hXo:X j0=o at *;have HXO:=hid hXo;clear hXo;go_wp2_with(first
      |(at_builtin;refine zEq _ rfl _ _ 108 rfl w.heap.size 178 i0 _ 7 56 Tryz.underlying108 HINF.out.1 HINF.out.2.1 HINF.out.2.2.1 HINF.out.2.2.2 rfl (by decide) w.heap.size (k+js.length) (k+E.length) _ rfl ((HO1.out.alloc _).alloc _) ⟨w1.heap.size+1,0,none⟩ 1 1 [.int .i64 o.id,.int .i64 o.status,.int .i64 o.price,.int .i64 o.opn,.int .i64 o.filled,.int .i64 o.cancelled,.int .i64 o.shown] rfl rfl ?c1 ?c2 ?c0 ?c3 ?c4 ?c5 ?_)
      |go_in)
     case c0=>omega
     case c1=>
      intro j u hj;rw[Addr.add_lit,Nat.zero_add];have h9:w1.heap.size+1=(w1.alloc (.cells #[.int .i64 o.id,.int .i64 o.status,.int .i64 o.price,.int .i64 o.opn,.int .i64 o.filled,.int .i64 o.cancelled,.int .i64 o.shown] 178)).heap.size:=by simp
      rw[h9,World.cell?_alloc_at _ _ _ _ rfl];simpa using hj
     case c2=>intro u hu;simp at hu;rcases hu with rfl|rfl|rfl|rfl|rfl|rfl|rfl<;>rfl
     case c3=>unfold maxLen;omega
     case c4=>omega
     case c5=>have:=HML2.out;simp;omega
     intro w2 hown2 hgrow;have hup: ∀q,q<w1.heap.size→q≠w.heap.size→w2.heap[q]? =w1.heap[q]? :=fun q hq hne=>by
      rw[hgrow.block q (by simp;omega) (fun e1=>hne (by injection e1))];rw[Below.heap_alloc _ _ q (by simp;omega)];exact Below.heap_alloc w1 _ q hq
     have hbm:w2.heap[endM]? =w1.heap[endM]? :=hup endM (Nat.lt_of_lt_of_le hml HML2.out.1) (by omega);have hbr:w2.heap[rb]? =w1.heap[rb]? :=hup rb HML2.out.2 (fun e1=>HRB.out.2 e1.symm);have HPR2:=hid (HPR.out.of_blocks hbm hbr);have HLT2:Hid (w2.rangeLeft endM rb<wr.rangeLeft endM rb):=by
      show _<_;have:w2.rangeLeft endM rb=w1.rangeLeft endM rb:=by unfold World.rangeLeft;rw[hbm,hbr]
      rw[this];exact HLT.out
     have HB2:Hid (Below w.heap.size w w2):=((HB1.out.alloc HML2.out.1 _).alloc (by have:=HML2.out.1;simp;omega) _).grown hgrow (by have:=HML2.out.1;simp;omega) (fun q hq=>by injection hq with hq;omega);have HO2:Hid (w2.ownsRow w.heap.size 178 7 (.slice (some ⟨w.heap.size,0,none⟩) (k+(js++ [j0]).length) (k+E.length)) (k+(js++ [j0]).length) ((LO++(js++ [j0]).map X).flatMap encS)):=by
      have e2:k+(js++ [j0]).length=k+js.length+1:=by rw[List.length_append];rfl
      show World.ownsRow _ _ _ _ _ _ _;rw[e2,List.map_append,←List.append_assoc,List.flatMap_append,List.map_singleton,List.flatMap_singleton,HXO.out,HXJ.out,List.flatMap_append,List.append_assoc];exact hown2
     have HJS:Hid (∀j∈js++ [j0],j∈E):=fun j hj=>by
      rcases List.mem_append.1 hj with h1|h1
      ·exact HSB.out j h1
      ·obtain rfl:j=j0:=by simpa using h1
       exact HJ.out
     have HPR3:Hid (PR aggElem Tryz.prog 3 w2 endM rb (E.map fun i=>((X i).id,(X i).state)) ((js++ [j0]).map (entX X)) rem'):=by
      show PR _ _ _ _ _ _ _ _ _;have e9:[(o.id,o.state)]=(([j0]:List Nat).map (entX X)):=by simp[entX,HXO.out]
      rw[List.map_append,←e9];exact HPR2.out
     have HLE:Hid (k+(js++ [j0]).length=k+js.length+1):=by show _=_;rw[List.length_append];rfl
     clear hown2 hgrow hup hbm hbr HPR2 HO1 HB1 HPR HLT;go_wp2;go_roundw
     case rel=>exact⟨rem',js++ [j0],by rw[HLE.out],HPR3.out,HJS.out,HO2.out,HB2.out⟩
     case measure=>exact HLT2.out
end
section
variable {F:Nat→Prop} {base:Nat} {w:World} {b:Nat} {e:Eng} {g:Gh} {S:Sets}
theorem zNk(h:CRep F base w b e g S)(inv:Eng.EInv e)(hH:Holds e S [] [])(hl:e.all.length≤100000000):
 Calls Tryz.prog 76 #[.pointer (some ⟨b,0,none⟩)] w fun en w'=> ∃(g0:Nat) (M:List Ord),en=.returned (.slice (some ⟨g0,0,none⟩) M.length M.length)∧M.Perm e.all∧M.Pairwise (fun x y=>x.id≤y.id)∧w'.ownsRow w.heap.size 178 7 (.slice (some ⟨g0,0,none⟩) M.length M.length) M.length (M.flatMap encS)∧Below w.heap.size w w':=by
 have hsm:=h.small hH;have hen:S.ended.map (fun i=>(idAt e.all i,stAt e.all i))=S.ended.map (fun i=>((ordAt e.all i).id,(ordAt e.all i).state)):=List.map_congr_left fun j hj=>by
  obtain⟨o,ho,_⟩:=(hH.ended j).1 hj;rw[zE2 ho,zAf ho];unfold stAt;rw[ho]
 have hpm:=h.body.ended;rw[hen]at hpm;have hne:=h.nodups.2.2;have hdo:S.day.length+S.oth.length≤e.all.length:=by
  have hnd:(S.day++S.oth).Nodup:=List.nodup_append.2 ⟨h.nodups.1,h.nodups.2.1,fun a ha c hc e1=>by
   subst e1;obtain⟨x,q1,_,q2,_⟩:=(hH.day a).1 ha;obtain⟨y,q3,_,q4,_⟩:=(hH.oth a).1 hc;obtain rfl:x=y:=Option.some.inj (q1.symm.trans q3);exact q4 q2⟩
  have:=zC9 (b:=List.range e.all.length) hnd (fun j hj=>by
   rw[List.mem_range];rcases List.mem_append.1 hj with h1|h1
   ·obtain⟨x,q1,_⟩:=(hH.day j).1 h1;exact(List.getElem?_eq_some_iff.1 q1).1
   ·obtain⟨x,q1,_⟩:=(hH.oth j).1 h1;exact(List.getElem?_eq_some_iff.1 q1).1)
  simpa using this
 have key:=zNj (w:=w) b (S.day.length+S.oth.length) e.all S.ended (ordAt e.all) g.endM (h.cell 10) h.lt hpm (by omega) (by have:=hsm.ended;omega) (fun W hW=>(zDq (h.same hW) (by omega)).mono (fun en w' q=>q)) (fun W hW=>by
  have hC:=h.below hW;refine(zG6 hC hH hl).mono ?_;rintro en w1 ⟨v,L,rfl,h1,h2,h3⟩;have hnd:L.Nodup:=h1.up.imp (fun h=>Nat.ne_of_lt h);have hLd:L.Perm (S.day++S.oth):=by
   refine(List.perm_ext_iff_of_nodup hnd (List.nodup_append.2 ⟨h.nodups.1,h.nodups.2.1,fun a ha c hc e1=>by
    subst e1;obtain⟨x,q1,_,q2,_⟩:=(hH.day a).1 ha;obtain⟨y,q3,_,q4,_⟩:=(hH.oth a).1 hc;obtain rfl:x=y:=Option.some.inj (q1.symm.trans q3);exact q4 q2⟩)).2 fun j=>?_
   rw[h2,List.mem_append,hH.day,hH.oth];constructor
   ·rintro⟨o,q1,q2⟩;by_cases hL:o.life=1
    ·exact .inl ⟨o,q1,q2,hL,by simp⟩
    ·exact .inr ⟨o,q1,q2,hL,by simp⟩
   ·rintro(⟨o,q1,q2,_⟩|⟨o,q1,q2,_⟩)<;>exact⟨o,q1,q2⟩
  have hLl:L.length=S.day.length+S.oth.length:=by rw[hLd.length_eq,List.length_append]
  obtain⟨p,cap,rfl⟩: ∃p cap,v=.slice p L.length cap:=by
   rcases h1.row.2 with⟨h5,h6⟩|⟨d,cap,cur,h5,_⟩
   ·exact⟨none,0,by rw[h5,h6]⟩
   ·exact⟨_,_,h5⟩
  have hall:(L.map (ordAt e.all)++S.ended.map (ordAt e.all)).Perm e.all:=by
   have hp:(L++S.ended).Perm (List.range e.all.length):=by
    refine(List.perm_ext_iff_of_nodup ?_ List.nodup_range).2 fun j=>?_
    ·refine List.nodup_append.2 ⟨hnd,hne,fun a ha c hc e1=>?_⟩;subst e1;obtain⟨x,q1,q2⟩:=(h2 a).1 ha;obtain⟨y,q3,q4⟩:=(hH.ended a).1 hc;obtain rfl:x=y:=Option.some.inj (q1.symm.trans q3);exact q4 q2
    ·rw[List.mem_append,h2,hH.ended,List.mem_range];constructor
     ·rintro(⟨x,q1,_⟩|⟨x,q1,_⟩)<;>exact(List.getElem?_eq_some_iff.1 q1).1
     ·intro hj;have h3:e.all[j]? =some e.all[j]:=List.getElem?_eq_getElem hj;by_cases h4:e.all[j].status=1
      ·exact .inl ⟨_,h3,h4⟩
      ·exact .inr ⟨_,h3,h4⟩
   have:=hp.map (ordAt e.all);rw[zNh,List.map_append]at this;exact this
  rw[←hLl];refine⟨p,cap,L.map (ordAt e.all),L.map g.blk,rfl,by simp,by simp,by rw[List.map_map];exact h1.row,h3,hall,fun j bb o hb ho U hU=>?_⟩;rw[List.getElem?_map]at hb ho;obtain⟨k,hk,rfl⟩:=Option.map_eq_some_iff.1 hb;obtain⟨k',hk',rfl⟩:=Option.map_eq_some_iff.1 ho;obtain rfl:k=k':=Option.some.inj (hk.symm.trans hk');obtain⟨o,ho,hs⟩:=(h2 k).1 (List.mem_of_getElem? hk);rw[zE2 ho];have kk:=inv.ok k o ho;have hop:=kk.open_ hs;have hc:=kk.live hs;have hO:=(h.below hU).oa ho hs;refine(zL8 hO (by rw[←hop];exact zA3 kk.opn0 (by have:=kk.sum;have:=kk.fil0;have:=kk.can0;have:=kk.qty1;omega))).mono ?_;rintro en w' ⟨rfl,hb⟩;exact⟨by unfold stV;rw[←hop,hc,hs],hb⟩)
 have HK:=hid key;clear h inv hH hl hsm hen hpm hne hdo key;go_enter Tryz.func76,Tryz.ntmps76;go_wp2_with fail;refine HK.out.mono ?_;rintro en w1 ⟨g0,M,rfl,h1,h2,h3,h4⟩;have HZ:=hid (And.intro h1 (And.intro h2 (And.intro h3 h4)));clear h1 h2 h3 h4 HK;go_wp2;go_ret;exact⟨g0,M,rfl,HZ.out⟩
end
def Grow(w w':World):Prop:=Below w.heap.size w w'
theorem Grow.refl(w:World):Grow w w:=Below.refl _ _
theorem Grow.trans{b:World}(h:Grow a b)(h2:Grow b c):Grow a c:=zB h h2
theorem Grow.alloc{b:World}(h:Grow a b)(o:Obj):Grow a (b.alloc o):=Below.alloc h (Below.size h) o
theorem Grow.same{b:World}(h:Grow a b)(s:Same b c):Grow a c:=⟨s.os.trans h.os,s.tape.trans h.tape,s.output.trans h.output,by rw[s.heap];exact h.size,fun k hk=>by rw[s.heap];exact h.block k hk⟩
theorem Grow.drew{b:World}(h:Grow a b):Grow a b.drew:=h.same (Same.refl b).drew
theorem zGf(W:World):W.drew.heap=W.heap:=(Same.refl W).drew.heap
theorem zGg{b:World}(g:Hid (Grow b c))(h:Grow a b):Grow a c:=h.trans g.out
theorem zCy(h:k=W.heap.size):(W.alloc o).heap[k]? =some o:=by rw[h];exact heap_alloc_new W o
theorem zE3{r:Obj}(h2:W.heap[k]? =some r):(W.alloc o).heap[k]? =some r:=((Grow.refl W).alloc o).block k (Array.getElem?_eq_some_iff.1 h2).1 |>.trans h2
theorem zE4{r:Obj}(h2:W.heap[k]? =some r):W.drew.heap[k]? =some r:=by rw[(Same.refl W).drew.heap];exact h2
theorem PM.grow{V:Type}{E:Elem V}{K:TypeId}{l:List (Int×V)}(h:PM E P K w b l)(hg:Grow w w'):PM E P K w' b l:=h.of_block (Below.block hg b h.lt)
theorem Grow.heap(hg:Grow w w')(h:w.heap[k]? =some o):w'.heap[k]? =some o:=by
 rw[Below.block hg k (Array.getElem?_eq_some_iff.1 h).1];exact h
theorem mkM(W:World):(Instr.makeMap 67 none).run Tryz.prog W=.ok (.map (some W.heap.size)) (W.alloc (.map #[] 0)):=by kernel_rfl
theorem mkE(W:World):(Instr.makeMap 70 none).run Tryz.prog W=.ok (.map (some W.heap.size)) (W.alloc (.map #[] 0)):=by kernel_rfl
theorem zE5{W':World}{r:Obj}(g:Hid (Grow W W'))(h:W.heap[k]? =some r):W'.heap[k]? =some r:=g.out.heap h
theorem zNl{V:Type}(E:Elem V){K:TypeId}{n:Nat}(h:W.heap[n]? =some (.map #[] 0)):PM E P K W n ([]:List (Int×V)):=by
 have hn:=(Array.getElem?_eq_some_iff.1 h).1;have hs:({ W with heap:=W.heap.extract 0 n }:World).heap.size=n:=by
  show(W.heap.extract 0 n).size=n;simp;omega
 have k:=PM.made E P K ({ W with heap:=W.heap.extract 0 n }:World);have k2:=heap_alloc_new ({ W with heap:=W.heap.extract 0 n }:World) (.map #[] 0);rw[hs]at k k2;exact k.of_block (h.trans k2.symm)
section
variable {V:Type} {E:Elem V} {P:Program} {K:TypeId} {W W':World} {b:Nat} {l:List (Int×V)}
theorem zCz(h:PM E P K W b l):PM E P K (W.alloc o) b l:=h.grow ((Grow.refl W).alloc o)
theorem zD(h:PM E P K W b l):PM E P K W.drew b l:=h.grow (Grow.refl W).drew
theorem zD0(g:Hid (Grow W W'))(h:PM E P K W b l):PM E P K W' b l:=h.grow g.out
end
theorem zNm(w:World):Cl 43 #[] w fun en w'=> ∃m,en=.returned (.agg #[.map (some m)])∧w.heap.size≤m∧m<w'.heap.size∧Hid (PM ptrElem Tryz.prog 3 w' m [])∧Hid (Grow w w'):=by
 have HM:=mkM;go_enter Tryz.func43,Tryz.ntmps43;go_wp2;refine bodyPost_ret (v:=.agg #[.map (some (w.heap.size+1))]) (by simp[results,Tryz.results43,go_sem]) rfl ⟨_,rfl,?_⟩;have k:=PM.made ptrElem Tryz.prog 3 (w.alloc (.cells #[.map (some (w.heap.size+1))] 118));rw[World.size_alloc]at k;exact⟨by omega,by simp only[World.size_alloc];omega,k,((Grow.refl w).alloc _).alloc _⟩
theorem zNn(w:World):Cl 42 #[] w fun en w'=> ∃d o,en=.returned (.agg #[.map (some d),.map (some o)])∧w.heap.size≤d∧d<o∧o<w'.heap.size∧Hid (PM ptrElem Tryz.prog 3 w' d [])∧Hid (PM ptrElem Tryz.prog 3 w' o [])∧Hid (Grow w w'):=by
 have HM:=mkM;go_enter Tryz.func42,Tryz.ntmps42;go_wp2;refine bodyPost_ret (v:=.agg #[.map (some (w.heap.size+1)),.map (some (w.heap.size+1+1))]) (by simp[results,Tryz.results42,go_sem]) rfl ⟨_,_,rfl,?_⟩;have k:=PM.made ptrElem Tryz.prog 3 (w.alloc (.cells #[.map (some (w.heap.size+1)),.map (some (w.heap.size+1+1))] 69));have k2:=PM.made ptrElem Tryz.prog 3 ((w.alloc (.cells #[.map (some (w.heap.size+1)),.map (some (w.heap.size+1+1))] 69)).alloc (.map #[] 0));simp only[World.size_alloc]at k k2;exact⟨by omega,by omega,by simp only[World.size_alloc];omega,k.grow ((Grow.refl _).alloc _),k2,(((Grow.refl w).alloc _).alloc _).alloc _⟩
structure NewParts(w W:World)(d o en bb bm sb sm:Nat):Prop where
 day:PM ptrElem Tryz.prog 3 W d []
 oth:PM ptrElem Tryz.prog 3 W o []
 ended:PM aggElem Tryz.prog 3 W en []
 buy:PM ptrElem Tryz.prog 3 W bm []
 sel:PM ptrElem Tryz.prog 3 W sm []
 buyB:W.heap[bb]? =some (.cells #[.map (some bm)] 121 (0,0))
 selB:W.heap[sb]? =some (.cells #[.map (some sm)] 123 (0,0))
 maps:[d,o,en,bm,sm].Nodup
 lo:w.heap.size≤d∧w.heap.size≤o∧w.heap.size≤en∧w.heap.size≤bm∧w.heap.size≤sm∧w.heap.size≤bb∧w.heap.size≤sb
 grow:Grow w W
theorem zNo{en:Ending}{a b c:Int}{dv:Value}{o:Nat}(h1:en=.returned (.tuple #[.pointer (some ⟨nb,0,none⟩),.nilIface]))(h2:w'.heap[nb]? =some (.cells #[.int .i64 a,.int .i64 b,.int .i64 c,.iface 35 dv,.int .i64 0,.string ⟨#[]⟩,.int .i64 0,.slice none 0 0,.map (some d),.map (some o),.map (some ed),.iface 116 (.pointer (some ⟨bb,0,none⟩)),.iface 122 (.pointer (some ⟨sb,0,none⟩)),.int .i64 0,.int .i64 0,.int .i64 0] 74 (0,0)))
 (h3:w'.heap[bb]? =some (.cells #[.map (some bm)] 121 (0,0))) (h4:w'.heap[sb]? =some (.cells #[.map (some sm)] 123 (0,0))) (h5:w.heap.size≤nb)
 (p1:PM ptrElem Tryz.prog 3 w' d []) (p2:PM ptrElem Tryz.prog 3 w' o []) (p3:w'.heap[ed]? =some (.map #[] 0)) (p4:PM ptrElem Tryz.prog 3 w' bm []) (p5:PM ptrElem Tryz.prog 3 w' sm [])
 (hm:(d≠o∧d≠ed∧d≠bm∧d≠sm)∧(o≠ed∧o≠bm∧o≠sm)∧(ed≠bm∧ed≠sm)∧bm≠sm) (hl:w.heap.size≤d∧w.heap.size≤o∧w.heap.size≤ed∧w.heap.size≤bm∧w.heap.size≤sm∧w.heap.size≤bb∧w.heap.size≤sb) (hg:Grow w w'):
 ∃nb d o ed bb bm sb sm,en=.returned (.tuple #[.pointer (some ⟨nb,0,none⟩),.nilIface])∧Hid (w.heap.size≤nb∧w'.heap[nb]? =some (.cells #[.int .i64 a,.int .i64 b,.int .i64 c,.iface 35 dv,.int .i64 0,.string ⟨#[]⟩,.int .i64 0,.slice none 0 0,.map (some d),.map (some o),.map (some ed),.iface 116 (.pointer (some ⟨bb,0,none⟩)),.iface 122 (.pointer (some ⟨sb,0,none⟩)),.int .i64 0,.int .i64 0,.int .i64 0] 74 (0,0))∧NewParts w w' d o ed bb bm sb sm):=
 ⟨nb,d,o,ed,bb,bm,sb,sm,h1,h5,h2,p1,p2,zNl _ p3,p4,p5,h3,h4,by
  obtain⟨⟨a1,a2,a3,a4⟩,⟨a5,a6,a7⟩,⟨a8,a9⟩,a10⟩:=hm;simp[a1,a2,a3,a4,a5,a6,a7,a8,a9,a10],hl,hg⟩
theorem zNp(w:World)(a b c:Int)(dv:Value)(hc:okCfg a b c=true):
 Calls Tryz.prog 24 #[.agg #[.int .i64 a,.int .i64 b,.int .i64 c],.iface 35 dv] w fun en w'=> ∃nb d o ed bb bm sb sm,en=.returned (.tuple #[.pointer (some ⟨nb,0,none⟩),.nilIface])∧Hid (w.heap.size≤nb∧w'.heap[nb]? =some (.cells #[.int .i64 a,.int .i64 b,.int .i64 c,.iface 35 dv,.int .i64 0,.string ⟨#[]⟩,.int .i64 0,.slice none 0 0,.map (some d),.map (some o),.map (some ed),.iface 116 (.pointer (some ⟨bb,0,none⟩)),.iface 122 (.pointer (some ⟨sb,0,none⟩)),.int .i64 0,.int .i64 0,.int .i64 0] 74 (0,0))∧NewParts w w' d o ed bb bm sb sm):=by
 have HC:Hid ((Eng.inn a 1 64 && Eng.inn b 1 1000000 && Eng.inn c 1 1000)=true):=by
  show _=_;rw[←hc];unfold okCfg Eng.inn;simp[Bool.and_assoc]
 clear hc;have HM:=mkE;have HN:Hid (∀W:World,Calls Tryz.prog 41 #[.agg #[.int .i64 a,.int .i64 b,.int .i64 c]] W fun en w'=>en=.returned (.bool true)∧Grow W w'):=fun W=>(zFr a b c).mono (by rintro en w' ⟨rfl,h⟩;rw[HC.out];exact⟨rfl,h⟩)
 go_enter Tryz.func24,Tryz.ntmps24;go_wp2_with fail;have hb1:=heap_alloc_new w (.cells #[.int .i64 a,.int .i64 b,.int .i64 c] 30);have G1:Hid (Grow w (w.alloc (.cells #[.int .i64 a,.int .i64 b,.int .i64 c] 30))):=(Grow.refl w).alloc _;generalize w.alloc (.cells #[.int .i64 a,.int .i64 b,.int .i64 c] 30)=W at *;refine(HN.out W).mono ?_;rintro en w2 ⟨rfl,hs⟩;have hb2:=hs.heap hb1;have r0:w2.cell? ⟨w.heap.size,0,none⟩=some (.int .i64 a):=by simp[World.cell?,hb2]
 have r1:w2.cell? ⟨w.heap.size,1,none⟩=some (.int .i64 b):=by simp[World.cell?,hb2]
 have r2:w2.cell? ⟨w.heap.size,2,none⟩=some (.int .i64 c):=by simp[World.cell?,hb2]
 have G2:Hid (Grow w w2):=G1.out.trans hs;clear hs hb1 hb2 G1;have HK:Hid (∀X,Grow w2 X→X.cell? ⟨w.heap.size,0,none⟩=some (.int .i64 a)∧X.cell? ⟨w.heap.size,1,none⟩=some (.int .i64 b)∧X.cell? ⟨w.heap.size,2,none⟩=some (.int .i64 c)):=fun X hX=>⟨(hX.cell (zA4 r0)).trans r0,(hX.cell (zA4 r1)).trans r1,(hX.cell (zA4 r2)).trans r2⟩
 have HNR:Hid (∀W:World,Calls Tryz.prog 42 #[] W fun en w'=> ∃d o,en=.returned (.agg #[.map (some d),.map (some o)])∧W.heap.size≤d∧d<o∧o<w'.heap.size∧Hid (PM ptrElem Tryz.prog 3 w' d [])∧Hid (PM ptrElem Tryz.prog 3 w' o [])∧Hid (Grow W w')):=zNn;have HNH:Hid (∀W:World,Calls Tryz.prog 43 #[] W fun en w'=> ∃m,en=.returned (.agg #[.map (some m)])∧W.heap.size≤m∧m<w'.heap.size∧Hid (PM ptrElem Tryz.prog 3 w' m [])∧Hid (Grow W w')):=zNm;have GR:Hid (Grow w2 w2):=Grow.refl w2;go_wp2_with fail
 go_region_held3(fun X=>X.cell? ⟨w.heap.size,0,none⟩=some (.int .i64 a)∧X.cell? ⟨w.heap.size,1,none⟩=some (.int .i64 b)∧X.cell? ⟨w.heap.size,2,none⟩=some (.int .i64 c)) ((refine HK.out _ ?_;repeat(first|exact GR.out|refine Grow.alloc ?_ _|refine Grow.drew ?_|refine zGg (by assumption) ?_))) (first|(go_at_call 42;refine(HNR.out _).mono ?_;rintro en w3 ⟨d,o,rfl,l1,l2,l3,P1,P2,GC⟩;(try simp only[World.size_alloc,zGf]at l1))|(go_at_call 43;refine(HNH.out _).mono ?_;rintro en w4 ⟨m,rfl,l4,l5,P3,GC⟩;(try simp only[World.size_alloc,zGf]at l4)));all_goals
  go_wp2;go_ret2;have z2:w.heap.size≤w2.heap.size:=G2.out.size;refine zNo rfl (zCy (by first|rfl|simp only[World.size_alloc])) (by repeat(first|with_reducible exact zCy (by first|rfl|simp only[World.size_alloc])|with_reducible refine zE3 ?_|with_reducible refine zE4 ?_|with_reducible refine zE5 (by assumption) ?_)) (by repeat(first|with_reducible exact zCy (by first|rfl|simp only[World.size_alloc])|with_reducible refine zE3 ?_|with_reducible refine zE4 ?_|with_reducible refine zE5 (by assumption) ?_)) ?_ ?_ ?_ ?_ ?_ ?_ ?_ ?_ ?_
  ·(try simp only[World.size_alloc]);omega
  ·repeat(first|with_reducible exact Hid.out (by assumption)|with_reducible refine zCz ?_|with_reducible refine zD ?_|with_reducible refine zD0 (by assumption) ?_)
  ·repeat(first|with_reducible exact Hid.out (by assumption)|with_reducible refine zCz ?_|with_reducible refine zD ?_|with_reducible refine zD0 (by assumption) ?_)
  ·repeat(first|with_reducible exact zCy (by first|rfl|simp only[World.size_alloc])|with_reducible refine zE3 ?_|with_reducible refine zE4 ?_|with_reducible refine zE5 (by assumption) ?_)
  ·repeat(first|with_reducible exact Hid.out (by assumption)|with_reducible refine zCz ?_|with_reducible refine zD ?_|with_reducible refine zD0 (by assumption) ?_)
  ·repeat(first|with_reducible exact Hid.out (by assumption)|with_reducible refine zCz ?_|with_reducible refine zD ?_|with_reducible refine zD0 (by assumption) ?_)
  ·(try simp only[World.size_alloc]);omega
  ·(try simp only[World.size_alloc]);omega
  ·repeat(first|with_reducible exact G2.out|with_reducible refine Grow.alloc ?_ _|with_reducible refine Grow.drew ?_|with_reducible refine zGg (by assumption) ?_)
theorem zNq(w:World)(a b c:Int)(dv:Value)(hE:Errs w ad st)(hc:okCfg a b c=false):
 Cl 24 #[.agg #[iV a,iV b,iV c],dv] w fun en w'=>en=rV #[.pointer none,.iface 296 (.pointer (some (ad 0)))]∧Grow w w':=by
 have HC:Hid ((Eng.inn a 1 64 && Eng.inn b 1 1000000 && Eng.inn c 1 1000)=false):=by
  show _=_;rw[←hc];unfold okCfg Eng.inn;simp[Bool.and_assoc]
 have HE:=hid hE;have HN:Hid (∀W:World,Cl 41 #[.agg #[iV a,iV b,iV c]] W fun en w'=>en=rB false∧Grow W w'):=fun W=>(zFr a b c).mono (by rintro en w' ⟨rfl,h⟩;rw[HC.out];exact⟨rfl,h⟩)
 go_enter Tryz.func24,Tryz.ntmps24;go_wp2_with fail;have G1:Hid (Grow w (w.alloc (.cells #[iV a,iV b,iV c] 30))):=(Grow.refl w).alloc _;generalize w.alloc (.cells #[iV a,iV b,iV c] 30)=W at *;refine(HN W).mono ?_;rintro en w2 ⟨rfl,hs⟩;have G2:Hid (Grow w w2):=G1.trans hs;have e0:=(HE.below G2).c0;go_wp2_with fail;go_quiet (fail);go_wp2;go_ret2;exact⟨rfl,G2.same ((Same.refl w2).drewN nq)⟩
theorem zNr{n size:Nat}{t:TypeId}{v:Value}{xs:List Value}(h:w.ownsRow base t size v n xs)(hg:Grow w w'):w'.ownsRow base t size v n xs:=by
 refine⟨h.1,?_⟩;rcases h.2 with h2|⟨g',cap,cur,hv,hgb,hh,r⟩
 ·exact .inl h2
 ·exact .inr ⟨g',cap,cur,hv,hgb,hg.heap hh,r⟩
def noSets:Sets:=⟨[],[],[],[],[]⟩
def newGh(d o ed bb bm sb sm dB:Nat)(dls:Value):Gh:=⟨fun _=>0,d,o,ed,bb,bm,sb,sm,dB,.slice none 0 0,dls⟩
theorem NewParts.rep{o dB:Nat}{a b c:Int}{ds:List Int}{dls:Value}(h:NewParts w w' d o ed bb bm sb sm)
 (hn:w'.heap[nb]? =some (.cells #[iV a,iV b,iV c,.iface 35 (iP dB),iV 0,.string ⟨#[]⟩,iV 0,.slice none 0 0,.map (some d),.map (some o),.map (some ed),.iface 116 (iP bb),.iface 122 (iP sb),iV 0,iV 0,iV 0] 74 (0,0)))
 (hd:w.heap[dB]? =some (.cells #[dls,iV 0] 47 (0,0))) (hl:w.ownsRow base 3 1 dls ds.length (ds.map (iV))) (hb:base≤w.heap.size) (hlo:w.heap.size≤nb) (hF: ∀k,w.heap.size≤k→F k) (hFd:F dB) (hFl: ∀q,dls.ownBlock=some q→F q):
 CRep F base w' nb (newEng a b c ds) (newGh d o ed bb bm sb sm dB dls) noSets∧Holds (newEng a b c ds) noSets [] []∧Eng.Pegs (newEng a b c ds):=by
 obtain⟨l1,l2,l3,l4,l5,l6,l7⟩:=h.lo;have hs:w.heap.size≤w'.heap.size:=Below.size h.grow;have none: ∀(i:Nat) (x:Ord),(newEng a b c ds).all[i]? =some x→False:=fun i x hx=>by
  have hx:([]:List Ord)[i]? =some x:=hx;simp at hx
 refine⟨⟨hn,hF _ hlo,fun k hk=>hF k (by omega),by omega,⟨World.ownsRow_nil _ _ _ _,fun q hq=>by simp[newGh,Value.ownBlock]at hq⟩,⟨h.day,h.oth,h.ended,h.buyB,h.selB,h.buy,h.sel,h.maps,fun i x hx=>(none i x hx).elim,fun i j hi=>(Nat.not_lt_zero i hi).elim,h.grow.heap hd,zNr hl h.grow,⟨hF _ l1,hF _ l2,hF _ l3,hF _ l4,hF _ l5,hFd⟩,fun i hi=>(Nat.not_lt_zero i hi).elim⟩,fun i hi=>(Nat.not_lt_zero i hi).elim,hF _ l6,hF _ l7,hFl⟩,?_,fun i x hx=>(none i x hx).elim⟩;exact⟨fun j=>⟨fun hj=>by simp[noSets]at hj,fun⟨x,hx,_⟩=>(none j x hx).elim⟩,fun j=>⟨fun hj=>by simp[noSets]at hj,fun⟨x,hx,_⟩=>(none j x hx).elim⟩,fun j=>⟨fun hj=>by simp[noSets]at hj,fun⟨x,hx,_⟩=>(none j x hx).elim⟩,fun j hj=>by simp[noSets]at hj,fun j x hx=>(none j x hx).elim,fun j hj=>by simp[noSets]at hj,fun j x hx=>(none j x hx).elim⟩
theorem NewParts.back{o:Nat}(h:NewParts W w' d o ed bb bm sb sm)(hg:Grow w W):NewParts w w' d o ed bb bm sb sm:=by
 have k:=Below.size hg;obtain⟨l1,l2,l3,l4,l5,l6,l7⟩:=h.lo;exact⟨h.day,h.oth,h.ended,h.buy,h.sel,h.buyB,h.selB,h.maps,⟨by omega,by omega,by omega,by omega,by omega,by omega,by omega⟩,hg.trans h.grow⟩
def engNew(a b c:Int)(dv:Value)(d o ed bb sb:Nat):Obj:=.cells #[iV a,iV b,iV c,.iface 35 dv,iV 0,.string ⟨#[]⟩,iV 0,.slice none 0 0,.map (some d),.map (some o),.map (some ed),.iface 116 (iP bb),.iface 122 (iP sb),iV 0,iV 0,iV 0] 74 (0,0)
theorem zNs(w:World)(a b c:Int)(dv:Value)(hc:okCfg a b c=true):
 Cl 15 #[.agg #[iV a,iV b,iV c],.iface 35 dv] w fun en w'=> ∃nb d o ed bb bm sb sm,en=rV #[iP nb,.nilIface]∧Hid (w.heap.size≤nb∧w'.heap[nb]? =some (engNew a b c dv d o ed bb sb)∧NewParts w w' d o ed bb bm sb sm):=by
 have HN:Hid (∀W:World,Grow w W→Cl 24 #[.agg #[iV a,iV b,iV c],.iface 35 dv] W fun en w'=> ∃nb d o ed bb bm sb sm,en=rV #[iP nb,.nilIface]∧Hid (w.heap.size≤nb∧w'.heap[nb]? =some (engNew a b c dv d o ed bb sb)∧NewParts w w' d o ed bb bm sb sm)):=fun W hW=>(zNp W a b c dv hc).mono (by
  rintro en w' ⟨nb,d,o,ed,bb,bm,sb,sm,rfl,hz⟩;exact⟨nb,d,o,ed,bb,bm,sb,sm,rfl,Nat.le_trans (Below.size hW) hz.out.1,hz.out.2.1,hz.out.2.2.back hW⟩)
 go_enter Tryz.func15,Tryz.ntmps15;go_wp2_with fail;refine(HN _ ((Grow.refl w).alloc _)).mono ?_;rintro en w2 ⟨nb,d,o,ed,bb,bm,sb,sm,rfl,HZ⟩;go_wp2;go_ret2;exact⟨_,_,_,_,_,_,_,_,rfl,HZ⟩
theorem zNt(w:World)(a b c:Int)(dv:Value)(hE:Errs w ad st)(hc:okCfg a b c=false):
 Cl 15 #[.agg #[iV a,iV b,iV c],dv] w fun en w'=>en=rV #[.pointer none,.iface 296 (.pointer (some (ad 0)))]∧Hid (Grow w w'):=by
 have HN:Hid (∀W:World,Grow w W→Cl 24 #[.agg #[iV a,iV b,iV c],dv] W fun en w'=>en=rV #[.pointer none,.iface 296 (.pointer (some (ad 0)))]∧Hid (Grow w w')):=fun W hW=>(zNq W a b c dv (hE.below hW) hc).mono (by
  rintro en w' ⟨rfl,hz⟩;exact⟨rfl,hW.trans hz⟩)
 go_enter Tryz.func15,Tryz.ntmps15;go_wp2_with fail;refine(HN _ ((Grow.refl w).alloc _)).mono ?_;rintro en w2 ⟨rfl,HZ⟩;go_wp2;go_ret2;exact⟨rfl,HZ⟩
theorem zNu{eb:Nat}(hd:w.heap[nb]? =some (.cells #[iP eb,iP g.drwB] 37 (0,0)))(h:CRep F base w eb e g S):
 Cl 82 #[iP nb] w fun en w'=>en=.returned (iV (e.drawn:Int))∧w'=w:=by
 have c1:w.cell? (iA nb 1)=some (iP g.drwB):=by simp[World.cell?,hd]
 have c2:w.cell? (iA g.drwB 1)=sI (e.drawn:Int):=by simp[World.cell?,h.body.drw]
 clear hd h;go_enter Tryz.func82,Tryz.ntmps82;go_wp2;go_ret;exact⟨rfl,rfl⟩
end
section
open Go.Extern Go.Extern.Stop Go.Maps Go.RowKit Go.Stop
def avgB(a b:Int):Option Nat:=Ieee.single.div (FloatKind.f32.nearest a) (FloatKind.f32.nearest b)
theorem quo32{x y:Nat}(h:Ieee.single.div x y=some r)(w:World):(binOp .quo 231 (.float .f32 x) (.float .f32 y)).run Tryz.prog w=.ok (.float .f32 r) w:=by
 have hf:FloatKind.f32.format.div x y=some r:=h;simp only[binOp];simp[Op.floatArith,hf]
theorem conv32(x:Int)(w:World):(convert 3 231 (iV x)).run Tryz.prog w=.ok (.float .f32 (FloatKind.f32.nearest x)) w:=by kernel_rfl
theorem zNv(h:CRep F base w b e g S)(hv: ¬e.volume=0)(hr:avgB e.worth e.volume=some r):
 Cl 157 #[iP b] w fun en w'=>en=.returned (.float .f32 r)∧Same w w':=by
 have c14:cI w b 14 e.worth:=h.cell 14;have c15:cI w b 15 e.volume:=h.cell 15;have hq:(e.volume == 0)=false:=by simp[hv]
 have k1:=conv32 e.worth;have k2:=conv32 e.volume;have k3:=quo32 hr;go_enter Tryz.func157,Tryz.ntmps157;go_wp2_with fail;go_quiet (fail);go_wp2;go_ret;exact⟨rfl,(Same.refl w).drewN nq⟩
theorem zNw(h:CRep F base w b e g S)(hv:e.volume=0):
 Cl 157 #[iP b] w fun en w'=>en=.returned (.float .f32 0)∧Same w w':=by
 have c15:cI w b 15 e.volume:=h.cell 15;rw[hv]at c15;go_enter Tryz.func157,Tryz.ntmps157;go_wp2;go_ret;exact⟨rfl,Same.refl w⟩
def avgR(e:Eng):Option Nat:=if e.volume=0 then some 0 else avgB e.worth e.volume
theorem zNx(h:CRep F base w b e g S)(hr:avgR e=some r):
 Cl 123 #[iP b] w fun en w'=>en=.returned (.float .f32 r)∧Same w w':=by
 have HC:Hid (Cl 157 #[iP b] w fun en w'=>en=.returned (.float .f32 r)∧Same w w'):=by
  unfold avgR at hr;split at hr
  ·rename_i hv;obtain rfl:=Option.some.inj hr;exact zNw h hv
  ·rename_i hv;exact zNv h hv hr
 go_enter Tryz.func123,Tryz.ntmps123;go_wp2_with fail;refine HC.mono ?_;rintro en w2 ⟨rfl,hs⟩;have HS:=hid hs;go_wp2;go_ret;exact⟨rfl,HS⟩
theorem f32bits(r:Nat)(w:World):(Tryz.ext Tryz.f122 #[.float .f32 r]).run Tryz.prog w=.ok (.int .u32 r) w:=by kernel_rfl
theorem zNy{eb:Nat}(hd:w.heap[nb]? =some (.cells #[iP eb,iP g.drwB] 37 (0,0)))(h:CRep F base w eb e g S)(hr:avgR e=some r)(hr2:r<4294967296):
 Cl 80 #[iP nb] w fun en w'=>en=.returned (iV (r:Int))∧Same w w':=by
 have c0:w.cell? (iA nb 0)=some (iP eb):=by simp[World.cell?,hd]
 have HC:Hid (∀W,Same w W→Cl 123 #[iP eb] W fun en w'=>en=.returned (.float .f32 r)∧Hid (Same w w')):=fun W hW=>(zNx (h.same hW) hr).mono (by
  rintro en w' ⟨rfl,hz⟩;exact⟨rfl,hW.trans hz⟩)
 have hx:=Go.run_callFunc_extern (P:=Tryz.prog) (f:=122) (e:=Tryz.ext Tryz.f122) Tryz.func122 (by kernel_rfl) (by kernel_rfl) (by kernel_rfl) (by kernel_rfl);have tx:=f32bits r;have hw1:IntKind.i64.wrap (r:Int)=(r:Int):=zAb _ (by omega) (by omega);have HRR:=hid hr2;go_enter Tryz.func80,Tryz.ntmps80;go_wp2_with fail;refine(HC w (Same.refl w)).mono ?_;rintro en w2 ⟨rfl,HS⟩;go_wp2;go_ret;exact⟨rfl,HS⟩
end
section
open Go.Extern Go.Maps Go.RowKit
theorem zE6:Ieee.single.leastPlace= -149:=by decide
theorem zE7:Ieee.single.binade=8388608:=by decide
theorem zD1:Ieee.single.infRung=2139095040:=by decide
theorem zD2:Ieee.single.fractionBits=23:=rfl
theorem zCc(r:Nat):Ieee.single.word false r=r:=by simp[Ieee.Format.word]
theorem zNz(neg:Bool)(n drop:Nat):Ieee.Toward.even.cut neg n drop≤n / (1 <<< min drop (n.log2+2))+1:=by
 unfold Ieee.Toward.cut;exact Nat.add_le_add_left (Bool.toNat_le _) _
theorem zGh{m:Nat}(hm:0<m):Ieee.Toward.even.cut false (m <<< ((0:Int) - ((m.log2:Int) - 23)).toNat) ((m.log2:Int) - 23 - 0).toNat≤16777216:=by
 have h1:=Nat.lt_log2_self (n:=m);have h0:m≠0:=by omega
 by_cases hL:m.log2≤23
 ·have e1:((0:Int) - ((m.log2:Int) - 23)).toNat=23 - m.log2:=by omega
  have e2:((m.log2:Int) - 23 - 0).toNat=0:=by omega
  rw[e1,e2];have e3:Ieee.Toward.even.cut false (m <<< (23 - m.log2)) 0=m <<< (23 - m.log2):=by
   unfold Ieee.Toward.cut;simp[Nat.mod_one]
  rw[e3,Nat.shiftLeft_eq];have e4:2 ^ (m.log2+1)* 2 ^ (23 - m.log2)=16777216:=by
   rw[←Nat.pow_add];have:m.log2+1+(23 - m.log2)=24:=by omega
   rw[this]
  have e5:m*2 ^ (23 - m.log2)≤2 ^ (m.log2+1)* 2 ^ (23 - m.log2):=Nat.mul_le_mul_right _ (by omega);omega
 ·have e1:((0:Int) - ((m.log2:Int) - 23)).toNat=0:=by omega
  have e2:((m.log2:Int) - 23 - 0).toNat=m.log2 - 23:=by omega
  rw[e1,e2];refine Nat.le_trans (zNz _ _ _) ?_;have e3:m <<< 0=m:=by simp
  rw[e3];have e4:min (m.log2 - 23) (m.log2+2)=m.log2 - 23:=by omega
  rw[e4,Nat.shiftLeft_eq,Nat.one_mul];have e5:m / 2 ^ (m.log2 - 23)<16777216:=by
   rw[Nat.div_lt_iff_lt_mul (Nat.two_pow_pos _)];have e6:16777216*2 ^ (m.log2 - 23)=2 ^ (m.log2+1):=by
    have:m.log2+1=24+(m.log2 - 23):=by omega
    rw[this,Nat.pow_add]
   rw[e6];exact h1
  omega
theorem zD3{m:Nat}(hm:0<m)(hb:m.log2<100):8388608≤Ieee.single.nearest false m 0∧Ieee.single.nearest false m 0<2139095040:=by
 have h0:m≠0:=by omega
 have hk:=zGh hm;have hl:max ((0:Int)+(m.log2:Int) - (23:Nat)) (-149)=(m.log2:Int) - 23:=by omega
 have e:Ieee.single.nearest false m 0=min (((m.log2:Int) - 23 - (-149)).toNat*8388608+Ieee.Toward.even.cut false (m <<< ((0:Int) - ((m.log2:Int) - 23)).toNat) ((m.log2:Int) - 23 - 0).toNat) 2139095040:=by
  unfold Ieee.Format.nearest;rw[if_neg h0];simp only[zCc,zE6,zE7,zD1,zD2,hl]
 rw[e];generalize Ieee.Toward.even.cut false (m <<< ((0:Int) - ((m.log2:Int) - 23)).toNat) ((m.log2:Int) - 23 - 0).toNat=k at *;omega
theorem zD4{q:Nat}(h1:8388608≤q)(h2:q<2139095040):Ieee.single.read q=.number false (8388608+q % 8388608) (-149+((q / 8388608 - 1:Nat):Int)):=by
 have e:Ieee.single.read q=(let neg:=q / 2147483648 % 2 == 1
  let rung:=q % 2147483648
  if rung<8388608 then Ieee.Datum.number neg rung (-149)
  else if rung<2139095040 then Ieee.Datum.number neg (8388608+rung % 8388608) (-149+(rung / 8388608 - 1:Nat))
  else if rung=2139095040 then .infinity neg
  else .nan neg (rung - 2139095040)):=rfl
 rw[e];have e1:q % 2147483648=q:=Nat.mod_eq_of_lt (by omega);have e2:(q / 2147483648 % 2 == 1)=false:=by
  have:q / 2147483648=0:=Nat.div_eq_of_lt (by omega);rw[this];rfl
 simp only[e1,e2];rw[if_neg (by omega),if_pos h2]
theorem zCd(m:Nat):FloatKind.f32.nearest (m:Int)=Ieee.single.nearest false m 0:=by
 have e:FloatKind.f32.nearest (m:Int)=Ieee.single.nearest (decide ((m:Int)<0)) (m:Int).natAbs 0:=rfl;rw[e];have:decide ((m:Int)<0)=false:=by simp
 rw[this,Int.natAbs_natCast]
theorem zE8(m:Nat)(p:Int):Ieee.single.write (.number false m p)<4294967296:=by
 show Ieee.single.nearest false m p<4294967296;unfold Ieee.Format.nearest;split
 ·rw[zCc];omega
 ·simp only[zCc,zD1];exact Nat.lt_of_le_of_lt (Nat.min_le_right _ _) (by omega)
theorem zP{a:Nat}(ha:0<a)(hb:0<b)(hA:a.log2<100)(hB:b.log2<100): ∃r,avgB (a:Int) (b:Int)=some r∧r<4294967296:=by
 obtain⟨a1,a2⟩:=zD3 ha hA;obtain⟨b1,b2⟩:=zD3 hb hB;unfold avgB;rw[zCd,zCd];generalize Ieee.single.nearest false a 0=x at *;generalize Ieee.single.nearest false b 0=y at *;unfold Ieee.Format.div;rw[zD4 a1 a2,zD4 b1 b2];unfold Ieee.Datum.quotient;simp only[];rw[if_neg (by omega)];exact⟨_,rfl,zE8 _ _⟩
theorem zP0(hb:0<b)(hB:b.log2<100): ∃r,avgB 0 (b:Int)=some r∧r<4294967296:=by
 obtain⟨b1,b2⟩:=zD3 hb hB;unfold avgB;rw[zCd];generalize Ieee.single.nearest false b 0=y at *;have e0:Ieee.single.read (FloatKind.f32.nearest 0)=.number false 0 (-149):=by decide
 unfold Ieee.Format.div;rw[e0,zD4 b1 b2];unfold Ieee.Datum.quotient;simp only[];rw[if_neg (by omega)];exact⟨_,rfl,zE8 _ _⟩
theorem zSr(h1:0≤e.worth)(h2:0≤e.volume)(h3:e.worth<9223372036854775808)(h4:e.volume<9223372036854775808): ∃r,avgR e=some r∧r<4294967296:=by
 have lg: ∀m:Nat,0<m→m<9223372036854775808→m.log2<100:=fun m h0 h=>by
  have k:m.log2<63:=(Nat.log2_lt (by omega)).2 (by simpa using h);omega
 unfold avgR;by_cases hv:e.volume=0
 ·rw[if_pos hv];exact⟨0,rfl,by omega⟩
 ·rw[if_neg hv];obtain⟨a,ha⟩:=Int.eq_ofNat_of_zero_le h1;obtain⟨b,hb⟩:=Int.eq_ofNat_of_zero_le h2;rw[ha,hb];have b0:0<b:=by omega
  by_cases ha0:a=0
  ·subst ha0;exact zP0 b0 (lg b b0 (by omega))
  ·exact zP (by omega) b0 (lg a (by omega) (by omega)) (lg b b0 (by omega))
end
end Go.Proofs.YtilbfpnpkkkpgaaGreatDoor
