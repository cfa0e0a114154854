import Derived.Test.YtanfmhonjpjpoaaGreatDoorQ00
import Derived.Test.YtanfmhonjpjpoaaGreatDoorQ03
import Derived.Test.YtanfmhonjpjpoaaGreatDoorQ09
import Derived.Laws.DeepStrings4
set_option linter.all false
set_option maxRecDepth 100000
set_option maxHeartbeats 8000000
namespace Go.Proofs.YtanfmhonjpjpoaaGreatDoor
variable{e e':Eng}{i:Nat}{o:Ord}{v:Nat→Int}{w w':World}
section
open Go.Extern Go.RowKit
def bAt(s:ByteArray)(i:Nat):Nat:=(s.data.toList.getD i 0).toNat
theorem zAn(s:ByteArray)(i:Nat):bAt s i<256:=UInt8.toNat_lt _
def upd(v:Nat→Int)(i:Nat)(x:Int):Nat→Int:=fun j=>if j=i then x else v j
def rd(t:List UInt8)(at_:Nat)(p:Nat×Nat):Int:=if p.1=6∧2147483648≤val ((t.drop at_).take p.2) then val ((t.drop at_).take p.2) - 4294967296 else val ((t.drop at_).take p.2)
def reads(t:List UInt8):Nat→List (Nat×Nat)→(Nat→Int)→(Nat→Int)
 |_,[],v=>v
 |a,p::l,v=>reads t (a+p.2) l (upd v p.1 (rd t a p))
def wsum(l:List (Nat×Nat)):Nat:=(l.map (·.2)).sum
theorem zEq(l:List (Nat×Nat)):(wsum l:Int)=fsum l:=by
 induction l with
 |nil=>rfl
 |cons a l ih=>simp only[wsum,fsum,List.map_cons,List.sum_cons]at ih⊢;omega
theorem zEr(l:List (Nat×Nat))(p:Nat×Nat):wsum (l++ [p])=wsum l+p.2:=by simp[wsum]
theorem zEs(t:List UInt8)(l:List (Nat×Nat))(p:Nat×Nat): ∀(a:Nat) (v:Nat→Int),reads t a (l++ [p]) v=upd (reads t a l v) p.1 (rd t (a+wsum l) p):=by
 induction l with
 |nil=>intro a v;rfl
 |cons q l ih=>
  intro a v;rw[List.cons_append,reads,ih,reads];simp only[wsum,List.map_cons,List.sum_cons,Nat.add_assoc]
theorem zJd(l m:List (Nat×Nat)):wsum (l++m)=wsum l+wsum m:=by simp[wsum]
theorem zEt(l:List (Nat×Nat))(k:Nat):wsum (l.take k)≤wsum l:=by
 have h2:=zJd (l.take k) (l.drop k);rw[List.take_append_drop]at h2;omega
def okDec(s:ByteArray):Bool:=decide (1≤bAt s 1) && decide (bAt s 1≤5) && decide (2+wsum (terms (bAt s 1))=bAt s 0+1)
theorem zD(s:ByteArray):okDec s=true↔1≤bAt s 1∧bAt s 1≤5∧2+wsum (terms (bAt s 1))=bAt s 0+1:=by simp[okDec,and_assoc]
def nextE(s:ByteArray):Int:=if s.size=0 then 4 else if bAt s 0=0 then 5 else if s.size<bAt s 0+1 then 4 else if okDec s=true then 0 else 5
def nextM(s:ByteArray):Int:=if s.size=0 then 0 else if bAt s 0=0 then 1 else if s.size<bAt s 0+1 then 0 else(bAt s 0:Int)+1
def nextK(s:ByteArray):Int:=if nextE s=0 then bAt s 1 else 0
def nextV(s:ByteArray):Nat→Int:=if nextE s=0 then reads s.data.toList 2 (terms (bAt s 1)) (fun _=>0) else fun _=>0
theorem zAh(s:ByteArray)(i:Nat)(h:i<s.size):s[i].toNat=bAt s i:=by
 unfold bAt;have:i<s.data.toList.length:=by simpa using h
 rw[List.getD_eq_getElem?_getD,List.getElem?_eq_getElem this];rfl
theorem zJe(s:ByteArray)(A n:Nat)(w:World)(h:A+n≤s.size):
 (Instr.slice 9 (.string s) (sI (A:Int)) (sI ((A:Int)+(n:Int))) none).run Tryz.prog w=.ok (.string (s.extract A (A+n))) w:=by
 rw[run_slice_string_if w 9 s .i64 .i64 (A:Int) ((A:Int)+(n:Int)) Tryz.underlying9,if_pos (by omega),if_pos (by omega)];rw[show((A:Int)+(n:Int)).toNat=A+n by omega,Int.toNat_natCast]
theorem zJf(s:ByteArray)(A n:Nat)(h:A+n≤s.size):(s.extract A (A+n)).data.toList=(s.data.toList.drop A).take n:=by
 rw[ByteArray.data_extract,Array.toList_extract,List.extract_eq_take_drop];rw[show A+n - A=n by omega]
theorem zJg(s:ByteArray)(A n:Nat)(h:A+n≤s.size):(s.extract A (A+n)).size=n:=by
 rw[ByteArray.size_extract];omega
theorem zC6{C o:Nat}(h:w.grownBy w' (some C))(v:Value):w.grownBy (w'.setCell (iA C o) v) (some C):=
 ⟨h.os,h.tape,h.output,by simpa [World.setCell] using h.size,fun k hk hne=>(Below.heap_setCell _ _ _ k (by intro e;exact hne (by rw[e]))).trans (h.block k hk hne)⟩
theorem zAz{C B:Nat}(h:w.grownBy w' (some C))(hB:B≤C)(hs:B≤w.heap.size):Below B w w':=⟨h.os,h.tape,h.output,h.size,fun k hk=>h.block k (by omega) (by intro e;injection e with e;omega)⟩
theorem keep10{B:Nat}(h:Below B w w')(x0 x1 x2 x3 x4 x5 x6 x7 x8 x9:Value):Below B w ((((((((((w'.setCell (iA B 0) x0).setCell (iA B 1) x1).setCell (iA B 2) x2).setCell (iA B 3) x3).setCell (iA B 4) x4).setCell (iA B 5) x5).setCell (iA B 6) x6).setCell (iA B 7) x7).setCell (iA B 8) x8).setCell (iA B 9) x9):=
 (((((((((h.setCell (Nat.le_refl B) x0).setCell (Nat.le_refl B) x1).setCell (Nat.le_refl B) x2).setCell (Nat.le_refl B) x3).setCell (Nat.le_refl B) x4).setCell (Nat.le_refl B) x5).setCell (Nat.le_refl B) x6).setCell (Nat.le_refl B) x7).setCell (Nat.le_refl B) x8).setCell (Nat.le_refl B) x9
theorem zEu(t:List UInt8)(A pa pb:Nat)(h: ¬(pa=6∧2147483648≤val ((t.drop A).take pb))):rd t A (pa,pb)=val ((t.drop A).take pb):=by unfold rd;rw[if_neg h]
theorem zEv(t:List UInt8)(A pb:Nat)(h:2147483648≤val ((t.drop A).take pb)):rd t A (6,pb)=val ((t.drop A).take pb) - 4294967296:=by unfold rd;rw[if_pos ⟨rfl,h⟩]
theorem zJh(s:ByteArray)(w:World)(h:s.size=0):
 Cl 56 #[.string s] w fun e w'=>e=rV #[cmdV 0 (fun _=>0),iV 0,iV 4]∧Below w.heap.size w w':=by
 obtain rfl:s=⟨#[]⟩:=by
  apply ByteArray.ext;exact Array.eq_empty_of_size_eq_zero h
 go_enter Tryz.func56,Tryz.ntmps56;go_wp2;refine bodyPost_ret (v:=.tuple #[cmdV 0 (fun _=>0),iV 0,iV 4]) (by simp[results,Tryz.results56,go_sem]) rfl ⟨rfl,?_⟩;repeat(first|exact Below.refl _ _|refine Below.setCell ?_ (by simp<;>omega) _|refine Below.drew ?_|refine zA4 ?_ _)
theorem zD0(s:ByteArray)(h:0<s.size):s.toList.isEmpty=false:=by
 rw[ByteArray.toList_eq];cases e:s.data.toList with
 |nil=>exact absurd (by rw[ByteArray.size,←Array.length_toList,e];rfl) (Nat.ne_of_gt h)
 |cons a l=>rfl
theorem zJi(s:ByteArray)(w:World)(h:0<s.size)(h0:bAt s 0=0):
 Cl 56 #[.string s] w fun e w'=>e=rV #[cmdV 0 (fun _=>0),iV 1,iV 5]∧Below w.heap.size w w':=by
 have hne:=zD0 s h;have hb:=zAh s 0 h;rw[h0]at hb;go_enter Tryz.func56,Tryz.ntmps56;go_wp2;refine bodyPost_ret (v:=.tuple #[cmdV 0 (fun _=>0),iV 1,iV 5]) (by simp[results,Tryz.results56,go_sem]) rfl ⟨rfl,?_⟩;repeat(first|exact Below.refl _ _|refine Below.setCell ?_ (by simp<;>omega) _|refine Below.drew ?_|refine zA4 ?_ _)
theorem zJj(s:ByteArray)(w:World)(h:0<s.size)(h0:bAt s 0≠0)(h1:s.size<bAt s 0+1):
 Cl 56 #[.string s] w fun e w'=>e=rV #[cmdV 0 (fun _=>0),iV 0,iV 4]∧Below w.heap.size w w':=by
 have hne:=zD0 s h;have hb:=zAh s 0 h;have hlt:=zAn s 0;generalize bAt s 0=n at *;have hwn:wrap64 ((n:Nat):Int)=n:=by unfold wrap64;omega
 have hz:((n:Int) == 0)=false:=beq_eq_false_iff_ne.2 (by omega);go_enter Tryz.func56,Tryz.ntmps56;go_wp2;refine bodyPost_ret (v:=.tuple #[cmdV 0 (fun _=>0),iV 0,iV 4]) (by simp[results,Tryz.results56,go_sem]) rfl ⟨rfl,?_⟩;repeat(first|exact Below.refl _ _|refine Below.setCell ?_ (by simp<;>omega) _|refine Below.drew ?_|refine zA4 ?_ _)
theorem zEw(s:ByteArray)(h:0<s.size)(h0:bAt s 0≠0)(h1:bAt s 0+1≤s.size)(hb: ¬(1≤bAt s 1∧bAt s 1≤5∧2+wsum (terms (bAt s 1))=bAt s 0+1)):
 nextK s=0∧nextV s=(fun _=>0)∧nextM s=(bAt s 0:Int)+1∧nextE s=5:=by
 have hf: ¬okDec s=true:=fun e=>hb ((zD s).1 e)
 have e:nextE s=5:=by
  unfold nextE;rw[if_neg (by omega),if_neg h0,if_neg (by omega),if_neg hf]
 refine⟨by unfold nextK;rw[e];rfl,by unfold nextV;rw[e];rfl,?_,e⟩;unfold nextM;rw[if_neg (by omega),if_neg h0,if_neg (by omega)]
theorem zEx(s:ByteArray)(h:0<s.size)(h0:bAt s 0≠0)(h1:bAt s 0+1≤s.size)(hb:1≤bAt s 1∧bAt s 1≤5∧2+wsum (terms (bAt s 1))=bAt s 0+1):
 nextK s=bAt s 1∧nextV s=reads s.data.toList 2 (terms (bAt s 1)) (fun _=>0)∧nextM s=(bAt s 0:Int)+1∧nextE s=0:=by
 have e:nextE s=0:=by
  unfold nextE;rw[if_neg (by omega),if_neg h0,if_neg (by omega),if_pos ((zD s).2 hb)]
 refine⟨by unfold nextK;rw[e];rfl,by unfold nextV;rw[e];rfl,?_,e⟩;unfold nextM;rw[if_neg (by omega),if_neg h0,if_neg (by omega)]
theorem zJk(s:ByteArray)(w:World)(h:0<s.size)(h0:bAt s 0≠0)(h1:bAt s 0+1≤s.size)(hm:s.size≤1000000000):
 Cl 56 #[.string s] w fun e w'=>e=rV #[cmdV (nextK s) (nextV s),iV (nextM s),iV (nextE s)]∧Below w.heap.size w w':=by
 have hne:=zD0 s h;have hb:=zAh s 0 h;have hs1:1<s.size:=by omega
 have hb1:=zAh s 1 hs1;have hlt:=zAn s 0;have hlt1:=zAn s 1;have HBAD:Hid (¬(1≤bAt s 1∧bAt s 1≤5∧2+wsum (terms (bAt s 1))=bAt s 0+1)→nextK s=0∧nextV s=(fun _=>0)∧nextM s=(bAt s 0:Int)+1∧nextE s=5):=zEw s h h0 h1;have HGOOD:Hid (1≤bAt s 1∧bAt s 1≤5∧2+wsum (terms (bAt s 1))=bAt s 0+1→nextK s=bAt s 1∧nextV s=reads s.data.toList 2 (terms (bAt s 1)) (fun _=>0)∧nextM s=(bAt s 0:Int)+1∧nextE s=0):=zEx s h h0 h1;generalize bAt s 0=n at *;generalize bAt s 1=kd at *;have hwn:wrap64 ((n:Nat):Int)=n:=by unfold wrap64;omega
 have hwk:wrap64 ((kd:Nat):Int)=kd:=by unfold wrap64;omega
 have hz:((n:Int) == 0)=false:=beq_eq_false_iff_ne.2 (by omega);go_enter Tryz.func56,Tryz.ntmps56;go_wp2_with fail;refine(zEc (kd:Int) _).mono ?_;rintro e w2 ⟨a,b,rfl,hia,hib,hb2,hfa,hfb⟩;have hs2:w.heap.size+1<w2.heap.size:=by have:=hb2.size;simp at this;omega
 have HB2:Hid (Bw w w2):=(((Below.refl _ _).alloc (Nat.le_refl _) _).alloc (by simp) _).trans (hb2.mono (by simp;omega));have hk0:cI w2 (w.heap.size+1) 0 (kd:Int):=(hb2.cell (p:=(iA (w.heap.size+1) 0)) (by simp)).trans (by simp);have HC0:Hid (∀j,j<9→cI w2 (w.heap.size+1) (1+j) 0):=fun j hj=>(hb2.cell (p:=(iA (w.heap.size+1) (1+j))) (by simp)).trans (by
  have h:j=0∨j=1∨j=2∨j=3∨j=4∨j=5∨j=6∨j=7∨j=8:=by omega
  rcases h with rfl|rfl|rfl|rfl|rfl|rfl|rfl|rfl|rfl<;>simp)
 have HF0:Hid (∀j,w2.frozen? (iA (w.heap.size+1) j)=false):=fun j=>(hb2.frozen (p:=(iA (w.heap.size+1) j)) (by simp)).trans (by simp)
 have HR0:Hid (∀j,j<10→cI w2 w.heap.size j 0):=fun j hj=>(hb2.cell (p:=(iA w.heap.size j)) (by simp;omega)).trans (by
  have h:j=0∨j=1∨j=2∨j=3∨j=4∨j=5∨j=6∨j=7∨j=8∨j=9:=by omega
  rcases h with rfl|rfl|rfl|rfl|rfl|rfl|rfl|rfl|rfl|rfl<;>simp)
 have HG0:Hid (∀j,w2.frozen? (iA w.heap.size j)=false):=fun j=>(hb2.frozen (p:=(iA w.heap.size j)) (by simp;omega)).trans (by simp)
 have hlen:(whichs (kd:Int)).length=(terms (kd:Int)).length:=by simp[whichs]
 have hlen':(widths (kd:Int)).length=(terms (kd:Int)).length:=by simp[widths]
 have hn9:=zBk (kd:Int);rcases hia with⟨rfl,hnil⟩|⟨ba,rfl,hne',hca⟩
 ·have ht:terms (kd:Int)= []:=by simpa [whichs] using hnil
  have hkd:kd<1∨5≤kd:=by
   rcases Nat.lt_or_ge kd 1 with q|q
   ·exact .inl q
   ·rcases Nat.lt_or_ge kd 5 with q2|q2
    ·exfalso;have h4:kd=1∨kd=2∨kd=3∨kd=4:=by omega
     rcases h4 with rfl|rfl|rfl|rfl<;>exact absurd ht (by decide)
    ·exact .inr q2
  have hgr:w2.grownBy w2 (some (w.heap.size+1)):=⟨rfl,rfl,rfl,Nat.le_refl _,fun _ _ _=>rfl⟩;have hw0:wsum (terms (kd:Int))=0:=by rw[ht];rfl
  have HV0:Hid (reads s.data.toList 2 (terms (kd:Int)) (fun _=>0)=fun _=>0):=by show _=_;rw[ht];rfl
  have hr0:=hgr.cell (HR0.out 0 (by omega)) (by simp);have hg0:=(World.frozen?_of_block (a:=(iA w.heap.size 0)) (hgr.block w.heap.size (by omega) (by simp))).trans (HG0.out 0);have hr1:=hgr.cell (HR0.out 1 (by omega)) (by simp);have hg1:=(World.frozen?_of_block (a:=(iA w.heap.size 1)) (hgr.block w.heap.size (by omega) (by simp))).trans (HG0.out 1);have hr2:=hgr.cell (HR0.out 2 (by omega)) (by simp);have hg2:=(World.frozen?_of_block (a:=(iA w.heap.size 2)) (hgr.block w.heap.size (by omega) (by simp))).trans (HG0.out 2);have hr3:=hgr.cell (HR0.out 3 (by omega)) (by simp);have hg3:=(World.frozen?_of_block (a:=(iA w.heap.size 3)) (hgr.block w.heap.size (by omega) (by simp))).trans (HG0.out 3);have hr4:=hgr.cell (HR0.out 4 (by omega)) (by simp);have hg4:=(World.frozen?_of_block (a:=(iA w.heap.size 4)) (hgr.block w.heap.size (by omega) (by simp))).trans (HG0.out 4)
  have hr5:=hgr.cell (HR0.out 5 (by omega)) (by simp);have hg5:=(World.frozen?_of_block (a:=(iA w.heap.size 5)) (hgr.block w.heap.size (by omega) (by simp))).trans (HG0.out 5);have hr6:=hgr.cell (HR0.out 6 (by omega)) (by simp);have hg6:=(World.frozen?_of_block (a:=(iA w.heap.size 6)) (hgr.block w.heap.size (by omega) (by simp))).trans (HG0.out 6);have hr7:=hgr.cell (HR0.out 7 (by omega)) (by simp);have hg7:=(World.frozen?_of_block (a:=(iA w.heap.size 7)) (hgr.block w.heap.size (by omega) (by simp))).trans (HG0.out 7);have hr8:=hgr.cell (HR0.out 8 (by omega)) (by simp);have hg8:=(World.frozen?_of_block (a:=(iA w.heap.size 8)) (hgr.block w.heap.size (by omega) (by simp))).trans (HG0.out 8);have hr9:=hgr.cell (HR0.out 9 (by omega)) (by simp);have hg9:=(World.frozen?_of_block (a:=(iA w.heap.size 9)) (hgr.block w.heap.size (by omega) (by simp))).trans (HG0.out 9)
  have hv0:=HC0.out 0 (by omega);have hv1:=HC0.out 1 (by omega);have hv2:=HC0.out 2 (by omega);have hv3:=HC0.out 3 (by omega);have hv4:=HC0.out 4 (by omega);have hv5:=HC0.out 5 (by omega);have hv6:=HC0.out 6 (by omega);have hv7:=HC0.out 7 (by omega);have hv8:=HC0.out 8 (by omega);by_cases hn1:n=1
  ·subst hn1;by_cases hk5:kd=5
   ·subst hk5;have HO:Hid (nextK s=((5:Nat):Int)∧nextV s=(fun _=>0)∧nextM s=((1:Nat):Int)+1∧nextE s=0):=by
     have:=HGOOD.out ⟨by omega,by omega,by rw[hw0]⟩;exact⟨this.1,this.2.1.trans HV0.out,this.2.2⟩
    go_wp2_with fail;refine wp_loop_rounds 1 ?_;rw[rounds_succ];go_wp2;refine bodyPost_ret (v:=.tuple #[cmdV 5 (fun _=>0),iV 2,iV 0]) (by simp[results,Tryz.results56,go_sem,hr0,hr1,hr2,hr3,hr4,hr5,hr6,hr7,hr8,hr9]) rfl ⟨by rw[HO.1,HO.2.1,HO.2.2.1,HO.2.2.2];rfl,?_⟩;refine HB2.trans ?_;exact keep10 (zAz hgr (by omega) (by omega)) _ _ _ _ _ _ _ _ _ _
   ·have HO:Hid (nextK s=0∧nextV s=(fun _=>0)∧nextM s=((1:Nat):Int)+1∧nextE s=5):=HBAD.out (by omega);have hkI:(kd:Int)<1∨5<(kd:Int):=by omega
    rcases hkI with hkI|hkI;all_goals
     go_wp2_with fail;refine wp_loop_rounds 1 ?_;rw[rounds_succ];go_wp2;refine bodyPost_ret (v:=.tuple #[cmdV 0 (fun _=>0),iV 2,iV 5]) (by simp[results,Tryz.results56,go_sem,hr0,hr1,hr2,hr3,hr4,hr5,hr6,hr7,hr8,hr9]) rfl ⟨by rw[HO.1,HO.2.1,HO.2.2.1,HO.2.2.2];rfl,?_⟩;refine HB2.trans ?_;exact keep10 (zAz hgr (by omega) (by omega)) _ _ _ _ _ _ _ _ _ _
  ·have HO:Hid (nextK s=0∧nextV s=(fun _=>0)∧nextM s=(n:Int)+1∧nextE s=5):=HBAD.out (by omega);have hq:((2:Int) != (n:Int)+1)=true:=by rw[bne_iff_ne];omega
   go_wp2_with fail;refine wp_loop_rounds 1 ?_;rw[rounds_succ];go_wp2;refine bodyPost_ret (v:=.tuple #[cmdV 0 (fun _=>0),iV ((n:Int)+1),iV 5]) (by simp[results,Tryz.results56,go_sem,hr0,hr1,hr2,hr3,hr4,hr5,hr6,hr7,hr8,hr9]) rfl ⟨by rw[HO.1,HO.2.1,HO.2.2.1,HO.2.2.2],?_⟩;refine HB2.trans ?_;exact keep10 (zAz hgr (by omega) (by omega)) _ _ _ _ _ _ _ _ _ _
 ·rcases hib with⟨rfl,hnil⟩|⟨bb,rfl,-,hcb⟩
  ·exact absurd (by have:terms (kd:Int)= []:=by simpa [widths] using hnil
                    simp[whichs,this]) hne'
  rw[hlen,hlen'];have HA:Hid (∀i (h:i<(whichs (kd:Int)).length),cI w2 ba i ((whichs (kd:Int))[i])):=hca;have HBB:Hid (∀i (h:i<(widths (kd:Int)).length),cI w2 bb i ((widths (kd:Int))[i])):=hcb;have HL:Hid ((whichs (kd:Int)).length=(terms (kd:Int)).length):=hlen;have HL':Hid ((widths (kd:Int)).length=(terms (kd:Int)).length):=hlen';generalize hN:(terms (kd:Int)).length=L at *;have HN:Hid ((terms (kd:Int)).length=L):=hN;have HK0:Hid (0<L):=by
   show 0<L;rcases Nat.eq_zero_or_pos L with h0' |h0'
   ·exact absurd (by rw[←List.length_eq_zero_iff,HL.out,h0']) hne'
   ·exact h0'
  have hbaC:ba≠w.heap.size+1:=by have:=hfa ba 0 _ _ rfl;simp at this;omega
  have hbbC:bb≠w.heap.size+1:=by have:=hfb bb 0 _ _ rfl;simp at this;omega
  go_wp2_with fail;go_loopw [9,10] (fun at_ i wr=> ∃k:Nat,k≤L∧i=iV k∧at_=iV ((2+wsum ((terms (kd:Int)).take k):Nat):Int)∧2+wsum ((terms (kd:Int)).take k)≤n+1∧w2.grownBy wr (some (w.heap.size+1))∧
   cI wr (w.heap.size+1) 0 (kd:Int)∧(∀j,j<9→cI wr (w.heap.size+1) (1+j) (reads s.data.toList 2 ((terms (kd:Int)).take k) (fun _=>0) j))∧(∀j,wr.frozen? (iA (w.heap.size+1) j)=false)) (fun _ i _=>L - (intOf i).toNat)
  case atStart=>exact⟨0,Nat.zero_le _,rfl,rfl,by simp[wsum];omega,⟨rfl,rfl,rfl,Nat.le_refl _,fun _ _ _=>rfl⟩,hk0,HC0.out,HF0.out⟩
  case round=>
   obtain⟨k,hkL,rfl,rfl,hat,hgr,hck,hcv,hfz⟩:=hrel;have HCV:Hid (∀j,j<9→cI wr (w.heap.size+1) (1+j) (reads s.data.toList 2 ((terms (kd:Int)).take k) (fun _=>0) j)):=hcv;have HFZ:Hid (∀j,wr.frozen? (iA (w.heap.size+1) j)=false):=hfz;by_cases hlt:k<L
   ·have hkt:k<(terms (kd:Int)).length:=by rw[HN.out];exact hlt
    have hok:=zAe (kd:Int) _ (List.getElem_mem hkt);have hws:wsum ((terms (kd:Int)).take (k+1))=wsum ((terms (kd:Int)).take k)+(terms (kd:Int))[k].2:=by
     rw[List.take_succ_eq_append_getElem hkt,zEr]
    have hrd:reads s.data.toList 2 ((terms (kd:Int)).take (k+1)) (fun _=>0)=upd (reads s.data.toList 2 ((terms (kd:Int)).take k) (fun _=>0)) (terms (kd:Int))[k].1 (rd s.data.toList (2+wsum ((terms (kd:Int)).take k)) (terms (kd:Int))[k]):=by
     rw[List.take_succ_eq_append_getElem hkt,zEs]
    have hca:=hgr.cell (HA.out k (by rw[HL.out];exact hlt)) (by simpa using hbaC);have hcb:=hgr.cell (HBB.out k (by rw[HL'.out];exact hlt)) (by simpa using hbbC);have htl:=zEt (terms (kd:Int)) (k+1);simp only[whichs,widths,List.getElem_map]at hca hcb;generalize hp:(terms (kd:Int))[k]=p at *;obtain⟨pa,pb⟩:=p;obtain⟨hp1,hp2,hp3⟩:=hok;simp only at hp1 hp2 hp3 hca hcb hws hrd;have hcx:=HCV.out pa hp1;have hfx:=HFZ.out (1+pa);have HRD:Hid (reads s.data.toList 2 ((terms (kd:Int)).take (k+1)) (fun _=>0)=upd (reads s.data.toList 2 ((terms (kd:Int)).take k) (fun _=>0)) pa (rd s.data.toList (2+wsum ((terms (kd:Int)).take k)) (pa,pb))):=hrd;have HWS:Hid (wsum ((terms (kd:Int)).take (k+1))=wsum ((terms (kd:Int)).take k)+pb):=hws;generalize hat':2+wsum ((terms (kd:Int)).take k)=A at *;have HAT:Hid (2+wsum ((terms (kd:Int)).take k)=A):=hat';have hpz:(0:Int)≤(pa:Int)∧(pa:Int)<9:=by omega
    by_cases hover:n+1<A+pb
    ·have HO:Hid (nextK s=0∧nextV s=(fun _=>0)∧nextM s=(n:Int)+1∧nextE s=5):=HBAD.out (by
      intro hc;have h3:=hc.2.2;have h4:=HWS.out;have h5:=HAT.out;omega)
     have hr0:=hgr.cell (HR0.out 0 (by omega)) (by simp);have hg0:=(World.frozen?_of_block (a:=(iA w.heap.size 0)) (hgr.block w.heap.size (by omega) (by simp))).trans (HG0.out 0);have hr1:=hgr.cell (HR0.out 1 (by omega)) (by simp);have hg1:=(World.frozen?_of_block (a:=(iA w.heap.size 1)) (hgr.block w.heap.size (by omega) (by simp))).trans (HG0.out 1);have hr2:=hgr.cell (HR0.out 2 (by omega)) (by simp);have hg2:=(World.frozen?_of_block (a:=(iA w.heap.size 2)) (hgr.block w.heap.size (by omega) (by simp))).trans (HG0.out 2);have hr3:=hgr.cell (HR0.out 3 (by omega)) (by simp);have hg3:=(World.frozen?_of_block (a:=(iA w.heap.size 3)) (hgr.block w.heap.size (by omega) (by simp))).trans (HG0.out 3);have hr4:=hgr.cell (HR0.out 4 (by omega)) (by simp);have hg4:=(World.frozen?_of_block (a:=(iA w.heap.size 4)) (hgr.block w.heap.size (by omega) (by simp))).trans (HG0.out 4)
     have hr5:=hgr.cell (HR0.out 5 (by omega)) (by simp);have hg5:=(World.frozen?_of_block (a:=(iA w.heap.size 5)) (hgr.block w.heap.size (by omega) (by simp))).trans (HG0.out 5);have hr6:=hgr.cell (HR0.out 6 (by omega)) (by simp);have hg6:=(World.frozen?_of_block (a:=(iA w.heap.size 6)) (hgr.block w.heap.size (by omega) (by simp))).trans (HG0.out 6);have hr7:=hgr.cell (HR0.out 7 (by omega)) (by simp);have hg7:=(World.frozen?_of_block (a:=(iA w.heap.size 7)) (hgr.block w.heap.size (by omega) (by simp))).trans (HG0.out 7);have hr8:=hgr.cell (HR0.out 8 (by omega)) (by simp);have hg8:=(World.frozen?_of_block (a:=(iA w.heap.size 8)) (hgr.block w.heap.size (by omega) (by simp))).trans (HG0.out 8);have hr9:=hgr.cell (HR0.out 9 (by omega)) (by simp);have hg9:=(World.frozen?_of_block (a:=(iA w.heap.size 9)) (hgr.block w.heap.size (by omega) (by simp))).trans (HG0.out 9);go_wp2
     refine bodyPost_ret (v:=.tuple #[cmdV 0 (fun _=>0),iV ((n:Int)+1),iV 5]) (by simp[results,Tryz.results56,go_sem,hr0,hr1,hr2,hr3,hr4,hr5,hr6,hr7,hr8,hr9]) rfl ⟨by rw[HO.1,HO.2.1,HO.2.2.1,HO.2.2.2],?_⟩;refine HB2.trans ?_;exact keep10 (zAz hgr (by omega) (by omega)) _ _ _ _ _ _ _ _ _ _
    ·have hsl:A+pb≤s.size:=by omega
     have hcut:=zJe s A pb wr hsl;have hcd:=zJf s A pb hsl;have hcs:=zJg s A pb hsl;have hvn:=zB7 ((s.data.toList.drop A).take pb);have hvl:=zB8 ((s.data.toList.drop A).take pb) (Nat.le_trans (List.length_take_le _ _) (by omega));go_wp2_with fail;refine(zHl (s.extract A (A+pb)) _ (by rw[hcs];omega)).mono ?_;rintro e w' ⟨rfl,rfl⟩;rw[hcd];have HNX:Hid (∀x:Int,rd s.data.toList A (pa,pb)=x→∀j,j<9→(w'.setCell (iA (w.heap.size+1) (1+pa)) (iV x)).cell? (iA (w.heap.size+1) (1+j))=sI (reads s.data.toList 2 ((terms (kd:Int)).take (k+1)) (fun _=>0) j)):=fun x hx j hj=>by
      rw[HRD.out,hx];unfold upd;by_cases hjp:j=pa
      ·subst hjp;rw[if_pos rfl];exact World.cell?_setCell_same _ _ _ hcx
      ·rw[if_neg hjp,World.cell?_setCell_other _ _ _ _ (by intro e;injection e with e1 e2;omega)];exact HCV.out j hj
     have HCK:Hid (∀x:Value,(w'.setCell (iA (w.heap.size+1) (1+pa)) x).cell? (iA (w.heap.size+1) 0)=sI (kd:Int)):=fun x=>by
      rw[World.cell?_setCell_other _ _ _ _ (by intro e;injection e with e1 e2;omega)];exact hck
     have HFK:Hid (∀(x:Value) (j:Nat),(w'.setCell (iA (w.heap.size+1) (1+pa)) x).frozen? (iA (w.heap.size+1) j)=false):=fun x j=>by
      rw[World.frozen?_setCell];exact HFZ.out j
     have hcb': ∀x:Value,(w'.setCell (iA (w.heap.size+1) (1+pa)) x).cell? (iA bb k)=sI (pb:Int):=fun x=>by
      rw[World.cell?_setCell_other _ _ _ _ (by intro e;injection e with e1 e2;omega)];exact hcb
     have HP:=zEu s.data.toList A pa pb;have HPN:=zEv s.data.toList A pb;have HP':Hid (¬(pa=6∧2147483648≤val ((s.data.toList.drop A).take pb))→rd s.data.toList A (pa,pb)=val ((s.data.toList.drop A).take pb)):=HP;have HPN':Hid (2147483648≤val ((s.data.toList.drop A).take pb)→rd s.data.toList A (6,pb)=val ((s.data.toList.drop A).take pb) - 4294967296):=HPN;generalize val ((s.data.toList.drop A).take pb)=x at *;by_cases h6:pa=6
     ·subst h6;have h4:pb=4:=hp3 rfl;subst h4;by_cases hbig:2147483648≤x
      ·go_wp2;go_roundw
       case rel=>exact⟨k+1,by omega,by go_num,zAm (by have:=HAT.out;rw[HWS.out];omega),by have:=HAT.out;rw[HWS.out];omega,zC6 hgr _,HCK.out _,HNX.out _ (HPN'.out hbig),HFK.out _⟩
       case measure=>simp[intOf];omega
      ·go_wp2;go_roundw
       case rel=>exact⟨k+1,by omega,by go_num,zAm (by have:=HAT.out;rw[HWS.out];omega),by have:=HAT.out;rw[HWS.out];omega,zC6 hgr _,HCK.out _,HNX.out _ (HP'.out (by omega)),HFK.out _⟩
       case measure=>simp[intOf];omega
     ·have g6:((pa:Int) == 6)=false:=beq_eq_false_iff_ne.2 (by omega);go_wp2;go_roundw
      case rel=>exact⟨k+1,by omega,by go_num,zAm (by have:=HAT.out;rw[HWS.out];omega),by have:=HAT.out;rw[HWS.out];omega,zC6 hgr _,HCK.out _,HNX.out _ (HP'.out (by omega)),HFK.out _⟩
      case measure=>simp[intOf];omega
   ·have hkL':k=L:=by omega
    subst hkL';have htk:(terms (kd:Int)).take k=terms (kd:Int):=List.take_of_length_le (by rw[HN.out];omega);rw[htk]at hat;have HCV2:Hid (∀j,j<9→cI wr (w.heap.size+1) (1+j) (reads s.data.toList 2 (terms (kd:Int)) (fun _=>0) j)):=by
     have:=HCV.out;rw[htk]at this;exact this
    rw[htk];have hkd:1≤kd∧kd≤4:=by
     have h1:=HN.out;have h2:0<k:=HK0.out;unfold terms at h1;split at h1
     ·omega
     split at h1
     ·omega
     split at h1
     ·omega
     split at h1
     ·omega
     ·simp at h1;omega
    have hr0:=hgr.cell (HR0.out 0 (by omega)) (by simp);have hg0:=(World.frozen?_of_block (a:=(iA w.heap.size 0)) (hgr.block w.heap.size (by omega) (by simp))).trans (HG0.out 0);have hr1:=hgr.cell (HR0.out 1 (by omega)) (by simp);have hg1:=(World.frozen?_of_block (a:=(iA w.heap.size 1)) (hgr.block w.heap.size (by omega) (by simp))).trans (HG0.out 1);have hr2:=hgr.cell (HR0.out 2 (by omega)) (by simp);have hg2:=(World.frozen?_of_block (a:=(iA w.heap.size 2)) (hgr.block w.heap.size (by omega) (by simp))).trans (HG0.out 2);have hr3:=hgr.cell (HR0.out 3 (by omega)) (by simp);have hg3:=(World.frozen?_of_block (a:=(iA w.heap.size 3)) (hgr.block w.heap.size (by omega) (by simp))).trans (HG0.out 3);have hr4:=hgr.cell (HR0.out 4 (by omega)) (by simp);have hg4:=(World.frozen?_of_block (a:=(iA w.heap.size 4)) (hgr.block w.heap.size (by omega) (by simp))).trans (HG0.out 4)
    have hr5:=hgr.cell (HR0.out 5 (by omega)) (by simp);have hg5:=(World.frozen?_of_block (a:=(iA w.heap.size 5)) (hgr.block w.heap.size (by omega) (by simp))).trans (HG0.out 5);have hr6:=hgr.cell (HR0.out 6 (by omega)) (by simp);have hg6:=(World.frozen?_of_block (a:=(iA w.heap.size 6)) (hgr.block w.heap.size (by omega) (by simp))).trans (HG0.out 6);have hr7:=hgr.cell (HR0.out 7 (by omega)) (by simp);have hg7:=(World.frozen?_of_block (a:=(iA w.heap.size 7)) (hgr.block w.heap.size (by omega) (by simp))).trans (HG0.out 7);have hr8:=hgr.cell (HR0.out 8 (by omega)) (by simp);have hg8:=(World.frozen?_of_block (a:=(iA w.heap.size 8)) (hgr.block w.heap.size (by omega) (by simp))).trans (HG0.out 8);have hr9:=hgr.cell (HR0.out 9 (by omega)) (by simp);have hg9:=(World.frozen?_of_block (a:=(iA w.heap.size 9)) (hgr.block w.heap.size (by omega) (by simp))).trans (HG0.out 9)
    have hkI1:(1:Int)≤(kd:Int):=by omega
    have hkI2:(kd:Int)≤5:=by omega
    by_cases heq:2+wsum (terms (kd:Int))=n+1
    ·have HO:=HGOOD.out ⟨by omega,by omega,heq⟩;have HO':Hid (nextK s=kd∧nextV s=reads s.data.toList 2 (terms (kd:Int)) (fun _=>0)∧nextM s=(n:Int)+1∧nextE s=0):=HO;have hv0:=HCV2.out 0 (by omega);have hv1:=HCV2.out 1 (by omega);have hv2:=HCV2.out 2 (by omega);have hv3:=HCV2.out 3 (by omega);have hv4:=HCV2.out 4 (by omega);have hv5:=HCV2.out 5 (by omega);have hv6:=HCV2.out 6 (by omega);have hv7:=HCV2.out 7 (by omega);have hv8:=HCV2.out 8 (by omega);rw[heq];have hq:(((n+1:Nat):Int) != (n:Int)+1)=false:=by simp
     generalize reads s.data.toList 2 (terms (kd:Int)) (fun _=>0)=V at *;go_wp2;refine bodyPost_ret (v:=.tuple #[cmdV (kd:Int) V,iV ((n:Int)+1),iV 0]) (by simp[results,Tryz.results56,go_sem,hr0,hr1,hr2,hr3,hr4,hr5,hr6,hr7,hr8,hr9]) rfl ⟨by rw[HO'.1,HO'.2.1,HO'.2.2.1,HO'.2.2.2],?_⟩;refine HB2.trans ?_;exact keep10 (zAz hgr (by omega) (by omega)) _ _ _ _ _ _ _ _ _ _
    ·have HO:Hid (nextK s=0∧nextV s=(fun _=>0)∧nextM s=(n:Int)+1∧nextE s=5):=HBAD.out (fun hc=>heq hc.2.2);generalize 2+wsum (terms (kd:Int))=A at *;have hq:((A:Int) != (n:Int)+1)=true:=by rw[bne_iff_ne];omega
     go_wp2;refine bodyPost_ret (v:=.tuple #[cmdV 0 (fun _=>0),iV ((n:Int)+1),iV 5]) (by simp[results,Tryz.results56,go_sem,hr0,hr1,hr2,hr3,hr4,hr5,hr6,hr7,hr8,hr9]) rfl ⟨by rw[HO.1,HO.2.1,HO.2.2.1,HO.2.2.2],?_⟩;refine HB2.trans ?_;exact keep10 (zAz hgr (by omega) (by omega)) _ _ _ _ _ _ _ _ _ _
theorem zQc(s:ByteArray)(w:World)(hm:s.size≤1000000000):
 Cl 56 #[.string s] w fun e w'=>e=rV #[cmdV (nextK s) (nextV s),iV (nextM s),iV (nextE s)]∧Below w.heap.size w w':=by
 by_cases h:s.size=0
 ·have e:nextE s=4:=by unfold nextE;rw[if_pos h]
  have e1:nextK s=0:=by unfold nextK;rw[e];rfl
  have e2:nextV s=fun _=>0:=by unfold nextV;rw[e];rfl
  have e3:nextM s=0:=by unfold nextM;rw[if_pos h]
  rw[e,e1,e2,e3];exact zJh s w h
 by_cases h0:bAt s 0=0
 ·have e:nextE s=5:=by unfold nextE;rw[if_neg h,if_pos h0]
  have e1:nextK s=0:=by unfold nextK;rw[e];rfl
  have e2:nextV s=fun _=>0:=by unfold nextV;rw[e];rfl
  have e3:nextM s=1:=by unfold nextM;rw[if_neg h,if_pos h0]
  rw[e,e1,e2,e3];exact zJi s w (by omega) h0
 by_cases h1:s.size<bAt s 0+1
 ·have e:nextE s=4:=by unfold nextE;rw[if_neg h,if_neg h0,if_pos h1]
  have e1:nextK s=0:=by unfold nextK;rw[e];rfl
  have e2:nextV s=fun _=>0:=by unfold nextV;rw[e];rfl
  have e3:nextM s=0:=by unfold nextM;rw[if_neg h,if_neg h0,if_pos h1]
  rw[e,e1,e2,e3];exact zJj s w (by omega) h0 h1
 ·exact zJk s w (by omega) h0 (by omega) hm
end
section
open Go
theorem zEy(t:List UInt8): ∀(l:List (Nat×Nat)) (a:Nat) (v:Nat→Int),(∀i,i≠6→0≤v i∧v i<4294967296)→(∀p∈l,p.2≤4)→∀i,i≠6→0≤reads t a l v i∧reads t a l v i<4294967296
 | [],a,v,hv,_,i,hi=>hv i hi
 |p::l,a,v,hv,hl,i,hi=>by
  refine zEy t l (a+p.2) _ (fun j hj=>?_) (fun q hq=>hl q (List.mem_cons_of_mem _ hq)) i hi;unfold upd;split
  ·rename_i hjp;have hp:=hl p (List.mem_cons_self ..);have h0:=zB7 ((t.drop a).take p.2);have h1:=zB8 ((t.drop a).take p.2) (by rw[List.length_take];omega);unfold rd;rw[if_neg (fun hc=>hj (hjp▸hc.1))];exact⟨h0,h1⟩
  ·exact hv j hj
theorem zBp(s:ByteArray)(i:Nat)(hi:i≠6):0≤nextV s i∧nextV s i<4294967296:=by
 unfold nextV;split
 ·exact zEy _ _ _ _ (fun _ _=>⟨by show(0:Int)≤0;omega,by show(0:Int)<4294967296;omega⟩) (fun p hp=>by have:=zAe _ p hp;omega) i hi
 ·exact⟨by show(0:Int)≤0;omega,by show(0:Int)<4294967296;omega⟩
theorem zB(s:ByteArray):Eng.VOk (nextV s):=⟨(zBp s 0 (by decide)).1,(zBp s 0 (by decide)).2,(zBp s 8 (by decide)).1,(zBp s 8 (by decide)).2⟩
theorem zJl(s:ByteArray):nextE s=0∨nextE s=4∨nextE s=5:=by
 unfold nextE;split
 ·exact .inr (.inl rfl)
 ·split
  ·exact .inr (.inr rfl)
  ·split
   ·exact .inr (.inl rfl)
   ·split
    ·exact .inl rfl
    ·exact .inr (.inr rfl)
theorem zD1(s:ByteArray)(h:nextE s≠4):1≤nextM s∧nextM s≤s.size:=by
 unfold nextE at h;unfold nextM;by_cases h0:s.size=0
 ·rw[if_pos h0]at h;exact absurd rfl h
 ·rw[if_neg h0]at h⊢;by_cases h1:bAt s 0=0
  ·rw[if_pos h1];omega
  ·rw[if_neg h1]at h⊢;by_cases h2:s.size<bAt s 0+1
   ·rw[if_pos h2]at h;exact absurd rfl h
   ·rw[if_neg h2];omega
def ba(l:List UInt8):ByteArray:=⟨l.toArray⟩
theorem zAf(l:List UInt8):(ba l).size=l.length:=by simp[ba,ByteArray.size]
namespace Eng
def cut(e:Eng):Eng:={ e with rest:=e.rest.drop (nextM (ba e.rest)).toNat }
def frame(e:Eng):Eng:=if nextE (ba e.rest)=5 then e.cut.reject 0 1 else e.cut.run (nextK (ba e.rest)) (nextV (ba e.rest))
def steps:Nat→Eng→Eng
 |0,e=>e
 |f+1,e=>if nextE (ba e.rest)=4 then e else steps f e.frame.follow
def begin_(e:Eng)(t:List UInt8):Eng:={ e with rest:=e.rest++t,out:=[] }
def apply(e:Eng)(t:List UInt8):Eng:=steps (e.rest.length+t.length) (e.begin_ t)
theorem cut_inv(h:EInv e):EInv e.cut:=h.cong rfl rfl rfl rfl rfl rfl
theorem frame_more(h:EInv e):EInv e.frame∧Keeps e.cut e.frame∧Grew 2010 1000 e e.frame:=by
 have hc:=cut_inv h;have hg:Grew 0 0 e e.cut:=by obtain⟨b1,b2,b3,b4,b5,b6,b7,b8,b9,b10⟩:=Grew.refl e;exact⟨b1,b2,b3,b4,b5,b6,b7,b8,b9,b10⟩
 unfold frame;split
 ·exact⟨hc.tell _ _ _ _ _ _,reject_keeps _ _ _,(hg.trans (Grew.tell _ _ _ _ _ _ _)).mono (by omega) (by omega)⟩
 ·obtain⟨h1,h2⟩:=run_more hc (nextK (ba e.rest)) (zB (ba e.rest));exact⟨run_inv hc _ (zB _),h1,(hg.trans h2).mono (by omega) (by omega)⟩
theorem step_more(h:EInv e):EInv e.frame.follow∧Keeps e.cut e.frame.follow∧Grew 2100 1000 e e.frame.follow:=by
 obtain⟨h1,h2,h3⟩:=frame_more h;obtain⟨h4,h5⟩:=follow_inv h1;exact⟨h4,h2.stays h5,(h3.trans (follow_grew h1)).mono (by omega) (by omega)⟩
theorem cut_len(e:Eng)(h:nextE (ba e.rest)≠4):e.cut.rest.length<e.rest.length:=by
 obtain⟨h1,h2⟩:=zD1 (ba e.rest) h;rw[zAf]at h2;show(e.rest.drop (nextM (ba e.rest)).toNat).length<_;rw[List.length_drop];omega
end Eng
end
section
namespace Eng
def PegOk(o:Ord):Prop:=o.status=1→o.typ=3→0<o.opn∧(o.price≠0→0<o.shown)
def Pegs(e:Eng):Prop:= ∀(i:Nat) (o:Ord),e.all[i]? =some o→PegOk o
theorem Pegs.upd(h:Pegs e)(i:Nat)(f:Ord→Ord)(hf: ∀o,e.all[i]? =some o→PegOk (f o)):Pegs (e.upd i f):=by
 intro j o ho;rw[upd_at]at ho;by_cases e1:i=j
 ·subst e1;rw[if_pos rfl]at ho;obtain⟨o',ho',rfl⟩:=Option.map_eq_some_iff.1 ho;exact hf o' ho'
 ·rw[if_neg e1]at ho;exact h j o ho
theorem Pegs.cong(h:Pegs e)(ha:e'.all=e.all):Pegs e':=fun i o ho=>h i o (ha▸ho)
theorem Pegs.lay(h:Pegs e)(i:Nat)(n:Int)(hn:0<n):Pegs (e.lay i n):=by
 unfold Eng.lay;have h1:Pegs ({ e with stamp:=e.stamp+1 }.upd i fun o=>{ o with stamp:=(e.stamp+1:Nat),shown:=n }):=Pegs.upd (e:={ e with stamp:=e.stamp+1 }) h i _ (fun o ho hs ht=>⟨(h i o ho hs ht).1,fun _=>hn⟩);split
 ·exact h1.cong rfl
 ·exact h1
theorem Pegs.trade(p:Pegs e)(h:EInv e){k:Nat}(ho:e.all[i]? =some o)(hs:o.status=1)(hsh:o.shown=0)(ht:o.typ≠3)(hm:e.mate i=some k):Pegs (e.trade i k):=by
 obtain⟨r,hr,hne,hop,hr1,hst,hr2,hmt,i1,et,i2,hi,_,_⟩:=trade_step h ho hs hsh hm;have kr:=h.ok k r hr;obtain⟨q1,q2,q3⟩:=qty_bd kr hop hr1;have hw:=kr.shn1;rw[et];have hoo: ∀x:Ord,x.typ=o.typ→PegOk x:=fun x hx _ h3=>absurd (hx▸h3) ht
 have hu:Pegs ((e.upd i fun _=>tradeO o r)):=p.upd i _ (fun x hx=>hoo _ rfl);have hk1:(e.trade1 i k o r).all[k]? =some (tradeR o r):=by rw[trade1_at,if_pos rfl,hr];rfl
 have hother: ∀(j:Nat) (x:Ord),k≠j→(e.trade1 i k o r).all[j]? =some x→PegOk x:=by
  intro j x hj hx;rw[trade1_at,if_neg hj]at hx;by_cases e1:i=j
  ·subst e1;rw[if_pos rfl,ho]at hx;obtain rfl:tradeO o r=x:=Option.some.inj hx;exact hoo _ rfl
  ·rw[if_neg e1]at hx;exact p j x hx
 unfold Eng.trade2;split
 ·intro j x hx;by_cases e1:k=j
  ·subst e1;rw[upd_same _ _ _ _ hk1]at hx;obtain rfl:=Option.some.inj hx;intro hs2;exact absurd hs2 (show¬(2:Int)=1 by decide)
  ·rw[upd_ne _ _ _ _ e1]at hx;exact hother j x e1 hx
 ·rename_i h0;split
  ·rename_i h1;have h2:r.typ=2:=Classical.byContradiction fun hc=>by
    rcases kr.whole hc with hw' |hw'
    ·exact hr1 hw'
    ·exact h0 (by have:r.shown - qtyOf o r=0:=h1;show r.opn - qtyOf o r=0;omega)
   intro j x hx;rw[lay_at]at hx;by_cases e1:k=j
   ·subst e1;rw[if_pos rfl]at hx;change (Option.map _ (e.trade1 i k o r).all[k]?)=_ at hx;rw[hk1]at hx;obtain rfl:=Option.some.inj hx;intro _ h3;exact absurd (h2.symm.trans h3) (by decide)
   ·rw[if_neg e1]at hx;exact hother j x e1 hx
  ·rename_i h1;intro j x hx;by_cases e1:k=j
   ·subst e1;rw[hk1]at hx;obtain rfl:=Option.some.inj hx;intro _ _;have a:r.opn - qtyOf o r≠0:=h0;have c:r.shown - qtyOf o r≠0:=h1;show 0<r.opn - qtyOf o r∧(r.price≠0→0<r.shown - qtyOf o r);omega
   ·exact hother j x e1 hx
theorem Pegs.trades: ∀(f:Nat) {e:Eng} {i:Nat} {o:Ord},Pegs e→EInv e→e.all[i]? =some o→o.status=1→o.shown=0→o.typ≠3→Pegs (Eng.trades f e i)
 |0,e,i,o,p,h,ho,hs,hsh,ht=>p
 |f+1,e,i,o,p,h,ho,hs,hsh,ht=>by
  unfold Eng.trades;split
  ·rename_i k hm;obtain⟨r,hr,hne,hop,hr1,hst,hr2,hmt,i1,et,i2,hi,_,_⟩:=trade_step h ho hs hsh hm;exact Pegs.trades f (p.trade h ho hs hsh ht hm) i2 hi hs hsh ht
  ·exact p
theorem Pegs.sweep(p:Pegs e)(h:EInv e)(ho:e.all[i]? =some o)(hs:o.status=1)(hsh:o.shown=0)(ht:o.typ≠3):Pegs (e.sweep i):=by
 obtain⟨o',h1,h2,h3,h4,h5,h6⟩:=trades_inv (e.opnOf i).toNat h ho hs hsh;have hp:=Pegs.trades (e.opnOf i).toNat p h ho hs hsh ht;rw[sweep_eq];unfold swept;rw[h1];have hu:Pegs ((Eng.trades (e.opnOf i).toNat e i).upd i fun o=>{ o with status:=2 }):=hp.upd i _ (fun x hx hq=>absurd hq (show¬(2:Int)=1 by decide));show Pegs (if _ then _ else _);split
 ·exact hu
 ·rename_i h0;exact hp.lay i _ (by have:=(atRest_bd (h2.ok i o' h1) h0).1;omega)
theorem Pegs.gone(p:Pegs e)(i:Nat)(reason:Int):Pegs (e.gone i reason):=by
 unfold Eng.gone;split
 ·exact(p.upd i (fun o=>{ o with cancelled:=o.opn,opn:=0,shown:=0,status:=3 }) (fun x hx hq=>absurd hq (show¬(3:Int)=1 by decide))).cong rfl
 ·exact p
theorem fold_pegs(f:Eng→Nat→Eng)(h1: ∀e i,Pegs e→Pegs (f e i)): ∀(l:List Nat) (e:Eng),Pegs e→Pegs (l.foldl f e)
 | [],e,h=>h
 |i::l,e,h=>fold_pegs f h1 l _ (h1 e i h)
theorem Pegs.due(p:Pegs e)(q:Ord→Bool)(reason:Int):Pegs (e.due q reason):=fold_pegs _ (fun e i h=>by
 rcases dueOne_at q reason e i with h1|⟨_,h1⟩<;>rw[h1]
 ·exact h
 ·exact h.gone i reason) _ e p
theorem Pegs.follow(p:Pegs e):Pegs e.follow:=fold_pegs _ (fun e i h=>by
 rcases followOne_at e i with h1|⟨o,ho,hs,ht,_,h1⟩
 ·rw[h1];exact h
 ·rcases h1 with⟨_,h1⟩|⟨_,h1⟩<;>rw[h1]
  ·exact(h.upd i (fun o=>{ o with price:=0,shown:=0 }) (fun x hx hq ht=>⟨(h i x hx hq ht).1,fun hc=>absurd rfl hc⟩)).cong rfl
  ·exact(Pegs.upd (e:={ e with stamp:=e.stamp+1 }) h i (fun o'=>{ o' with price:=e.target o,stamp:=(e.stamp+1:Nat),shown:=o'.opn }) (fun x hx hq ht=>⟨(h i x hx hq ht).1,fun _=>(h i x hx hq ht).1⟩)).cong rfl) _ e p
theorem why_zero(h:e.why v=0):(v 2=3→v 3=0)∧1≤v 4:=by
 unfold why at h;by_cases c1:v 0=0∨inn (v 1) 1 2=false∨inn (v 2) 1 3=false∨inn (v 7) 1 3=false
 ·rw[if_pos c1]at h;exact absurd h (by decide)
 rw[if_neg c1]at h;by_cases c2:(e.find (v 0)).isSome=true
 ·rw[if_pos c2]at h;exact absurd h (by decide)
 rw[if_neg c2]at h;by_cases h5:(if v 2=3 then v 3 == 0 else inn (v 3) 1 e.mp)=false
 ·rw[if_pos h5]at h;exact absurd h (by decide)
 rw[if_neg h5]at h;by_cases h6:inn (v 4) 1 e.mq=false∨(if v 2=2 then inn (v 5) 1 (v 4) else v 5 == 0)=false
 ·rw[if_pos h6]at h;exact absurd h (by decide)
 refine⟨fun h3=>?_,?_⟩
 ·rw[if_pos h3]at h5;simpa using h5
 ·have: ¬inn (v 4) 1 e.mq=false:=fun hc=>h6 (.inl hc)
  rw[inn_iff']at this;exact this.1
theorem Pegs.fresh(p:Pegs e)(h:EInv e)(hv:VOk v):Pegs (e.fresh v):=by
 rw[fresh_eq];split
 ·exact p.cong rfl
 ·rename_i hw;have hw:=Classical.byContradiction hw;obtain⟨w1,w2⟩:=why_zero hw;have hp:Pegs (e.enter v):=fun i o ho=>by
   rcases enter_at e v i o ho with⟨_,h1⟩|⟨_,h1⟩
   ·exact p i o h1
   ·subst h1;intro _ h3;exact⟨by show 0<v 4;omega,fun hc=>absurd (w1 h3) hc⟩
  split
  ·exact hp
  ·rename_i h3;obtain⟨i1,i2⟩:=enter_inv h hv hw;exact hp.sweep i1 i2 rfl rfl h3
theorem Pegs.replace(p:Pegs e)(h:EInv e)(v:Nat→Int):Pegs (e.replace v):=by
 rw[replace_eq];split
 ·exact p.cong rfl
 ·rename_i i hl;split
  ·exact p
  ·rename_i o ho;obtain⟨o',ho',hid,hs⟩:=liveAt_some hl;obtain rfl:o=o':=Option.some.inj (ho.symm.trans ho');by_cases h5:(if o.typ=3 then v 3 == 0 else inn (v 3) 1 e.mp)=false
   ·rw[if_pos h5];exact p.cong rfl
   rw[if_neg h5];by_cases h6:inn (v 4) (o.filled+1) e.mq=false
   ·rw[if_pos h6];exact p.cong rfl
   rw[if_neg h6];have k:=h.ok i o ho;have h6':=h6;rw[inn_iff']at h6;have hT:Pegs (e.repTell i o v):=(p.upd i (fun _=>repO o (v 4)) (fun x hx hq ht=>⟨by show 0<v 4 - o.filled;omega,fun hp=>(p i o ho hs ht).2 hp⟩)).cong rfl;have hat:(e.repTell i o v).all[i]? =some (repO o (v 4)):=upd_same e i _ o ho;unfold repEnd;by_cases hk:keepsPl o v=true
   ·rw[if_pos hk];refine hT.upd i _ (fun x hx hq ht=>?_);obtain rfl:repO o (v 4)=x:=Option.some.inj (hat.symm.trans hx);have h1:=(p i o ho hs ht).2;refine⟨by show 0<v 4 - o.filled;omega,fun hp=>?_⟩;have h2:=h1 hp;show 0<if v 4 - o.filled<o.shown then v 4 - o.filled else o.shown
    split<;>omega
   ·rw[if_neg hk];by_cases ht:o.typ≠3
    ·rw[if_pos ht];have hi:=rep_sw_inv h ho hs v ht ((Bool.not_eq_false _).mp h5) ((Bool.not_eq_false _).mp h6');refine Pegs.sweep (hT.upd i _ (fun x hx hq h3=>?_)) hi (upd_same _ i _ _ hat) hs rfl ht;obtain rfl:repO o (v 4)=x:=Option.some.inj (hat.symm.trans hx);exact absurd h3 ht
    ·rw[if_neg ht];by_cases hsh:0<o.shown
     ·rw[if_pos hsh];exact hT.lay i _ (by omega)
     ·rw[if_neg hsh];exact hT
theorem Pegs.run(p:Pegs e)(h:EInv e)(kind:Int)(hv:VOk v):Pegs (e.run kind v):=by
 unfold Eng.run;split
 ·exact p.fresh h hv
 split
 ·unfold Eng.cancel;split
  ·exact p.gone _ _
  ·exact p.cong rfl
 split
 ·exact p.replace h v
 split
 ·unfold Eng.tick;split
  ·exact p.cong rfl
  ·exact Pegs.due (e:={ e with now:=v 8 }) p _ _
 split
 ·exact p.due _ _
 ·exact p
end Eng
end
section
open Eng
def ShO(o:Ord):Prop:=o.status=1→o.typ≠3→0<o.shown
def OfO(o:Ord):Prop:=o.typ=3→(o.side=1→o.off≤0)∧(o.side=2→0≤o.off)
def restN(o:Ord):Prop:=o.typ≠3∧o.shown≠0
structure Fr(e:Eng):Prop where
 sh: ∀(i:Nat) (o:Ord),e.all[i]? =some o→ShO o
 of: ∀(i:Nat) (o:Ord),e.all[i]? =some o→OfO o
 nc: ∀(i j:Nat) (x y:Ord),e.all[i]? =some x→e.all[j]? =some y→restN x→restN y→x.side=1→y.side=2→x.price<y.price
structure FrX(n:Nat)(e:Eng):Prop where
 sh: ∀(i:Nat) (o:Ord),i≠n→e.all[i]? =some o→ShO o
 of: ∀(i:Nat) (o:Ord),e.all[i]? =some o→OfO o
 nc: ∀(i j:Nat) (x y:Ord),i≠n→j≠n→e.all[i]? =some x→e.all[j]? =some y→restN x→restN y→x.side=1→y.side=2→x.price<y.price
structure Sub(n:Nat)(e e':Eng):Prop where
 at': ∀(j:Nat) (y:Ord),e'.all[j]? =some y→∃x,e.all[j]? =some x∧y.side=x.side∧y.typ=x.typ∧y.off=x.off∧(j≠n→y.price=x.price∧(y.shown≠0→x.shown≠0)∧(ShO x→ShO y))
section
variable {e:Eng}
theorem Sub.refl(n:Nat)(e:Eng):Sub n e e:=⟨fun j y hy=>⟨y,hy,rfl,rfl,rfl,fun _=>⟨rfl,id,id⟩⟩⟩
theorem Sub.trans{n:Nat}{a b c:Eng}(h:Sub n a b)(k:Sub n b c):Sub n a c:=⟨fun j z hz=>by
 obtain⟨y,hy,b1,b2,b3,b4⟩:=k.at' j z hz;obtain⟨x,hx,a1,a2,a3,a4⟩:=h.at' j y hy;exact⟨x,hx,b1.trans a1,b2.trans a2,b3.trans a3,fun hj=>⟨(b4 hj).1.trans (a4 hj).1,fun q=>(a4 hj).2.1 ((b4 hj).2.1 q),fun q=>(b4 hj).2.2 ((a4 hj).2.2 q)⟩⟩⟩
theorem FrX.sub{n:Nat}(h:FrX n e)(s:Sub n e e'):FrX n e':=by
 refine⟨fun i o hi ho=>?_,fun i o ho=>?_,fun i j x y hi hj hx hy rx ry sx sy=>?_⟩
 ·obtain⟨x,hx,_,_,_,a4⟩:=s.at' i o ho;exact(a4 hi).2.2 (h.sh i x hi hx)
 ·obtain⟨x,hx,a1,a2,a3,_⟩:=s.at' i o ho;have:=h.of i x hx;unfold OfO at this⊢;rw[a1,a2,a3];exact this
 ·obtain⟨x',hx',a1,a2,a3,a4⟩:=s.at' i x hx;obtain⟨y',hy',b1,b2,b3,b4⟩:=s.at' j y hy;have:=h.nc i j x' y' hi hj hx' hy' ⟨a2▸rx.1,(a4 hi).2.1 rx.2⟩ ⟨b2▸ry.1,(b4 hj).2.1 ry.2⟩ (a1▸sx) (b1▸sy);rw[(a4 hi).1,(b4 hj).1];exact this
theorem Fr.x(h:Fr e)(n:Nat):FrX n e:=⟨fun i o _ ho=>h.sh i o ho,h.of,fun i j x y _ _=>h.nc i j x y⟩
theorem zJm(h:EInv e){k:Nat}(ho:e.all[i]? =some o)(hs:o.status=1)(hsh:o.shown=0)(hm:e.mate i=some k):Sub i e (e.trade i k):=by
 obtain⟨r,hr,hne,hop2,hrs,hst,hsd,hmt,i1,et,i2,hi,_⟩:=trade_step h ho hs hsh hm;have hk1:(e.trade1 i k o r).all[k]? =some (tradeR o r):=by rw[trade1_at,if_pos rfl,hr];rfl
 refine⟨fun j y hy=>?_⟩;by_cases q:j=k
 ·subst q;rw[et]at hy;have kr:=h.ok j r hr;have kR:=i1.ok j _ hk1;unfold Eng.trade2 at hy;by_cases h0:(tradeR o r).opn=0
  ·rw[if_pos h0,upd_same _ _ _ _ hk1]at hy;obtain rfl:=Option.some.inj hy;exact⟨r,hr,rfl,rfl,rfl,fun _=>⟨rfl,fun _=>hrs,fun _ c=>absurd c (by show¬(2:Int)=1;decide)⟩⟩
  ·rw[if_neg h0]at hy;by_cases h1:(tradeR o r).shown=0
   ·rw[if_pos h1]at hy;simp only at hy;rw[lay_at,if_pos rfl]at hy;have hr2:(e.trade1 i j o r).draw.2.all[j]? =some (tradeR o r):=hk1;rw[hr2]at hy;obtain rfl:=Option.some.inj hy;refine⟨r,hr,rfl,rfl,rfl,fun _=>⟨rfl,fun _=>hrs,fun _ _ ht=>?_⟩⟩;have hd:0≤(e.trade1 i j o r).draw.1:=by
     unfold Eng.draw;show 0≤(if(e.trade1 i j o r).draws.length=0 then(0:Int) else((e.trade1 i j o r).draws.getD ((e.trade1 i j o r).drawn % (e.trade1 i j o r).draws.length) 0) % 4294967296);split<;>omega
    have ht2:(tradeR o r).typ=2:=Classical.byContradiction fun hc=>by
     rcases kr.whole hc with w|w
     ·exact hrs w
     ·have e1:(tradeR o r).shown=r.shown - qtyOf o r:=rfl;have e2:(tradeR o r).opn=r.opn - qtyOf o r:=rfl;omega
    have:=next_bd kR hst h0 ht2 _ hd;show 0<(if(tradeR o r).opn<1+(e.trade1 i j o r).draw.1 % (tradeR o r).peak then(tradeR o r).opn else 1+(e.trade1 i j o r).draw.1 % (tradeR o r).peak);omega
   ·rw[if_neg h1,hk1]at hy;obtain rfl:=Option.some.inj hy;refine⟨r,hr,rfl,rfl,rfl,fun _=>⟨rfl,fun _=>hrs,fun _ _ _=>?_⟩⟩;have:=kR.shn0;omega
 ·by_cases q2:j=i
  ·subst q2;rw[hi]at hy;obtain rfl:=Option.some.inj hy;exact⟨o,ho,rfl,rfl,rfl,fun c=>absurd rfl c⟩
  ·rw[et,trade2_ne _ _ _ _ (fun c=>q c.symm),trade1_at,if_neg (fun c=>q c.symm),if_neg (fun c=>q2 c.symm)]at hy;exact⟨y,hy,rfl,rfl,rfl,fun _=>⟨rfl,id,id⟩⟩
theorem zEz: ∀(f:Nat) {e:Eng} {i:Nat} {o:Ord},EInv e→e.all[i]? =some o→o.status=1→o.shown=0→Sub i e (trades f e i)
 |0,e,i,o,h,ho,hs,hsh=>Sub.refl i e
 |f+1,e,i,o,h,ho,hs,hsh=>by
  unfold Eng.trades;cases hm:e.mate i with
  |none=>exact Sub.refl i e
  |some k=>
   obtain⟨r,hr,hne,hop2,hrs,hst,hsd,hmt,i1,et,i2,hi,_⟩:=trade_step h ho hs hsh hm;exact(zJm h ho hs hsh hm).trans (zEz f i2 hi hs hsh)
theorem zF: ∀(f:Nat) {e:Eng} {i:Nat} {o:Ord},EInv e→e.all[i]? =some o→o.status=1→o.shown=0→o.opn.toNat≤f→(trades f e i).mate i=none
 |0,e,i,o,h,ho,hs,hsh,hf=>by
  show e.mate i=none;unfold Eng.mate;rw[ho];simp only;rw[if_neg (by omega)]
 |f+1,e,i,o,h,ho,hs,hsh,hf=>by
  unfold Eng.trades;cases hm:e.mate i with
  |none=>exact hm
  |some k=>
   obtain⟨r,hr,hne,hop2,hrs,hst,hsd,hmt,i1,et,i2,hi,h1,h2⟩:=trade_step h ho hs hsh hm;exact zF f i2 hi hs hsh (by omega)
theorem zJn(h:EInv e)(ho:e.all[i]? =some o)(hp:0<o.opn)(hm:e.mate i=none): ∀(j:Nat) (y:Ord),e.all[j]? =some y→rests (3 - o.side) y=true→meets o y.price=false:=by
 intro j y hy hr;unfold Eng.mate at hm;rw[ho]at hm;simp only at hm;rw[if_pos hp]at hm;have ko:=h.ok i o ho;cases q:e.first (3 - o.side) with
 |none=>
  have hn:=firstTo_none q j y (List.getElem?_eq_some_iff.1 hy).1 hy;rw[hn]at hr;cases hr
 |some b=>
  rw[q]at hm;obtain⟨_,x,hx,hrx⟩:=firstTo_some q;simp only[hx]at hm;have hmx:meets o x.price=false:=by
   cases w:meets o x.price with
   |false=>rfl
   |true=>rw[w]at hm;simp at hm
  by_cases hjb:j=b
  ·subst hjb;obtain rfl:x=y:=Option.some.inj (hx.symm.trans hy);exact hmx
  ·have hb:=firstTo_best h.apart q x hx j y (List.getElem?_eq_some_iff.1 hy).1 hjb hy hr;unfold Eng.ahead at hb;unfold meets at hmx⊢;rcases ko.side with s|s
   ·rw[if_pos s]at hmx⊢;rw[s]at hb;simp at hb hmx⊢;omega
   ·rw[if_neg (by omega)]at hmx⊢;rw[s]at hb;simp at hb hmx⊢;omega
end
section
variable {e:Eng}
theorem Fr.cong(h:Fr e)(ha:e'.all=e.all):Fr e':=⟨fun i o ho=>h.sh i o (ha▸ho),fun i o ho=>h.of i o (ha▸ho),fun i j x y hx hy=>h.nc i j x y (ha▸hx) (ha▸hy)⟩
theorem Fr.upd(h:Fr e)(f:Ord→Ord)(hf: ∀o,e.all[i]? =some o→(f o).side=o.side∧(f o).typ=o.typ∧(f o).off=o.off∧ShO (f o)∧(restN (f o)→restN o∧(f o).price=o.price)):Fr (e.upd i f):=by
 have key: ∀(j:Nat) (y:Ord),(e.upd i f).all[j]? =some y→∃x,e.all[j]? =some x∧y.side=x.side∧y.typ=x.typ∧y.off=x.off∧ShO y∧(restN y→restN x∧y.price=x.price):=by
  intro j y hy;rw[upd_at]at hy;by_cases q:i=j
  ·subst q;rw[if_pos rfl]at hy;obtain⟨x,hx,rfl⟩:=Option.map_eq_some_iff.1 hy;obtain⟨a,b,c,d,g⟩:=hf x hx;exact⟨x,hx,a,b,c,d,g⟩
  ·rw[if_neg q]at hy;exact⟨y,hy,rfl,rfl,rfl,h.sh j y hy,fun r=>⟨r,rfl⟩⟩
 refine⟨fun j y hy=>?_,fun j y hy=>?_,fun j k x y hx hy rx ry sx sy=>?_⟩
 ·obtain⟨x,_,_,_,_,d,_⟩:=key j y hy;exact d
 ·obtain⟨x,hx,a,b,c,_,_⟩:=key j y hy;have:=h.of j x hx;unfold OfO at this⊢;rw[a,b,c];exact this
 ·obtain⟨x',hx',a,_,_,_,g⟩:=key j x hx;obtain⟨y',hy',a2,_,_,_,g2⟩:=key k y hy;have:=h.nc j k x' y' hx' hy' (g rx).1 (g2 ry).1 (a▸sx) (a2▸sy);rw[(g rx).2,(g2 ry).2];exact this
theorem Fr.gone(h:Fr e)(reason:Int):Fr (e.gone i reason):=by
 unfold Eng.gone;cases ho:e.all[i]? with
 |none=>exact h
 |some o=>exact(h.upd (i:=i) (fun o=>{ o with cancelled:=o.opn,opn:=0,shown:=0,status:=3 }) (fun x _=>⟨rfl,rfl,rfl,fun c=>absurd c (by show¬(3:Int)=1;decide),fun c=>absurd rfl c.2⟩)).cong rfl
theorem zD2(f:Eng→Nat→Eng)(h1: ∀e i,Fr e→Fr (f e i)): ∀(l:List Nat) (e:Eng),Fr e→Fr (l.foldl f e)
 | [],e,h=>h
 |i::l,e,h=>zD2 f h1 l (f e i) (h1 e i h)
theorem zF0(h:Fr e)(p:Ord→Bool)(reason:Int):Fr (e.due p reason):=zD2 _ (fun e i h=>by
 rcases dueOne_at p reason e i with q|⟨_,q⟩
 ·rw[q];exact h
 ·rw[q];exact h.gone reason) _ e h
theorem zJo(h:Fr e):Fr e.follow:=zD2 _ (fun e i h=>by
 rcases followOne_at e i with q|⟨o,ho,hs,ht,hne,⟨h0,q⟩|⟨h0,q⟩⟩
 ·rw[q];exact h
 ·rw[q];exact(h.upd (i:=i) (fun o=>{ o with price:=0,shown:=0 }) (fun x hx=>by
   obtain rfl:o=x:=Option.some.inj (ho.symm.trans hx);exact⟨rfl,rfl,rfl,fun _ c=>absurd ht c,fun c=>absurd ht c.1⟩)).cong rfl
 ·rw[q];exact(h.upd (i:=i) (fun x=>{ x with price:=e.target o,stamp:=(e.stamp+1:Nat),shown:=x.opn }) (fun x hx=>by
   obtain rfl:o=x:=Option.some.inj (ho.symm.trans hx);exact⟨rfl,rfl,rfl,fun _ c=>absurd ht c,fun c=>absurd ht c.1⟩)).cong rfl) _ e h
theorem zF1(h:EInv e)(hx:FrX i e)(ho:e.all[i]? =some o)(hs:o.status=1)(hsh:o.shown=0)(ht:o.typ≠3):Fr (e.sweep i):=by
 obtain⟨o',ho',i2,hs',hsh',hk,_⟩:=trades_inv (e.opnOf i).toNat h ho hs hsh;have hf:o.opn.toNat≤(e.opnOf i).toNat:=by unfold Eng.opnOf;rw[ho];exact Nat.le_refl _
 have hd:=zF (e.opnOf i).toNat h ho hs hsh hf;have fx:=hx.sub (zEz (e.opnOf i).toNat h ho hs hsh);rw[sweep_eq];unfold Eng.swept;simp only[ho'];have ko:=i2.ok i o' ho';by_cases h0:o'.opn=0
 ·rw[if_pos h0];have key: ∀(j:Nat) (y:Ord),((trades (e.opnOf i).toNat e i).upd i fun o=>{ o with status:=2 }).all[j]? =some y→(j=i∧y={ o' with status:=2 })∨(j≠i∧(trades (e.opnOf i).toNat e i).all[j]? =some y):=by
   intro j y hy;by_cases q:i=j
   ·subst q;rw[upd_same _ _ _ _ ho']at hy;exact .inl ⟨rfl,(Option.some.inj hy).symm⟩
   ·rw[upd_ne _ _ _ _ q]at hy;exact .inr ⟨fun c=>q c.symm,hy⟩
  refine⟨fun j y hy=>?_,fun j y hy=>?_,fun j k x y hx hy rx ry sx sy=>?_⟩
  ·rcases key j y hy with⟨_,rfl⟩|⟨q,w⟩
   ·exact fun c=>absurd c (by show¬(2:Int)=1;decide)
   ·exact fx.sh j y q w
  ·rcases key j y hy with⟨_,rfl⟩|⟨q,w⟩
   ·exact fx.of i o' ho'
   ·exact fx.of j y w
  ·rcases key j x hx with⟨_,rfl⟩|⟨q,w⟩
   ·exact absurd hsh' rx.2
   ·rcases key k y hy with⟨_,rfl⟩|⟨q2,w2⟩
    ·exact absurd hsh' ry.2
    ·exact fx.nc j k x y q q2 w w2 rx ry sx sy
 ·rw[if_neg h0];have hp:0<o'.opn:=by have:=ko.opn0;omega
  have hb:=atRest_bd ko h0;have hmn:=zJn i2 ho' hp hd;have hty:o'.typ≠3:=by rw[hk.typ];exact ht
  have key: ∀(j:Nat) (y:Ord),((trades (e.opnOf i).toNat e i).lay i (atRest o')).all[j]? =some y→(j=i∧y={ o' with stamp:=((trades (e.opnOf i).toNat e i).stamp+1:Nat),shown:=atRest o' })∨(j≠i∧(trades (e.opnOf i).toNat e i).all[j]? =some y):=by
   intro j y hy;rw[lay_at]at hy;by_cases q:i=j
   ·subst q;rw[if_pos rfl,ho']at hy;exact .inl ⟨rfl,(Option.some.inj hy).symm⟩
   ·rw[if_neg q]at hy;exact .inr ⟨fun c=>q c.symm,hy⟩
  refine⟨fun j y hy=>?_,fun j y hy=>?_,fun j k x y hx hy rx ry sx sy=>?_⟩
  ·rcases key j y hy with⟨_,rfl⟩|⟨q,w⟩
   ·exact fun _ _=>by show 0<atRest o';omega
   ·exact fx.sh j y q w
  ·rcases key j y hy with⟨_,rfl⟩|⟨q,w⟩
   ·exact fx.of i o' ho'
   ·exact fx.of j y w
  ·rcases key j x hx with⟨q1,rfl⟩|⟨q,w⟩
   ·rcases key k y hy with⟨_,rfl⟩|⟨q2,w2⟩
    ·have a:o'.side=1:=sx;have b:o'.side=2:=sy;omega
    ·have a:o'.side=1:=sx;have:=hmn k y w2 (by unfold Eng.rests;rw[a,sy];simp[ry.2]);unfold meets at this;rw[if_pos a]at this;show o'.price<y.price;simp at this;omega
   ·rcases key k y hy with⟨_,rfl⟩|⟨q2,w2⟩
    ·have b:o'.side=2:=sy;have:=hmn j x w (by unfold Eng.rests;rw[b,sx];simp[rx.2]);unfold meets at this;rw[if_neg (by omega)]at this;show x.price<o'.price;simp at this;omega
    ·exact fx.nc j k x y q q2 w w2 rx ry sx sy
theorem zJp(h:e.why v=0)(h3:v 2=3):(v 1=1→v 6≤0)∧(v 1=2→0≤v 6):=by
 unfold Eng.why at h;by_cases c1:v 0=0∨inn (v 1) 1 2=false∨inn (v 2) 1 3=false∨inn (v 7) 1 3=false
 ·rw[if_pos c1]at h;exact absurd h (by decide)
 rw[if_neg c1]at h;by_cases c2:(e.find (v 0)).isSome
 ·rw[if_pos c2]at h;exact absurd h (by decide)
 rw[if_neg c2]at h;by_cases c3:(if v 2=3 then v 3 == 0 else inn (v 3) 1 e.mp)=false
 ·rw[if_pos c3]at h;exact absurd h (by decide)
 rw[if_neg c3]at h;by_cases c4:inn (v 4) 1 e.mq=false∨(if v 2=2 then inn (v 5) 1 (v 4) else v 5 == 0)=false
 ·rw[if_pos c4]at h;exact absurd h (by decide)
 rw[if_neg c4]at h;by_cases c5:(if v 2=3 then(if v 1=1 then inn (v 6) (-e.mp) 0 else inn (v 6) 0 e.mp) else v 6 == 0)=false
 ·rw[if_pos c5]at h;exact absurd h (by decide)
 rw[if_pos h3]at c5;by_cases q:v 1=1
 ·rw[if_pos q,inn_iff']at c5;exact⟨fun _=>c5.2,fun c=>by omega⟩
 ·rw[if_neg q,inn_iff']at c5;exact⟨fun c=>absurd c q,fun _=>c5.1⟩
theorem zJq(h:EInv e)(hf:Fr e)(hv:VOk v):Fr (e.fresh v):=by
 rw[fresh_eq];by_cases hw:e.why v=0
 ·rw[if_neg (by omega)];obtain⟨i1,hn⟩:=enter_inv h hv hw;have hof:OfO (newOrd v):=fun c=>zJp hw c
  have fx:FrX e.all.length (e.enter v):=by
   refine⟨fun i o hi ho=>?_,fun i o ho=>?_,fun i j x y hi hj hx hy=>?_⟩
   ·rcases enter_at e v i o ho with⟨_,q⟩|⟨q,_⟩
    ·exact hf.sh i o q
    ·exact absurd q hi
   ·rcases enter_at e v i o ho with⟨_,q⟩|⟨_,q⟩
    ·exact hf.of i o q
    ·rw[q];exact hof
   ·rcases enter_at e v i x hx with⟨_,q⟩|⟨q,_⟩
    ·rcases enter_at e v j y hy with⟨_,q2⟩|⟨q2,_⟩
     ·exact hf.nc i j x y q q2
     ·exact absurd q2 hj
    ·exact absurd q hi
  by_cases h3:v 2=3
  ·rw[if_pos h3];refine⟨fun i o ho=>?_,fx.of,fun i j x y hx hy rx ry=>?_⟩
   ·rcases enter_at e v i o ho with⟨_,q⟩|⟨_,q⟩
    ·exact hf.sh i o q
    ·rw[q];exact fun _ c=>absurd h3 c
   ·rcases enter_at e v i x hx with⟨_,q⟩|⟨_,q⟩
    ·rcases enter_at e v j y hy with⟨_,q2⟩|⟨_,q2⟩
     ·exact hf.nc i j x y q q2 rx ry
     ·rw[q2]at ry;exact absurd rfl ry.2
    ·rw[q]at rx;exact absurd rfl rx.2
  ·rw[if_neg h3];exact zF1 i1 fx hn rfl rfl h3
 ·rw[if_pos hw];exact hf.cong rfl
theorem zJr(id:Int)(hf:Fr e):Fr (e.cancel id):=by
 unfold Eng.cancel;cases q:e.liveAt id with
 |none=>exact hf.cong rfl
 |some i=>exact hf.gone 1
theorem zJs(h:EInv e)(hf:Fr e)(ho:e.all[i]? =some o)(hs:o.status=1)(v:Nat→Int)(h5:(if o.typ=3 then v 3 == 0 else inn (v 3) 1 e.mp)=true)(h6:inn (v 4) (o.filled+1) e.mq=true):Fr (e.repEnd i o v):=by
 have h6':=h6;rw[inn_iff]at h6;unfold Eng.repEnd;by_cases hk:keepsPl o v=true
 ·rw[if_pos hk];have hu:(e.repTell i o v).upd i (fun o=>{ o with shown:=if o.opn<o.shown then o.opn else o.shown })=(e.upd i fun _=>{ repO o (v 4) with shown:=if(repO o (v 4)).opn<(repO o (v 4)).shown then(repO o (v 4)).opn else(repO o (v 4)).shown }).tell 5 (v 0) 0 (v 3) (v 4) (if keepsPl o v then 1 else 0):=by
   unfold Eng.repTell;rw[tell_upd,upd_upd]
  rw[hu];refine(hf.upd (i:=i) (fun _=>{ repO o (v 4) with shown:=if(repO o (v 4)).opn<(repO o (v 4)).shown then(repO o (v 4)).opn else(repO o (v 4)).shown }) (fun x hx=>?_)).cong rfl;obtain rfl:o=x:=Option.some.inj (ho.symm.trans hx);refine⟨rfl,rfl,rfl,fun a b=>?_,fun c=>⟨⟨c.1,fun z=>?_⟩,rfl⟩⟩
  ·have:=hf.sh i o ho a b;show 0<(if v 4 - o.filled<o.shown then v 4 - o.filled else o.shown);split<;>omega
  ·refine c.2 ?_;show(if v 4 - o.filled<o.shown then v 4 - o.filled else o.shown)=0;rw[if_neg (by omega)];exact z
 ·rw[if_neg hk];by_cases ht:o.typ=3
  ·rw[if_neg (by intro c;exact c ht)];have f1:Fr (e.repTell i o v):=(hf.upd (i:=i) (fun _=>repO o (v 4)) (fun x hx=>by
    obtain rfl:o=x:=Option.some.inj (ho.symm.trans hx);exact⟨rfl,rfl,rfl,fun _ c=>absurd ht c,fun c=>absurd ht c.1⟩)).cong rfl
   by_cases hz:0<o.shown
   ·rw[if_pos hz];have ha:(e.repTell i o v).all[i]? =some (repO o (v 4)):=upd_same e i (fun _=>repO o (v 4)) o ho;have e1:(e.repTell i o v).lay i (v 4 - o.filled)=({ (e.repTell i o v) with stamp:=(e.repTell i o v).stamp+1 }.upd i fun x=>{ x with stamp:=((e.repTell i o v).stamp+1:Nat),shown:=v 4 - o.filled }).tell 6 (repO o (v 4)).id 0 (repO o (v 4)).price (v 4 - o.filled) 0:=by unfold Eng.lay;rw[ha]
    rw[e1];refine(Fr.upd (e:={ (e.repTell i o v) with stamp:=(e.repTell i o v).stamp+1 }) (i:=i) (f1.cong rfl) (fun x=>{ x with stamp:=((e.repTell i o v).stamp+1:Nat),shown:=v 4 - o.filled }) (fun x hx=>?_)).cong rfl;obtain rfl:repO o (v 4)=x:=Option.some.inj (ha.symm.trans hx);exact⟨rfl,rfl,rfl,fun _ c=>absurd ht c,fun c=>absurd ht c.1⟩
   ·rw[if_neg hz];exact f1
  ·rw[if_pos ht];have hu:(e.repTell i o v).upd i (fun o=>{ o with price:=v 3,shown:=0 })=(e.upd i fun _=>{ repO o (v 4) with price:=v 3,shown:=0 }).tell 5 (v 0) 0 (v 3) (v 4) (if keepsPl o v then 1 else 0):=by
    unfold Eng.repTell;rw[tell_upd,upd_upd]
   have i1:=rep_sw_inv h ho hs v ht h5 h6';have ha:((e.repTell i o v).upd i fun o=>{ o with price:=v 3,shown:=0 }).all[i]? =some { repO o (v 4) with price:=v 3,shown:=0 }:=by
    rw[hu];exact upd_same e i (fun _=>{ repO o (v 4) with price:=v 3,shown:=0 }) o ho
   have fx:FrX i ((e.repTell i o v).upd i fun o=>{ o with price:=v 3,shown:=0 }):=by
    rw[hu];refine(hf.x i).sub ⟨fun j y hy=>?_⟩;have hy':(e.upd i fun _=>{ repO o (v 4) with price:=v 3,shown:=0 }).all[j]? =some y:=hy;by_cases q:i=j
    ·subst q;rw[upd_same _ _ _ _ ho]at hy';obtain rfl:=Option.some.inj hy';exact⟨o,ho,rfl,rfl,rfl,fun c=>absurd rfl c⟩
    ·rw[upd_ne _ _ _ _ q]at hy';exact⟨y,hy',rfl,rfl,rfl,fun _=>⟨rfl,id,id⟩⟩
   exact zF1 i1 fx ha hs rfl ht
theorem zJt(kind:Int)(h:EInv e)(hf:Fr e)(hv:VOk v):Fr (e.run kind v):=by
 unfold Eng.run;split
 ·exact zJq h hf hv
 split
 ·exact zJr _ hf
 split
 ·rw[replace_eq];cases q:e.liveAt (v 0) with
  |none=>exact hf.cong rfl
  |some i=>
   obtain⟨o,ho,hid,hs⟩:=liveAt_some q;simp only[ho];by_cases h5:(if o.typ=3 then v 3 == 0 else inn (v 3) 1 e.mp)=false
   ·rw[if_pos h5];exact hf.cong rfl
   ·rw[if_neg h5];by_cases h6:inn (v 4) (o.filled+1) e.mq=false
    ·rw[if_pos h6];exact hf.cong rfl
    ·rw[if_neg h6];exact zJs h hf ho hs v (Bool.not_eq_false _▸h5) (Bool.not_eq_false _▸h6)
 split
 ·unfold Eng.tick;split
  ·exact hf.cong rfl
  ·exact zF0 (e:={ e with now:=v 8 }) (hf.cong rfl) _ _
 split
 ·exact zF0 hf _ _
 ·exact hf
end
end
end Go.Proofs.YtanfmhonjpjpoaaGreatDoor
