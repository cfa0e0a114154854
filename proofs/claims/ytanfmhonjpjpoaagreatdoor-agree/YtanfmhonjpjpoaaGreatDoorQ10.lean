import Derived.Test.YtanfmhonjpjpoaaGreatDoorQ00
import Derived.Test.YtanfmhonjpjpoaaGreatDoorQ03
import Derived.Test.YtanfmhonjpjpoaaGreatDoorQ09
import Derived.Laws.DeepStrings4
set_option linter.all false
set_option maxRecDepth 100000
set_option maxHeartbeats 8000000
namespace Go.Proofs.YtanfmhonjpjpoaaGreatDoor
variable{e:Eng}{i:Nat}{o:Ord}{v:Nat→Int}{w w':World}{r:Rcd}
section
open Go.Extern Go.RowKit
def bAt(s:ByteArray)(i:Nat):Nat:=(s.data.toList.getD i 0).toNat
theorem zAs(s:ByteArray)(i:Nat):bAt s i<256:=UInt8.toNat_lt _
def upd(v:Nat→Int)(i:Nat)(x:Int):Nat→Int:=fun j=>if j=i then x else v j
def rd(t:List UInt8)(at_:Nat)(p:Nat×Nat):Int:=if p.1=6∧2147483648≤val ((t.drop at_).take p.2) then val ((t.drop at_).take p.2) - 4294967296 else val ((t.drop at_).take p.2)
def reads(t:List UInt8):Nat→List (Nat×Nat)→(Nat→Int)→(Nat→Int)
 |_,[],v=>v
 |a,p::l,v=>reads t (a+p.2) l (upd v p.1 (rd t a p))
def wsum(l:List (Nat×Nat)):Nat:=(l.map (·.2)).sum
theorem zFo(l:List (Nat×Nat)):(wsum l:Int)=fsum l:=by
 induction l with
 |nil=>rfl
 |cons a l ih=>simp only[wsum,fsum,List.map_cons,List.sum_cons]at ih⊢;omega
theorem zFp(l:List (Nat×Nat))(p:Nat×Nat):wsum (l++ [p])=wsum l+p.2:=by simp[wsum]
theorem zFq(t:List UInt8)(l:List (Nat×Nat))(p:Nat×Nat): ∀(a:Nat) (v:Nat→Int),reads t a (l++ [p]) v=upd (reads t a l v) p.1 (rd t (a+wsum l) p):=by
 induction l with
 |nil=>intro a v;rfl
 |cons q l ih=>
  intro a v;rw[List.cons_append,reads,ih,reads];simp only[wsum,List.map_cons,List.sum_cons,Nat.add_assoc]
theorem zKn(l m:List (Nat×Nat)):wsum (l++m)=wsum l+wsum m:=by simp[wsum]
theorem zFr(l:List (Nat×Nat))(k:Nat):wsum (l.take k)≤wsum l:=by
 have h2:=zKn (l.take k) (l.drop k);rw[List.take_append_drop]at h2;omega
def okDec(s:ByteArray):Bool:=decide (1≤bAt s 1) && decide (bAt s 1≤5) && decide (2+wsum (terms (bAt s 1))=bAt s 0+1)
theorem zDn(s:ByteArray):okDec s=true↔1≤bAt s 1∧bAt s 1≤5∧2+wsum (terms (bAt s 1))=bAt s 0+1:=by simp[okDec,and_assoc]
def nextE(s:ByteArray):Int:=if s.size=0 then 4 else if bAt s 0=0 then 5 else if s.size<bAt s 0+1 then 4 else if okDec s=true then 0 else 5
def nextM(s:ByteArray):Int:=if s.size=0 then 0 else if bAt s 0=0 then 1 else if s.size<bAt s 0+1 then 0 else(bAt s 0:Int)+1
def nextK(s:ByteArray):Int:=if nextE s=0 then bAt s 1 else 0
def nextV(s:ByteArray):Nat→Int:=if nextE s=0 then reads s.data.toList 2 (terms (bAt s 1)) (fun _=>0) else fun _=>0
theorem zAm(s:ByteArray)(i:Nat)(h:i<s.size):s[i].toNat=bAt s i:=by
 unfold bAt;have:i<s.data.toList.length:=by simpa using h
 rw[List.getD_eq_getElem?_getD,List.getElem?_eq_getElem this];rfl
theorem zKo(s:ByteArray)(A n:Nat)(w:World)(h:A+n≤s.size):
 (Instr.slice 9 (.string s) (sI (A:Int)) (sI ((A:Int)+(n:Int))) none).run Tryz.prog w=.ok (.string (s.extract A (A+n))) w:=by
 rw[run_slice_string_if w 9 s .i64 .i64 (A:Int) ((A:Int)+(n:Int)) Tryz.underlying9,if_pos (by omega),if_pos (by omega)];rw[show((A:Int)+(n:Int)).toNat=A+n by omega,Int.toNat_natCast]
theorem zKp(s:ByteArray)(A n:Nat)(h:A+n≤s.size):(s.extract A (A+n)).data.toList=(s.data.toList.drop A).take n:=by
 rw[ByteArray.data_extract,Array.toList_extract,List.extract_eq_take_drop];rw[show A+n - A=n by omega]
theorem zKq(s:ByteArray)(A n:Nat)(h:A+n≤s.size):(s.extract A (A+n)).size=n:=by
 rw[ByteArray.size_extract];omega
theorem zCl{C o:Nat}(h:w.grownBy w' (some C))(v:Value):w.grownBy (w'.setCell (iA C o) v) (some C):=
 ⟨h.os,h.tape,h.output,by simpa [World.setCell] using h.size,fun k hk hne=>(Below.heap_setCell _ _ _ k (by intro e;exact hne (by rw[e]))).trans (h.block k hk hne)⟩
theorem zB2{C B:Nat}(h:w.grownBy w' (some C))(hB:B≤C)(hs:B≤w.heap.size):Below B w w':=⟨h.os,h.tape,h.output,h.size,fun k hk=>h.block k (by omega) (by intro e;injection e with e;omega)⟩
theorem keep10{B:Nat}(h:Below B w w')(x0 x1 x2 x3 x4 x5 x6 x7 x8 x9:Value):Below B w ((((((((((w'.setCell (iA B 0) x0).setCell (iA B 1) x1).setCell (iA B 2) x2).setCell (iA B 3) x3).setCell (iA B 4) x4).setCell (iA B 5) x5).setCell (iA B 6) x6).setCell (iA B 7) x7).setCell (iA B 8) x8).setCell (iA B 9) x9):=
 (((((((((h.setCell (Nat.le_refl B) x0).setCell (Nat.le_refl B) x1).setCell (Nat.le_refl B) x2).setCell (Nat.le_refl B) x3).setCell (Nat.le_refl B) x4).setCell (Nat.le_refl B) x5).setCell (Nat.le_refl B) x6).setCell (Nat.le_refl B) x7).setCell (Nat.le_refl B) x8).setCell (Nat.le_refl B) x9
theorem zFs(t:List UInt8)(A pa pb:Nat)(h: ¬(pa=6∧2147483648≤val ((t.drop A).take pb))):rd t A (pa,pb)=val ((t.drop A).take pb):=by unfold rd;rw[if_neg h]
theorem zFt(t:List UInt8)(A pb:Nat)(h:2147483648≤val ((t.drop A).take pb)):rd t A (6,pb)=val ((t.drop A).take pb) - 4294967296:=by unfold rd;rw[if_pos ⟨rfl,h⟩]
theorem zKr(s:ByteArray)(w:World)(h:s.size=0):
 Cl 56 #[.string s] w fun e w'=>e=rV #[cmdV 0 (fun _=>0),iV 0,iV 4]∧Below w.heap.size w w':=by
 obtain rfl:s=⟨#[]⟩:=by
  apply ByteArray.ext;exact Array.eq_empty_of_size_eq_zero h
 go_enter Tryz.func56,Tryz.ntmps56;go_wp2;refine bodyPost_ret (v:=.tuple #[cmdV 0 (fun _=>0),iV 0,iV 4]) (by simp[results,Tryz.results56,go_sem]) rfl ⟨rfl,?_⟩;repeat(first|exact Below.refl _ _|refine Below.setCell ?_ (by simp<;>omega) _|refine Below.drew ?_|refine zA1 ?_ _)
theorem zDo(s:ByteArray)(h:0<s.size):s.toList.isEmpty=false:=by
 rw[ByteArray.toList_eq];cases e:s.data.toList with
 |nil=>exact absurd (by rw[ByteArray.size,←Array.length_toList,e];rfl) (Nat.ne_of_gt h)
 |cons a l=>rfl
theorem zKs(s:ByteArray)(w:World)(h:0<s.size)(h0:bAt s 0=0):
 Cl 56 #[.string s] w fun e w'=>e=rV #[cmdV 0 (fun _=>0),iV 1,iV 5]∧Below w.heap.size w w':=by
 have hne:=zDo s h;have hb:=zAm s 0 h;rw[h0]at hb;go_enter Tryz.func56,Tryz.ntmps56;go_wp2;refine bodyPost_ret (v:=.tuple #[cmdV 0 (fun _=>0),iV 1,iV 5]) (by simp[results,Tryz.results56,go_sem]) rfl ⟨rfl,?_⟩;repeat(first|exact Below.refl _ _|refine Below.setCell ?_ (by simp<;>omega) _|refine Below.drew ?_|refine zA1 ?_ _)
theorem zKt(s:ByteArray)(w:World)(h:0<s.size)(h0:bAt s 0≠0)(h1:s.size<bAt s 0+1):
 Cl 56 #[.string s] w fun e w'=>e=rV #[cmdV 0 (fun _=>0),iV 0,iV 4]∧Below w.heap.size w w':=by
 have hne:=zDo s h;have hb:=zAm s 0 h;have hlt:=zAs s 0;generalize bAt s 0=n at *;have hwn:wrap64 ((n:Nat):Int)=n:=by unfold wrap64;omega
 have hz:((n:Int) == 0)=false:=beq_eq_false_iff_ne.2 (by omega);go_enter Tryz.func56,Tryz.ntmps56;go_wp2;refine bodyPost_ret (v:=.tuple #[cmdV 0 (fun _=>0),iV 0,iV 4]) (by simp[results,Tryz.results56,go_sem]) rfl ⟨rfl,?_⟩;repeat(first|exact Below.refl _ _|refine Below.setCell ?_ (by simp<;>omega) _|refine Below.drew ?_|refine zA1 ?_ _)
theorem zFu(s:ByteArray)(h:0<s.size)(h0:bAt s 0≠0)(h1:bAt s 0+1≤s.size)(hb: ¬(1≤bAt s 1∧bAt s 1≤5∧2+wsum (terms (bAt s 1))=bAt s 0+1)):
 nextK s=0∧nextV s=(fun _=>0)∧nextM s=(bAt s 0:Int)+1∧nextE s=5:=by
 have hf: ¬okDec s=true:=fun e=>hb ((zDn s).1 e)
 have e:nextE s=5:=by
  unfold nextE;rw[if_neg (by omega),if_neg h0,if_neg (by omega),if_neg hf]
 refine⟨by unfold nextK;rw[e];rfl,by unfold nextV;rw[e];rfl,?_,e⟩;unfold nextM;rw[if_neg (by omega),if_neg h0,if_neg (by omega)]
theorem zFv(s:ByteArray)(h:0<s.size)(h0:bAt s 0≠0)(h1:bAt s 0+1≤s.size)(hb:1≤bAt s 1∧bAt s 1≤5∧2+wsum (terms (bAt s 1))=bAt s 0+1):
 nextK s=bAt s 1∧nextV s=reads s.data.toList 2 (terms (bAt s 1)) (fun _=>0)∧nextM s=(bAt s 0:Int)+1∧nextE s=0:=by
 have e:nextE s=0:=by
  unfold nextE;rw[if_neg (by omega),if_neg h0,if_neg (by omega),if_pos ((zDn s).2 hb)]
 refine⟨by unfold nextK;rw[e];rfl,by unfold nextV;rw[e];rfl,?_,e⟩;unfold nextM;rw[if_neg (by omega),if_neg h0,if_neg (by omega)]
theorem zKu(s:ByteArray)(w:World)(h:0<s.size)(h0:bAt s 0≠0)(h1:bAt s 0+1≤s.size)(hm:s.size≤1000000000):
 Cl 56 #[.string s] w fun e w'=>e=rV #[cmdV (nextK s) (nextV s),iV (nextM s),iV (nextE s)]∧Below w.heap.size w w':=by
 have hne:=zDo s h;have hb:=zAm s 0 h;have hs1:1<s.size:=by omega
 have hb1:=zAm s 1 hs1;have hlt:=zAs s 0;have hlt1:=zAs s 1;have HBAD:Hid (¬(1≤bAt s 1∧bAt s 1≤5∧2+wsum (terms (bAt s 1))=bAt s 0+1)→nextK s=0∧nextV s=(fun _=>0)∧nextM s=(bAt s 0:Int)+1∧nextE s=5):=zFu s h h0 h1;have HGOOD:Hid (1≤bAt s 1∧bAt s 1≤5∧2+wsum (terms (bAt s 1))=bAt s 0+1→nextK s=bAt s 1∧nextV s=reads s.data.toList 2 (terms (bAt s 1)) (fun _=>0)∧nextM s=(bAt s 0:Int)+1∧nextE s=0):=zFv s h h0 h1;generalize bAt s 0=n at *;generalize bAt s 1=kd at *;have hwn:wrap64 ((n:Nat):Int)=n:=by unfold wrap64;omega
 have hwk:wrap64 ((kd:Nat):Int)=kd:=by unfold wrap64;omega
 have hz:((n:Int) == 0)=false:=beq_eq_false_iff_ne.2 (by omega);go_enter Tryz.func56,Tryz.ntmps56;go_wp2_with fail;refine(zF6 (kd:Int) _).mono ?_;rintro e w2 ⟨a,b,rfl,hia,hib,hb2,hfa,hfb⟩;have hs2:w.heap.size+1<w2.heap.size:=by have:=hb2.size;simp at this;omega
 have HB2:Hid (Bw w w2):=(((Below.refl _ _).alloc (Nat.le_refl _) _).alloc (by simp) _).trans (hb2.mono (by simp;omega));have hk0:cI w2 (w.heap.size+1) 0 (kd:Int):=(hb2.cell (p:=(iA (w.heap.size+1) 0)) (by simp)).trans (by simp);have HC0:Hid (∀j,j<9→cI w2 (w.heap.size+1) (1+j) 0):=fun j hj=>(hb2.cell (p:=(iA (w.heap.size+1) (1+j))) (by simp)).trans (by
  have h:j=0∨j=1∨j=2∨j=3∨j=4∨j=5∨j=6∨j=7∨j=8:=by omega
  rcases h with rfl|rfl|rfl|rfl|rfl|rfl|rfl|rfl|rfl<;>simp)
 have HF0:Hid (∀j,w2.frozen? (iA (w.heap.size+1) j)=false):=fun j=>(hb2.frozen (p:=(iA (w.heap.size+1) j)) (by simp)).trans (by simp)
 have HR0:Hid (∀j,j<10→cI w2 w.heap.size j 0):=fun j hj=>(hb2.cell (p:=(iA w.heap.size j)) (by simp;omega)).trans (by
  have h:j=0∨j=1∨j=2∨j=3∨j=4∨j=5∨j=6∨j=7∨j=8∨j=9:=by omega
  rcases h with rfl|rfl|rfl|rfl|rfl|rfl|rfl|rfl|rfl|rfl<;>simp)
 have HG0:Hid (∀j,w2.frozen? (iA w.heap.size j)=false):=fun j=>(hb2.frozen (p:=(iA w.heap.size j)) (by simp;omega)).trans (by simp)
 have hlen:(whichs (kd:Int)).length=(terms (kd:Int)).length:=by simp[whichs]
 have hlen':(widths (kd:Int)).length=(terms (kd:Int)).length:=by simp[widths]
 have hn9:=zBs (kd:Int);rcases hia with⟨rfl,hnil⟩|⟨ba,rfl,hne',hca⟩
 ·have ht:terms (kd:Int)= []:=by simpa [whichs] using hnil
  have hkd:kd<1∨5≤kd:=by
   rcases Nat.lt_or_ge kd 1 with q|q
   ·exact .inl q
   ·rcases Nat.lt_or_ge kd 5 with q2|q2
    ·exfalso;have h4:kd=1∨kd=2∨kd=3∨kd=4:=by omega
     rcases h4 with rfl|rfl|rfl|rfl<;>exact absurd ht (by decide)
    ·exact .inr q2
  have hgr:w2.grownBy w2 (some (w.heap.size+1)):=⟨rfl,rfl,rfl,Nat.le_refl _,fun _ _ _=>rfl⟩;have hw0:wsum (terms (kd:Int))=0:=by rw[ht];rfl
  have HV0:Hid (reads s.data.toList 2 (terms (kd:Int)) (fun _=>0)=fun _=>0):=by show _=_;rw[ht];rfl
  have hr0:=hgr.cell (HR0.out 0 (by omega)) (by simp);have hg0:=(World.frozen?_of_block (a:=(iA w.heap.size 0)) (hgr.block w.heap.size (by omega) (by simp))).trans (HG0.out 0);have hr1:=hgr.cell (HR0.out 1 (by omega)) (by simp);have hg1:=(World.frozen?_of_block (a:=(iA w.heap.size 1)) (hgr.block w.heap.size (by omega) (by simp))).trans (HG0.out 1);have hr2:=hgr.cell (HR0.out 2 (by omega)) (by simp);have hg2:=(World.frozen?_of_block (a:=(iA w.heap.size 2)) (hgr.block w.heap.size (by omega) (by simp))).trans (HG0.out 2);have hr3:=hgr.cell (HR0.out 3 (by omega)) (by simp);have hg3:=(World.frozen?_of_block (a:=(iA w.heap.size 3)) (hgr.block w.heap.size (by omega) (by simp))).trans (HG0.out 3);have hr4:=hgr.cell (HR0.out 4 (by omega)) (by simp);have hg4:=(World.frozen?_of_block (a:=(iA w.heap.size 4)) (hgr.block w.heap.size (by omega) (by simp))).trans (HG0.out 4)
  have hr5:=hgr.cell (HR0.out 5 (by omega)) (by simp);have hg5:=(World.frozen?_of_block (a:=(iA w.heap.size 5)) (hgr.block w.heap.size (by omega) (by simp))).trans (HG0.out 5);have hr6:=hgr.cell (HR0.out 6 (by omega)) (by simp);have hg6:=(World.frozen?_of_block (a:=(iA w.heap.size 6)) (hgr.block w.heap.size (by omega) (by simp))).trans (HG0.out 6);have hr7:=hgr.cell (HR0.out 7 (by omega)) (by simp);have hg7:=(World.frozen?_of_block (a:=(iA w.heap.size 7)) (hgr.block w.heap.size (by omega) (by simp))).trans (HG0.out 7);have hr8:=hgr.cell (HR0.out 8 (by omega)) (by simp);have hg8:=(World.frozen?_of_block (a:=(iA w.heap.size 8)) (hgr.block w.heap.size (by omega) (by simp))).trans (HG0.out 8);have hr9:=hgr.cell (HR0.out 9 (by omega)) (by simp);have hg9:=(World.frozen?_of_block (a:=(iA w.heap.size 9)) (hgr.block w.heap.size (by omega) (by simp))).trans (HG0.out 9)
  have hv0:=HC0.out 0 (by omega);have hv1:=HC0.out 1 (by omega);have hv2:=HC0.out 2 (by omega);have hv3:=HC0.out 3 (by omega);have hv4:=HC0.out 4 (by omega);have hv5:=HC0.out 5 (by omega);have hv6:=HC0.out 6 (by omega);have hv7:=HC0.out 7 (by omega);have hv8:=HC0.out 8 (by omega);by_cases hn1:n=1
  ·subst hn1;by_cases hk5:kd=5
   ·subst hk5;have HO:Hid (nextK s=((5:Nat):Int)∧nextV s=(fun _=>0)∧nextM s=((1:Nat):Int)+1∧nextE s=0):=by
     have:=HGOOD.out ⟨by omega,by omega,by rw[hw0]⟩;exact⟨this.1,this.2.1.trans HV0.out,this.2.2⟩
    go_wp2_with fail;refine wp_loop_rounds 1 ?_;rw[rounds_succ];go_wp2;refine bodyPost_ret (v:=.tuple #[cmdV 5 (fun _=>0),iV 2,iV 0]) (by simp[results,Tryz.results56,go_sem,hr0,hr1,hr2,hr3,hr4,hr5,hr6,hr7,hr8,hr9]) rfl ⟨by rw[HO.1,HO.2.1,HO.2.2.1,HO.2.2.2];rfl,?_⟩;refine HB2.trans ?_;exact keep10 (zB2 hgr (by omega) (by omega)) _ _ _ _ _ _ _ _ _ _
   ·have HO:Hid (nextK s=0∧nextV s=(fun _=>0)∧nextM s=((1:Nat):Int)+1∧nextE s=5):=HBAD.out (by omega);have hkI:(kd:Int)<1∨5<(kd:Int):=by omega
    rcases hkI with hkI|hkI;all_goals
     go_wp2_with fail;refine wp_loop_rounds 1 ?_;rw[rounds_succ];go_wp2;refine bodyPost_ret (v:=.tuple #[cmdV 0 (fun _=>0),iV 2,iV 5]) (by simp[results,Tryz.results56,go_sem,hr0,hr1,hr2,hr3,hr4,hr5,hr6,hr7,hr8,hr9]) rfl ⟨by rw[HO.1,HO.2.1,HO.2.2.1,HO.2.2.2];rfl,?_⟩;refine HB2.trans ?_;exact keep10 (zB2 hgr (by omega) (by omega)) _ _ _ _ _ _ _ _ _ _
  ·have HO:Hid (nextK s=0∧nextV s=(fun _=>0)∧nextM s=(n:Int)+1∧nextE s=5):=HBAD.out (by omega);have hq:((2:Int) != (n:Int)+1)=true:=by rw[bne_iff_ne];omega
   go_wp2_with fail;refine wp_loop_rounds 1 ?_;rw[rounds_succ];go_wp2;refine bodyPost_ret (v:=.tuple #[cmdV 0 (fun _=>0),iV ((n:Int)+1),iV 5]) (by simp[results,Tryz.results56,go_sem,hr0,hr1,hr2,hr3,hr4,hr5,hr6,hr7,hr8,hr9]) rfl ⟨by rw[HO.1,HO.2.1,HO.2.2.1,HO.2.2.2],?_⟩;refine HB2.trans ?_;exact keep10 (zB2 hgr (by omega) (by omega)) _ _ _ _ _ _ _ _ _ _
 ·rcases hib with⟨rfl,hnil⟩|⟨bb,rfl,-,hcb⟩
  ·exact absurd (by have:terms (kd:Int)= []:=by simpa [widths] using hnil
                    simp[whichs,this]) hne'
  rw[hlen,hlen'];have HA:Hid (∀i (h:i<(whichs (kd:Int)).length),cI w2 ba i ((whichs (kd:Int))[i])):=hca;have HBB:Hid (∀i (h:i<(widths (kd:Int)).length),cI w2 bb i ((widths (kd:Int))[i])):=hcb;have HL:Hid ((whichs (kd:Int)).length=(terms (kd:Int)).length):=hlen;have HL':Hid ((widths (kd:Int)).length=(terms (kd:Int)).length):=hlen';generalize hN:(terms (kd:Int)).length=L at *;have HN:Hid ((terms (kd:Int)).length=L):=hN;have HK0:Hid (0<L):=by
   show 0<L;rcases Nat.eq_zero_or_pos L with h0' |h0'
   ·exact absurd (by rw[←List.length_eq_zero_iff,HL.out,h0']) hne'
   ·exact h0'
  have hbaC:ba≠w.heap.size+1:=by have:=hfa ba 0 _ _ rfl;simp at this;omega
  have hbbC:bb≠w.heap.size+1:=by have:=hfb bb 0 _ _ rfl;simp at this;omega
  go_wp2_with fail;go_loopw [9,10] (fun at_ i wr=> ∃k:Nat,k≤L∧i=iV k∧at_=iV ((2+wsum ((terms (kd:Int)).take k):Nat):Int)∧2+wsum ((terms (kd:Int)).take k)≤n+1∧w2.grownBy wr (some (w.heap.size+1))∧
   cI wr (w.heap.size+1) 0 (kd:Int)∧(∀j,j<9→cI wr (w.heap.size+1) (1+j) (reads s.data.toList 2 ((terms (kd:Int)).take k) (fun _=>0) j))∧(∀j,wr.frozen? (iA (w.heap.size+1) j)=false)) (fun _ i _=>L - (intOf i).toNat)
  case atStart=>exact⟨0,Nat.zero_le _,rfl,rfl,by simp[wsum];omega,⟨rfl,rfl,rfl,Nat.le_refl _,fun _ _ _=>rfl⟩,hk0,HC0.out,HF0.out⟩
  case round=>
   obtain⟨k,hkL,rfl,rfl,hat,hgr,hck,hcv,hfz⟩:=hrel;have HCV:Hid (∀j,j<9→cI wr (w.heap.size+1) (1+j) (reads s.data.toList 2 ((terms (kd:Int)).take k) (fun _=>0) j)):=hcv;have HFZ:Hid (∀j,wr.frozen? (iA (w.heap.size+1) j)=false):=hfz;by_cases hlt:k<L
   ·have hkt:k<(terms (kd:Int)).length:=by rw[HN.out];exact hlt
    have hok:=zAh (kd:Int) _ (List.getElem_mem hkt);have hws:wsum ((terms (kd:Int)).take (k+1))=wsum ((terms (kd:Int)).take k)+(terms (kd:Int))[k].2:=by
     rw[List.take_succ_eq_append_getElem hkt,zFp]
    have hrd:reads s.data.toList 2 ((terms (kd:Int)).take (k+1)) (fun _=>0)=upd (reads s.data.toList 2 ((terms (kd:Int)).take k) (fun _=>0)) (terms (kd:Int))[k].1 (rd s.data.toList (2+wsum ((terms (kd:Int)).take k)) (terms (kd:Int))[k]):=by
     rw[List.take_succ_eq_append_getElem hkt,zFq]
    have hca:=hgr.cell (HA.out k (by rw[HL.out];exact hlt)) (by simpa using hbaC);have hcb:=hgr.cell (HBB.out k (by rw[HL'.out];exact hlt)) (by simpa using hbbC);have htl:=zFr (terms (kd:Int)) (k+1);simp only[whichs,widths,List.getElem_map]at hca hcb;generalize hp:(terms (kd:Int))[k]=p at *;obtain⟨pa,pb⟩:=p;obtain⟨hp1,hp2,hp3⟩:=hok;simp only at hp1 hp2 hp3 hca hcb hws hrd;have hcx:=HCV.out pa hp1;have hfx:=HFZ.out (1+pa);have HRD:Hid (reads s.data.toList 2 ((terms (kd:Int)).take (k+1)) (fun _=>0)=upd (reads s.data.toList 2 ((terms (kd:Int)).take k) (fun _=>0)) pa (rd s.data.toList (2+wsum ((terms (kd:Int)).take k)) (pa,pb))):=hrd;have HWS:Hid (wsum ((terms (kd:Int)).take (k+1))=wsum ((terms (kd:Int)).take k)+pb):=hws;generalize hat':2+wsum ((terms (kd:Int)).take k)=A at *;have HAT:Hid (2+wsum ((terms (kd:Int)).take k)=A):=hat';have hpz:(0:Int)≤(pa:Int)∧(pa:Int)<9:=by omega
    by_cases hover:n+1<A+pb
    ·have HO:Hid (nextK s=0∧nextV s=(fun _=>0)∧nextM s=(n:Int)+1∧nextE s=5):=HBAD.out (by
      intro hc;have h3:=hc.2.2;have h4:=HWS.out;have h5:=HAT.out;omega)
     have hr0:=hgr.cell (HR0.out 0 (by omega)) (by simp);have hg0:=(World.frozen?_of_block (a:=(iA w.heap.size 0)) (hgr.block w.heap.size (by omega) (by simp))).trans (HG0.out 0);have hr1:=hgr.cell (HR0.out 1 (by omega)) (by simp);have hg1:=(World.frozen?_of_block (a:=(iA w.heap.size 1)) (hgr.block w.heap.size (by omega) (by simp))).trans (HG0.out 1);have hr2:=hgr.cell (HR0.out 2 (by omega)) (by simp);have hg2:=(World.frozen?_of_block (a:=(iA w.heap.size 2)) (hgr.block w.heap.size (by omega) (by simp))).trans (HG0.out 2);have hr3:=hgr.cell (HR0.out 3 (by omega)) (by simp);have hg3:=(World.frozen?_of_block (a:=(iA w.heap.size 3)) (hgr.block w.heap.size (by omega) (by simp))).trans (HG0.out 3);have hr4:=hgr.cell (HR0.out 4 (by omega)) (by simp);have hg4:=(World.frozen?_of_block (a:=(iA w.heap.size 4)) (hgr.block w.heap.size (by omega) (by simp))).trans (HG0.out 4)
     have hr5:=hgr.cell (HR0.out 5 (by omega)) (by simp);have hg5:=(World.frozen?_of_block (a:=(iA w.heap.size 5)) (hgr.block w.heap.size (by omega) (by simp))).trans (HG0.out 5);have hr6:=hgr.cell (HR0.out 6 (by omega)) (by simp);have hg6:=(World.frozen?_of_block (a:=(iA w.heap.size 6)) (hgr.block w.heap.size (by omega) (by simp))).trans (HG0.out 6);have hr7:=hgr.cell (HR0.out 7 (by omega)) (by simp);have hg7:=(World.frozen?_of_block (a:=(iA w.heap.size 7)) (hgr.block w.heap.size (by omega) (by simp))).trans (HG0.out 7);have hr8:=hgr.cell (HR0.out 8 (by omega)) (by simp);have hg8:=(World.frozen?_of_block (a:=(iA w.heap.size 8)) (hgr.block w.heap.size (by omega) (by simp))).trans (HG0.out 8);have hr9:=hgr.cell (HR0.out 9 (by omega)) (by simp);have hg9:=(World.frozen?_of_block (a:=(iA w.heap.size 9)) (hgr.block w.heap.size (by omega) (by simp))).trans (HG0.out 9);go_wp2
     refine bodyPost_ret (v:=.tuple #[cmdV 0 (fun _=>0),iV ((n:Int)+1),iV 5]) (by simp[results,Tryz.results56,go_sem,hr0,hr1,hr2,hr3,hr4,hr5,hr6,hr7,hr8,hr9]) rfl ⟨by rw[HO.1,HO.2.1,HO.2.2.1,HO.2.2.2],?_⟩;refine HB2.trans ?_;exact keep10 (zB2 hgr (by omega) (by omega)) _ _ _ _ _ _ _ _ _ _
    ·have hsl:A+pb≤s.size:=by omega
     have hcut:=zKo s A pb wr hsl;have hcd:=zKp s A pb hsl;have hcs:=zKq s A pb hsl;have hvn:=zBb ((s.data.toList.drop A).take pb);have hvl:=zBc ((s.data.toList.drop A).take pb) (Nat.le_trans (List.length_take_le _ _) (by omega));go_wp2_with fail;refine(zJx (s.extract A (A+pb)) _ (by rw[hcs];omega)).mono ?_;rintro e w' ⟨rfl,rfl⟩;rw[hcd];have HNX:Hid (∀x:Int,rd s.data.toList A (pa,pb)=x→∀j,j<9→(w'.setCell (iA (w.heap.size+1) (1+pa)) (iV x)).cell? (iA (w.heap.size+1) (1+j))=sI (reads s.data.toList 2 ((terms (kd:Int)).take (k+1)) (fun _=>0) j)):=fun x hx j hj=>by
      rw[HRD.out,hx];unfold upd;by_cases hjp:j=pa
      ·subst hjp;rw[if_pos rfl];exact World.cell?_setCell_same _ _ _ hcx
      ·rw[if_neg hjp,World.cell?_setCell_other _ _ _ _ (by intro e;injection e with e1 e2;omega)];exact HCV.out j hj
     have HCK:Hid (∀x:Value,(w'.setCell (iA (w.heap.size+1) (1+pa)) x).cell? (iA (w.heap.size+1) 0)=sI (kd:Int)):=fun x=>by
      rw[World.cell?_setCell_other _ _ _ _ (by intro e;injection e with e1 e2;omega)];exact hck
     have HFK:Hid (∀(x:Value) (j:Nat),(w'.setCell (iA (w.heap.size+1) (1+pa)) x).frozen? (iA (w.heap.size+1) j)=false):=fun x j=>by
      rw[World.frozen?_setCell];exact HFZ.out j
     have hcb': ∀x:Value,(w'.setCell (iA (w.heap.size+1) (1+pa)) x).cell? (iA bb k)=sI (pb:Int):=fun x=>by
      rw[World.cell?_setCell_other _ _ _ _ (by intro e;injection e with e1 e2;omega)];exact hcb
     have HP:=zFs s.data.toList A pa pb;have HPN:=zFt s.data.toList A pb;have HP':Hid (¬(pa=6∧2147483648≤val ((s.data.toList.drop A).take pb))→rd s.data.toList A (pa,pb)=val ((s.data.toList.drop A).take pb)):=HP;have HPN':Hid (2147483648≤val ((s.data.toList.drop A).take pb)→rd s.data.toList A (6,pb)=val ((s.data.toList.drop A).take pb) - 4294967296):=HPN;generalize val ((s.data.toList.drop A).take pb)=x at *;by_cases h6:pa=6
     ·subst h6;have h4:pb=4:=hp3 rfl;subst h4;by_cases hbig:2147483648≤x
      ·go_wp2;go_roundw
       case rel=>exact⟨k+1,by omega,by go_num,zAr (by have:=HAT.out;rw[HWS.out];omega),by have:=HAT.out;rw[HWS.out];omega,zCl hgr _,HCK.out _,HNX.out _ (HPN'.out hbig),HFK.out _⟩
       case measure=>simp[intOf];omega
      ·go_wp2;go_roundw
       case rel=>exact⟨k+1,by omega,by go_num,zAr (by have:=HAT.out;rw[HWS.out];omega),by have:=HAT.out;rw[HWS.out];omega,zCl hgr _,HCK.out _,HNX.out _ (HP'.out (by omega)),HFK.out _⟩
       case measure=>simp[intOf];omega
     ·have g6:((pa:Int) == 6)=false:=beq_eq_false_iff_ne.2 (by omega);go_wp2;go_roundw
      case rel=>exact⟨k+1,by omega,by go_num,zAr (by have:=HAT.out;rw[HWS.out];omega),by have:=HAT.out;rw[HWS.out];omega,zCl hgr _,HCK.out _,HNX.out _ (HP'.out (by omega)),HFK.out _⟩
      case measure=>simp[intOf];omega
   ·have hkL':k=L:=by omega
    subst hkL';have htk:(terms (kd:Int)).take k=terms (kd:Int):=List.take_of_length_le (by rw[HN.out];omega);rw[htk]at hat;have HCV2:Hid (∀j,j<9→cI wr (w.heap.size+1) (1+j) (reads s.data.toList 2 (terms (kd:Int)) (fun _=>0) j)):=by
     have:=HCV.out;rw[htk]at this;exact this
    rw[htk];have hkd:1≤kd∧kd≤4:=by
     have h1:=HN.out;have h2:0<k:=HK0.out;unfold terms at h1;split at h1
     ·omega
     split at h1
     ·omega
     split at h1
     ·omega
     split at h1
     ·omega
     ·simp at h1;omega
    have hr0:=hgr.cell (HR0.out 0 (by omega)) (by simp);have hg0:=(World.frozen?_of_block (a:=(iA w.heap.size 0)) (hgr.block w.heap.size (by omega) (by simp))).trans (HG0.out 0);have hr1:=hgr.cell (HR0.out 1 (by omega)) (by simp);have hg1:=(World.frozen?_of_block (a:=(iA w.heap.size 1)) (hgr.block w.heap.size (by omega) (by simp))).trans (HG0.out 1);have hr2:=hgr.cell (HR0.out 2 (by omega)) (by simp);have hg2:=(World.frozen?_of_block (a:=(iA w.heap.size 2)) (hgr.block w.heap.size (by omega) (by simp))).trans (HG0.out 2);have hr3:=hgr.cell (HR0.out 3 (by omega)) (by simp);have hg3:=(World.frozen?_of_block (a:=(iA w.heap.size 3)) (hgr.block w.heap.size (by omega) (by simp))).trans (HG0.out 3);have hr4:=hgr.cell (HR0.out 4 (by omega)) (by simp);have hg4:=(World.frozen?_of_block (a:=(iA w.heap.size 4)) (hgr.block w.heap.size (by omega) (by simp))).trans (HG0.out 4)
    have hr5:=hgr.cell (HR0.out 5 (by omega)) (by simp);have hg5:=(World.frozen?_of_block (a:=(iA w.heap.size 5)) (hgr.block w.heap.size (by omega) (by simp))).trans (HG0.out 5);have hr6:=hgr.cell (HR0.out 6 (by omega)) (by simp);have hg6:=(World.frozen?_of_block (a:=(iA w.heap.size 6)) (hgr.block w.heap.size (by omega) (by simp))).trans (HG0.out 6);have hr7:=hgr.cell (HR0.out 7 (by omega)) (by simp);have hg7:=(World.frozen?_of_block (a:=(iA w.heap.size 7)) (hgr.block w.heap.size (by omega) (by simp))).trans (HG0.out 7);have hr8:=hgr.cell (HR0.out 8 (by omega)) (by simp);have hg8:=(World.frozen?_of_block (a:=(iA w.heap.size 8)) (hgr.block w.heap.size (by omega) (by simp))).trans (HG0.out 8);have hr9:=hgr.cell (HR0.out 9 (by omega)) (by simp);have hg9:=(World.frozen?_of_block (a:=(iA w.heap.size 9)) (hgr.block w.heap.size (by omega) (by simp))).trans (HG0.out 9)
    have hkI1:(1:Int)≤(kd:Int):=by omega
    have hkI2:(kd:Int)≤5:=by omega
    by_cases heq:2+wsum (terms (kd:Int))=n+1
    ·have HO:=HGOOD.out ⟨by omega,by omega,heq⟩;have HO':Hid (nextK s=kd∧nextV s=reads s.data.toList 2 (terms (kd:Int)) (fun _=>0)∧nextM s=(n:Int)+1∧nextE s=0):=HO;have hv0:=HCV2.out 0 (by omega);have hv1:=HCV2.out 1 (by omega);have hv2:=HCV2.out 2 (by omega);have hv3:=HCV2.out 3 (by omega);have hv4:=HCV2.out 4 (by omega);have hv5:=HCV2.out 5 (by omega);have hv6:=HCV2.out 6 (by omega);have hv7:=HCV2.out 7 (by omega);have hv8:=HCV2.out 8 (by omega);rw[heq];have hq:(((n+1:Nat):Int) != (n:Int)+1)=false:=by simp
     generalize reads s.data.toList 2 (terms (kd:Int)) (fun _=>0)=V at *;go_wp2;refine bodyPost_ret (v:=.tuple #[cmdV (kd:Int) V,iV ((n:Int)+1),iV 0]) (by simp[results,Tryz.results56,go_sem,hr0,hr1,hr2,hr3,hr4,hr5,hr6,hr7,hr8,hr9]) rfl ⟨by rw[HO'.1,HO'.2.1,HO'.2.2.1,HO'.2.2.2],?_⟩;refine HB2.trans ?_;exact keep10 (zB2 hgr (by omega) (by omega)) _ _ _ _ _ _ _ _ _ _
    ·have HO:Hid (nextK s=0∧nextV s=(fun _=>0)∧nextM s=(n:Int)+1∧nextE s=5):=HBAD.out (fun hc=>heq hc.2.2);generalize 2+wsum (terms (kd:Int))=A at *;have hq:((A:Int) != (n:Int)+1)=true:=by rw[bne_iff_ne];omega
     go_wp2;refine bodyPost_ret (v:=.tuple #[cmdV 0 (fun _=>0),iV ((n:Int)+1),iV 5]) (by simp[results,Tryz.results56,go_sem,hr0,hr1,hr2,hr3,hr4,hr5,hr6,hr7,hr8,hr9]) rfl ⟨by rw[HO.1,HO.2.1,HO.2.2.1,HO.2.2.2],?_⟩;refine HB2.trans ?_;exact keep10 (zB2 hgr (by omega) (by omega)) _ _ _ _ _ _ _ _ _ _
theorem zSn(s:ByteArray)(w:World)(hm:s.size≤1000000000):
 Cl 56 #[.string s] w fun e w'=>e=rV #[cmdV (nextK s) (nextV s),iV (nextM s),iV (nextE s)]∧Below w.heap.size w w':=by
 by_cases h:s.size=0
 ·have e:nextE s=4:=by unfold nextE;rw[if_pos h]
  have e1:nextK s=0:=by unfold nextK;rw[e];rfl
  have e2:nextV s=fun _=>0:=by unfold nextV;rw[e];rfl
  have e3:nextM s=0:=by unfold nextM;rw[if_pos h]
  rw[e,e1,e2,e3];exact zKr s w h
 by_cases h0:bAt s 0=0
 ·have e:nextE s=5:=by unfold nextE;rw[if_neg h,if_pos h0]
  have e1:nextK s=0:=by unfold nextK;rw[e];rfl
  have e2:nextV s=fun _=>0:=by unfold nextV;rw[e];rfl
  have e3:nextM s=1:=by unfold nextM;rw[if_neg h,if_pos h0]
  rw[e,e1,e2,e3];exact zKs s w (by omega) h0
 by_cases h1:s.size<bAt s 0+1
 ·have e:nextE s=4:=by unfold nextE;rw[if_neg h,if_neg h0,if_pos h1]
  have e1:nextK s=0:=by unfold nextK;rw[e];rfl
  have e2:nextV s=fun _=>0:=by unfold nextV;rw[e];rfl
  have e3:nextM s=0:=by unfold nextM;rw[if_neg h,if_neg h0,if_pos h1]
  rw[e,e1,e2,e3];exact zKt s w (by omega) h0 h1
 ·exact zKu s w (by omega) h0 (by omega) hm
end
section
open Go
theorem zFw(t:List UInt8): ∀(l:List (Nat×Nat)) (a:Nat) (v:Nat→Int),(∀i,i≠6→0≤v i∧v i<4294967296)→(∀p∈l,p.2≤4)→∀i,i≠6→0≤reads t a l v i∧reads t a l v i<4294967296
 | [],a,v,hv,_,i,hi=>hv i hi
 |p::l,a,v,hv,hl,i,hi=>by
  refine zFw t l (a+p.2) _ (fun j hj=>?_) (fun q hq=>hl q (List.mem_cons_of_mem _ hq)) i hi;unfold upd;split
  ·rename_i hjp;have hp:=hl p (List.mem_cons_self ..);have h0:=zBb ((t.drop a).take p.2);have h1:=zBc ((t.drop a).take p.2) (by rw[List.length_take];omega);unfold rd;rw[if_neg (fun hc=>hj (hjp▸hc.1))];exact⟨h0,h1⟩
  ·exact hv j hj
theorem zC2(s:ByteArray)(i:Nat)(hi:i≠6):0≤nextV s i∧nextV s i<4294967296:=by
 unfold nextV;split
 ·exact zFw _ _ _ _ (fun _ _=>⟨by show(0:Int)≤0;omega,by show(0:Int)<4294967296;omega⟩) (fun p hp=>by have:=zAh _ p hp;omega) i hi
 ·exact⟨by show(0:Int)≤0;omega,by show(0:Int)<4294967296;omega⟩
theorem zAn(s:ByteArray):Eng.VOk (nextV s):=⟨(zC2 s 0 (by decide)).1,(zC2 s 0 (by decide)).2,(zC2 s 8 (by decide)).1,(zC2 s 8 (by decide)).2⟩
theorem zKv(s:ByteArray):nextE s=0∨nextE s=4∨nextE s=5:=by
 unfold nextE;split
 ·exact .inr (.inl rfl)
 ·split
  ·exact .inr (.inr rfl)
  ·split
   ·exact .inr (.inl rfl)
   ·split
    ·exact .inl rfl
    ·exact .inr (.inr rfl)
theorem zDp(s:ByteArray)(h:nextE s≠4):1≤nextM s∧nextM s≤s.size:=by
 unfold nextE at h;unfold nextM;by_cases h0:s.size=0
 ·rw[if_pos h0]at h;exact absurd rfl h
 ·rw[if_neg h0]at h⊢;by_cases h1:bAt s 0=0
  ·rw[if_pos h1];omega
  ·rw[if_neg h1]at h⊢;by_cases h2:s.size<bAt s 0+1
   ·rw[if_pos h2]at h;exact absurd rfl h
   ·rw[if_neg h2];omega
def ba(l:List UInt8):ByteArray:=⟨l.toArray⟩
theorem zA3(l:List UInt8):(ba l).size=l.length:=by simp[ba,ByteArray.size]
namespace Eng
def cut(e:Eng):Eng:={ e with rest:=e.rest.drop (nextM (ba e.rest)).toNat }
def frame(e:Eng):Eng:=if nextE (ba e.rest)=5 then e.cut.reject 0 1 else e.cut.run (nextK (ba e.rest)) (nextV (ba e.rest))
def steps:Nat→Eng→Eng
 |0,e=>e
 |f+1,e=>if nextE (ba e.rest)=4 then e else steps f e.frame.follow
def begin_(e:Eng)(t:List UInt8):Eng:={ e with rest:=e.rest++t,out:=[] }
def apply(e:Eng)(t:List UInt8):Eng:=steps (e.rest.length+t.length) (e.begin_ t)
theorem cut_inv(h:EInv e):EInv e.cut:=h.cong rfl rfl rfl rfl rfl rfl
theorem frame_more(h:EInv e):EInv e.frame∧Keeps e.cut e.frame∧Grew 2010 1000 e e.frame:=by
 have hc:=cut_inv h;have hg:Grew 0 0 e e.cut:=by obtain⟨b1,b2,b3,b4,b5,b6,b7,b8,b9,b10⟩:=Grew.refl e;exact⟨b1,b2,b3,b4,b5,b6,b7,b8,b9,b10⟩
 unfold frame;split
 ·exact⟨hc.tell _ _ _ _ _ _,reject_keeps _ _ _,(hg.trans (Grew.tell _ _ _ _ _ _ _)).mono (by omega) (by omega)⟩
 ·obtain⟨h1,h2⟩:=run_more hc (nextK (ba e.rest)) (zAn (ba e.rest));exact⟨run_inv hc _ (zAn _),h1,(hg.trans h2).mono (by omega) (by omega)⟩
theorem step_more(h:EInv e):EInv e.frame.follow∧Keeps e.cut e.frame.follow∧Grew 2100 1000 e e.frame.follow:=by
 obtain⟨h1,h2,h3⟩:=frame_more h;obtain⟨h4,h5⟩:=follow_inv h1;exact⟨h4,h2.stays h5,(h3.trans (follow_grew h1)).mono (by omega) (by omega)⟩
theorem cut_len(e:Eng)(h:nextE (ba e.rest)≠4):e.cut.rest.length<e.rest.length:=by
 obtain⟨h1,h2⟩:=zDp (ba e.rest) h;rw[zA3]at h2;show(e.rest.drop (nextM (ba e.rest)).toNat).length<_;rw[List.length_drop];omega
end Eng
end
section
namespace Eng
def PegOk(o:Ord):Prop:=o.status=1→o.typ=3→0<o.opn∧(o.price≠0→0<o.shown)
def Pegs(e:Eng):Prop:= ∀(i:Nat) (o:Ord),e.all[i]? =some o→PegOk o
theorem Pegs.upd(h:Pegs e)(i:Nat)(f:Ord→Ord)(hf: ∀o,e.all[i]? =some o→PegOk (f o)):Pegs (e.upd i f):=by
 intro j o ho;rw[upd_at]at ho;by_cases e1:i=j
 ·subst e1;rw[if_pos rfl]at ho;obtain⟨o',ho',rfl⟩:=Option.map_eq_some_iff.1 ho;exact hf o' ho'
 ·rw[if_neg e1]at ho;exact h j o ho
theorem Pegs.cong{e':Eng}(h:Pegs e)(ha:e'.all=e.all):Pegs e':=fun i o ho=>h i o (ha▸ho)
theorem Pegs.lay(h:Pegs e)(i:Nat)(n:Int)(hn:0<n):Pegs (e.lay i n):=by
 unfold Eng.lay;have h1:Pegs ({ e with stamp:=e.stamp+1 }.upd i fun o=>{ o with stamp:=(e.stamp+1:Nat),shown:=n }):=Pegs.upd (e:={ e with stamp:=e.stamp+1 }) h i _ (fun o ho hs ht=>⟨(h i o ho hs ht).1,fun _=>hn⟩);split
 ·exact h1.cong rfl
 ·exact h1
theorem Pegs.trade(p:Pegs e)(h:EInv e){k:Nat}(ho:e.all[i]? =some o)(hs:o.status=1)(hsh:o.shown=0)(ht:o.typ≠3)(hm:e.mate i=some k):Pegs (e.trade i k):=by
 obtain⟨r,hr,hne,hop,hr1,hst,hr2,hmt,i1,et,i2,hi,_,_⟩:=trade_step h ho hs hsh hm;have kr:=h.ok k r hr;obtain⟨q1,q2,q3⟩:=qty_bd kr hop hr1;have hw:=kr.shn1;rw[et];have hoo: ∀x:Ord,x.typ=o.typ→PegOk x:=fun x hx _ h3=>absurd (hx▸h3) ht
 have hu:Pegs ((e.upd i fun _=>tradeO o r)):=p.upd i _ (fun x hx=>hoo _ rfl);have hk1:(e.trade1 i k o r).all[k]? =some (tradeR o r):=by rw[trade1_at,if_pos rfl,hr];rfl
 have hother: ∀(j:Nat) (x:Ord),k≠j→(e.trade1 i k o r).all[j]? =some x→PegOk x:=by
  intro j x hj hx;rw[trade1_at,if_neg hj]at hx;by_cases e1:i=j
  ·subst e1;rw[if_pos rfl,ho]at hx;obtain rfl:tradeO o r=x:=Option.some.inj hx;exact hoo _ rfl
  ·rw[if_neg e1]at hx;exact p j x hx
 unfold Eng.trade2;split
 ·intro j x hx;by_cases e1:k=j
  ·subst e1;rw[upd_same _ _ _ _ hk1]at hx;obtain rfl:=Option.some.inj hx;intro hs2;exact absurd hs2 (show¬(2:Int)=1 by decide)
  ·rw[upd_ne _ _ _ _ e1]at hx;exact hother j x e1 hx
 ·rename_i h0;split
  ·rename_i h1;have h2:r.typ=2:=Classical.byContradiction fun hc=>by
    rcases kr.whole hc with hw' |hw'
    ·exact hr1 hw'
    ·exact h0 (by have:r.shown - qtyOf o r=0:=h1;show r.opn - qtyOf o r=0;omega)
   intro j x hx;rw[lay_at]at hx;by_cases e1:k=j
   ·subst e1;rw[if_pos rfl]at hx;change (Option.map _ (e.trade1 i k o r).all[k]?)=_ at hx;rw[hk1]at hx;obtain rfl:=Option.some.inj hx;intro _ h3;exact absurd (h2.symm.trans h3) (by decide)
   ·rw[if_neg e1]at hx;exact hother j x e1 hx
  ·rename_i h1;intro j x hx;by_cases e1:k=j
   ·subst e1;rw[hk1]at hx;obtain rfl:=Option.some.inj hx;intro _ _;have a:r.opn - qtyOf o r≠0:=h0;have c:r.shown - qtyOf o r≠0:=h1;show 0<r.opn - qtyOf o r∧(r.price≠0→0<r.shown - qtyOf o r);omega
   ·exact hother j x e1 hx
theorem Pegs.trades: ∀(f:Nat) {e:Eng} {i:Nat} {o:Ord},Pegs e→EInv e→e.all[i]? =some o→o.status=1→o.shown=0→o.typ≠3→Pegs (Eng.trades f e i)
 |0,e,i,o,p,h,ho,hs,hsh,ht=>p
 |f+1,e,i,o,p,h,ho,hs,hsh,ht=>by
  unfold Eng.trades;split
  ·rename_i k hm;obtain⟨r,hr,hne,hop,hr1,hst,hr2,hmt,i1,et,i2,hi,_,_⟩:=trade_step h ho hs hsh hm;exact Pegs.trades f (p.trade h ho hs hsh ht hm) i2 hi hs hsh ht
  ·exact p
theorem Pegs.sweep(p:Pegs e)(h:EInv e)(ho:e.all[i]? =some o)(hs:o.status=1)(hsh:o.shown=0)(ht:o.typ≠3):Pegs (e.sweep i):=by
 obtain⟨o',h1,h2,h3,h4,h5,h6⟩:=trades_inv (e.opnOf i).toNat h ho hs hsh;have hp:=Pegs.trades (e.opnOf i).toNat p h ho hs hsh ht;rw[sweep_eq];unfold swept;rw[h1];have hu:Pegs ((Eng.trades (e.opnOf i).toNat e i).upd i fun o=>{ o with status:=2 }):=hp.upd i _ (fun x hx hq=>absurd hq (show¬(2:Int)=1 by decide));show Pegs (if _ then _ else _);split
 ·exact hu
 ·rename_i h0;exact hp.lay i _ (by have:=(atRest_bd (h2.ok i o' h1) h0).1;omega)
theorem Pegs.gone(p:Pegs e)(i:Nat)(reason:Int):Pegs (e.gone i reason):=by
 unfold Eng.gone;split
 ·exact(p.upd i (fun o=>{ o with cancelled:=o.opn,opn:=0,shown:=0,status:=3 }) (fun x hx hq=>absurd hq (show¬(3:Int)=1 by decide))).cong rfl
 ·exact p
theorem fold_pegs(f:Eng→Nat→Eng)(h1: ∀e i,Pegs e→Pegs (f e i)): ∀(l:List Nat) (e:Eng),Pegs e→Pegs (l.foldl f e)
 | [],e,h=>h
 |i::l,e,h=>fold_pegs f h1 l _ (h1 e i h)
theorem Pegs.due(p:Pegs e)(q:Ord→Bool)(reason:Int):Pegs (e.due q reason):=fold_pegs _ (fun e i h=>by
 rcases dueOne_at q reason e i with h1|⟨_,h1⟩<;>rw[h1]
 ·exact h
 ·exact h.gone i reason) _ e p
theorem Pegs.follow(p:Pegs e):Pegs e.follow:=fold_pegs _ (fun e i h=>by
 rcases followOne_at e i with h1|⟨o,ho,hs,ht,_,h1⟩
 ·rw[h1];exact h
 ·rcases h1 with⟨_,h1⟩|⟨_,h1⟩<;>rw[h1]
  ·exact(h.upd i (fun o=>{ o with price:=0,shown:=0 }) (fun x hx hq ht=>⟨(h i x hx hq ht).1,fun hc=>absurd rfl hc⟩)).cong rfl
  ·exact(Pegs.upd (e:={ e with stamp:=e.stamp+1 }) h i (fun o'=>{ o' with price:=e.target o,stamp:=(e.stamp+1:Nat),shown:=o'.opn }) (fun x hx hq ht=>⟨(h i x hx hq ht).1,fun _=>(h i x hx hq ht).1⟩)).cong rfl) _ e p
theorem why_zero(h:e.why v=0):(v 2=3→v 3=0)∧1≤v 4:=by
 unfold why at h;by_cases c1:v 0=0∨inn (v 1) 1 2=false∨inn (v 2) 1 3=false∨inn (v 7) 1 3=false
 ·rw[if_pos c1]at h;exact absurd h (by decide)
 rw[if_neg c1]at h;by_cases c2:(e.find (v 0)).isSome=true
 ·rw[if_pos c2]at h;exact absurd h (by decide)
 rw[if_neg c2]at h;by_cases h5:(if v 2=3 then v 3 == 0 else inn (v 3) 1 e.mp)=false
 ·rw[if_pos h5]at h;exact absurd h (by decide)
 rw[if_neg h5]at h;by_cases h6:inn (v 4) 1 e.mq=false∨(if v 2=2 then inn (v 5) 1 (v 4) else v 5 == 0)=false
 ·rw[if_pos h6]at h;exact absurd h (by decide)
 refine⟨fun h3=>?_,?_⟩
 ·rw[if_pos h3]at h5;simpa using h5
 ·have: ¬inn (v 4) 1 e.mq=false:=fun hc=>h6 (.inl hc)
  rw[inn_iff']at this;exact this.1
theorem Pegs.fresh(p:Pegs e)(h:EInv e)(hv:VOk v):Pegs (e.fresh v):=by
 rw[fresh_eq];split
 ·exact p.cong rfl
 ·rename_i hw;have hw:=Classical.byContradiction hw;obtain⟨w1,w2⟩:=why_zero hw;have hp:Pegs (e.enter v):=fun i o ho=>by
   rcases enter_at e v i o ho with⟨_,h1⟩|⟨_,h1⟩
   ·exact p i o h1
   ·subst h1;intro _ h3;exact⟨by show 0<v 4;omega,fun hc=>absurd (w1 h3) hc⟩
  split
  ·exact hp
  ·rename_i h3;obtain⟨i1,i2⟩:=enter_inv h hv hw;exact hp.sweep i1 i2 rfl rfl h3
theorem Pegs.replace(p:Pegs e)(h:EInv e)(v:Nat→Int):Pegs (e.replace v):=by
 rw[replace_eq];split
 ·exact p.cong rfl
 ·rename_i i hl;split
  ·exact p
  ·rename_i o ho;obtain⟨o',ho',hid,hs⟩:=liveAt_some hl;obtain rfl:o=o':=Option.some.inj (ho.symm.trans ho');by_cases h5:(if o.typ=3 then v 3 == 0 else inn (v 3) 1 e.mp)=false
   ·rw[if_pos h5];exact p.cong rfl
   rw[if_neg h5];by_cases h6:inn (v 4) (o.filled+1) e.mq=false
   ·rw[if_pos h6];exact p.cong rfl
   rw[if_neg h6];have k:=h.ok i o ho;have h6':=h6;rw[inn_iff']at h6;have hT:Pegs (e.repTell i o v):=(p.upd i (fun _=>repO o (v 4)) (fun x hx hq ht=>⟨by show 0<v 4 - o.filled;omega,fun hp=>(p i o ho hs ht).2 hp⟩)).cong rfl;have hat:(e.repTell i o v).all[i]? =some (repO o (v 4)):=upd_same e i _ o ho;unfold repEnd;by_cases hk:keepsPl o v=true
   ·rw[if_pos hk];refine hT.upd i _ (fun x hx hq ht=>?_);obtain rfl:repO o (v 4)=x:=Option.some.inj (hat.symm.trans hx);have h1:=(p i o ho hs ht).2;refine⟨by show 0<v 4 - o.filled;omega,fun hp=>?_⟩;have h2:=h1 hp;show 0<if v 4 - o.filled<o.shown then v 4 - o.filled else o.shown
    split<;>omega
   ·rw[if_neg hk];by_cases ht:o.typ≠3
    ·rw[if_pos ht];have hi:=rep_sw_inv h ho hs v ht ((Bool.not_eq_false _).mp h5) ((Bool.not_eq_false _).mp h6');refine Pegs.sweep (hT.upd i _ (fun x hx hq h3=>?_)) hi (upd_same _ i _ _ hat) hs rfl ht;obtain rfl:repO o (v 4)=x:=Option.some.inj (hat.symm.trans hx);exact absurd h3 ht
    ·rw[if_neg ht];by_cases hsh:0<o.shown
     ·rw[if_pos hsh];exact hT.lay i _ (by omega)
     ·rw[if_neg hsh];exact hT
theorem Pegs.run(p:Pegs e)(h:EInv e)(kind:Int)(hv:VOk v):Pegs (e.run kind v):=by
 unfold Eng.run;split
 ·exact p.fresh h hv
 split
 ·unfold Eng.cancel;split
  ·exact p.gone _ _
  ·exact p.cong rfl
 split
 ·exact p.replace h v
 split
 ·unfold Eng.tick;split
  ·exact p.cong rfl
  ·exact Pegs.due (e:={ e with now:=v 8 }) p _ _
 split
 ·exact p.due _ _
 ·exact p
end Eng
end
section
open Eng
section
variable {off:Int} {e:Eng}
theorem zFx{o:Ent}(h:r.reason=1):Book.replaced r o={ o with qty:=r.qty,opn:=r.qty - o.filled,shown:=if(r.qty - o.filled<o.shown∨(0<o.shown∧o.kind≠2)) then r.qty - o.filled else o.shown,live:=decide (0<r.qty - o.filled) }:=by
 unfold Book.replaced;simp only;rw[if_neg (fun c=>by have:=c.1;rw[h]at this;exact absurd this (by decide))];by_cases c:r.qty - o.filled<o.shown∨(0<o.shown∧o.kind≠2)
 ·rw[if_pos ⟨h,c⟩,if_pos c]
 ·rw[if_neg (fun q=>c q.2),if_neg c]
theorem zFy{o:Ent}(h:r.reason=0)(hk:o.kind≠3):Book.replaced r o={ o with qty:=r.qty,opn:=r.qty - o.filled,price:=r.price,shown:=0,live:=decide (0<r.qty - o.filled) }:=by
 unfold Book.replaced;simp only;rw[if_pos ⟨h,hk⟩]
theorem zFz{o:Ent}(h:r.reason=0)(hk:o.kind=3):Book.replaced r o={ o with qty:=r.qty,opn:=r.qty - o.filled,live:=decide (0<r.qty - o.filled) }:=by
 unfold Book.replaced;simp only;rw[if_neg (fun c=>c.2 hk),if_neg (fun c=>by have:=c.1;rw[h]at this;exact absurd this (by decide))]
def repR(o:Ord)(v:Nat→Int):Rcd:=⟨5,v 0,0,v 3,v 4,if keepsPl o v then 1 else 0⟩
theorem zKw(h:EInv e)(ho:e.all[i]? =some o)(hp:0<o.opn)(v:Nat→Int)(hid:v 0=o.id)(h6:o.filled<v 4):(bk e).take (repR o v) off=some ((bk e).set i (Book.replaced (repR o v))):=by
 have hf:(bk e).find (repR o v).id=some i:=by show(bk e).find (v 0)=some i;rw[hid];exact zAl h ho
 rw[Book.take_at (show(5:Int)≠1 by decide) (show(5:Int)≠2 by decide) hf (zAf ho) (zBd hp)];rw[if_neg (show¬(repR o v).kind=3 by show¬(5:Int)=3;decide),if_neg (show¬(repR o v).kind=4 by show¬(5:Int)=4;decide),if_pos (show(repR o v).kind=5 from rfl)];have hk:Book.keeps o.ent (repR o v)=keepsPl o v:=by
  show((o.typ == 3 || v 3 == o.price) && decide (v 4≤o.qty))=(decide (v 4≤o.qty) && (o.typ == 3 || v 3 == o.price));exact Bool.and_comm _ _
 have hc:o.ent.filled<(repR o v).qty∧(repR o v).reason=(if Book.keeps o.ent (repR o v) then 1 else 0):=by
  refine⟨h6,?_⟩;rw[hk];rfl
 rw[if_pos hc]
theorem zKx(f:Ord→Ord)(hf: ∀o,e.all[i]? =some o→(f o).id=o.id)(h: ∀(i j:Nat) (x y:Ord),e.all[i]? =some x→e.all[j]? =some y→x.id=y.id→i=j): ∀(j k:Nat) (x y:Ord),(e.upd i f).all[j]? =some x→(e.upd i f).all[k]? =some y→x.id=y.id→j=k:=by
 have key: ∀(j:Nat) (x:Ord),(e.upd i f).all[j]? =some x→∃x',e.all[j]? =some x'∧x'.id=x.id:=by
  intro j x hx;rw[upd_at]at hx;by_cases q:i=j
  ·subst q;rw[if_pos rfl]at hx;obtain⟨y,hy,rfl⟩:=Option.map_eq_some_iff.1 hx;exact⟨y,hy,(hf y hy).symm⟩
  ·rw[if_neg q]at hx;exact⟨x,hx,rfl⟩
 intro j k x y hx hy hxy;obtain⟨x',a1,a2⟩:=key j x hx;obtain⟨y',b1,b2⟩:=key k y hy;exact h j k x' y' a1 b1 (by rw[a2,b2];exact hxy)
theorem zKy(h:EInv e)(hl:Lv e)(hg:Pegs e)(ho:e.all[i]? =some o)(hs:o.status=1)(v:Nat→Int)(hid:v 0=o.id)(h5:(if o.typ=3 then v 3 == 0 else inn (v 3) 1 e.mp)=true)(h6:inn (v 4) (o.filled+1) e.mq=true):(∃rs,rs≠[]∧Told off e rs (e.repEnd i o v))∧Lv (e.repEnd i o v):=by
 have k:=h.ok i o ho;have hp:=(hl i o ho).1 hs;have h6':=h6;rw[inn_iff]at h6;have hm:=h.mp1;have hq:=h.mq1;have hc0:=k.live hs;have hsum:=k.sum;have hf0:=k.fil0;have hn:0<v 4 - o.filled:=by omega
 have hv3:0≤v 3∧v 3≤1000000:=by
  by_cases ht:o.typ=3
  ·rw[if_pos ht]at h5;have:v 3=0:=by simpa using h5
   omega
  ·rw[if_neg ht,inn_iff]at h5;omega
 have hfit:(repR o v).Fits:=Rcd.fit (by decide) (by decide) (by have:=k.id0;omega) (by have:=k.id1;omega) (by decide) (by decide) hv3.1 (by omega) (by omega) (by omega) (by split<;>decide) (by split<;>decide);have htk:=zKw (off:=off) h ho hp v hid (by omega);have hcan:(bk e).Can (repR o v):=by
  refine Book.can_of (i:=i) (o:=o.ent) (show(5:Int)≠1 by decide) (show(5:Int)≠2 by decide) (by show(bk e).find (v 0)=some i;rw[hid];exact zAl h ho) (zAf ho) (Book.can_5 ⟨rfl,?_,fun a b=>(hg i o ho hs a).2 b⟩);show o.typ=3↔v 3=0;by_cases ht:o.typ=3
  ·rw[if_pos ht]at h5;exact⟨fun _=>by simpa using h5,fun _=>ht⟩
  ·rw[if_neg ht,inn_iff]at h5;exact⟨fun c=>absurd c ht,fun c=>by omega⟩
 have base: ∀(X:Eng),Eng.out X=e.out→X.seq=e.seq→bk X=(bk e).set i (Book.replaced (repR o v))→Told off e [repR o v] (X.tell 5 (v 0) 0 (v 3) (v 4) (if keepsPl o v then 1 else 0)):=fun X hx hs hb=>Told.tell 5 (v 0) 0 (v 3) (v 4) _ hx hs hfit (by rw[hb];exact htk) hcan
 unfold Eng.repEnd;by_cases hk:keepsPl o v=true
 ·rw[if_pos hk];have hk2:=hk;unfold keepsPl at hk2;simp only[Bool.and_eq_true,decide_eq_true_eq]at hk2;have hu:(e.repTell i o v).upd i (fun o=>{ o with shown:=if o.opn<o.shown then o.opn else o.shown })=(e.upd i fun _=>{ repO o (v 4) with shown:=if(repO o (v 4)).opn<(repO o (v 4)).shown then(repO o (v 4)).opn else(repO o (v 4)).shown }).tell 5 (v 0) 0 (v 3) (v 4) (if keepsPl o v then 1 else 0):=by
   unfold Eng.repTell;rw[tell_upd,upd_upd]
  rw[hu];refine⟨⟨_,by simp,base _ rfl rfl ?_⟩,?_⟩
  ·refine zAw ho _ _ ?_;rw[zFx (show(repR o v).reason=1 from if_pos hk)];have hsh:(if v 4 - o.filled<o.shown then v 4 - o.filled else o.shown)=(if(v 4 - o.filled<o.shown∨(0<o.shown∧o.typ≠2)) then v 4 - o.filled else o.shown):=by
    by_cases q:v 4 - o.filled<o.shown
    ·rw[if_pos q,if_pos (.inl q)]
    ·rw[if_neg q];by_cases c:0<o.shown∧o.typ≠2
     ·rw[if_pos (.inr c)];have:=k.whole c.2;omega
     ·rw[if_neg (fun d=>d.elim q c)]
   exact congrArg (fun s=>(⟨o.id,o.side,o.typ,v 4,o.off,o.price,v 4 - o.filled,o.filled,s,o.cancelled,o.stamp,decide (0<v 4 - o.filled)⟩:Ent)) hsh
  ·exact(hl.upd (i:=i) (fun _=>{ repO o (v 4) with shown:=if(repO o (v 4)).opn<(repO o (v 4)).shown then(repO o (v 4)).opn else(repO o (v 4)).shown }) (fun x hx=>⟨fun _=>hn,fun _=>hs⟩)).cong rfl
 ·rw[if_neg hk];have hk':keepsPl o v=false:=by simpa using hk
  by_cases ht:o.typ=3
  ·rw[if_neg (by intro c;exact c ht)];have t1:Told off e [repR o v] (e.repTell i o v):=base (e.upd i fun _=>repO o (v 4)) rfl rfl (by
    refine zAw ho _ _ ?_;rw[zFz (show(repR o v).reason=0 from if_neg hk) (show o.ent.kind=3 from ht)];rfl)
   have hl1:Lv (e.repTell i o v):=(hl.upd (i:=i) (fun _=>repO o (v 4)) (fun x hx=>⟨fun _=>hn,fun _=>hs⟩)).cong rfl;have ha:(e.repTell i o v).all[i]? =some (repO o (v 4)):=upd_same e i (fun _=>repO o (v 4)) o ho;by_cases hz:0<o.shown
   ·rw[if_pos hz];have hids:=zKx (i:=i) (fun _=>repO o (v 4)) (fun x hx=>by obtain rfl:o=x:=Option.some.inj (ho.symm.trans hx);rfl) h.ids;have t2:=zEr (off:=off) (e:=e.repTell i o v) hids ha (n:=v 4 - o.filled) (by omega) (Int.le_refl _) (by omega) (by have:=k.id0;show 0≤o.id;omega) k.id1 (k.shp hz) (by have:=k.prc1;show o.price≤_;omega) (fun _=>rfl);exact⟨⟨_,by simp,t1.trans t2⟩,hl1.lay _⟩
   ·rw[if_neg hz];exact⟨⟨_,by simp,t1⟩,hl1⟩
  ·rw[if_pos ht];have hu:(e.repTell i o v).upd i (fun o=>{ o with price:=v 3,shown:=0 })=(e.upd i fun _=>{ repO o (v 4) with price:=v 3,shown:=0 }).tell 5 (v 0) 0 (v 3) (v 4) (if keepsPl o v then 1 else 0):=by
    unfold Eng.repTell;rw[tell_upd,upd_upd]
   have i1:=rep_sw_inv h ho hs v ht h5 h6';have ha:((e.repTell i o v).upd i fun o=>{ o with price:=v 3,shown:=0 }).all[i]? =some { repO o (v 4) with price:=v 3,shown:=0 }:=by
    rw[hu];exact upd_same e i (fun _=>{ repO o (v 4) with price:=v 3,shown:=0 }) o ho
   have t1:Told off e [repR o v] ((e.repTell i o v).upd i fun o=>{ o with price:=v 3,shown:=0 }):=by
    rw[hu];refine base _ rfl rfl (zAw ho _ _ ?_);rw[zFy (show(repR o v).reason=0 from if_neg hk) (show o.ent.kind≠3 from ht)];rfl
   have hl1:Lv ((e.repTell i o v).upd i fun o=>{ o with price:=v 3,shown:=0 }):=by
    rw[hu];exact(hl.upd (i:=i) (fun _=>{ repO o (v 4) with price:=v 3,shown:=0 }) (fun x hx=>⟨fun _=>hn,fun _=>hs⟩)).cong rfl
   obtain⟨rs,t2⟩:=zEv (off:=off) i1 ha hs rfl ht;exact⟨⟨_,by simp,t1.trans t2⟩,zF i1 (hl1.x _) ha hs rfl⟩
theorem zKz(h:EInv e)(hl:Lv e)(hg:Pegs e)(hv:VOk v):(∃rs,rs≠[]∧Told off e rs (e.replace v))∧Lv (e.replace v):=by
 rw[replace_eq];cases q:e.liveAt (v 0) with
 |none=>exact⟨⟨_,by simp,zBq (v 0) 3 hv.id0 hv.id1 (by decide) (by decide)⟩,hl.cong rfl⟩
 |some i=>
  obtain⟨o,ho,hid,hs⟩:=liveAt_some q;simp only[ho];by_cases h5:(if o.typ=3 then v 3 == 0 else inn (v 3) 1 e.mp)=false
  ·rw[if_pos h5];exact⟨⟨_,by simp,zBq (v 0) 5 hv.id0 hv.id1 (by decide) (by decide)⟩,hl.cong rfl⟩
  ·rw[if_neg h5];by_cases h6:inn (v 4) (o.filled+1) e.mq=false
   ·rw[if_pos h6];exact⟨⟨_,by simp,zBq (v 0) 6 hv.id0 hv.id1 (by decide) (by decide)⟩,hl.cong rfl⟩
   ·rw[if_neg h6];exact zKy h hl hg ho hs v hid.symm (Bool.not_eq_false _▸h5) (Bool.not_eq_false _▸h6)
theorem zL(t:Int)(h:EInv e)(h0:0≤t)(h1:t<4294967296)(hl:Lv e):(∃rs,Told off e rs (e.tick t))∧Lv (e.tick t):=by
 unfold Eng.tick;by_cases q:t<e.now
 ·rw[if_pos q];exact⟨⟨_,zBq 0 10 (by decide) (by decide) (by decide) (by decide)⟩,hl.cong rfl⟩
 ·rw[if_neg q];have h':EInv { e with now:=t }:=⟨h.mo0,h.mo1,h.mp0,h.mp1,h.mq0,h.mq1,h.ok,h.ids,h.apart,h0,h1,h.live⟩;obtain⟨⟨rs,t2⟩,l2⟩:=zEy (off:=off) (e:={ e with now:=t }) (fun o=>o.life == 3 && decide (o.time≤t)) 2 (by decide) (by decide) h' hl;exact⟨⟨_,(Told.silent (off:=off) (e:=e) (e':={ e with now:=t }) rfl rfl rfl).trans t2⟩,l2⟩
theorem zL0(off:Int)(kind:Int)(hoff:kind=1→off=v 6)(h:EInv e)(hl:Lv e)(hg:Pegs e)(hv:VOk v):(∃rs,(kind=1∨kind=2∨kind=3→rs≠[])∧Told off e rs (e.run kind v))∧Lv (e.run kind v):=by
 unfold Eng.run;by_cases k1:kind=1
 ·rw[if_pos k1];obtain⟨⟨rs,a,b⟩,c⟩:=zJt h hl hv;exact⟨⟨rs,fun _=>a,by rw[hoff k1];exact b⟩,c⟩
 rw[if_neg k1];by_cases k2:kind=2
 ·rw[if_pos k2];obtain⟨⟨rs,a,b⟩,c⟩:=zJq (off:=off) (v 0) hv.id0 hv.id1 h hl;exact⟨⟨rs,fun _=>a,b⟩,c⟩
 rw[if_neg k2];by_cases k3:kind=3
 ·rw[if_pos k3];obtain⟨⟨rs,a,b⟩,c⟩:=zKz (off:=off) h hl hg hv;exact⟨⟨rs,fun _=>a,b⟩,c⟩
 rw[if_neg k3];have no: ¬(kind=1∨kind=2∨kind=3):=by omega
 by_cases k4:kind=4
 ·rw[if_pos k4];obtain⟨⟨rs,b⟩,c⟩:=zL (off:=off) (v 8) h hv.t0 hv.t1 hl;exact⟨⟨rs,fun q=>absurd q no,b⟩,c⟩
 rw[if_neg k4];by_cases k5:kind=5
 ·rw[if_pos k5];obtain⟨⟨rs,b⟩,c⟩:=zEy (off:=off) (fun o=>o.life == 1) 3 (by decide) (by decide) h hl;exact⟨⟨rs,fun q=>absurd q no,b⟩,c⟩
 rw[if_neg k5];exact⟨⟨[],fun q=>absurd q no,Told.silent rfl rfl rfl⟩,hl⟩
end
def ShO(o:Ord):Prop:=o.status=1→o.typ≠3→0<o.shown
def OfO(o:Ord):Prop:=o.typ=3→(o.side=1→o.off≤0)∧(o.side=2→0≤o.off)
def restN(o:Ord):Prop:=o.typ≠3∧o.shown≠0
structure Fr(e:Eng):Prop where
 sh: ∀(i:Nat) (o:Ord),e.all[i]? =some o→ShO o
 of: ∀(i:Nat) (o:Ord),e.all[i]? =some o→OfO o
 nc: ∀(i j:Nat) (x y:Ord),e.all[i]? =some x→e.all[j]? =some y→restN x→restN y→x.side=1→y.side=2→x.price<y.price
structure FrX(n:Nat)(e:Eng):Prop where
 sh: ∀(i:Nat) (o:Ord),i≠n→e.all[i]? =some o→ShO o
 of: ∀(i:Nat) (o:Ord),e.all[i]? =some o→OfO o
 nc: ∀(i j:Nat) (x y:Ord),i≠n→j≠n→e.all[i]? =some x→e.all[j]? =some y→restN x→restN y→x.side=1→y.side=2→x.price<y.price
structure Sub(n:Nat)(e e':Eng):Prop where
 at': ∀(j:Nat) (y:Ord),e'.all[j]? =some y→∃x,e.all[j]? =some x∧y.side=x.side∧y.typ=x.typ∧y.off=x.off∧(j≠n→y.price=x.price∧(y.shown≠0→x.shown≠0)∧(ShO x→ShO y))
section
variable {e:Eng}
theorem Sub.refl(n:Nat)(e:Eng):Sub n e e:=⟨fun j y hy=>⟨y,hy,rfl,rfl,rfl,fun _=>⟨rfl,id,id⟩⟩⟩
theorem Sub.trans{n:Nat}{a b c:Eng}(h:Sub n a b)(k:Sub n b c):Sub n a c:=⟨fun j z hz=>by
 obtain⟨y,hy,b1,b2,b3,b4⟩:=k.at' j z hz;obtain⟨x,hx,a1,a2,a3,a4⟩:=h.at' j y hy;exact⟨x,hx,b1.trans a1,b2.trans a2,b3.trans a3,fun hj=>⟨(b4 hj).1.trans (a4 hj).1,fun q=>(a4 hj).2.1 ((b4 hj).2.1 q),fun q=>(b4 hj).2.2 ((a4 hj).2.2 q)⟩⟩⟩
theorem FrX.sub{n:Nat}{e':Eng}(h:FrX n e)(s:Sub n e e'):FrX n e':=by
 refine⟨fun i o hi ho=>?_,fun i o ho=>?_,fun i j x y hi hj hx hy rx ry sx sy=>?_⟩
 ·obtain⟨x,hx,_,_,_,a4⟩:=s.at' i o ho;exact(a4 hi).2.2 (h.sh i x hi hx)
 ·obtain⟨x,hx,a1,a2,a3,_⟩:=s.at' i o ho;have:=h.of i x hx;unfold OfO at this⊢;rw[a1,a2,a3];exact this
 ·obtain⟨x',hx',a1,a2,a3,a4⟩:=s.at' i x hx;obtain⟨y',hy',b1,b2,b3,b4⟩:=s.at' j y hy;have:=h.nc i j x' y' hi hj hx' hy' ⟨a2▸rx.1,(a4 hi).2.1 rx.2⟩ ⟨b2▸ry.1,(b4 hj).2.1 ry.2⟩ (a1▸sx) (b1▸sy);rw[(a4 hi).1,(b4 hj).1];exact this
theorem Fr.x(h:Fr e)(n:Nat):FrX n e:=⟨fun i o _ ho=>h.sh i o ho,h.of,fun i j x y _ _=>h.nc i j x y⟩
theorem zL1(h:EInv e){k:Nat}(ho:e.all[i]? =some o)(hs:o.status=1)(hsh:o.shown=0)(hm:e.mate i=some k):Sub i e (e.trade i k):=by
 obtain⟨r,hr,hne,hop2,hrs,hst,hsd,hmt,i1,et,i2,hi,_⟩:=trade_step h ho hs hsh hm;have hk1:(e.trade1 i k o r).all[k]? =some (tradeR o r):=by rw[trade1_at,if_pos rfl,hr];rfl
 refine⟨fun j y hy=>?_⟩;by_cases q:j=k
 ·subst q;rw[et]at hy;have kr:=h.ok j r hr;have kR:=i1.ok j _ hk1;unfold Eng.trade2 at hy;by_cases h0:(tradeR o r).opn=0
  ·rw[if_pos h0,upd_same _ _ _ _ hk1]at hy;obtain rfl:=Option.some.inj hy;exact⟨r,hr,rfl,rfl,rfl,fun _=>⟨rfl,fun _=>hrs,fun _ c=>absurd c (by show¬(2:Int)=1;decide)⟩⟩
  ·rw[if_neg h0]at hy;by_cases h1:(tradeR o r).shown=0
   ·rw[if_pos h1]at hy;simp only at hy;rw[lay_at,if_pos rfl]at hy;have hr2:(e.trade1 i j o r).draw.2.all[j]? =some (tradeR o r):=hk1;rw[hr2]at hy;obtain rfl:=Option.some.inj hy;refine⟨r,hr,rfl,rfl,rfl,fun _=>⟨rfl,fun _=>hrs,fun _ _ ht=>?_⟩⟩;have hd:0≤(e.trade1 i j o r).draw.1:=by
     unfold Eng.draw;show 0≤(if(e.trade1 i j o r).draws.length=0 then(0:Int) else((e.trade1 i j o r).draws.getD ((e.trade1 i j o r).drawn % (e.trade1 i j o r).draws.length) 0) % 4294967296);split<;>omega
    have ht2:(tradeR o r).typ=2:=Classical.byContradiction fun hc=>by
     rcases kr.whole hc with w|w
     ·exact hrs w
     ·have e1:(tradeR o r).shown=r.shown - qtyOf o r:=rfl;have e2:(tradeR o r).opn=r.opn - qtyOf o r:=rfl;omega
    have:=next_bd kR hst h0 ht2 _ hd;show 0<(if(tradeR o r).opn<1+(e.trade1 i j o r).draw.1 % (tradeR o r).peak then(tradeR o r).opn else 1+(e.trade1 i j o r).draw.1 % (tradeR o r).peak);omega
   ·rw[if_neg h1,hk1]at hy;obtain rfl:=Option.some.inj hy;refine⟨r,hr,rfl,rfl,rfl,fun _=>⟨rfl,fun _=>hrs,fun _ _ _=>?_⟩⟩;have:=kR.shn0;omega
 ·by_cases q2:j=i
  ·subst q2;rw[hi]at hy;obtain rfl:=Option.some.inj hy;exact⟨o,ho,rfl,rfl,rfl,fun c=>absurd rfl c⟩
  ·rw[et,trade2_ne _ _ _ _ (fun c=>q c.symm),trade1_at,if_neg (fun c=>q c.symm),if_neg (fun c=>q2 c.symm)]at hy;exact⟨y,hy,rfl,rfl,rfl,fun _=>⟨rfl,id,id⟩⟩
theorem zG: ∀(f:Nat) {e:Eng} {i:Nat} {o:Ord},EInv e→e.all[i]? =some o→o.status=1→o.shown=0→Sub i e (trades f e i)
 |0,e,i,o,h,ho,hs,hsh=>Sub.refl i e
 |f+1,e,i,o,h,ho,hs,hsh=>by
  unfold Eng.trades;cases hm:e.mate i with
  |none=>exact Sub.refl i e
  |some k=>
   obtain⟨r,hr,hne,hop2,hrs,hst,hsd,hmt,i1,et,i2,hi,_⟩:=trade_step h ho hs hsh hm;exact(zL1 h ho hs hsh hm).trans (zG f i2 hi hs hsh)
theorem zG0: ∀(f:Nat) {e:Eng} {i:Nat} {o:Ord},EInv e→e.all[i]? =some o→o.status=1→o.shown=0→o.opn.toNat≤f→(trades f e i).mate i=none
 |0,e,i,o,h,ho,hs,hsh,hf=>by
  show e.mate i=none;unfold Eng.mate;rw[ho];simp only;rw[if_neg (by omega)]
 |f+1,e,i,o,h,ho,hs,hsh,hf=>by
  unfold Eng.trades;cases hm:e.mate i with
  |none=>exact hm
  |some k=>
   obtain⟨r,hr,hne,hop2,hrs,hst,hsd,hmt,i1,et,i2,hi,h1,h2⟩:=trade_step h ho hs hsh hm;exact zG0 f i2 hi hs hsh (by omega)
theorem zL2(h:EInv e)(ho:e.all[i]? =some o)(hp:0<o.opn)(hm:e.mate i=none): ∀(j:Nat) (y:Ord),e.all[j]? =some y→rests (3 - o.side) y=true→meets o y.price=false:=by
 intro j y hy hr;unfold Eng.mate at hm;rw[ho]at hm;simp only at hm;rw[if_pos hp]at hm;have ko:=h.ok i o ho;cases q:e.first (3 - o.side) with
 |none=>
  have hn:=firstTo_none q j y (List.getElem?_eq_some_iff.1 hy).1 hy;rw[hn]at hr;cases hr
 |some b=>
  rw[q]at hm;obtain⟨_,x,hx,hrx⟩:=firstTo_some q;simp only[hx]at hm;have hmx:meets o x.price=false:=by
   cases w:meets o x.price with
   |false=>rfl
   |true=>rw[w]at hm;simp at hm
  by_cases hjb:j=b
  ·subst hjb;obtain rfl:x=y:=Option.some.inj (hx.symm.trans hy);exact hmx
  ·have hb:=firstTo_best h.apart q x hx j y (List.getElem?_eq_some_iff.1 hy).1 hjb hy hr;unfold Eng.ahead at hb;unfold meets at hmx⊢;rcases ko.side with s|s
   ·rw[if_pos s]at hmx⊢;rw[s]at hb;simp at hb hmx⊢;omega
   ·rw[if_neg (by omega)]at hmx⊢;rw[s]at hb;simp at hb hmx⊢;omega
end
end
end Go.Proofs.YtanfmhonjpjpoaaGreatDoor
