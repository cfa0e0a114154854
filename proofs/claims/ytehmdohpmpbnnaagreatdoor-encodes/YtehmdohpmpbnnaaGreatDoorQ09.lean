import Derived.Test.YtehmdohpmpbnnaaGreatDoorQ00
import Derived.Test.YtehmdohpmpbnnaaGreatDoorQ02
import Derived.Test.YtehmdohpmpbnnaaGreatDoorQ08
import Derived.Laws.DeepStrings4
set_option linter.all false
set_option maxRecDepth 100000
set_option maxHeartbeats 8000000
namespace Go.Proofs.YtehmdohpmpbnnaaGreatDoor
variable{e:bf}{w w':World}{v:Nat→Int}
open Go.Proofs.Tryz
section
open Go.Extern Go.RowKit
def zw(s:ByteArray)(i:Nat):Nat:=(s.data.toList.getD i 0).toNat
theorem mP(s:ByteArray)(i:Nat):zw s i<256:=UInt8.toNat_lt _
def upd(v:Nat→Int)(i:Nat)(x:Int):Nat→Int:=fun j=>if j=i then x else v j
def rd(t:List UInt8)(at_:Nat)(p:Nat×Nat):Int:=if p.1=6∧2147483648≤val ((t.drop at_).take p.2) then val ((t.drop at_).take p.2) - 4294967296 else val ((t.drop at_).take p.2)
def reads(t:List UInt8):Nat→List (Nat×Nat)→(Nat→Int)→(Nat→Int)
 |_,[],v=>v
 |a,p::l,v=>reads t (a+p.2) l (upd v p.1 (rd t a p))
def aY(l:List (Nat×Nat)):Nat:=(l.map (·.2)).sum
theorem zBl(l:List (Nat×Nat)):(aY l:Int)=kN l:=by
 induction l with
 |nil=>rfl
 |cons a l ih=>simp only[aY,kN,List.map_cons,List.sum_cons]at ih⊢;omega
theorem zBm(l:List (Nat×Nat))(p:Nat×Nat):aY (l++ [p])=aY l+p.2:=by simp[aY]
theorem zBn(t:List UInt8)(l:List (Nat×Nat))(p:Nat×Nat):∀(a:Nat) (v:Nat→Int),reads t a (l++ [p]) v=upd (reads t a l v) p.1 (rd t (a+aY l) p):=by
 induction l with
 |nil=>intro a v;rfl
 |cons q l ih=>
  intro a v;rw[List.cons_append,reads,ih,reads];simp only[aY,List.map_cons,List.sum_cons,Nat.add_assoc]
theorem zEp(l m:List (Nat×Nat)):aY (l++m)=aY l+aY m:=by simp[aY]
theorem xB(l:List (Nat×Nat))(k:Nat):aY (l.take k)≤aY l:=by
 have A:=zEp (l.take k) (l.drop k);rw[List.take_append_drop]at A;omega
def okDec(s:ByteArray):Bool:=decide (1≤zw s 1) && decide (zw s 1≤5) && decide (2+aY (terms (zw s 1))=zw s 0+1)
theorem zBo(s:ByteArray):okDec s=true↔1≤zw s 1∧zw s 1≤5∧2+aY (terms (zw s 1))=zw s 0+1:=by simp[okDec,and_assoc]
def jy(s:ByteArray):Int:=if s.size=0 then 4 else if zw s 0=0 then 5 else if s.size<zw s 0+1 then 4 else if okDec s=true then 0 else 5
def tq(s:ByteArray):Int:=if s.size=0 then 0 else if zw s 0=0 then 1 else if s.size<zw s 0+1 then 0 else(zw s 0:Int)+1
def qm(s:ByteArray):Int:=if jy s=0 then zw s 1 else 0
def ku(s:ByteArray):Nat→Int:=if jy s=0 then reads s.data.toList 2 (terms (zw s 1)) (fun _=>0) else fun _=>0
theorem zh(s:ByteArray)(i:Nat)(h:i<s.size):s[i].toNat=zw s i:=by
 unfold zw;have:i<s.data.toList.length:=by simpa using h
 rw[List.getD_eq_getElem?_getD,List.getElem?_eq_getElem this];rfl
theorem sH(s:ByteArray)(A n:Nat)(w:World)(h:A+n≤s.size):
 (Instr.slice 9 (.string s) (sI (A:Int)) (sI ((A:Int)+(n:Int))) none).run prog w=.ok (.string (s.extract A (A+n))) w:=by
 rw[run_slice_string_if w 9 s .i64 .i64 (A:Int) ((A:Int)+(n:Int)) underlying9,if_pos (by omega),if_pos (by omega)];rw[show((A:Int)+(n:Int)).toNat=A+n by omega,Int.toNat_natCast]
theorem zBp(s:ByteArray)(A n:Nat)(h:A+n≤s.size):(s.extract A (A+n)).data.toList=(s.data.toList.drop A).take n:=by
 rw[ByteArray.data_extract,Array.toList_extract,List.extract_eq_take_drop];rw[show A+n - A=n by omega]
theorem kS(s:ByteArray)(A n:Nat)(h:A+n≤s.size):(s.extract A (A+n)).size=n:=by
 rw[ByteArray.size_extract];omega
theorem sJ{C o:Nat}(h:w.grownBy w' (some C))(v:Value):w.grownBy (w'.setCell (iA C o) v) (some C):=
 ⟨h.os,h.tape,h.output,by simpa [World.setCell] using h.size,fun k hk hne=>(Below.heap_setCell _ _ _ k (by intro e;exact hne (by rw[e]))).trans (h.block k hk hne)⟩
theorem bG{C B:Nat}(h:w.grownBy w' (some C))(hB:B≤C)(hs:B≤w.heap.size):Below B w w':=⟨h.os,h.tape,h.output,h.size,fun k hk=>h.block k (by omega) (by intro e;injection e with e;omega)⟩
theorem kT{B:Nat}(h:Below B w w')(x0 x1 x2 x3 x4 x5 x6 x7 x8 x9:Value):Below B w ((((((((((w'.setCell (iA B 0) x0).setCell (iA B 1) x1).setCell (iA B 2) x2).setCell (iA B 3) x3).setCell (iA B 4) x4).setCell (iA B 5) x5).setCell (iA B 6) x6).setCell (iA B 7) x7).setCell (iA B 8) x8).setCell (iA B 9) x9):=
 (((((((((h.setCell (Nat.le_refl B) x0).setCell (Nat.le_refl B) x1).setCell (Nat.le_refl B) x2).setCell (Nat.le_refl B) x3).setCell (Nat.le_refl B) x4).setCell (Nat.le_refl B) x5).setCell (Nat.le_refl B) x6).setCell (Nat.le_refl B) x7).setCell (Nat.le_refl B) x8).setCell (Nat.le_refl B) x9
theorem zBq(t:List UInt8)(A pa pb:Nat)(h:¬(pa=6∧2147483648≤val ((t.drop A).take pb))):rd t A (pa,pb)=val ((t.drop A).take pb):=by unfold rd;rw[if_neg h]
theorem zBr(t:List UInt8)(A pb:Nat)(h:2147483648≤val ((t.drop A).take pb)):rd t A (6,pb)=val ((t.drop A).take pb) - 4294967296:=by unfold rd;rw[if_pos ⟨rfl,h⟩]
theorem zEq(s:ByteArray)(w:World)(h:s.size=0):
 Cl 37 #[.string s] w fun e w'=>e=rV #[dD 0 (fun _=>0),iV 0,iV 4]∧Below w.heap.size w w':=by
 obtain rfl:s=⟨#[]⟩:=by
  apply ByteArray.ext;exact Array.eq_empty_of_size_eq_zero h
 go_enter func37,ntmps37;go_wp2;refine bodyPost_ret (v:=.tuple #[dD 0 (fun _=>0),iV 0,iV 4]) (by simp[results,Tryz.results37,go_sem]) rfl ⟨rfl,?_⟩;repeat(first|exact Below.refl _ _|refine Below.setCell ?_ (by simp<;>omega) _|refine Below.drew ?_|refine fu ?_ _)
theorem sK(s:ByteArray)(h:0<s.size):s.toList.isEmpty=false:=by
 rw[ByteArray.toList_eq];cases e:s.data.toList with
 |nil=>exact absurd (by rw[ByteArray.size,←Array.length_toList,e];rfl) (Nat.ne_of_gt h)
 |cons a l=>rfl
theorem zEr(s:ByteArray)(w:World)(h:0<s.size)(h0:zw s 0=0):
 Cl 37 #[.string s] w fun e w'=>e=rV #[dD 0 (fun _=>0),iV 1,iV 5]∧Below w.heap.size w w':=by
 have B:=sK s h;have A:=zh s 0 h;rw[h0]at A;go_enter func37,ntmps37;go_wp2;refine bodyPost_ret (v:=.tuple #[dD 0 (fun _=>0),iV 1,iV 5]) (by simp[results,Tryz.results37,go_sem]) rfl ⟨rfl,?_⟩;repeat(first|exact Below.refl _ _|refine Below.setCell ?_ (by simp<;>omega) _|refine Below.drew ?_|refine fu ?_ _)
theorem zEs(s:ByteArray)(w:World)(h:0<s.size)(h0:zw s 0≠0)(h1:s.size<zw s 0+1):
 Cl 37 #[.string s] w fun e w'=>e=rV #[dD 0 (fun _=>0),iV 0,iV 4]∧Below w.heap.size w w':=by
 have B:=sK s h;have D:=zh s 0 h;have A:=mP s 0;generalize zw s 0=n at *;have C:wrap64 ((n:Nat):Int)=n:=by unfold wrap64;omega
 have E:((n:Int) == 0)=false:=beq_eq_false_iff_ne.2 (by omega);go_enter func37,ntmps37;go_wp2;refine bodyPost_ret (v:=.tuple #[dD 0 (fun _=>0),iV 0,iV 4]) (by simp[results,Tryz.results37,go_sem]) rfl ⟨rfl,?_⟩;repeat(first|exact Below.refl _ _|refine Below.setCell ?_ (by simp<;>omega) _|refine Below.drew ?_|refine fu ?_ _)
theorem zBs(s:ByteArray)(h:0<s.size)(h0:zw s 0≠0)(h1:zw s 0+1≤s.size)(hb:¬(1≤zw s 1∧zw s 1≤5∧2+aY (terms (zw s 1))=zw s 0+1)):
 qm s=0∧ku s=(fun _=>0)∧tq s=(zw s 0:Int)+1∧jy s=5:=by
 have A:¬okDec s=true:=fun e=>hb ((zBo s).1 e)
 have e:jy s=5:=by
  unfold jy;rw[if_neg (by omega),if_neg h0,if_neg (by omega),if_neg A]
 refine⟨by unfold qm;rw[e];rfl,by unfold ku;rw[e];rfl,?_,e⟩;unfold tq;rw[if_neg (by omega),if_neg h0,if_neg (by omega)]
theorem zBt(s:ByteArray)(h:0<s.size)(h0:zw s 0≠0)(h1:zw s 0+1≤s.size)(hb:1≤zw s 1∧zw s 1≤5∧2+aY (terms (zw s 1))=zw s 0+1):
 qm s=zw s 1∧ku s=reads s.data.toList 2 (terms (zw s 1)) (fun _=>0)∧tq s=(zw s 0:Int)+1∧jy s=0:=by
 have e:jy s=0:=by
  unfold jy;rw[if_neg (by omega),if_neg h0,if_neg (by omega),if_pos ((zBo s).2 hb)]
 refine⟨by unfold qm;rw[e];rfl,by unfold ku;rw[e];rfl,?_,e⟩;unfold tq;rw[if_neg (by omega),if_neg h0,if_neg (by omega)]
theorem zEt(s:ByteArray)(w:World)(h:0<s.size)(h0:zw s 0≠0)(h1:zw s 0+1≤s.size)(hm:s.size≤1000000000):
 Cl 37 #[.string s] w fun e w'=>e=rV #[dD (qm s) (ku s),iV (tq s),iV (jy s)]∧Below w.heap.size w w':=by
 have C9:=sK s h;have hb:=zh s 0 h;have Bo:1<s.size:=by omega
 have C5:=zh s 1 Bo;have A0:=mP s 0;have C4:=mP s 1;have d:Hd (¬(1≤zw s 1∧zw s 1≤5∧2+aY (terms (zw s 1))=zw s 0+1)→qm s=0∧ku s=(fun _=>0)∧tq s=(zw s 0:Int)+1∧jy s=5):=zBs s h h0 h1;have l:Hd (1≤zw s 1∧zw s 1≤5∧2+aY (terms (zw s 1))=zw s 0+1→qm s=zw s 1∧ku s=reads s.data.toList 2 (terms (zw s 1)) (fun _=>0)∧tq s=(zw s 0:Int)+1∧jy s=0):=zBt s h h0 h1;generalize zw s 0=n at *;generalize zw s 1=kd at *;have Cg:wrap64 ((n:Nat):Int)=n:=by unfold wrap64;omega
 have Cf:wrap64 ((kd:Nat):Int)=kd:=by unfold wrap64;omega
 have hz:((n:Int) == 0)=false:=beq_eq_false_iff_ne.2 (by omega);go_enter func37,ntmps37;go_wp2_with fail;refine(zBa (kd:Int) _).mono ?_;rintro e g ⟨a,b,rfl,Bf,Bg,c,Bc,Bd⟩;have Cb:w.heap.size+1<g.heap.size:=by have:=c.size;simp at this;omega
 have f:Hd (Bw w g):=(((Below.refl _ _).alloc (Nat.le_refl _) _).alloc (by simp) _).trans (c.mono (by simp;omega));have Bh:cI g (w.heap.size+1) 0 (kd:Int):=(c.cell (p:=(iA (w.heap.size+1) 0)) (by simp)).trans (by simp);have H:Hd (∀j,j<9→cI g (w.heap.size+1) (1+j) 0):=fun j hj=>(c.cell (p:=(iA (w.heap.size+1) (1+j))) (by simp)).trans (by
  have h:j=0∨j=1∨j=2∨j=3∨j=4∨j=5∨j=6∨j=7∨j=8:=by omega
  rcases h with rfl|rfl|rfl|rfl|rfl|rfl|rfl|rfl|rfl<;>simp)
 have B0:Hd (∀j,g.frozen? (iA (w.heap.size+1) j)=false):=fun j=>(c.frozen (p:=(iA (w.heap.size+1) j)) (by simp)).trans (by simp)
 have D:Hd (∀j,j<10→cI g w.heap.size j 0):=fun j hj=>(c.cell (p:=(iA w.heap.size j)) (by simp;omega)).trans (by
  have h:j=0∨j=1∨j=2∨j=3∨j=4∨j=5∨j=6∨j=7∨j=8∨j=9:=by omega
  rcases h with rfl|rfl|rfl|rfl|rfl|rfl|rfl|rfl|rfl|rfl<;>simp)
 have C:Hd (∀j,g.frozen? (iA w.heap.size j)=false):=fun j=>(c.frozen (p:=(iA w.heap.size j)) (by simp;omega)).trans (by simp)
 have A1:(mz (kd:Int)).length=(terms (kd:Int)).length:=by simp[mz]
 have t:(dR (kd:Int)).length=(terms (kd:Int)).length:=by simp[dR]
 have C8:=kC (kd:Int);rcases Bf with⟨rfl,u⟩|⟨ba,rfl,A2,z⟩
 ·have ht:terms (kd:Int)= []:=by simpa [mz] using u
  have Bj:kd<1∨5≤kd:=by
   rcases Nat.lt_or_ge kd 1 with q|q
   ·exact .inl q
   rcases Nat.lt_or_ge kd 5 with q2|q2
   ·exfalso;have h4:kd=1∨kd=2∨kd=3∨kd=4:=by omega
    rcases h4 with rfl|rfl|rfl|rfl<;>exact absurd ht (by decide)
   exact .inr q2
  have B:g.grownBy g (some (w.heap.size+1)):=⟨rfl,rfl,rfl,Nat.le_refl _,fun _ _ _=>rfl⟩;have Bz:aY (terms (kd:Int))=0:=by rw[ht];rfl
  have B5:Hd (reads s.data.toList 2 (terms (kd:Int)) (fun _=>0)=fun _=>0):=by show _=_;rw[ht];rfl
  have I:=B.cell (D.o 0 (by omega)) (by simp);have Aj:=(World.frozen?_of_block (a:=(iA w.heap.size 0)) (B.block w.heap.size (by omega) (by simp))).trans (C.o 0);have J:=B.cell (D.o 1 (by omega)) (by simp);have Ak:=(World.frozen?_of_block (a:=(iA w.heap.size 1)) (B.block w.heap.size (by omega) (by simp))).trans (C.o 1);have K:=B.cell (D.o 2 (by omega)) (by simp);have Al:=(World.frozen?_of_block (a:=(iA w.heap.size 2)) (B.block w.heap.size (by omega) (by simp))).trans (C.o 2);have M:=B.cell (D.o 3 (by omega)) (by simp);have Am:=(World.frozen?_of_block (a:=(iA w.heap.size 3)) (B.block w.heap.size (by omega) (by simp))).trans (C.o 3);have N:=B.cell (D.o 4 (by omega)) (by simp);have An:=(World.frozen?_of_block (a:=(iA w.heap.size 4)) (B.block w.heap.size (by omega) (by simp))).trans (C.o 4);have O:=B.cell (D.o 5 (by omega)) (by simp)
  have Ao:=(World.frozen?_of_block (a:=(iA w.heap.size 5)) (B.block w.heap.size (by omega) (by simp))).trans (C.o 5);have R:=B.cell (D.o 6 (by omega)) (by simp);have Ap:=(World.frozen?_of_block (a:=(iA w.heap.size 6)) (B.block w.heap.size (by omega) (by simp))).trans (C.o 6);have S:=B.cell (D.o 7 (by omega)) (by simp);have Aq:=(World.frozen?_of_block (a:=(iA w.heap.size 7)) (B.block w.heap.size (by omega) (by simp))).trans (C.o 7);have T:=B.cell (D.o 8 (by omega)) (by simp);have Ar:=(World.frozen?_of_block (a:=(iA w.heap.size 8)) (B.block w.heap.size (by omega) (by simp))).trans (C.o 8);have U:=B.cell (D.o 9 (by omega)) (by simp);have As:=(World.frozen?_of_block (a:=(iA w.heap.size 9)) (B.block w.heap.size (by omega) (by simp))).trans (C.o 9);have Bp:=H.o 0 (by omega);have Bq:=H.o 1 (by omega);have Br:=H.o 2 (by omega);have Bs:=H.o 3 (by omega);have Bt:=H.o 4 (by omega)
  have Bu:=H.o 5 (by omega);have Bv:=H.o 6 (by omega);have Bx:=H.o 7 (by omega);have By:=H.o 8 (by omega);by_cases Bk:n=1
  ·subst Bk;by_cases Bi:kd=5
   ·subst Bi;have F:Hd (qm s=((5:Nat):Int)∧ku s=(fun _=>0)∧tq s=((1:Nat):Int)+1∧jy s=0):=by
     have:=l.o ⟨by omega,by omega,by rw[Bz]⟩;exact⟨this.1,this.2.1.trans B5.o,this.2.2⟩
    go_wp2_with fail;refine wp_loop_rounds 1 ?_;rw[rounds_succ];go_wp2;refine bodyPost_ret (v:=.tuple #[dD 5 (fun _=>0),iV 2,iV 0]) (by simp[results,Tryz.results37,go_sem,I,J,K,M,N,O,R,S,T,U]) rfl ⟨by rw[F.1,F.2.1,F.2.2.1,F.2.2.2];rfl,?_⟩;refine f.trans ?_;exact kT (bG B (by omega) (by omega)) _ _ _ _ _ _ _ _ _ _
   have F:Hd (qm s=0∧ku s=(fun _=>0)∧tq s=((1:Nat):Int)+1∧jy s=5):=d.o (by omega);have A9:(kd:Int)<1∨5<(kd:Int):=by omega
   rcases A9 with A9|A9;all_goals
    go_wp2_with fail;refine wp_loop_rounds 1 ?_;rw[rounds_succ];go_wp2;refine bodyPost_ret (v:=.tuple #[dD 0 (fun _=>0),iV 2,iV 5]) (by simp[results,Tryz.results37,go_sem,I,J,K,M,N,O,R,S,T,U]) rfl ⟨by rw[F.1,F.2.1,F.2.2.1,F.2.2.2];rfl,?_⟩;refine f.trans ?_;exact kT (bG B (by omega) (by omega)) _ _ _ _ _ _ _ _ _ _
  have F:Hd (qm s=0∧ku s=(fun _=>0)∧tq s=(n:Int)+1∧jy s=5):=d.o (by omega);have hq:((2:Int) != (n:Int)+1)=true:=by rw[bne_iff_ne];omega
  go_wp2_with fail;refine wp_loop_rounds 1 ?_;rw[rounds_succ];go_wp2;refine bodyPost_ret (v:=.tuple #[dD 0 (fun _=>0),iV ((n:Int)+1),iV 5]) (by simp[results,Tryz.results37,go_sem,I,J,K,M,N,O,R,S,T,U]) rfl ⟨by rw[F.1,F.2.1,F.2.2.1,F.2.2.2],?_⟩;refine f.trans ?_;exact kT (bG B (by omega) (by omega)) _ _ _ _ _ _ _ _ _ _
 rcases Bg with⟨rfl,u⟩|⟨bb,rfl,-,m⟩
 ·exact absurd (by have:terms (kd:Int)= []:=by simpa [dR] using u
                   simp[mz,this]) A2
 rw[A1,t];have HA:Hd (∀i (h:i<(mz (kd:Int)).length),cI g ba i ((mz (kd:Int))[i])):=z;have Az:Hd (∀i (h:i<(dR (kd:Int)).length),cI g bb i ((dR (kd:Int))[i])):=m;have HL:Hd ((mz (kd:Int)).length=(terms (kd:Int)).length):=A1;have B2:Hd ((dR (kd:Int)).length=(terms (kd:Int)).length):=t;generalize hN:(terms (kd:Int)).length=L at *;have HN:Hd ((terms (kd:Int)).length=L):=hN;have B1:Hd (0<L):=by
  show 0<L;rcases Nat.eq_zero_or_pos L with A7 |A7
  ·exact absurd (by rw[←List.length_eq_zero_iff,HL.o,A7]) A2
  exact A7
 have Ag:ba≠w.heap.size+1:=by have:=Bc ba 0 _ _ rfl;simp at this;omega
 have Ah:bb≠w.heap.size+1:=by have:=Bd bb 0 _ _ rfl;simp at this;omega
 go_wp2_with fail;go_loopw [9,10] (fun at_ i wr=> ∃k:Nat,k≤L∧i=iV k∧at_=iV ((2+aY ((terms (kd:Int)).take k):Nat):Int)∧2+aY ((terms (kd:Int)).take k)≤n+1∧g.grownBy wr (some (w.heap.size+1))∧
  cI wr (w.heap.size+1) 0 (kd:Int)∧(∀j,j<9→cI wr (w.heap.size+1) (1+j) (reads s.data.toList 2 ((terms (kd:Int)).take k) (fun _=>0) j))∧(∀j,wr.frozen? (iA (w.heap.size+1) j)=false)) (fun _ i _=>L - (intOf i).toNat)
 case atStart=>exact⟨0,Nat.zero_le _,rfl,rfl,by simp[aY];omega,⟨rfl,rfl,rfl,Nat.le_refl _,fun _ _ _=>rfl⟩,Bh,H.o,B0.o⟩
 case round=>
  obtain⟨k,C7,rfl,rfl,B6,B,B8,Ba,Be⟩:=hrel;have A4:Hd (∀j,j<9→cI wr (w.heap.size+1) (1+j) (reads s.data.toList 2 ((terms (kd:Int)).take k) (fun _=>0) j)):=Ba;have Ad:Hd (∀j,wr.frozen? (iA (w.heap.size+1) j)=false):=Be;by_cases A0:k<L
  ·have Aa:k<(terms (kd:Int)).length:=by rw[HN.o];exact A0
   have Bl:=bX (kd:Int) _ (List.getElem_mem Aa);have Ay:aY ((terms (kd:Int)).take (k+1))=aY ((terms (kd:Int)).take k)+(terms (kd:Int))[k].2:=by
    rw[List.take_succ_eq_append_getElem Aa,zBm]
   have Ax:reads s.data.toList 2 ((terms (kd:Int)).take (k+1)) (fun _=>0)=upd (reads s.data.toList 2 ((terms (kd:Int)).take k) (fun _=>0)) (terms (kd:Int))[k].1 (rd s.data.toList (2+aY ((terms (kd:Int)).take k)) (terms (kd:Int))[k]):=by
    rw[List.take_succ_eq_append_getElem Aa,zBn]
   have z:=B.cell (HA.o k (by rw[HL.o];exact A0)) (by simpa using Ag);have m:=B.cell (Az.o k (by rw[B2.o];exact A0)) (by simpa using Ah);have Cc:=xB (terms (kd:Int)) (k+1);simp only[mz,dR,List.getElem_map]at z m;generalize hp:(terms (kd:Int))[k]=p at *;obtain⟨X,G⟩:=p;obtain⟨Av,Bn,Aw⟩:=Bl;simp only at Av Bn Aw z m Ay Ax;have Bb:=A4.o X Av;have C6:=Ad.o (1+X);have B4:Hd (reads s.data.toList 2 ((terms (kd:Int)).take (k+1)) (fun _=>0)=upd (reads s.data.toList 2 ((terms (kd:Int)).take k) (fun _=>0)) X (rd s.data.toList (2+aY ((terms (kd:Int)).take k)) (X,G))):=Ax;have Z:Hd (aY ((terms (kd:Int)).take (k+1))=aY ((terms (kd:Int)).take k)+G):=Ay;generalize hat':2+aY ((terms (kd:Int)).take k)=A at *;have Y:Hd (2+aY ((terms (kd:Int)).take k)=A):=hat';have Ca:(0:Int)≤(X:Int)∧(X:Int)<9:=by omega
   by_cases Bm:n+1<A+G
   ·have F:Hd (qm s=0∧ku s=(fun _=>0)∧tq s=(n:Int)+1∧jy s=5):=d.o (by
     intro hc;have h3:=hc.2.2;have h4:=Z.o;have h5:=Y.o;omega)
    have I:=B.cell (D.o 0 (by omega)) (by simp);have Aj:=(World.frozen?_of_block (a:=(iA w.heap.size 0)) (B.block w.heap.size (by omega) (by simp))).trans (C.o 0);have J:=B.cell (D.o 1 (by omega)) (by simp);have Ak:=(World.frozen?_of_block (a:=(iA w.heap.size 1)) (B.block w.heap.size (by omega) (by simp))).trans (C.o 1);have K:=B.cell (D.o 2 (by omega)) (by simp);have Al:=(World.frozen?_of_block (a:=(iA w.heap.size 2)) (B.block w.heap.size (by omega) (by simp))).trans (C.o 2);have M:=B.cell (D.o 3 (by omega)) (by simp);have Am:=(World.frozen?_of_block (a:=(iA w.heap.size 3)) (B.block w.heap.size (by omega) (by simp))).trans (C.o 3);have N:=B.cell (D.o 4 (by omega)) (by simp);have An:=(World.frozen?_of_block (a:=(iA w.heap.size 4)) (B.block w.heap.size (by omega) (by simp))).trans (C.o 4);have O:=B.cell (D.o 5 (by omega)) (by simp)
    have Ao:=(World.frozen?_of_block (a:=(iA w.heap.size 5)) (B.block w.heap.size (by omega) (by simp))).trans (C.o 5);have R:=B.cell (D.o 6 (by omega)) (by simp);have Ap:=(World.frozen?_of_block (a:=(iA w.heap.size 6)) (B.block w.heap.size (by omega) (by simp))).trans (C.o 6);have S:=B.cell (D.o 7 (by omega)) (by simp);have Aq:=(World.frozen?_of_block (a:=(iA w.heap.size 7)) (B.block w.heap.size (by omega) (by simp))).trans (C.o 7);have T:=B.cell (D.o 8 (by omega)) (by simp);have Ar:=(World.frozen?_of_block (a:=(iA w.heap.size 8)) (B.block w.heap.size (by omega) (by simp))).trans (C.o 8);have U:=B.cell (D.o 9 (by omega)) (by simp);have As:=(World.frozen?_of_block (a:=(iA w.heap.size 9)) (B.block w.heap.size (by omega) (by simp))).trans (C.o 9);go_wp2
    refine bodyPost_ret (v:=.tuple #[dD 0 (fun _=>0),iV ((n:Int)+1),iV 5]) (by simp[results,Tryz.results37,go_sem,I,J,K,M,N,O,R,S,T,U]) rfl ⟨by rw[F.1,F.2.1,F.2.2.1,F.2.2.2],?_⟩;refine f.trans ?_;exact kT (bG B (by omega) (by omega)) _ _ _ _ _ _ _ _ _ _
   have Ab:A+G≤s.size:=by omega
   have C1:=sH s A G wr Ab;have B7:=zBp s A G Ab;have B9:=kS s A G Ab;have Ce:=eX ((s.data.toList.drop A).take G);have Cd:=oP ((s.data.toList.drop A).take G) (Nat.le_trans (List.length_take_le _ _) (by omega));go_wp2_with fail;refine(jZ (s.extract A (A+G)) _ (by rw[B9];omega)).mono ?_;rintro e w' ⟨rfl,rfl⟩;rw[B7];have A6:Hd (∀x:Int,rd s.data.toList A (X,G)=x→∀j,j<9→(w'.setCell (iA (w.heap.size+1) (1+X)) (iV x)).cell? (iA (w.heap.size+1) (1+j))=sI (reads s.data.toList 2 ((terms (kd:Int)).take (k+1)) (fun _=>0) j)):=fun x hx j hj=>by
    rw[B4.o,hx];unfold upd;by_cases At:j=X
    ·subst At;rw[if_pos rfl];exact World.cell?_setCell_same _ _ _ Bb
    rw[if_neg At,World.cell?_setCell_other _ _ _ _ (by intro e;injection e with e1 e2;omega)];exact A4.o j hj
   have A3:Hd (∀x:Value,(w'.setCell (iA (w.heap.size+1) (1+X)) x).cell? (iA (w.heap.size+1) 0)=sI (kd:Int)):=fun x=>by
    rw[World.cell?_setCell_other _ _ _ _ (by intro e;injection e with e1 e2;omega)];exact B8
   have A5:Hd (∀(x:Value) (j:Nat),(w'.setCell (iA (w.heap.size+1) (1+X)) x).frozen? (iA (w.heap.size+1) j)=false):=fun x j=>by
    rw[World.frozen?_setCell];exact Ad.o j
   have C0:∀x:Value,(w'.setCell (iA (w.heap.size+1) (1+X)) x).cell? (iA bb k)=sI (G:Int):=fun x=>by
    rw[World.cell?_setCell_other _ _ _ _ (by intro e;injection e with e1 e2;omega)];exact m
   have HP:=zBq s.data.toList A X G;have B3:=zBr s.data.toList A G;have Ae:Hd (¬(X=6∧2147483648≤val ((s.data.toList.drop A).take G))→rd s.data.toList A (X,G)=val ((s.data.toList.drop A).take G)):=HP;have Af:Hd (2147483648≤val ((s.data.toList.drop A).take G)→rd s.data.toList A (6,G)=val ((s.data.toList.drop A).take G) - 4294967296):=B3;generalize val ((s.data.toList.drop A).take G)=x at *;by_cases h6:X=6
   ·subst h6;have h4:G=4:=Aw rfl;subst h4;by_cases Ai:2147483648≤x
    ·go_wp2;go_roundw
     case rel=>exact⟨k+1,by omega,by go_num,zA0 (by have:=Y.o;rw[Z.o];omega),by have:=Y.o;rw[Z.o];omega,sJ B _,A3.o _,A6.o _ (Af.o Ai),A5.o _⟩
     case measure=>simp[intOf];omega
    go_wp2;go_roundw
    case rel=>exact⟨k+1,by omega,by go_num,zA0 (by have:=Y.o;rw[Z.o];omega),by have:=Y.o;rw[Z.o];omega,sJ B _,A3.o _,A6.o _ (Ae.o (by omega)),A5.o _⟩
    case measure=>simp[intOf];omega
   have g6:((X:Int) == 6)=false:=beq_eq_false_iff_ne.2 (by omega);go_wp2;go_roundw
   case rel=>exact⟨k+1,by omega,by go_num,zA0 (by have:=Y.o;rw[Z.o];omega),by have:=Y.o;rw[Z.o];omega,sJ B _,A3.o _,A6.o _ (Ae.o (by omega)),A5.o _⟩
   case measure=>simp[intOf];omega
  have Au:k=L:=by omega
  subst Au;have Ac:(terms (kd:Int)).take k=terms (kd:Int):=List.take_of_length_le (by rw[HN.o];omega);rw[Ac]at B6;have E:Hd (∀j,j<9→cI wr (w.heap.size+1) (1+j) (reads s.data.toList 2 (terms (kd:Int)) (fun _=>0) j)):=by
   have:=A4.o;rw[Ac]at this;exact this
  rw[Ac];have Bj:1≤kd∧kd≤4:=by
   have h1:=HN.o;have h2:0<k:=B1.o;unfold terms at h1;split at h1
   ·omega
   split at h1
   ·omega
   split at h1
   ·omega
   split at h1
   ·omega
   simp at h1;omega
  have I:=B.cell (D.o 0 (by omega)) (by simp);have Aj:=(World.frozen?_of_block (a:=(iA w.heap.size 0)) (B.block w.heap.size (by omega) (by simp))).trans (C.o 0);have J:=B.cell (D.o 1 (by omega)) (by simp);have Ak:=(World.frozen?_of_block (a:=(iA w.heap.size 1)) (B.block w.heap.size (by omega) (by simp))).trans (C.o 1);have K:=B.cell (D.o 2 (by omega)) (by simp);have Al:=(World.frozen?_of_block (a:=(iA w.heap.size 2)) (B.block w.heap.size (by omega) (by simp))).trans (C.o 2);have M:=B.cell (D.o 3 (by omega)) (by simp);have Am:=(World.frozen?_of_block (a:=(iA w.heap.size 3)) (B.block w.heap.size (by omega) (by simp))).trans (C.o 3);have N:=B.cell (D.o 4 (by omega)) (by simp);have An:=(World.frozen?_of_block (a:=(iA w.heap.size 4)) (B.block w.heap.size (by omega) (by simp))).trans (C.o 4);have O:=B.cell (D.o 5 (by omega)) (by simp)
  have Ao:=(World.frozen?_of_block (a:=(iA w.heap.size 5)) (B.block w.heap.size (by omega) (by simp))).trans (C.o 5);have R:=B.cell (D.o 6 (by omega)) (by simp);have Ap:=(World.frozen?_of_block (a:=(iA w.heap.size 6)) (B.block w.heap.size (by omega) (by simp))).trans (C.o 6);have S:=B.cell (D.o 7 (by omega)) (by simp);have Aq:=(World.frozen?_of_block (a:=(iA w.heap.size 7)) (B.block w.heap.size (by omega) (by simp))).trans (C.o 7);have T:=B.cell (D.o 8 (by omega)) (by simp);have Ar:=(World.frozen?_of_block (a:=(iA w.heap.size 8)) (B.block w.heap.size (by omega) (by simp))).trans (C.o 8);have U:=B.cell (D.o 9 (by omega)) (by simp);have As:=(World.frozen?_of_block (a:=(iA w.heap.size 9)) (B.block w.heap.size (by omega) (by simp))).trans (C.o 9);have C2:(1:Int)≤(kd:Int):=by omega
  have C3:(kd:Int)≤5:=by omega
  by_cases A8:2+aY (terms (kd:Int))=n+1
  ·have F:=l.o ⟨by omega,by omega,A8⟩;have y:Hd (qm s=kd∧ku s=reads s.data.toList 2 (terms (kd:Int)) (fun _=>0)∧tq s=(n:Int)+1∧jy s=0):=F;have Bp:=E.o 0 (by omega);have Bq:=E.o 1 (by omega);have Br:=E.o 2 (by omega);have Bs:=E.o 3 (by omega);have Bt:=E.o 4 (by omega);have Bu:=E.o 5 (by omega);have Bv:=E.o 6 (by omega);have Bx:=E.o 7 (by omega);have By:=E.o 8 (by omega);rw[A8];have hq:(((n+1:Nat):Int) != (n:Int)+1)=false:=by simp
   generalize reads s.data.toList 2 (terms (kd:Int)) (fun _=>0)=V at *;go_wp2;refine bodyPost_ret (v:=.tuple #[dD (kd:Int) V,iV ((n:Int)+1),iV 0]) (by simp[results,Tryz.results37,go_sem,I,J,K,M,N,O,R,S,T,U]) rfl ⟨by rw[y.1,y.2.1,y.2.2.1,y.2.2.2],?_⟩;refine f.trans ?_;exact kT (bG B (by omega) (by omega)) _ _ _ _ _ _ _ _ _ _
  have F:Hd (qm s=0∧ku s=(fun _=>0)∧tq s=(n:Int)+1∧jy s=5):=d.o (fun hc=>A8 hc.2.2);generalize 2+aY (terms (kd:Int))=A at *;have hq:((A:Int) != (n:Int)+1)=true:=by rw[bne_iff_ne];omega
  go_wp2;refine bodyPost_ret (v:=.tuple #[dD 0 (fun _=>0),iV ((n:Int)+1),iV 5]) (by simp[results,Tryz.results37,go_sem,I,J,K,M,N,O,R,S,T,U]) rfl ⟨by rw[F.1,F.2.1,F.2.2.1,F.2.2.2],?_⟩;refine f.trans ?_;exact kT (bG B (by omega) (by omega)) _ _ _ _ _ _ _ _ _ _
theorem zBu(s:ByteArray)(w:World)(hm:s.size≤1000000000):
 Cl 37 #[.string s] w fun e w'=>e=rV #[dD (qm s) (ku s),iV (tq s),iV (jy s)]∧Below w.heap.size w w':=by
 by_cases h:s.size=0
 ·have e:jy s=4:=by unfold jy;rw[if_pos h]
  have B:qm s=0:=by unfold qm;rw[e];rfl
  have C:ku s=fun _=>0:=by unfold ku;rw[e];rfl
  have D:tq s=0:=by unfold tq;rw[if_pos h]
  rw[e,B,C,D];exact zEq s w h
 by_cases A:zw s 0=0
 ·have e:jy s=5:=by unfold jy;rw[if_neg h,if_pos A]
  have B:qm s=0:=by unfold qm;rw[e];rfl
  have C:ku s=fun _=>0:=by unfold ku;rw[e];rfl
  have D:tq s=1:=by unfold tq;rw[if_neg h,if_pos A]
  rw[e,B,C,D];exact zEr s w (by omega) A
 by_cases E:s.size<zw s 0+1
 ·have e:jy s=4:=by unfold jy;rw[if_neg h,if_neg A,if_pos E]
  have B:qm s=0:=by unfold qm;rw[e];rfl
  have C:ku s=fun _=>0:=by unfold ku;rw[e];rfl
  have D:tq s=0:=by unfold tq;rw[if_neg h,if_neg A,if_pos E]
  rw[e,B,C,D];exact zEs s w (by omega) A E
 exact zEt s w (by omega) A (by omega) hm
end
section
open Go
theorem zBv(t:List UInt8):∀(l:List (Nat×Nat)) (a:Nat) (v:Nat→Int),(∀i,i≠6→0≤v i∧v i<4294967296)→(∀p∈l,p.2≤4)→∀i,i≠6→0≤reads t a l v i∧reads t a l v i<4294967296
 | [],a,v,hv,_,i,hi=>hv i hi
 |p::l,a,v,hv,hl,i,hi=>by
  refine zBv t l (a+p.2) _ (fun j hj=>?_) (fun q hq=>hl q (List.mem_cons_of_mem _ hq)) i hi;unfold upd;split
  ·rename_i hjp;have hp:=hl p (List.mem_cons_self ..);have h0:=eX ((t.drop a).take p.2);have h1:=oP ((t.drop a).take p.2) (by rw[List.length_take];omega);unfold rd;rw[if_neg (fun hc=>hj (hjp▸hc.1))];exact⟨h0,h1⟩
  exact hv j hj
theorem kU(s:ByteArray)(i:Nat)(hi:i≠6):0≤ku s i∧ku s i<4294967296:=by
 unfold ku;split
 ·exact zBv _ _ _ _ (fun _ _=>⟨by show(0:Int)≤0;omega,by show(0:Int)<4294967296;omega⟩) (fun p hp=>by have:=bX _ p hp;omega) i hi
 exact⟨by show(0:Int)≤0;omega,by show(0:Int)<4294967296;omega⟩
theorem kV(s:ByteArray):bf.VOk (ku s):=⟨(kU s 0 (by decide)).1,(kU s 0 (by decide)).2,(kU s 8 (by decide)).1,(kU s 8 (by decide)).2⟩
theorem zEu(s:ByteArray):jy s=0∨jy s=4∨jy s=5:=by
 unfold jy;split
 ·exact .inr (.inl rfl)
 split
 ·exact .inr (.inr rfl)
 split
 ·exact .inr (.inl rfl)
 split
 ·exact .inl rfl
 exact .inr (.inr rfl)
theorem xC(s:ByteArray)(h:jy s≠4):1≤tq s∧tq s≤s.size:=by
 unfold jy at h;unfold tq;by_cases A:s.size=0
 ·rw[if_pos A]at h;exact absurd rfl h
 rw[if_neg A]at h⊢;by_cases B:zw s 0=0
 ·rw[if_pos B];omega
 rw[if_neg B]at h⊢;by_cases C:s.size<zw s 0+1
 ·rw[if_pos C]at h;exact absurd rfl h
 rw[if_neg C];omega
def ba(l:List UInt8):ByteArray:=⟨l.toArray⟩
theorem zx(l:List UInt8):(ba l).size=l.length:=by simp[ba,ByteArray.size]
namespace bf
def cut(e:bf):bf:={ e with rest:=e.rest.drop (tq (ba e.rest)).toNat }
def frame(e:bf):bf:=if jy (ba e.rest)=5 then e.cut.ny 0 1 else e.cut.run (qm (ba e.rest)) (ku (ba e.rest))
def steps:Nat→bf→bf
 |0,e=>e
 |f+1,e=>if jy (ba e.rest)=4 then e else steps f e.frame.follow
def qc(e:bf)(t:List UInt8):bf:={ e with rest:=e.rest++t,out:=[] }
def apply(e:bf)(t:List UInt8):bf:=steps (e.rest.length+t.length) (e.qc t)
theorem cut_inv(h:fe e):fe e.cut:=h.vz rfl rfl rfl rfl rfl rfl
theorem vT(h:fe e):fe e.frame∧pY e.cut e.frame∧jv 2010 1000 e e.frame:=by
 have B:=cut_inv h;have C:jv 0 0 e e.cut:=by obtain⟨D,E,F,G,H,I,J,K,L,A⟩:=jv.refl e;exact⟨D,E,F,G,H,I,J,K,L,A⟩
 unfold frame;split
 ·exact⟨B.tell _ _ _ _ _ _,bK _ _ _,(C.trans (jv.tell _ _ _ _ _ _ _)).mono (by omega) (by omega)⟩
 obtain⟨M,N⟩:=run_more B (qm (ba e.rest)) (kV (ba e.rest));exact⟨run_inv B _ (kV _),M,(C.trans N).mono (by omega) (by omega)⟩
theorem kE(h:fe e):fe e.frame.follow∧pY e.cut e.frame.follow∧jv 2100 1000 e e.frame.follow:=by
 obtain⟨A,B,C⟩:=vT h;obtain⟨D,E⟩:=follow_inv A;exact⟨D,B.stays E,(C.trans (follow_grew A)).mono (by omega) (by omega)⟩
theorem cut_len(e:bf)(h:jy (ba e.rest)≠4):e.cut.rest.length<e.rest.length:=by
 obtain⟨B,A⟩:=xC (ba e.rest) h;rw[zx]at A;show(e.rest.drop (tq (ba e.rest)).toNat).length<_;rw[List.length_drop];omega
end bf
end
section
namespace bf
def PegOk(o:Ord):Prop:=o.dm=1→o.typ=3→0<o.opn∧(o.bn≠0→0<o.bg)
def qd(e:bf):Prop:= ∀(i:Nat) (o:Ord),e.all[i]? =some o→PegOk o
theorem qd.upd(h:qd e)(i:Nat)(f:Ord→Ord)(hf:∀o,e.all[i]? =some o→PegOk (f o)):qd (e.upd i f):=by
 intro j o A;rw[dL]at A;by_cases C:i=j
 ·subst C;rw[if_pos rfl]at A;obtain⟨D,B,rfl⟩:=Option.map_eq_some_iff.1 A;exact hf D B
 rw[if_neg C]at A;exact h j o A
theorem qd.vz{e':bf}(h:qd e)(ha:e'.all=e.all):qd e':=fun i o ho=>h i o (ha▸ho)
theorem qd.lay(h:qd e)(i:Nat)(n:Int)(hn:0<n):qd (e.lay i n):=by
 unfold bf.lay;have A:qd ({ e with dh:=e.dh+1 }.upd i fun o=>{ o with dh:=(e.dh+1:Nat),bg:=n }):=qd.upd (e:={ e with dh:=e.dh+1 }) h i _ (fun o ho hs ht=>⟨(h i o ho hs ht).1,fun _=>hn⟩);split
 ·exact A.vz rfl
 exact A
theorem qd.sw(p:qd e)(h:fe e){i k:Nat}{o:Ord}(ho:e.all[i]? =some o)(hs:o.dm=1)(hsh:o.bg=0)(ht:o.typ≠3)(hm:e.bH i=some k):qd (e.sw i k):=by
 obtain⟨r,N,T,J,F,V,U,S,b,et,d,X,_,_⟩:=bJ h ho hs hsh hm;have L:=h.ok k r N;obtain⟨f,g,l⟩:=vM L J F;have Z:=L.kJ;rw[et];have E:∀x:Ord,x.typ=o.typ→PegOk x:=fun x A _ I=>absurd (A▸I) ht
 have Y:qd ((e.upd i fun _=>kg o r)):=p.upd i _ (fun x A=>E _ rfl);have D:(e.dx i k o r).all[k]? =some (jb o r):=by rw[cK,if_pos rfl,N];rfl
 have B:∀(j:Nat) (x:Ord),k≠j→(e.dx i k o r).all[j]? =some x→PegOk x:=by
  intro j x R A;rw[cK,if_neg R]at A;by_cases C:i=j
  ·subst C;rw[if_pos rfl,ho]at A;obtain rfl:kg o r=x:=Option.some.inj A;exact E _ rfl
  rw[if_neg C]at A;exact p j x A
 unfold bf.rq;split
 ·intro j x A;by_cases C:k=j
  ·subst C;rw[upd_same _ _ _ _ D]at A;obtain rfl:=Option.some.inj A;intro K;exact absurd K (show¬(2:Int)=1 by decide)
  rw[upd_ne _ _ _ _ C]at A;exact B j x C A
 rename_i M;split
 ·rename_i H;have O:r.typ=2:=Classical.byContradiction fun hc=>by
   rcases L.whole hc with G |G
   ·exact F G
   exact M (by have:r.bg - gy o r=0:=H;show r.opn - gy o r=0;omega)
  intro j x A;rw[lay_at]at A;by_cases C:k=j
  ·subst C;rw[if_pos rfl]at A;change (Option.map _ (e.dx i k o r).all[k]?)=_ at A;rw[D]at A;obtain rfl:=Option.some.inj A;intro _ I;exact absurd (O.symm.trans I) (by decide)
  rw[if_neg C]at A;exact B j x C A
 rename_i H;intro j x A;by_cases C:k=j
 ·subst C;rw[D]at A;obtain rfl:=Option.some.inj A;intro _ _;have a:r.opn - gy o r≠0:=M;have c:r.bg - gy o r≠0:=H;show 0<r.opn - gy o r∧(r.bn≠0→0<r.bg - gy o r);omega
 exact B j x C A
theorem qd.qg:∀(f:Nat) {e:bf} {i:Nat} {o:Ord},qd e→fe e→e.all[i]? =some o→o.dm=1→o.bg=0→o.typ≠3→qd (bf.qg f e i)
 |0,e,i,o,p,h,ho,hs,hsh,ht=>p
 |f+1,e,i,o,p,h,ho,hs,hsh,ht=>by
  unfold bf.qg;split
  ·rename_i k hm;obtain⟨r,hr,hne,hop,hr1,hst,hr2,hmt,i1,et,i2,hi,_,_⟩:=bJ h ho hs hsh hm;exact qd.qg f (p.sw h ho hs hsh ht hm) i2 hi hs hsh ht
  exact p
theorem qd.zy(p:qd e)(h:fe e){i:Nat}{o:Ord}(ho:e.all[i]? =some o)(hs:o.dm=1)(hsh:o.bg=0)(ht:o.typ≠3):qd (e.zy i):=by
 obtain⟨F,A,D,G,H,I,J⟩:=oV (e.nH i).toNat h ho hs hsh;have B:=qd.qg (e.nH i).toNat p h ho hs hsh ht;rw[kK];unfold dP;rw[A];have E:qd ((bf.qg (e.nH i).toNat e i).upd i fun o=>{ o with dm:=2 }):=B.upd i _ (fun x hx hq=>absurd hq (show¬(2:Int)=1 by decide));show qd (if _ then _ else _);split
 ·exact E
 rename_i C;exact B.lay i _ (by have:=(atRest_bd (D.ok i F A) C).1;omega)
theorem qd.gone(p:qd e)(i:Nat)(reason:Int):qd (e.gone i reason):=by
 unfold bf.gone;split
 ·exact(p.upd i (fun o=>{ o with cancelled:=o.opn,opn:=0,bg:=0,dm:=3 }) (fun x hx hq=>absurd hq (show¬(3:Int)=1 by decide))).vz rfl
 exact p
theorem fold_pegs(f:bf→Nat→bf)(h1:∀e i,qd e→qd (f e i)):∀(l:List Nat) (e:bf),qd e→qd (l.foldl f e)
 | [],e,h=>h
 |i::l,e,h=>fold_pegs f h1 l _ (h1 e i h)
theorem qd.due(p:qd e)(q:Ord→Bool)(reason:Int):qd (e.due q reason):=fold_pegs _ (fun e i h=>by
 rcases gF q reason e i with h1|⟨_,h1⟩<;>rw[h1]
 ·exact h
 exact h.gone i reason) _ e p
theorem qd.follow(p:qd e):qd e.follow:=fold_pegs _ (fun e i h=>by
 rcases zq e i with h1|⟨o,ho,hs,ht,_,h1⟩
 ·rw[h1];exact h
 rcases h1 with⟨_,h1⟩|⟨_,h1⟩<;>rw[h1]
 ·exact(h.upd i (fun o=>{ o with bn:=0,bg:=0 }) (fun x hx hq ht=>⟨(h i x hx hq ht).1,fun hc=>absurd rfl hc⟩)).vz rfl
 exact(qd.upd (e:={ e with dh:=e.dh+1 }) h i (fun o'=>{ o' with bn:=e.target o,dh:=(e.dh+1:Nat),bg:=o'.opn }) (fun x hx hq ht=>⟨(h i x hx hq ht).1,fun _=>(h i x hx hq ht).1⟩)).vz rfl) _ e p
theorem why_zero(h:e.why v=0):(v 2=3→v 3=0)∧1≤v 4:=by
 unfold why at h;by_cases c1:v 0=0∨rf (v 1) 1 2=false∨rf (v 2) 1 3=false∨rf (v 7) 1 3=false
 ·rw[if_pos c1]at h;exact absurd h (by decide)
 rw[if_neg c1]at h;by_cases c2:(e.find (v 0)).isSome=true
 ·rw[if_pos c2]at h;exact absurd h (by decide)
 rw[if_neg c2]at h;by_cases A:(if v 2=3 then v 3 == 0 else rf (v 3) 1 e.mp)=false
 ·rw[if_pos A]at h;exact absurd h (by decide)
 rw[if_neg A]at h;by_cases B:rf (v 4) 1 e.mq=false∨(if v 2=2 then rf (v 5) 1 (v 4) else v 5 == 0)=false
 ·rw[if_pos B]at h;exact absurd h (by decide)
 refine⟨fun h3=>?_,?_⟩
 ·rw[if_pos h3]at A;simpa using A
 have:¬rf (v 4) 1 e.mq=false:=fun hc=>B (.inl hc)
 rw[fP]at this;exact this.1
theorem qd.fresh(p:qd e)(h:fe e)(hv:VOk v):qd (e.fresh v):=by
 rw[bV];split
 ·exact p.vz rfl
 rename_i A;have A:=Classical.byContradiction A;obtain⟨G,H⟩:=why_zero A;have D:qd (e.enter v):=fun i o ho=>by
  rcases enter_at e v i o ho with⟨_,B⟩|⟨_,B⟩
  ·exact p i o B
  subst B;intro _ C;exact⟨by show 0<v 4;omega,fun hc=>absurd (G C) hc⟩
 split
 ·exact D
 rename_i C;obtain⟨E,F⟩:=jY h hv A;exact D.zy E F rfl rfl C
theorem qd.replace(p:qd e)(h:fe e)(v:Nat→Int):qd (e.replace v):=by
 rw[aX];split
 ·exact p.vz rfl
 rename_i i O;split
 ·exact p
 rename_i o C;obtain⟨R,J,N,G⟩:=bE O;obtain rfl:o=R:=Option.some.inj (C.symm.trans J);by_cases H:(if o.typ=3 then v 3 == 0 else rf (v 3) 1 e.mp)=false
 ·rw[if_pos H];exact p.vz rfl
 rw[if_neg H];by_cases E:rf (v 4) (o.bu+1) e.mq=false
 ·rw[if_pos E];exact p.vz rfl
 rw[if_neg E];have k:=h.ok i o C;have I:=E;rw[fP]at E;have F:qd (e.jh i o v):=(p.upd i (fun _=>jd o (v 4)) (fun x hx hq A=>⟨by show 0<v 4 - o.bu;omega,fun hp=>(p i o C G A).2 hp⟩)).vz rfl;have B:(e.jh i o v).all[i]? =some (jd o (v 4)):=upd_same e i _ o C;unfold aR;by_cases K:zf o v=true
 ·rw[if_pos K];refine F.upd i _ (fun x hx hq A=>?_);obtain rfl:jd o (v 4)=x:=Option.some.inj (B.symm.trans hx);have L:=(p i o C G A).2;refine⟨by show 0<v 4 - o.bu;omega,fun hp=>?_⟩;have S:=L hp;show 0<if v 4 - o.bu<o.bg then v 4 - o.bu else o.bg
  split<;>omega
 rw[if_neg K];by_cases A:o.typ≠3
 ·rw[if_pos A];have M:=kL h C G v A ((Bool.not_eq_false _).mp H) ((Bool.not_eq_false _).mp I);refine qd.zy (F.upd i _ (fun x hx hq h3=>?_)) M (upd_same _ i _ _ B) G rfl A;obtain rfl:jd o (v 4)=x:=Option.some.inj (B.symm.trans hx);exact absurd h3 A
 rw[if_neg A];by_cases D:0<o.bg
 ·rw[if_pos D];exact F.lay i _ (by omega)
 rw[if_neg D];exact F
theorem qd.run(p:qd e)(h:fe e)(kind:Int)(hv:VOk v):qd (e.run kind v):=by
 unfold bf.run;split
 ·exact p.fresh h hv
 split
 ·unfold bf.cancel;split
  ·exact p.gone _ _
  exact p.vz rfl
 split
 ·exact p.replace h v
 split
 ·unfold bf.tick;split
  ·exact p.vz rfl
  exact qd.due (e:={ e with now:=v 8 }) p _ _
 split
 ·exact p.due _ _
 exact p
end bf
end
end Go.Proofs.YtehmdohpmpbnnaaGreatDoor
