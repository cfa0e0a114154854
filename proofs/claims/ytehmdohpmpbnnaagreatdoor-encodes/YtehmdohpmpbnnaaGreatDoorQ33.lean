import Derived.Test.YtehmdohpmpbnnaaGreatDoorQ00
import Derived.Test.YtehmdohpmpbnnaaGreatDoorQ06
import Derived.Test.YtehmdohpmpbnnaaGreatDoorQ16
import Derived.Test.YtehmdohpmpbnnaaGreatDoorQ19
import Derived.Test.YtehmdohpmpbnnaaGreatDoorQ22
import Derived.Test.YtehmdohpmpbnnaaGreatDoorQ23
import Derived.Laws.MakeOwn
import Derived.Deep.AppendLies
import Derived.Deep.RegionHeld3
import Derived.BigQuiet
set_option linter.all false
set_option maxRecDepth 100000
set_option maxHeartbeats 8000000
namespace Go.Proofs.YtehmdohpmpbnnaaGreatDoor
variable{w W w' a c:World}{base b k nb r d ed bb bm sb sm:Nat}{F:Nat→Prop}{e:bf}{g:Gh}{S:jk}{o:Obj}{P:Program}{ad:Nat→Addr}{st:Nat→ByteArray}
open Go.Proofs.Tryz
section
open Go.Extern Go.Maps Go.RowKit
theorem Tryz.infoStC:(prog.info? 121).map (fun i=>(i.size,i.bytes))=some (7,56):=by kernel_rfl
theorem Tryz.zeroStC2:(prog.info? 121).map (fun i=>i.zero)=some (some (.agg #[iV 0,iV 0,iV 0,iV 0,iV 0,iV 0,iV 0])):=by kernel_rfl
def ordAt(al:List Ord)(j:Nat):Ord:=match al[j]? with|some o=>o|none=>ord0
theorem wJ{al:List Ord}{j:Nat}{o:Ord}(h:al[j]? =some o):ordAt al j=o:=by unfold ordAt;rw[h]
theorem zJk(al:List Ord):(List.range al.length).map (ordAt al)=al:=by
 apply List.ext_getElem?;intro i;by_cases h:i<al.length
 ·rw[List.getElem?_map,List.getElem?_range h,Option.map_some,List.getElem?_eq_getElem h];rw[wJ (List.getElem?_eq_getElem h)]
 rw[List.getElem?_eq_none (by simp;omega),List.getElem?_eq_none (by omega)]
section
variable {w:World}
def entX(X:Nat→Ord)(j:Nat):Int×List Int:=((X j).id,(X j).state)
theorem zJl{X:Nat→Ord}{l js:List Nat}(hids:(l.map fun j=>(X j).id).Nodup)(hsub:∀j∈js,j∈l)(hp:(js.map (entX X)).Perm (l.map (entX X))):js.Perm l:=by
 have I:l.Nodup:=List.Pairwise.of_map _ (fun a c hac e1=>hac (e1▸rfl)) hids;have C:∀i∈l,∀j∈l,(X i).id=(X j).id→i=j:=fun i hi j hj e=>by
  obtain⟨a,K⟩:=List.getElem?_of_mem hi;obtain⟨b,L⟩:=List.getElem?_of_mem hj;have D:(l.map fun j=>(X j).id)[a]? =some (X i).id:=by rw[List.getElem?_map,K];rfl
  have E:(l.map fun j=>(X j).id)[b]? =some (X i).id:=by rw[List.getElem?_map,L,e];rfl
  have A:=(List.getElem?_eq_some_iff.1 D).1;have B:=(List.getElem?_eq_some_iff.1 E).1;rw[List.getElem?_eq_getElem A]at D;rw[List.getElem?_eq_getElem B]at E;have J:=Option.some.inj (D.trans E.symm);have O:a=b:=by
   rcases Nat.lt_trichotomy a b with h|h|h
   ·exact absurd J (List.pairwise_iff_getElem.1 hids a b A B h)
   ·exact h
   exact absurd J.symm (List.pairwise_iff_getElem.1 hids b a B A h)
  subst O;exact Option.some.inj (K.symm.trans L)
 have G:((l.map (entX X)).map Prod.fst).Nodup:=by rw[List.map_map];exact hids
 have H:(l.map (entX X)).Nodup:=List.Pairwise.of_map Prod.fst (fun a c hac e1=>hac (e1▸rfl)) G;have F:js.Nodup:=List.Pairwise.of_map _ (fun a c hac e1=>hac (e1▸rfl)) (hp.symm.nodup H);refine(List.perm_ext_iff_of_nodup F I).2 fun j=>⟨hsub j,fun hj=>?_⟩
 obtain⟨k,N,M⟩:=List.mem_map.1 (hp.mem_iff.2 (List.mem_map_of_mem (f:=entX X) hj));have:(X k).id=(X j).id:=by
  unfold entX at M;injection M
 rw[←C k (hsub k N) j hj this];exact N
theorem zCw(LN:Nat)(LO:List Ord)(hLN:LN=LO.length)(bs:List Nat)(E:List Nat)(X:Nat→Ord)(zb:Nat)(p:Option Addr)(cap:Nat)(hbl:bs.length=LN)(hpm:PM dJ prog 3 w zb (E.map fun i=>((X i).id,(X i).state)))(hrow:w.ownsRow 0 200 1 (.slice p LN cap) LN (bs.map lU))(hl:LN≤100000000)(hl2:E.length≤100000000)
 (hst:∀(j:Nat) (b:Nat) (o:Ord),bs[j]? =some b→LO[j]? =some o→∀W,Below w.heap.size w W→Cl 112 #[iP b,iV 1] W fun en w'=>en=.returned (.agg #[iV o.id,iV o.dm,iV o.bn,iV o.opn,iV o.bu,iV o.cancelled,iV o.bg])∧Below W.heap.size W w'):
 Cl 73 #[.slice p LN cap,.map (some zb)] w fun en w'=> ∃(g0:Nat) (M:List Ord),en=.returned (sL g0 M.length M.length)∧M.Perm (LO++E.map X)∧M.Pairwise (fun x y=>x.id≤y.id)∧w'.ownsRow w.heap.size 121 7 (sL g0 M.length M.length) M.length (M.flatMap encS)∧Below w.heap.size w w':=by
 obtain⟨i0,hi,Ai,Aj,Ak⟩:=bF Tryz.infoStC Tryz.zeroStC2;have G:Hd (prog.info? 121=some i0∧i0.zero=some (.agg #[iV 0,iV 0,iV 0,iV 0,iV 0,iV 0,iV 0])∧i0.size=7∧i0.bytes=56):=⟨hi,Ai,Aj,Ak⟩;have Ay:=fun ty=>hpm.len underlying92 ty
 simp only[List.length_map]at Ay;have Am:Hd ((E.map fun j=>(X j).id).Nodup):=by
  have:=hpm.nodup je;rw[List.map_map]at this;exact this
 have B1:=hid hbl;have Bn:wrap64 ((LN:Int)+(E.length:Int))=((LN+E.length:Nat):Int):=by unfold wrap64;omega
 obtain⟨wm,Bb,Z,s⟩:=run_make_own (P:=prog) w w.heap.size 64 121 i0 _ 7 underlying64 hi Ai Aj .i64 .i64 (LN+E.length) (by rw[Ak];omega) (by unfold maxLen;omega) (Nat.le_refl _);rw[Int.natCast_add]at Bb;have Aq:=hid Z;have A5:Hd (Bw w wm):=(Below.refl w.heap.size w).grown s (Nat.le_refl _) (by simp);have U:=hid hrow;have Av:=hid hst;have Bi:=hl2;have g:Hd (LN=LO.length):=hLN;clear hrow Z s hi Ai Aj Ak hst hbl hLN;go_enter func73,ntmps73;go_wp2_with fail;go_loopw [5,18] (fun lv iv wr=> ∃k:Nat,iv=iV k∧k≤LN∧lv=sL w.heap.size k (LN+E.length)∧wr.ownsRow w.heap.size 121 7 (sL w.heap.size k (LN+E.length)) k ((LO.take k).flatMap encS)∧Bw w wr) (fun _ iv _=>LN - (intOf iv).toNat)
 case atStart=>exact⟨0,rfl,Nat.zero_le _,rfl,Aq.o,A5.o⟩
 case round=>
  obtain⟨k,rfl,hk,rfl,K,V⟩:=hrel;have J:=hid K;have A:=hid V;clear K V;by_cases Ag:k<LN
  ·have Bk:(k:Int)<(LN:Int):=by omega
   have Bm:wrap64 ((k:Int)+1)=(k:Int)+1:=by unfold wrap64;omega
   have z:k<LO.length:=by rw[←g.o];exact Ag
   have A0:k<bs.length:=by rw[B1.o];exact Ag
   have Y:LO[k]? =some LO[k]:=List.getElem?_eq_getElem z;have Af:bs[k]? =some bs[k]:=List.getElem?_eq_getElem A0;obtain⟨vb,rfl⟩:∃vb,p=some (iA vb 0):=by
    rcases U.o.2 with⟨h5,h6⟩|⟨d,Be,Bh,h5,_⟩
    ·omega
    injection h5 with h5 _ _;exact⟨d,h5⟩
   have ck:wr.cell? (iA vb k)=some (iP (bs[k])):=by
    have S:=U.cellAt k (by omega);rw[List.getElem?_map,Af]at S;unfold World.cell? at S⊢;rw[A.o.block vb ((U.o.lt vb rfl).2)];exact S
   have As:=hid (Av.o k bs[k] LO[k] Af Y wr A.o);have B6:Hd (LO.take (k+1)=LO.take k++ [LO[k]]):=by show _=_;rw[List.take_add_one,Y];rfl
   clear Y Af;generalize LO[k]=o at *;generalize bs[k]=D at *;clear z A0;go_wp2_with fail;refine As.mono ?_;rintro en R ⟨rfl,Aa⟩;have h:=hid (sM J.o (fun q N=>Aa.block q N));have L:=hid (zz A.o Aa);have B0:=L.size;clear Aa As J ck;go_wp2_with(first
    |(at_builtin;refine lZ _ rfl _ _ 64 rfl w.heap.size 121 i0 _ 7 56 underlying64 G.1 G.2.1 G.2.2.1 G.2.2.2 rfl (by decide) w.heap.size k (LN+E.length) _ rfl (h.alloc _) (iA R.heap.size 0) 1 1 [iV o.id,iV o.dm,iV o.bn,iV o.opn,iV o.bu,iV o.cancelled,iV o.bg] rfl rfl ?c1 ?c2 ?c0 ?c3 ?c4 ?c5 ?_)
    |go_in)
   case c0=>omega
   case c1=>
    intro j u Y;rw[Addr.add_lit,Nat.zero_add];rw[World.cell?_alloc_at _ _ _ _ rfl];simpa using Y
   case c2=>intro u hu;simp at hu;rcases hu with rfl|rfl|rfl|rfl|rfl|rfl|rfl<;>rfl
   case c3=>unfold maxLen;omega
   case c4=>omega
   case c5=>simp;omega
   intro T H F;have B5:Hd (T.ownsRow w.heap.size 121 7 (sL w.heap.size (k+1) (LN+E.length)) (k+1) ((LO.take (k+1)).flatMap encS)):=by
    show World.ownsRow _ _ _ _ _ _ _;rw[B6.o,List.flatMap_append,List.flatMap_singleton];exact H
   have A6:Hd (Bw w T):=(L.alloc B0 _).grown F (by simp;omega) (fun q N=>by injection N with N;omega);clear H F h L;go_wp2;go_roundw
   case rel=>exact⟨k+1,by go_num,Ag,rfl,B5.o,A6.o⟩
   case measure=>simp[intOf];omega
  have B9:k=LN:=by omega
  subst B9;rw[g.o,List.take_length,←g.o]at J;have A1:=hpm.of_block (w':=wr) (A.block _ hpm.lt);have Bc:=hpm.lt;go_wp2_with(first
   |(at_range;refine aU _ rfl _ _ rfl je underlying92 rfl A1 ?_;intro w0 Az Ad Bl)
   |go_in)
  go_frame;have A5:Hd (Bw w w0):=A.grown Ad A.size (by simp);have B4:=hid (J.kept Ad (.inr (by simp[Value.ownBlock])));have A9:Hd (w.heap.size≤wr.heap.size∧w.heap.size≠wr.heap.size):=⟨A.size,fun hc=>by have:=(J.lt w.heap.size rfl).2;omega⟩;have Bg:=hid hpm;clear A1 Ad J A hpm;generalize hrb:wr.heap.size=rb at *;go_loopw [5] (fun lv wr2=> ∃(Al:List (Int×List Int)) (C:List Nat),lv=sL w.heap.size (k+C.length) (k+E.length)∧PR dJ prog 3 wr2 zb rb (E.map fun i=>((X i).id,(X i).state)) (C.map (entX X)) Al∧(∀j∈C,j∈E)∧wr2.ownsRow w.heap.size 121 7 (sL w.heap.size (k+C.length) (k+E.length)) (k+C.length) ((LO++C.map X).flatMap encS)∧Bw w wr2) (fun _ wr2=>wr2.rangeLeft zb rb)
  case atStart=>exact⟨_,[],rfl,Az,(fun j Y=>by cases Y),(by simpa using B4.o),A5.o⟩
  case round=>
   obtain⟨Al,C,rfl,c,A2,K,V⟩:=hrel;have At:=hid A2;have A7:=hid K;have A:=hid V;have Bj:C.length≤E.length:=by
    have:=c.1.length_eq;simp at this;omega
   clear A2 K V;go_wp2_with(first
    |(at_next;refine bA _ rfl _ rfl je underlying3 zb rb (C.map (entX X)) Al rfl c ?_ ?_)
    |go_in)
   ·intro h0;have l:Hd (C.Perm E):=zJl Am.o At.o (by have:=c.1;rw[h0,List.append_nil]at this;exact this);have An:Hd (C.length=E.length):=l.length_eq;clear c;have HM:Hd ((LO++C.map X).Perm (LO++E.map X)):=(l.map X).append_left LO;have Au:Hd (Cl 113 #[sL w.heap.size (k+C.length) (k+E.length),.func (.func 114) #[] #[]] wr fun en w'=>en=rV #[]∧Hd (∃n:List Ord,n.Perm (LO++C.map X)∧n.Pairwise (fun x y=>x.id≤y.id)∧n.length=k+C.length∧w'.ownsRow w.heap.size 121 7 (sL w.heap.size (k+C.length) (k+E.length)) (k+C.length) (n.flatMap encS)∧Below w.heap.size wr w')):=by
     have O:(LO++C.map X).length=k+C.length:=by rw[List.length_append,List.length_map,←g.o]
     refine(zGy (B:=w.heap.size) (LO++C.map X) _ (by rw[O];exact A7.o) A.size (by rw[O];omega)).mono ?_;rintro en w' ⟨rfl,n,S,h2,h3,h4⟩;rw[O]at h3;exact⟨rfl,n,S,h2,S.length_eq.trans O,h3,h4⟩
    go_wp2_with fail;refine Au.mono ?_;rintro en T ⟨rfl,HZ⟩;clear Au;go_wp2;go_ret;obtain⟨n,S,h2,hM,h3,h4⟩:=HZ.o;refine⟨w.heap.size,n,?_,S.trans HM.o,h2,?_,h4.os.trans A.os,h4.tape.trans A.tape,h4.output.trans A.output,Nat.le_trans A.size h4.size,fun q N=>(h4.block q N).trans (A.block q N)⟩
    ·rw[hM,An.o];rfl
    rw[hM];rw[←An.o]at h3;exact h3
   intro kk v A4 R D Ax Ba hv f Ae Bd t B8;subst Ba hv;have A3:dJ.val (X D).state=.agg #[iV (X D).id,iV (X D).dm,iV (X D).bn,iV (X D).opn,iV (X D).bu,iV (X D).cancelled,iV (X D).bg]:=rfl;rw[A3]at B8⊢;have Bf:C.length+1≤E.length:=by
    have:=f.1.length_eq;simp at this;omega
   have A8:=hid f;have Ao:=hid t;have HJ:=hid Ax;have L:Hd (Bw w R):=A.grown Ae A.size (by intro q N;injection N with N;have:=A9.1;omega);have J:=hid (A7.kept Ae (.inr (fun hc=>A9.2 (by simpa [Value.ownBlock] using hc))));have I:Hd (w.heap.size≤R.heap.size∧rb<R.heap.size):=⟨L.size,A8.lt⟩;have B7:Hd (encS (X D)= [iV (X D).id,iV (X D).dm,iV (X D).bn,iV (X D).opn,iV (X D).bu,iV (X D).cancelled,iV (X D).bg]):=rfl;clear f Ae Bd t Ax A3 c A7 A;generalize hXo:X D=o at *;have Aw:=hid hXo;clear hXo;go_wp2_with(first
    |(at_builtin;refine lZ _ rfl _ _ 64 rfl w.heap.size 121 i0 _ 7 56 underlying64 G.1 G.2.1 G.2.2.1 G.2.2.2 rfl (by decide) w.heap.size (k+C.length) (k+E.length) _ rfl ((J.alloc _).alloc _) (iA (R.heap.size+1) 0) 1 1 [iV o.id,iV o.dm,iV o.bn,iV o.opn,iV o.bu,iV o.cancelled,iV o.bg] rfl rfl ?c1 ?c2 ?c0 ?c3 ?c4 ?c5 ?_)
    |go_in)
   case c0=>omega
   case c1=>
    intro j u Y;rw[Addr.add_lit,Nat.zero_add];have h9:R.heap.size+1=(R.alloc (.cells #[iV o.id,iV o.dm,iV o.bn,iV o.opn,iV o.bu,iV o.cancelled,iV o.bg] 121)).heap.size:=by simp
    rw[h9,World.cell?_alloc_at _ _ _ _ rfl];simpa using Y
   case c2=>intro u hu;simp at hu;rcases hu with rfl|rfl|rfl|rfl|rfl|rfl|rfl<;>rfl
   case c3=>unfold maxLen;omega
   case c4=>omega
   case c5=>have:=I.o;simp;omega
   intro T H F;have Ah:∀q,q<R.heap.size→q≠w.heap.size→T.heap[q]? =R.heap[q]? :=fun q N hne=>by
    rw[F.block q (by simp;omega) (fun e1=>hne (by injection e1))];rw[Below.heap_alloc _ _ q (by simp;omega)];exact Below.heap_alloc R _ q N
   have Ab:T.heap[zb]? =R.heap[zb]? :=Ah zb (Nat.lt_of_lt_of_le Bc I.1) (by omega);have Ac:T.heap[rb]? =R.heap[rb]? :=Ah rb I.2 (fun e1=>A9.2 e1.symm);have m:=hid (A8.zm Ab Ac);have Ap:Hd (T.rangeLeft zb rb<wr.rangeLeft zb rb):=by
    show _<_;have:T.rangeLeft zb rb=R.rangeLeft zb rb:=by unfold World.rangeLeft;rw[Ab,Ac]
    rw[this];exact Ao.o
   have A6:Hd (Bw w T):=((L.alloc I.1 _).alloc (by have:=I.1;simp;omega) _).grown F (by have:=I.1;simp;omega) (fun q N=>by injection N with N;omega);have h:Hd (T.ownsRow w.heap.size 121 7 (sL w.heap.size (k+(C++ [D]).length) (k+E.length)) (k+(C++ [D]).length) ((LO++(C++ [D]).map X).flatMap encS)):=by
    have e2:k+(C++ [D]).length=k+C.length+1:=by rw[List.length_append];rfl
    show World.ownsRow _ _ _ _ _ _ _;rw[e2,List.map_append,←List.append_assoc,List.flatMap_append,List.map_singleton,List.flatMap_singleton,Aw.o,B7.o,List.flatMap_append,List.append_assoc];exact H
   have B2:Hd (∀j∈C++ [D],j∈E):=fun j Y=>by
    rcases List.mem_append.1 Y with S|S
    ·exact At.o j S
    obtain rfl:j=D:=by simpa using S
    exact HJ.o
   have Ar:Hd (PR dJ prog 3 T zb rb (E.map fun i=>((X i).id,(X i).state)) ((C++ [D]).map (entX X)) A4):=by
    show PR _ _ _ _ _ _ _ _ _;have e9:[(o.id,o.state)]=(([D]:List Nat).map (entX X)):=by simp[entX,Aw.o]
    rw[List.map_append,←e9];exact m.o
   have B3:Hd (k+(C++ [D]).length=k+C.length+1):=by show _=_;rw[List.length_append];rfl
   clear H F Ah Ab Ac m J L A8 Ao;go_wp2;go_roundw
   case rel=>exact⟨A4,C++ [D],by rw[B3.o],Ar.o,B2.o,h.o,A6.o⟩
   case measure=>exact Ap.o
end
section
variable {F:Nat→Prop} {base:Nat} {w:World} {b:Nat} {e:bf} {g:Gh} {S:jk}
theorem zJm(L:List Nat)(p:Option Addr)(cap:Nat)(h:dw F base w b e g S)(inv:bf.fe e)(hH:Holds e S [] [])(hl:e.all.length≤100000000)(hL:∀j,j∈L↔∃o,e.all[j]? =some o∧o.dm=1)(hnd:L.Nodup)(hrow:w.ownsRow 0 200 1 (.slice p L.length cap) L.length (L.map fun j=>lU (g.blk j))):
 Cl 73 #[.slice p L.length cap,.map (some g.zb)] w fun en w'=> ∃(g0:Nat) (M:List Ord),en=.returned (sL g0 M.length M.length)∧M.Perm e.all∧M.Pairwise (fun x y=>x.id≤y.id)∧w'.ownsRow w.heap.size 121 7 (sL g0 M.length M.length) M.length (M.flatMap encS)∧Below w.heap.size w w':=by
 have V:=h.small hH;have d:L.length≤e.all.length:=by
  have:=oD (b:=List.range e.all.length) hnd (fun j C=>by obtain⟨o,N,_⟩:=(hL j).1 C;rw[List.mem_range];exact(List.getElem?_eq_some_iff.1 N).1);simpa using this
 have R:S.ended.map (fun i=>(ru e.all i,kZ e.all i))=S.ended.map (fun i=>((ordAt e.all i).id,(ordAt e.all i).state)):=List.map_congr_left fun j C=>by
  obtain⟨o,A,_⟩:=(hH.ended j).1 C;rw[wJ A,zn A];unfold kZ;rw[A]
 have E:=h.body.ended;rw[R]at E;have U:=h.pN.2.2;have X:=zCw (w:=w) L.length (L.map (ordAt e.all)) (by simp) (L.map g.blk) S.ended (ordAt e.all) g.zb p cap (by simp) E (by rw[List.map_map];exact hrow) (by omega) (by have:=V.ended;omega) (fun j bb o I A W hW=>by
  rw[List.getElem?_map]at I A;obtain⟨k,Y,rfl⟩:=Option.map_eq_some_iff.1 I;obtain⟨m,T,rfl⟩:=Option.map_eq_some_iff.1 A;obtain rfl:k=m:=Option.some.inj (Y.symm.trans T);obtain⟨o,A,J⟩:=(hL k).1 (List.mem_of_getElem? Y);rw[wJ A];have B:=inv.ok k o A;have D:=B.open_ J;have O:=B.live J;have f:=(h.below hW).oa A J;refine(zCg f (by rw[←D];exact rz B.dN (by have:=B.sum;have:=B.fJ;have:=B.jN;have:=B.fH;omega))).mono ?_;rintro en w' ⟨rfl,I⟩;exact⟨by unfold stV;rw[←D,O,J],I⟩)
 refine X.mono ?_;rintro en w' ⟨g0,M,rfl,N,Z,G,H⟩;refine⟨g0,M,rfl,N.trans ?_,Z,G,H⟩;have l:(L++S.ended).Perm (List.range e.all.length):=by
  refine(List.perm_ext_iff_of_nodup ?_ List.nodup_range).2 fun j=>?_
  ·refine List.nodup_append.2 ⟨hnd,U,fun a ha c O e1=>?_⟩;subst e1;obtain⟨x,K,n⟩:=(hL a).1 ha;obtain⟨y,q,s⟩:=(hH.ended a).1 O;obtain rfl:x=y:=Option.some.inj (K.symm.trans q);exact s n
  rw[List.mem_append,hL,hH.ended,List.mem_range];constructor
  ·rintro(⟨x,K,_⟩|⟨x,K,_⟩)<;>exact(List.getElem?_eq_some_iff.1 K).1
  intro C;have G:e.all[j]? =some e.all[j]:=List.getElem?_eq_getElem C;by_cases H:e.all[j].dm=1
  ·exact .inl ⟨_,G,H⟩
  exact .inr ⟨_,G,H⟩
 have:=l.map (ordAt e.all);rw[zJk,List.map_append]at this;exact this
theorem zJn(h:dw F base w b e g S)(inv:bf.fe e)(hH:Holds e S [] [])(hl:e.all.length≤100000000):
 Cl 43 #[iP b] w fun en w'=> ∃(g0:Nat) (M:List Ord),en=.returned (sL g0 M.length M.length)∧M.Perm e.all∧M.Pairwise (fun x y=>x.id≤y.id)∧w'.ownsRow w.heap.size 121 7 (sL g0 M.length M.length) M.length (M.flatMap encS)∧Below w.heap.size w w':=by
 have R:w.cell? (iA b 10)=some (.map (some g.zb)):=h.cell 10;have N:Hd (∀W,Same w W→Cl 74 #[.pointer (some (iA b 8))] W fun en w1=> ∃(p:Option Addr) (n cap:Nat),en=.returned (.slice p n cap)∧w1.cell? (iA b 10)=some (.map (some g.zb))∧Hd (Cl 73 #[.slice p n cap,.map (some g.zb)] w1 fun en K=> ∃(v:Value),en=.returned v∧K.cell? (iA b 10)=some (.map (some g.zb))∧Hd (∃(g0:Nat) (M:List Ord),v=sL g0 M.length M.length∧M.Perm e.all∧M.Pairwise (fun x y=>x.id≤y.id)∧K.ownsRow w.heap.size 121 7 (sL g0 M.length M.length) M.length (M.flatMap encS)∧Bw w K))):=by
  intro W G;have c:=h.same G;refine(zCm c hH hl).mono ?_;rintro en w1 ⟨v,L,rfl,I,T,B⟩;obtain⟨p,cap,rfl⟩:∃p cap,v=.slice p L.length cap:=by
   rcases I.row.2 with⟨D,q⟩|⟨d,cap,A,D,_⟩
   ·exact⟨none,0,by rw[D,q]⟩
   exact⟨_,_,D⟩
  have E:=c.below B;refine⟨p,L.length,cap,rfl,E.cell 10,?_⟩;have H:w1.ownsRow 0 200 1 (.slice p L.length cap) L.length (L.map fun j=>lU (g.blk j)):=by
   refine⟨I.row.1,?_⟩;rcases I.row.2 with D|⟨d,cap,A,Y,s,Z⟩
   ·exact .inl D
   exact .inr ⟨d,cap,A,Y,Nat.zero_le _,Z⟩
  refine(zJm L p cap E inv hH hl T (I.up.imp (fun h=>Nat.ne_of_lt h)) H).mono ?_;rintro en K ⟨g0,M,rfl,t,u,f,i⟩;have V:w.heap.size≤w1.heap.size:=by have:=B.size;rw[G.heap]at this;exact this
  have U:Bw w w1:=⟨B.os.trans G.os,B.tape.trans G.tape,B.output.trans G.output,V,fun k hk=>by rw[B.block k (by rw[G.heap];exact hk),G.heap]⟩;refine⟨_,rfl,(E.below i).cell 10,g0,M,rfl,t,u,⟨f.1,?_⟩,zz U i⟩;rcases f.2 with D|⟨d,cap,A,Y,s,Z⟩
  ·exact .inl D
  exact .inr ⟨d,cap,A,Y,by omega,Z⟩
 go_enter func43,ntmps43;go_wp2_with fail;go_region_held3(fun X=>X.cell? (iA b 10)=some (.map (some g.zb))) (first|exact R|exact J |exact C) (first|(go_at_call 74;refine(N _ (Same.refl _).drew).mono ?_;rintro en w1 ⟨p,n,cap,rfl,J,O⟩)|(go_at_call 73;refine O.mono ?_;rintro en K ⟨v,rfl,C,l⟩));go_wp2;go_ret;obtain⟨g0,M,rfl,I,T,B,m⟩:=l;exact⟨g0,M,rfl,I,T,B,m⟩
end
def Grow(w w':World):Prop:=Below w.heap.size w w'
theorem Grow.refl(w:World):Grow w w:=Below.refl _ _
theorem Grow.trans{b:World}(h:Grow a b)(h2:Grow b c):Grow a c:=zz h h2
theorem Grow.alloc{b:World}(h:Grow a b)(o:Obj):Grow a (b.alloc o):=Below.alloc h (Below.size h) o
theorem Grow.same{b:World}(h:Grow a b)(s:Same b c):Grow a c:=⟨s.os.trans h.os,s.tape.trans h.tape,s.output.trans h.output,by rw[s.heap];exact h.size,fun k hk=>by rw[s.heap];exact h.block k hk⟩
theorem Grow.drew{b:World}(h:Grow a b):Grow a b.drew:=h.same (Same.refl b).drew
theorem zCx(W:World):W.drew.heap=W.heap:=(Same.refl W).drew.heap
theorem zCy{b:World}(g:Hd (Grow b c))(h:Grow a b):Grow a c:=h.trans g.out
theorem pR(h:k=W.heap.size):(W.alloc o).heap[k]? =some o:=by rw[h];exact heap_alloc_new W o
theorem sU{r:Obj}(h2:W.heap[k]? =some r):(W.alloc o).heap[k]? =some r:=((Grow.refl W).alloc o).block k (Array.getElem?_eq_some_iff.1 h2).1 |>.trans h2
theorem zAx{r:Obj}(h2:W.heap[k]? =some r):W.drew.heap[k]? =some r:=by rw[(Same.refl W).drew.heap];exact h2
theorem PM.grow{V:Type}{E:Elem V}{K:TypeId}{l:List (Int×V)}(h:PM E P K w b l)(hg:Grow w w'):PM E P K w' b l:=h.of_block (Below.block hg b h.lt)
theorem Grow.heap(hg:Grow w w')(h:w.heap[k]? =some o):w'.heap[k]? =some o:=by
 rw[Below.block hg k (Array.getElem?_eq_some_iff.1 h).1];exact h
theorem mkM(W:World):(Instr.makeMap 89 none).run prog W=.ok (.map (some W.heap.size)) (W.alloc (.map #[] 0)):=by kernel_rfl
theorem mkE(W:World):(Instr.makeMap 92 none).run prog W=.ok (.map (some W.heap.size)) (W.alloc (.map #[] 0)):=by kernel_rfl
theorem zAy{W':World}{r:Obj}(g:Hd (Grow W W'))(h:W.heap[k]? =some r):W'.heap[k]? =some r:=g.out.heap h
theorem zAz{V:Type}(E:Elem V){K:TypeId}{n:Nat}(h:W.heap[n]? =some (.map #[] 0)):PM E P K W n ([]:List (Int×V)):=by
 have C:=(Array.getElem?_eq_some_iff.1 h).1;have B:({ W with heap:=W.heap.extract 0 n }:World).heap.size=n:=by
  show(W.heap.extract 0 n).size=n;simp;omega
 have k:=PM.made E P K ({ W with heap:=W.heap.extract 0 n }:World);have A:=heap_alloc_new ({ W with heap:=W.heap.extract 0 n }:World) (.map #[] 0);rw[B]at k A;exact k.of_block (h.trans A.symm)
section
variable {V:Type} {E:Elem V} {P:Program} {K:TypeId} {W W':World} {b:Nat} {l:List (Int×V)}
theorem xV(h:PM E P K W b l):PM E P K (W.alloc o) b l:=h.grow ((Grow.refl W).alloc o)
theorem zAc(h:PM E P K W b l):PM E P K W.drew b l:=h.grow (Grow.refl W).drew
theorem zAd(g:Hd (Grow W W'))(h:PM E P K W b l):PM E P K W' b l:=h.grow g.out
end
theorem zJo(w:World):Cl 80 #[] w fun en w'=> ∃m,en=.returned (.agg #[.map (some m)])∧w.heap.size≤m∧m<w'.heap.size∧Hd (PM jf prog 3 w' m [])∧Hd (Grow w w'):=by
 have A:=mkM;go_enter func80,ntmps80;go_wp2;refine bodyPost_ret (v:=.agg #[.map (some (w.heap.size+1))]) (by simp[results,Tryz.results80,go_sem]) rfl ⟨_,rfl,?_⟩;have k:=PM.made jf prog 3 (w.alloc (.cells #[.map (some (w.heap.size+1))] 169));rw[World.size_alloc]at k;exact⟨by omega,by simp only[World.size_alloc];omega,k,((Grow.refl w).alloc _).alloc _⟩
theorem zJp(w:World):Cl 79 #[] w fun en w'=> ∃d o,en=.returned (.agg #[.map (some d),.map (some o)])∧w.heap.size≤d∧d<o∧o<w'.heap.size∧Hd (PM jf prog 3 w' d [])∧Hd (PM jf prog 3 w' o [])∧Hd (Grow w w'):=by
 have B:=mkM;go_enter func79,ntmps79;go_wp2;refine bodyPost_ret (v:=.agg #[.map (some (w.heap.size+1)),.map (some (w.heap.size+1+1))]) (by simp[results,Tryz.results79,go_sem]) rfl ⟨_,_,rfl,?_⟩;have k:=PM.made jf prog 3 (w.alloc (.cells #[.map (some (w.heap.size+1)),.map (some (w.heap.size+1+1))] 91));have A:=PM.made jf prog 3 ((w.alloc (.cells #[.map (some (w.heap.size+1)),.map (some (w.heap.size+1+1))] 91)).alloc (.map #[] 0));simp only[World.size_alloc]at k A;exact⟨by omega,by omega,by simp only[World.size_alloc];omega,k.grow ((Grow.refl _).alloc _),A,(((Grow.refl w).alloc _).alloc _).alloc _⟩
structure bZ(w W:World)(d o en bb bm sb sm:Nat):Prop where
 day:PM jf prog 3 W d []
 qf:PM jf prog 3 W o []
 ended:PM dJ prog 3 W en []
 aP:PM jf prog 3 W bm []
 sel:PM jf prog 3 W sm []
 wz:W.heap[bb]? =some (.cells #[.map (some bm)] 172 (0,0))
 xg:W.heap[sb]? =some (.cells #[.map (some sm)] 174 (0,0))
 maps:[d,o,en,bm,sm].Nodup
 lo:w.heap.size≤d∧w.heap.size≤o∧w.heap.size≤en∧w.heap.size≤bm∧w.heap.size≤sm∧w.heap.size≤bb∧w.heap.size≤sb
 grow:Grow w W
theorem zJq{en:Ending}{a b c:Int}{dv:Value}{o:Nat}(h1:en=rV #[iP nb,.nilIface])(h2:w'.heap[nb]? =some (.cells #[iV a,iV b,iV c,.iface 47 dv,iV 0,.string ⟨#[]⟩,iV 0,.slice none 0 0,.map (some d),.map (some o),.map (some ed),.iface 167 (iP bb),.iface 173 (iP sb),iV 0,iV 0,iV 0] 96 (0,0)))
 (h3:w'.heap[bb]? =some (.cells #[.map (some bm)] 172 (0,0))) (h4:w'.heap[sb]? =some (.cells #[.map (some sm)] 174 (0,0))) (h5:w.heap.size≤nb)
 (p1:PM jf prog 3 w' d []) (p2:PM jf prog 3 w' o []) (p3:w'.heap[ed]? =some (.map #[] 0)) (p4:PM jf prog 3 w' bm []) (p5:PM jf prog 3 w' sm [])
 (hm:(d≠o∧d≠ed∧d≠bm∧d≠sm)∧(o≠ed∧o≠bm∧o≠sm)∧(ed≠bm∧ed≠sm)∧bm≠sm) (hl:w.heap.size≤d∧w.heap.size≤o∧w.heap.size≤ed∧w.heap.size≤bm∧w.heap.size≤sm∧w.heap.size≤bb∧w.heap.size≤sb) (hg:Grow w w'):
 ∃nb d o ed bb bm sb sm,en=rV #[iP nb,.nilIface]∧Hd (w.heap.size≤nb∧w'.heap[nb]? =some (.cells #[iV a,iV b,iV c,.iface 47 dv,iV 0,.string ⟨#[]⟩,iV 0,.slice none 0 0,.map (some d),.map (some o),.map (some ed),.iface 167 (iP bb),.iface 173 (iP sb),iV 0,iV 0,iV 0] 96 (0,0))∧bZ w w' d o ed bb bm sb sm):=
 ⟨nb,d,o,ed,bb,bm,sb,sm,h1,h5,h2,p1,p2,zAz _ p3,p4,p5,h3,h4,by
  obtain⟨⟨a1,a2,a3,a4⟩,⟨a5,a6,a7⟩,⟨a8,a9⟩,a10⟩:=hm;simp[a1,a2,a3,a4,a5,a6,a7,a8,a9,a10],hl,hg⟩
theorem zJr(w:World)(a b c:Int)(dv:Value)(hc:dV a b c=true):
 Cl 51 #[.agg #[iV a,iV b,iV c],.iface 47 dv] w fun en w'=> ∃nb d o ed bb bm sb sm,en=rV #[iP nb,.nilIface]∧Hd (w.heap.size≤nb∧w'.heap[nb]? =some (.cells #[iV a,iV b,iV c,.iface 47 dv,iV 0,.string ⟨#[]⟩,iV 0,.slice none 0 0,.map (some d),.map (some o),.map (some ed),.iface 167 (iP bb),.iface 173 (iP sb),iV 0,iV 0,iV 0] 96 (0,0))∧bZ w w' d o ed bb bm sb sm):=by
 have N:Hd ((bf.rf a 1 64 && bf.rf b 1 1000000 && bf.rf c 1 1000)=true):=by
  show _=_;rw[←hc];unfold dV bf.rf;simp[Bool.and_assoc]
 clear hc;have U:=mkE;have R:Hd (∀W:World,Cl 78 #[.agg #[iV a,iV b,iV c]] W fun en w'=>en=rB true∧Grow W w'):=fun W=>(vD a b c).mono (by rintro en w' ⟨rfl,h⟩;rw[N.o];exact⟨rfl,h⟩)
 go_enter func51,ntmps51;go_wp2_with fail;have C:=heap_alloc_new w (.cells #[iV a,iV b,iV c] 43);have G:Hd (Grow w (w.alloc (.cells #[iV a,iV b,iV c] 43))):=(Grow.refl w).alloc _;generalize w.alloc (.cells #[iV a,iV b,iV c] 43)=W at *;refine(R.o W).mono ?_;rintro en B ⟨rfl,F⟩;have A:=F.heap C;have I:B.cell? (iA w.heap.size 0)=sI a:=by simp[World.cell?,A]
 have J:B.cell? (iA w.heap.size 1)=sI b:=by simp[World.cell?,A]
 have K:B.cell? (iA w.heap.size 2)=sI c:=by simp[World.cell?,A]
 have H:Hd (Grow w B):=G.trans F;clear F C A G;have O:Hd (∀X,Grow B X→X.cell? (iA w.heap.size 0)=sI a∧X.cell? (iA w.heap.size 1)=sI b∧X.cell? (iA w.heap.size 2)=sI c):=fun X hX=>⟨(hX.cell (zA I)).trans I,(hX.cell (zA J)).trans J,(hX.cell (zA K)).trans K⟩
 have E:Hd (∀W:World,Cl 79 #[] W fun en w'=> ∃d o,en=.returned (.agg #[.map (some d),.map (some o)])∧W.heap.size≤d∧d<o∧o<w'.heap.size∧Hd (PM jf prog 3 w' d [])∧Hd (PM jf prog 3 w' o [])∧Hd (Grow W w')):=zJp;have D:Hd (∀W:World,Cl 80 #[] W fun en w'=> ∃m,en=.returned (.agg #[.map (some m)])∧W.heap.size≤m∧m<w'.heap.size∧Hd (PM jf prog 3 w' m [])∧Hd (Grow W w')):=zJo;have M:Hd (Grow B B):=Grow.refl B;go_wp2_with fail;go_region_held3(fun X=>X.cell? (iA w.heap.size 0)=sI a∧X.cell? (iA w.heap.size 1)=sI b∧X.cell? (iA w.heap.size 2)=sI c) ((refine O.o _ ?_;repeat(first|exact M.o|refine Grow.alloc ?_ _|refine Grow.drew ?_|refine zCy (by assumption) ?_))) (first|(go_at_call 79;refine(E.o _).mono ?_;rintro en j ⟨d,o,rfl,S,f,g,V,Y,L⟩;(try simp only[World.size_alloc,zCx]at S))|(go_at_call 80;refine(D.o _).mono ?_;rintro en k ⟨m,rfl,T,i,Z,L⟩;(try simp only[World.size_alloc,zCx]at T)));all_goals
  go_wp2;go_ret2;have l:w.heap.size≤B.heap.size:=H.size;refine zJq rfl (pR (by first|rfl|simp only[World.size_alloc])) (by repeat(first|with_reducible exact pR (by first|rfl|simp only[World.size_alloc])|with_reducible refine sU ?_|with_reducible refine zAx ?_|with_reducible refine zAy (by assumption) ?_)) (by repeat(first|with_reducible exact pR (by first|rfl|simp only[World.size_alloc])|with_reducible refine sU ?_|with_reducible refine zAx ?_|with_reducible refine zAy (by assumption) ?_)) ?_ ?_ ?_ ?_ ?_ ?_ ?_ ?_ ?_
  ·(try simp only[World.size_alloc]);omega
  ·repeat(first|with_reducible exact Hd.o (by assumption)|with_reducible refine xV ?_|with_reducible refine zAc ?_|with_reducible refine zAd (by assumption) ?_)
  ·repeat(first|with_reducible exact Hd.o (by assumption)|with_reducible refine xV ?_|with_reducible refine zAc ?_|with_reducible refine zAd (by assumption) ?_)
  ·repeat(first|with_reducible exact pR (by first|rfl|simp only[World.size_alloc])|with_reducible refine sU ?_|with_reducible refine zAx ?_|with_reducible refine zAy (by assumption) ?_)
  ·repeat(first|with_reducible exact Hd.o (by assumption)|with_reducible refine xV ?_|with_reducible refine zAc ?_|with_reducible refine zAd (by assumption) ?_)
  ·repeat(first|with_reducible exact Hd.o (by assumption)|with_reducible refine xV ?_|with_reducible refine zAc ?_|with_reducible refine zAd (by assumption) ?_)
  ·(try simp only[World.size_alloc]);omega
  ·(try simp only[World.size_alloc]);omega
  repeat(first|with_reducible exact H.o|with_reducible refine Grow.alloc ?_ _|with_reducible refine Grow.drew ?_|with_reducible refine zCy (by assumption) ?_)
theorem zJs(w:World)(a b c:Int)(dv:Value)(hE:lq w ad st)(hc:dV a b c=false):
 Cl 51 #[.agg #[iV a,iV b,iV c],dv] w fun en w'=>en=rV #[.pointer none,.iface 309 (.pointer (some (ad 0)))]∧Grow w w':=by
 have D:Hd ((bf.rf a 1 64 && bf.rf b 1 1000000 && bf.rf c 1 1000)=false):=by
  show _=_;rw[←hc];unfold dV bf.rf;simp[Bool.and_assoc]
 have E:=hid hE;have F:Hd (∀W:World,Cl 78 #[.agg #[iV a,iV b,iV c]] W fun en w'=>en=rB false∧Grow W w'):=fun W=>(vD a b c).mono (by rintro en w' ⟨rfl,h⟩;rw[D.o];exact⟨rfl,h⟩)
 go_enter func51,ntmps51;go_wp2_with fail;have C:Hd (Grow w (w.alloc (.cells #[iV a,iV b,iV c] 43))):=(Grow.refl w).alloc _;generalize w.alloc (.cells #[iV a,iV b,iV c] 43)=W at *;refine(F W).mono ?_;rintro en B ⟨rfl,G⟩;have A:Hd (Grow w B):=C.trans G;have H:=(E.below A).c0;go_wp2_with fail;go_quiet (fail);go_wp2;go_ret2;exact⟨rfl,A.same ((Same.refl B).drewN nq)⟩
theorem zJt{n size:Nat}{t:TypeId}{v:Value}{xs:List Value}(h:w.ownsRow base t size v n xs)(hg:Grow w w'):w'.ownsRow base t size v n xs:=by
 refine⟨h.1,?_⟩;rcases h.2 with E|⟨D,A,B,G,C,F,r⟩
 ·exact .inl E
 exact .inr ⟨D,A,B,G,C,hg.heap F,r⟩
def mX:jk:=⟨[],[],[],[],[]⟩
def newGh(d o ed bb bm sb sm dB:Nat)(jL:Value):Gh:=⟨fun _=>0,d,o,ed,bb,bm,sb,sm,dB,.slice none 0 0,jL⟩
theorem bZ.rep{o dB:Nat}{a b c:Int}{ds:List Int}{jL:Value}(h:bZ w w' d o ed bb bm sb sm)
 (hn:w'.heap[nb]? =some (.cells #[iV a,iV b,iV c,.iface 47 (iP dB),iV 0,.string ⟨#[]⟩,iV 0,.slice none 0 0,.map (some d),.map (some o),.map (some ed),.iface 167 (iP bb),.iface 173 (iP sb),iV 0,iV 0,iV 0] 96 (0,0)))
 (hd:w.heap[dB]? =some (.cells #[jL,iV 0] 69 (0,0))) (hl:w.ownsRow base 3 1 jL ds.length (ds.map (iV))) (hb:base≤w.heap.size) (hlo:w.heap.size≤nb) (hF:∀k,w.heap.size≤k→F k) (hFd:F dB) (hFl:∀q,jL.ownBlock=some q→F q):
 dw F base w' nb (dG a b c ds) (newGh d o ed bb bm sb sm dB jL) mX∧Holds (dG a b c ds) mX [] []∧bf.qd (dG a b c ds):=by
 obtain⟨B,C,D,E,G,H,I⟩:=h.lo;have J:w.heap.size≤w'.heap.size:=Below.size h.grow;have none:∀(i:Nat) (x:Ord),(dG a b c ds).all[i]? =some x→False:=fun i x A=>by
  have A:([]:List Ord)[i]? =some x:=A;simp at A
 refine⟨⟨hn,hF _ hlo,fun k hk=>hF k (by omega),by omega,⟨World.ownsRow_nil _ _ _ _,fun q hq=>by simp[newGh,Value.ownBlock]at hq⟩,⟨h.day,h.qf,h.ended,h.wz,h.xg,h.aP,h.sel,h.maps,fun i x A=>(none i x A).elim,fun i j hi=>(Nat.not_lt_zero i hi).elim,h.grow.heap hd,zJt hl h.grow,⟨hF _ B,hF _ C,hF _ D,hF _ E,hF _ G,hFd⟩,fun i hi=>(Nat.not_lt_zero i hi).elim⟩,fun i hi=>(Nat.not_lt_zero i hi).elim,hF _ H,hF _ I,hFl⟩,?_,fun i x A=>(none i x A).elim⟩;exact⟨fun j=>⟨fun hj=>by simp[mX]at hj,fun⟨x,A,_⟩=>(none j x A).elim⟩,fun j=>⟨fun hj=>by simp[mX]at hj,fun⟨x,A,_⟩=>(none j x A).elim⟩,fun j=>⟨fun hj=>by simp[mX]at hj,fun⟨x,A,_⟩=>(none j x A).elim⟩,fun j hj=>by simp[mX]at hj,fun j x A=>(none j x A).elim,fun j hj=>by simp[mX]at hj,fun j x A=>(none j x A).elim⟩
theorem bZ.back{o:Nat}(h:bZ W w' d o ed bb bm sb sm)(hg:Grow w W):bZ w w' d o ed bb bm sb sm:=by
 have k:=Below.size hg;obtain⟨A,B,C,D,E,F,G⟩:=h.lo;exact⟨h.day,h.qf,h.ended,h.aP,h.sel,h.wz,h.xg,h.maps,⟨by omega,by omega,by omega,by omega,by omega,by omega,by omega⟩,hg.trans h.grow⟩
def engNew(a b c:Int)(dv:Value)(d o ed bb sb:Nat):Obj:=.cells #[iV a,iV b,iV c,.iface 47 dv,iV 0,.string ⟨#[]⟩,iV 0,.slice none 0 0,.map (some d),.map (some o),.map (some ed),.iface 167 (iP bb),.iface 173 (iP sb),iV 0,iV 0,iV 0] 96 (0,0)
theorem zJu(w:World)(a b c:Int)(dv:Value)(hc:dV a b c=true):
 Cl 27 #[.agg #[iV a,iV b,iV c],.iface 47 dv] w fun en w'=> ∃nb d o ed bb bm sb sm,en=rV #[iP nb,.nilIface]∧Hd (w.heap.size≤nb∧w'.heap[nb]? =some (engNew a b c dv d o ed bb sb)∧bZ w w' d o ed bb bm sb sm):=by
 have B:Hd (∀W:World,Grow w W→Cl 51 #[.agg #[iV a,iV b,iV c],.iface 47 dv] W fun en w'=> ∃nb d o ed bb bm sb sm,en=rV #[iP nb,.nilIface]∧Hd (w.heap.size≤nb∧w'.heap[nb]? =some (engNew a b c dv d o ed bb sb)∧bZ w w' d o ed bb bm sb sm)):=fun W hW=>(zJr W a b c dv hc).mono (by
  rintro en w' ⟨nb,d,o,ed,bb,bm,sb,sm,rfl,A⟩;exact⟨nb,d,o,ed,bb,bm,sb,sm,rfl,Nat.le_trans (Below.size hW) A.out.1,A.out.2.1,A.out.2.2.back hW⟩)
 go_enter func27,ntmps27;go_wp2_with fail;refine(B _ ((Grow.refl w).alloc _)).mono ?_;rintro en D ⟨nb,d,o,ed,bb,bm,sb,sm,rfl,C⟩;go_wp2;go_ret2;exact⟨_,_,_,_,_,_,_,_,rfl,C⟩
theorem zJv(w:World)(a b c:Int)(dv:Value)(hE:lq w ad st)(hc:dV a b c=false):
 Cl 27 #[.agg #[iV a,iV b,iV c],dv] w fun en w'=>en=rV #[.pointer none,.iface 309 (.pointer (some (ad 0)))]∧Hd (Grow w w'):=by
 have A:Hd (∀W:World,Grow w W→Cl 51 #[.agg #[iV a,iV b,iV c],dv] W fun en w'=>en=rV #[.pointer none,.iface 309 (.pointer (some (ad 0)))]∧Hd (Grow w w')):=fun W hW=>(zJs W a b c dv (hE.below hW) hc).mono (by
  rintro en w' ⟨rfl,C⟩;exact⟨rfl,hW.trans C⟩)
 go_enter func27,ntmps27;go_wp2_with fail;refine(A _ ((Grow.refl w).alloc _)).mono ?_;rintro en D ⟨rfl,B⟩;go_wp2;go_ret2;exact⟨rfl,B⟩
theorem zJw{eb:Nat}(hd:w.heap[nb]? =some (.cells #[iP eb,iP g.dZ] 49 (0,0)))(h:dw F base w eb e g S):
 Cl 49 #[iP nb] w fun en w'=>en=.returned (iV (e.drawn:Int))∧w'=w:=by
 have c1:w.cell? (iA nb 1)=some (iP g.dZ):=by simp[World.cell?,hd]
 have c2:w.cell? (iA g.dZ 1)=sI (e.drawn:Int):=by simp[World.cell?,h.body.fD]
 clear hd h;go_enter func49,ntmps49;go_wp2;go_ret;exact⟨rfl,rfl⟩
end
section
open Go.Extern Go.Extern.Stop Go.Maps Go.RowKit Go.Stop
def avgB(a b:Int):Option Nat:=Ieee.single.div (FloatKind.f32.nearest a) (FloatKind.f32.nearest b)
theorem quo32{x y:Nat}(h:Ieee.single.div x y=some r)(w:World):(binOp .quo 158 (.float .f32 x) (.float .f32 y)).run prog w=.ok (.float .f32 r) w:=by
 have A:FloatKind.f32.format.div x y=some r:=h;simp only[binOp];simp[Op.floatArith,A]
theorem conv32(x:Int)(w:World):(convert 3 158 (iV x)).run prog w=.ok (.float .f32 (FloatKind.f32.nearest x)) w:=by kernel_rfl
theorem zJx(h:dw F base w b e g S)(hv:¬e.gq=0)(hr:avgB e.worth e.gq=some r):
 Cl 117 #[iP b] w fun en w'=>en=.returned (.float .f32 r)∧Same w w':=by
 have A:cI w b 14 e.worth:=h.cell 14;have c15:cI w b 15 e.gq:=h.cell 15;have B:(e.gq == 0)=false:=by simp[hv]
 have C:=conv32 e.worth;have D:=conv32 e.gq;have E:=quo32 hr;go_enter func117,ntmps117;go_wp2_with fail;go_quiet (fail);go_wp2;go_ret;exact⟨rfl,(Same.refl w).drewN nq⟩
theorem zJy(h:dw F base w b e g S)(hv:e.gq=0):
 Cl 117 #[iP b] w fun en w'=>en=.returned (.float .f32 0)∧Same w w':=by
 have c15:cI w b 15 e.gq:=h.cell 15;rw[hv]at c15;go_enter func117,ntmps117;go_wp2;go_ret;exact⟨rfl,Same.refl w⟩
def avgR(e:bf):Option Nat:=if e.gq=0 then some 0 else avgB e.worth e.gq
theorem zJz(h:dw F base w b e g S)(hr:avgR e=some r):
 Cl 76 #[iP b] w fun en w'=>en=.returned (.float .f32 r)∧Same w w':=by
 have B:Hd (Cl 117 #[iP b] w fun en w'=>en=.returned (.float .f32 r)∧Same w w'):=by
  unfold avgR at hr;split at hr
  ·rename_i A;obtain rfl:=Option.some.inj hr;exact zJy h A
  rename_i A;exact zJx h A hr
 go_enter func76,ntmps76;go_wp2_with fail;refine B.mono ?_;rintro en E ⟨rfl,D⟩;have C:=hid D;go_wp2;go_ret;exact⟨rfl,C⟩
theorem f32bits(r:Nat)(w:World):(Tryz.ext Tryz.f75 #[.float .f32 r]).run prog w=.ok (.int .u32 r) w:=by kernel_rfl
theorem zK{eb:Nat}(hd:w.heap[nb]? =some (.cells #[iP eb,iP g.dZ] 49 (0,0)))(h:dw F base w eb e g S)(hr:avgR e=some r)(hr2:r<4294967296):
 Cl 47 #[iP nb] w fun en w'=>en=.returned (iV (r:Int))∧Same w w':=by
 have c0:w.cell? (iA nb 0)=some (iP eb):=by simp[World.cell?,hd]
 have A:Hd (∀W,Same w W→Cl 76 #[iP eb] W fun en w'=>en=.returned (.float .f32 r)∧Hd (Same w w')):=fun W hW=>(zJz (h.same hW) hr).mono (by
  rintro en w' ⟨rfl,E⟩;exact⟨rfl,hW.trans E⟩)
 have G:=Go.run_callFunc_extern (P:=prog) (f:=75) (e:=Tryz.ext Tryz.f75) func75 (by kernel_rfl) (by kernel_rfl) (by kernel_rfl) (by kernel_rfl);have H:=f32bits r;have D:IntKind.i64.wrap (r:Int)=(r:Int):=aM _ (by omega) (by omega);have B:=hid hr2;go_enter func47,ntmps47;go_wp2_with fail;refine(A w (Same.refl w)).mono ?_;rintro en I ⟨rfl,C⟩;go_wp2;go_ret;exact⟨rfl,C⟩
end
section
open Go.Extern Go.Maps Go.RowKit
theorem zB:Ieee.single.leastPlace= -149:=by decide
theorem zB0:Ieee.single.binade=8388608:=by decide
theorem zAe:Ieee.single.infRung=2139095040:=by decide
theorem zAf:Ieee.single.fractionBits=23:=rfl
theorem zA6(r:Nat):Ieee.single.word false r=r:=by simp[Ieee.Format.word]
theorem zK0(neg:Bool)(n drop:Nat):Ieee.Toward.even.cut neg n drop≤n / (1 <<< min drop (n.log2+2))+1:=by
 unfold Ieee.Toward.cut;exact Nat.add_le_add_left (Bool.toNat_le _) _
theorem zCz{m:Nat}(hm:0<m):Ieee.Toward.even.cut false (m <<< ((0:Int) - ((m.log2:Int) - 23)).toNat) ((m.log2:Int) - 23 - 0).toNat≤16777216:=by
 have G:=Nat.lt_log2_self (n:=m);have H:m≠0:=by omega
 by_cases I:m.log2≤23
 ·have A:((0:Int) - ((m.log2:Int) - 23)).toNat=23 - m.log2:=by omega
  have B:((m.log2:Int) - 23 - 0).toNat=0:=by omega
  rw[A,B];have C:Ieee.Toward.even.cut false (m <<< (23 - m.log2)) 0=m <<< (23 - m.log2):=by
   unfold Ieee.Toward.cut;simp[Nat.mod_one]
  rw[C,Nat.shiftLeft_eq];have D:2 ^ (m.log2+1)* 2 ^ (23 - m.log2)=16777216:=by
   rw[←Nat.pow_add];have:m.log2+1+(23 - m.log2)=24:=by omega
   rw[this]
  have E:m*2 ^ (23 - m.log2)≤2 ^ (m.log2+1)* 2 ^ (23 - m.log2):=Nat.mul_le_mul_right _ (by omega);omega
 have A:((0:Int) - ((m.log2:Int) - 23)).toNat=0:=by omega
 have B:((m.log2:Int) - 23 - 0).toNat=m.log2 - 23:=by omega
 rw[A,B];refine Nat.le_trans (zK0 _ _ _) ?_;have C:m <<< 0=m:=by simp
 rw[C];have D:min (m.log2 - 23) (m.log2+2)=m.log2 - 23:=by omega
 rw[D,Nat.shiftLeft_eq,Nat.one_mul];have E:m / 2 ^ (m.log2 - 23)<16777216:=by
  rw[Nat.div_lt_iff_lt_mul (Nat.two_pow_pos _)];have F:16777216*2 ^ (m.log2 - 23)=2 ^ (m.log2+1):=by
   have:m.log2+1=24+(m.log2 - 23):=by omega
   rw[this,Nat.pow_add]
  rw[F];exact G
 omega
theorem zAg{m:Nat}(hm:0<m)(hb:m.log2<100):8388608≤Ieee.single.nearest false m 0∧Ieee.single.nearest false m 0<2139095040:=by
 have A:m≠0:=by omega
 have C:=zCz hm;have B:max ((0:Int)+(m.log2:Int) - (23:Nat)) (-149)=(m.log2:Int) - 23:=by omega
 have e:Ieee.single.nearest false m 0=min (((m.log2:Int) - 23 - (-149)).toNat*8388608+Ieee.Toward.even.cut false (m <<< ((0:Int) - ((m.log2:Int) - 23)).toNat) ((m.log2:Int) - 23 - 0).toNat) 2139095040:=by
  unfold Ieee.Format.nearest;rw[if_neg A];simp only[zA6,zB,zB0,zAe,zAf,B]
 rw[e];generalize Ieee.Toward.even.cut false (m <<< ((0:Int) - ((m.log2:Int) - 23)).toNat) ((m.log2:Int) - 23 - 0).toNat=k at *;omega
theorem zAh{q:Nat}(h1:8388608≤q)(h2:q<2139095040):Ieee.single.read q=.number false (8388608+q % 8388608) (-149+((q / 8388608 - 1:Nat):Int)):=by
 have e:Ieee.single.read q=(let neg:=q / 2147483648 % 2 == 1
  let rung:=q % 2147483648
  if rung<8388608 then Ieee.Datum.number neg rung (-149)
  else if rung<2139095040 then Ieee.Datum.number neg (8388608+rung % 8388608) (-149+(rung / 8388608 - 1:Nat))
  else if rung=2139095040 then .infinity neg
  else .nan neg (rung - 2139095040)):=rfl
 rw[e];have A:q % 2147483648=q:=Nat.mod_eq_of_lt (by omega);have B:(q / 2147483648 % 2 == 1)=false:=by
  have:q / 2147483648=0:=Nat.div_eq_of_lt (by omega);rw[this];rfl
 simp only[A,B];rw[if_neg (by omega),if_pos h2]
theorem jF(m:Nat):FloatKind.f32.nearest (m:Int)=Ieee.single.nearest false m 0:=by
 have e:FloatKind.f32.nearest (m:Int)=Ieee.single.nearest (decide ((m:Int)<0)) (m:Int).natAbs 0:=rfl;rw[e];have:decide ((m:Int)<0)=false:=by simp
 rw[this,Int.natAbs_natCast]
theorem zB1(m:Nat)(p:Int):Ieee.single.write (.number false m p)<4294967296:=by
 show Ieee.single.nearest false m p<4294967296;unfold Ieee.Format.nearest;split
 ·rw[zA6];omega
 simp only[zA6,zAe];exact Nat.lt_of_le_of_lt (Nat.min_le_right _ _) (by omega)
theorem zK1{a:Nat}(ha:0<a)(hb:0<b)(hA:a.log2<100)(hB:b.log2<100):∃r,avgB (a:Int) (b:Int)=some r∧r<4294967296:=by
 obtain⟨A,B⟩:=zAg ha hA;obtain⟨C,D⟩:=zAg hb hB;unfold avgB;rw[jF,jF];generalize Ieee.single.nearest false a 0=x at *;generalize Ieee.single.nearest false b 0=y at *;unfold Ieee.Format.div;rw[zAh A B,zAh C D];unfold Ieee.Datum.quotient;simp only[];rw[if_neg (by omega)];exact⟨_,rfl,zB1 _ _⟩
theorem zK2(hb:0<b)(hB:b.log2<100):∃r,avgB 0 (b:Int)=some r∧r<4294967296:=by
 obtain⟨A,B⟩:=zAg hb hB;unfold avgB;rw[jF];generalize Ieee.single.nearest false b 0=y at *;have C:Ieee.single.read (FloatKind.f32.nearest 0)=.number false 0 (-149):=by decide
 unfold Ieee.Format.div;rw[C,zAh A B];unfold Ieee.Datum.quotient;simp only[];rw[if_neg (by omega)];exact⟨_,rfl,zB1 _ _⟩
theorem zP8(h1:0≤e.worth)(h2:0≤e.gq)(h3:e.worth<9223372036854775808)(h4:e.gq<9223372036854775808):∃r,avgR e=some r∧r<4294967296:=by
 have C:∀m:Nat,0<m→m<9223372036854775808→m.log2<100:=fun m h0 h=>by
  have k:m.log2<63:=(Nat.log2_lt (by omega)).2 (by simpa using h);omega
 unfold avgR;by_cases D:e.gq=0
 ·rw[if_pos D];exact⟨0,rfl,by omega⟩
 rw[if_neg D];obtain⟨a,E⟩:=Int.eq_ofNat_of_zero_le h1;obtain⟨b,F⟩:=Int.eq_ofNat_of_zero_le h2;rw[E,F];have A:0<b:=by omega
 by_cases B:a=0
 ·subst B;exact zK2 A (C b A (by omega))
 exact zK1 (by omega) A (C a (by omega) (by omega)) (C b A (by omega))
end
end Go.Proofs.YtehmdohpmpbnnaaGreatDoor
