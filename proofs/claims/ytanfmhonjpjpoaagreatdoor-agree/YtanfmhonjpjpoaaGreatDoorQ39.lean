import Derived.Test.YtanfmhonjpjpoaaGreatDoorQ00
import Derived.Test.YtanfmhonjpjpoaaGreatDoorQ13
import Derived.Test.YtanfmhonjpjpoaaGreatDoorQ16
import Derived.Test.YtanfmhonjpjpoaaGreatDoorQ24
import Derived.Test.YtanfmhonjpjpoaaGreatDoorQ30
import Derived.Test.YtanfmhonjpjpoaaGreatDoorQ35
import Derived.Test.YtanfmhonjpjpoaaGreatDoorQ38
import Derived.Deep.RegionHeld3
set_option linter.all false
set_option maxRecDepth 100000
set_option maxHeartbeats 8000000
namespace Go.Proofs.YtanfmhonjpjpoaaGreatDoor
variable{e:Eng}{w0 w:World}{wb n:Nat}{rs:List Rcd}{ad:Nat→Addr}{st:Nat→ByteArray}{b:Book}{X:ByteArray}
section
open Go.Extern Go.RowKit
theorem ksame(ga gb ca cb n:Nat)(X:Nat→Int)(w:World)(hn:n≤1000000000)
 (hX: ∀j,j<7*n→w.cell? ⟨ga,j,none⟩=some (.int .i64 (X j))) (hY: ∀j,j<7*n→w.cell? ⟨gb,j,none⟩=some (.int .i64 (X j))) (hs: ∀k,k+1<n→X (k*7)<X ((k+1)* 7)):
 Calls Tryz.prog 27 #[.slice (some ⟨ga,0,none⟩) n ca,.slice (some ⟨gb,0,none⟩) n cb] w fun e w'=>e=.returned (.bool true)∧∃m,w'=w.drewN m:=by
 have HX:Hid (∀j,j<7*n→w.cell? ⟨ga,j,none⟩=some (.int .i64 (X j))):=hX;have HY:Hid (∀j,j<7*n→w.cell? ⟨gb,j,none⟩=some (.int .i64 (X j))):=hY;have HS:=hid hs;clear hX hY hs;go_enter Tryz.func27,Tryz.ntmps27;go_wp2;go_loopw [5] (fun i wr=> ∃k m:Nat,k≤n∧i=.int .i64 k∧wr=w.drewN m) (fun i _=>n - (intOf i).toNat)
 case atStart=>exact⟨0,0,Nat.zero_le _,rfl,rfl⟩
 case round=>
  obtain⟨k,m,hk,rfl,rfl⟩:=hrel;by_cases hlt:k<n
  ·have hx0:=HX.out (k*7) (by omega);have hx1:=HX.out (k*7+1) (by omega);have hx2:=HX.out (k*7+2) (by omega);have hx3:=HX.out (k*7+3) (by omega);have hx4:=HX.out (k*7+4) (by omega);have hx5:=HX.out (k*7+5) (by omega);have hx6:=HX.out (k*7+6) (by omega);have hy0:=HY.out (k*7) (by omega);have hy1:=HY.out (k*7+1) (by omega);have hy2:=HY.out (k*7+2) (by omega);have hy3:=HY.out (k*7+3) (by omega);have hy4:=HY.out (k*7+4) (by omega);have hy5:=HY.out (k*7+5) (by omega);have hy6:=HY.out (k*7+6) (by omega);have hkI:(k:Int)<(n:Int):=by omega
   have hneq:=fun W=>neqSta (X (k*7)) (X (k*7+1)) (X (k*7+2)) (X (k*7+3)) (X (k*7+4)) (X (k*7+5)) (X (k*7+6)) (X (k*7)) (X (k*7+1)) (X (k*7+2)) (X (k*7+3)) (X (k*7+4)) (X (k*7+5)) (X (k*7+6)) W
   simp only[beq_self_eq_true,Bool.and_true,Bool.not_true]at hneq;have hgd:=Tryz.staGuard;have hwk:wrap64 ((k:Int)+1)=(k:Int)+1:=by unfold wrap64;omega
   by_cases hk0:k=0
   ·subst hk0;go_wp2_with fail;go_quiet (fail);go_wp2;go_roundw
    case rel=>exact⟨1,_,by omega,by go_num,rfl⟩
    case measure=>exact zD5 n 0 hlt
   ·obtain⟨j,rfl⟩: ∃j,k=j+1:=⟨k - 1,by omega⟩;have hz0:=HX.out (j*7) (by omega);have hle: ¬X ((j+1)* 7)≤X (j*7):=by have:=HS.out j hlt;omega
    have hk1:(0:Int)<((j+1:Nat):Int):=by omega
    have hwj:IntKind.i64.wrap (((j+1:Nat):Int) - 1)=(j:Int):=by rw[wrapEqK];unfold wrap64;omega
    go_wp2_with fail;go_quiet (fail);go_wp2;go_roundw
    case rel=>exact⟨j+1+1,_,by omega,by go_num,rfl⟩
    case measure=>exact zD5 n (j+1) hlt
  ·go_wp2;go_ret;exact⟨rfl,m,rfl⟩
end
section
open Go.Extern Go.Maps Go.RowKit
theorem zRq(o:Ord):encS o=o.state.map (Value.int .i64):=rfl
theorem zEj: ∀M:List Ord,M.flatMap encS=(M.map Ord.state).flatMap (fun l=>l.map (Value.int .i64))
 | []=>rfl
 |x::t=>by rw[List.flatMap_cons,List.map_cons,List.flatMap_cons,zEj t,zRq]
theorem zEk: ∀(M:List Ord) (k j:Nat) (hk:k<M.length),j<7→(M.flatMap encS)[k*7+j]? =(encS M[k])[j]?
 | [],k,j,hk,hj=>by simp at hk
 |x::t,0,j,hk,hj=>by
  rw[List.flatMap_cons,List.getElem?_append_left (by show 0*7+j<7;omega)];simp
 |x::t,k+1,j,hk,hj=>by
  have hl:(encS x).length=7:=rfl;rw[List.flatMap_cons,List.getElem?_append_right (by rw[hl];omega),hl,show(k+1)* 7+j - 7=k*7+j by omega,zEk t k j (by simpa using hk) hj];rfl
theorem zRr(h:Calm e)(hsg:Sg e){M M':List Ord}(hT:Tells M (bk e).l)(hP:M'.Perm e.all)(hS:M'.Pairwise (fun x y=>x.id≤y.id)):M.flatMap encS=M'.flatMap encS∧M'.length=M.length∧∀(k:Nat) (h1:k<M.length) (h2:k+1<M.length),M[k].id<M[k+1].id:=by
 have hn:(e.all.map Ord.id).Nodup:=by
  unfold List.Nodup;rw[List.pairwise_iff_getElem];intro i j hi hj hij c;simp only[List.getElem_map]at c;have:=h.inv.ids i j _ _ (List.getElem?_eq_getElem (by simpa using hi)) (List.getElem?_eq_getElem (by simpa using hj)) c;omega
 have hn':(M'.map Ord.id).Nodup:=(hP.map Ord.id).nodup_iff.2 hn;have hst:(bk e).l.map (fun x=>x.so.state)=e.all.map Ord.state:=by
  show(e.all.map Ord.ent).map (fun x=>x.so.state)=_;rw[List.map_map];refine List.map_congr_left fun o ho=>?_
  obtain⟨i,hi⟩:=List.getElem?_of_mem ho;exact zP1 h hsg hi
 have he:M.map Ord.state=M'.map Ord.state:=zHo M M' hT.srt hS hT.ids hn' (fun s=>by rw[hT.sts s,hst,(hP.map Ord.state).mem_iff]);refine⟨by rw[zEj,zEj,he],by have:=congrArg List.length he;simpa using this.symm,fun k h1 h2=>?_⟩;have a1:=List.pairwise_iff_getElem.1 hT.srt k (k+1) h1 h2 (by omega);have a2:=List.pairwise_iff_getElem.1 hT.ids k (k+1) (by simpa using h1) (by simpa using h2) (by omega);simp only[List.getElem_map]at a2;omega
def rowX(R:List Value)(j:Nat):Int:=match R[j]? with|some (.int _ x)=>x|_=>0
theorem zJ3(M:List Ord)(j:Nat)(hj:j<7*M.length):(M.flatMap encS)[j]? =some (.int .i64 (rowX (M.flatMap encS) j)):=by
 have hk:j / 7<M.length:=by omega
 have e:=zEk M (j / 7) (j % 7) hk (by omega);rw[show j / 7*7+j % 7=j by omega]at e;have h7:j % 7<7:=by omega
 have: ∃x,(encS M[j / 7])[j % 7]? =some (.int .i64 x):=by
  generalize j % 7=r at h7;rcases r with _|_|_|_|_|_|_|r
  ·exact⟨_,rfl⟩
  ·exact⟨_,rfl⟩
  ·exact⟨_,rfl⟩
  ·exact⟨_,rfl⟩
  ·exact⟨_,rfl⟩
  ·exact⟨_,rfl⟩
  ·exact⟨_,rfl⟩
  ·omega
 obtain⟨x,hx⟩:=this;rw[hx]at e;unfold rowX;rw[e]
theorem zJ4(M:List Ord)(k:Nat)(hk:k<M.length):rowX (M.flatMap encS) (k*7)=M[k].id:=by
 have e:=zEk M k 0 hk (by omega);rw[Nat.add_zero]at e;unfold rowX;rw[e];rfl
theorem zRs(kind:Int)(v:Nat→Int):(encRes kind v).1.length≤1000:=by
 unfold encRes;split
 ·split
  ·simp
  ·have h1:=zDh (terms kind) v (fun p hp=>by rcases(zAh kind p hp).2.1 with q|q<;>omega);have h2:=zBs kind;simp only[List.length_cons];omega
 ·simp
structure GW(w0 w:World)(wb:Nat)(e:Eng)(n:Nat):Prop where
 ke:KE w0 w wb e (fun _=>False)
 kl:KL (wb+1) w wb ⟨[],0⟩
 fz: ∀o,w.frozen? ⟨wb,o,none⟩=false
 c5:w.cell? ⟨wb,5,none⟩=some (.bool true)
 c6: ∃rs,w.cell? ⟨wb,6,none⟩=some (.string (ba (encR 0 rs)))∧Run ⟨[],0⟩ rs (bk e)∧rs.length=e.seq
 c7:w.cell? ⟨wb,7,none⟩=some (.int .i64 (e.seq:Int))
 out:e.out= []
 good:Good e (22*e.seq)
 calm:Calm e
 sg:Sg e
 bnd:e.seq≤2100*n
theorem GW.below{w':World}(h:GW w0 w wb e n)(hb:Below w.heap.size w w'):GW w0 w' wb e n:=by
 obtain⟨rs,c6,hz⟩:=h.c6;have hwl:=h.ke.2.2.1;exact⟨h.ke.below hb,h.kl.below hb,fun o=>(World.frozen?_of_block (a:=⟨wb,o,none⟩) (hb.block wb hwl)).trans (h.fz o),zA6 hb hwl h.c5,⟨rs,zA6 hb hwl c6,hz⟩,zA6 hb hwl h.c7,h.out,h.good,h.calm,h.sg,h.bnd⟩
theorem GW.later{m:Nat}(h:GW w0 w wb e n)(hm:n≤m):GW w0 w wb e m:=⟨h.ke,h.kl,h.fz,h.c5,h.c6,h.c7,h.out,h.good,h.calm,h.sg,by have:=h.bnd;omega⟩
theorem KW.gw(h:KW w0 w wb e n)(ha:e.all= [])(hs:e.seq=0)(ht:e.stamp=0):GW w0 w wb e n:=by
 have hb:bk e=⟨[],0⟩:=by unfold bk;rw[ha,ht];rfl
 obtain⟨s,c6,hz⟩:=h.c6;rw[hs]at hz;have hs0:s=ba (encR 0 []):=by
  show s=⟨#[]⟩;obtain⟨d⟩:=s;have:d.size=0:=by simpa [ByteArray.size] using hz
  rw[Array.eq_empty_of_size_eq_zero this]
 subst hs0;exact⟨h.ke,by rw[←hb];exact h.kl,h.fz,h.c5,⟨[],c6,hb.symm,by rw[hs];rfl⟩,h.c7,h.out,h.good,h.calm,fun i o ho=>by rw[ha]at ho;simp at ho,h.bnd⟩
theorem Sg.hush(h:Sg e):Sg e.hush:=h.cong rfl
theorem KE.orders{X:Nat→Prop}(h:KE w0 w wb e X)(inv:Eng.EInv e)(hl:e.all.length≤100000000): ∃nb eb,w.cell? ⟨wb,4,none⟩=some (.pointer (some ⟨nb,0,none⟩))∧w.cell? ⟨nb,0,none⟩=some (.pointer (some ⟨eb,0,none⟩))∧Calls Tryz.prog 26 #[.pointer (some ⟨eb,0,none⟩)] w fun en w'=> ∃(g0 ml:Nat),en=.returned (.slice (some ⟨g0,0,none⟩) ml ml)∧Hid (∃M:List Ord,M.length=ml∧M.Perm e.all∧M.Pairwise (fun x y=>x.id≤y.id)∧w'.ownsRow w.heap.size 48 7 (.slice (some ⟨g0,0,none⟩) ml ml) ml (M.flatMap encS)∧Below w.heap.size w w'):=by
 obtain⟨hlw,hw,hwl,hb,tag,nb,eb,g,S,base2,c4,c0,n1,n2,n3,n4,hX,ht,hC,hH⟩:=h;refine⟨nb,eb,c4,c0,(zQ2 hC inv hH hl).mono ?_⟩;rintro en w' ⟨g0,M,rfl,m1,m2,m3,m4⟩;exact⟨g0,M.length,rfl,hid ⟨M,rfl,m1,m2,m3,m4⟩⟩
theorem zJ5(hf: ∀r∈rs,r.Fits)(hs:rs.length<4294967295):(∀i,i<rs.length→okRec (ba (encR 0 rs)) i)∧(22*rs.length≤(ba (encR 0 rs)).size∧(ba (encR 0 rs)).size<22*rs.length+22)∧∀(i:Nat) (r:Rcd),rs[i]? =some r→recL (ba (encR 0 rs)) (22*i)= [r.kind,(i:Int)+1,r.id,r.other,r.price,r.qty,r.reason]:=by
 have hr:=zLu (s:=0) hf (by omega);have hz:(ba (encR 0 rs)).size=22*rs.length:=by rw[zA3,zAt]
 refine⟨hr.1,by omega,fun i r hi=>?_⟩;have hil:=(List.getElem?_eq_some_iff.1 hi).1;rw[zGn (s:=0) hi (hf r (List.mem_of_getElem? hi)) (by omega),Nat.zero_add];rfl
theorem kagree(h:GW w0 w wb e n)(hn:n+1≤20000)(hE:Errs w0 ad st)(hW:Wids w0)(kk a bb:Int)(v:Nat→Int)(hv: ∀i,i<9→-9223372036854775808≤v i∧v i≤9223372036854775807):
 Calls Tryz.prog 15 #[.pointer (some ⟨wb,0,none⟩),.agg #[.int .i64 kk,.int .i64 a,.int .i64 bb,.int .i64 (v 0),.int .i64 (v 1),.int .i64 (v 2),.int .i64 (v 3),.int .i64 (v 4),.int .i64 (v 5),.int .i64 (v 6),.int .i64 (v 7),.int .i64 (v 8)]] w fun en w'=>en=.returned (.bool true)∧Hid (∃e',GW w0 w' wb e' (n+1)∧((encRes a v).2.1=0→e'=(e.apply (encRes a v).1).hush)):=by
 have hB1:Below w.heap.size w (w.alloc (.cells #[.int .i64 kk,.int .i64 a,.int .i64 bb,.int .i64 (v 0),.int .i64 (v 1),.int .i64 (v 2),.int .i64 (v 3),.int .i64 (v 4),.int .i64 (v 5),.int .i64 (v 6),.int .i64 (v 7),.int .i64 (v 8)] 37)):=(Below.refl _ _).alloc (Nat.le_refl _) _;have HK1:=hid (h.below hB1);have hlow:=HK1.out.ke.1;have HENC:=hid (zLt ad st a v (w.alloc (.cells #[.int .i64 kk,.int .i64 a,.int .i64 bb,.int .i64 (v 0),.int .i64 (v 1),.int .i64 (v 2),.int .i64 (v 3),.int .i64 (v 4),.int .i64 (v 5),.int .i64 (v 6),.int .i64 (v 7),.int .i64 (v 8)] 37)) (hE.below hlow) (hW.below hlow) hv)
 have b1:(w.alloc (.cells #[.int .i64 kk,.int .i64 a,.int .i64 bb,.int .i64 (v 0),.int .i64 (v 1),.int .i64 (v 2),.int .i64 (v 3),.int .i64 (v 4),.int .i64 (v 5),.int .i64 (v 6),.int .i64 (v 7),.int .i64 (v 8)] 37)).cell? ⟨w.heap.size,1,none⟩=some (.int .i64 a):=by rw[World.cell?_alloc_at _ _ _ _ rfl];rfl
 have HE:Hid (Errs w0 ad st∧Wids w0∧n+1≤20000):=⟨hE,hW,hn⟩;clear h hB1 hlow hE hW hv hn;go_enter Tryz.func15,Tryz.ntmps15;go_wp2_with fail;refine HENC.out.mono ?_;rintro en w2 ⟨rfl,hb2⟩;have HK2:=hid (HK1.out.below hb2);clear hb2 HENC b1 HK1;by_cases hz:(encRes a v).2.1=0
 ·obtain⟨rs,k3,ho,hs,htk,hft,hstl,hmp,hcalm,h21,hrun,hsg⟩:=zP0 HK2.out.calm HK2.out.sg hz;have hqs:e.seq≤2100*n:=HK2.out.bnd;have hn1:=HE.out.2.2;have hrs:e.rest= []:=HK2.out.calm.rest;have hlen0:=HK2.out.good.len;have htl:=zRs a v;obtain⟨nb,eb,c4,c0,hAp⟩:=HK2.out.ke.apply (fun k hk=>hk.elim) HK2.out.kl HE.out.1 HE.out.2.1 HK2.out.calm.pegs HK2.out.out (encRes a v).1 (HK2.out.good.taking1 hqs (by omega) _ htl) (by rw[hrs];show e.all.length+(encRes a v).1.length≤_;omega);rw[ho]at hAp;have HAP:=hid hAp;have HNEW:=hid (And.intro (HK2.out.good.apply (encRes a v).1).1 (And.intro hcalm (And.intro hs (And.intro hrun (And.intro hsg h21)))));have hbt:(⟨(encRes a v).1.toArray⟩:ByteArray)=ba (encRes a v).1:=rfl;rw[hbt];have hz':((encRes a v).2.1 != 0)=false:=by simp[hz]
  clear hs htk hft hstl hmp hcalm h21 k3 hAp hrs hlen0 htl hbt hqs hn1 ho hrun hsg;generalize hE1:e.apply (encRes a v).1=E1 at *;have HE1:=hid hE1;clear hE1;rw[hz];clear hz hz';generalize ba (encRes a v).1=T at *;go_wp2_with fail;refine HAP.out.mono ?_;rintro en w3 ⟨rfl,HZ⟩;obtain⟨rs0,c60,hrun0,hl0⟩:=HK2.out.c6;have HC3:Hid (∀j,w3.cell? ⟨wb,j,none⟩=w2.cell? ⟨wb,j,none⟩):=fun j=>World.cell?_of_block (a:=⟨wb,j,none⟩) HZ.out.2.2.1
  have HF3:Hid (∀j,w3.frozen? ⟨wb,j,none⟩=false):=fun j=>(World.frozen?_of_block (a:=⟨wb,j,none⟩) HZ.out.2.2.1).trans (HK2.out.fz j)
  have c6:w3.cell? ⟨wb,6,none⟩=some (.string (ba (encR 0 rs0))):=(HC3.out 6).trans c60;have f6:w3.frozen? ⟨wb,6,none⟩=false:=HF3.out 6;have HALL:Hid (∃m:Nat,m=e.seq+rs.length∧(rs0++rs).length=m∧ba (encR 0 rs0)++ba (encR e.seq rs)=ba (encR 0 (rs0++rs))∧(ba (encR 0 (rs0++rs))).size=22*m∧Run ⟨[],0⟩ (rs0++rs) (bk E1)∧m≤2100*(n+1)):=by
   refine⟨_,rfl,by rw[List.length_append,hl0],?_,by rw[zA3,zAt,List.length_append,hl0],hrun0.append HNEW.out.2.2.2.1,by have:=HK2.out.bnd;have:=HNEW.out.2.2.2.2.2;omega⟩;rw[zDf,hl0,Nat.zero_add];exact zAc _ _
  obtain⟨m,hm0,hm1,hm2,hm3,hm4,hm5⟩:=HALL.out;have hfit: ¬9223372036854775807<(ba (encR 0 rs0)).size+(ba (encR e.seq rs)).size:=by
   rw[←ByteArray.size_append,hm2,hm3];have:=HE.out.2.2;omega
  have HM:=hid (And.intro hm0 (And.intro hm1 (And.intro hm3 (And.intro hm4 hm5))));clear hm0 hm1 hm3 hm4 hm5 HALL c4 c0 c60 HAP hrun0 hl0;go_wp2_with(with_reducible first|refine zDz ?_|refine zDy ?_);clear hfit hm2;have hwl3:wb<w3.heap.size:=HZ.out.1.2.2.1;have hSZI:(((ba (encR 0 (rs0++rs))).size:Nat):Int).tdiv 22=(m:Int):=by
   rw[HM.out.2.2.1,Int.tdiv_eq_ediv_of_nonneg (by omega)];omega
  have hSZ2:(((ba (encR 0 (rs0++rs))).size:Nat):Int)=22*(m:Int):=by rw[HM.out.2.2.1];omega
  have HQS:=hid (And.intro hSZI hSZ2);clear hSZI hSZ2;have HRWS:=hid (zJ5 HM.out.2.2.2.1.fits (by have:=HM.out;have:=HE.out.2.2;omega));generalize hSS:ba (encR 0 (rs0++rs))=SS at *;have HSS:=hid hSS;clear hSS;have HKE4:Hid (KE w0 (w3.setCell ⟨wb,6,none⟩ (.string SS)) wb E1.hush (fun _=>False)):=HZ.out.1.ku (KU.put w3 _ (by omega) (by omega));have HKL4:Hid (KL (wb+1) (w3.setCell ⟨wb,6,none⟩ (.string SS)) wb ⟨[],0⟩):=(HZ.out.2.1 _ HK2.out.kl).put6 (by omega) (by omega) _;have HFZ4:Hid (∀o,(w3.setCell ⟨wb,6,none⟩ (.string SS)).frozen? ⟨wb,o,none⟩=false):=fun o=>by rw[World.frozen?_setCell];exact HF3.out o
  have HCC4:Hid ((w3.setCell ⟨wb,6,none⟩ (.string SS)).cell? ⟨wb,5,none⟩=some (.bool true)∧(w3.setCell ⟨wb,6,none⟩ (.string SS)).cell? ⟨wb,6,none⟩=some (.string SS)∧(w3.setCell ⟨wb,6,none⟩ (.string SS)).cell? ⟨wb,7,none⟩=some (.int .i64 (e.seq:Int))):=⟨(World.cell?_setCell_other _ _ _ _ (by intro e;injection e with e1 e2;omega)).trans ((HC3.out 5).trans HK2.out.c5),World.cell?_setCell_same _ _ _ c6,(World.cell?_setCell_other _ _ _ _ (by intro e;injection e with e1 e2;omega)).trans ((HC3.out 7).trans HK2.out.c7)⟩;clear HZ HC3 HF3 c6 f6 hwl3;generalize w3.setCell ⟨wb,6,none⟩ (.string SS)=W4 at *;try with_reducible refine hidO ?_
  have d6:W4.cell? ⟨wb,6,none⟩=some (.string SS):=HCC4.out.2.1;have d7:W4.cell? ⟨wb,7,none⟩=some (.int .i64 (e.seq:Int)):=HCC4.out.2.2;have f7:W4.frozen? ⟨wb,7,none⟩=false:=HFZ4.out 7;have hq:=HQS.out.1;have hwm:wrap64 (m:Int)=(m:Int):=by have:=HM.out;have:=HE.out.2.2;unfold wrap64;omega
  go_wp2_with(with_reducible first|refine zDz ?_|refine zDy ?_);have hwl4:wb<W4.heap.size:=HKE4.out.2.2.1;have HKE5:Hid (KE w0 (W4.setCell ⟨wb,7,none⟩ (.int .i64 (m:Int))) wb E1.hush (fun _=>False)):=HKE4.out.ku (KU.put W4 _ (by omega) (by omega));have HKL5:Hid (KL (wb+1) (W4.setCell ⟨wb,7,none⟩ (.int .i64 (m:Int))) wb ⟨[],0⟩):=HKL4.out.put6 (by omega) (by omega) _;have HFZ5:Hid (∀o,(W4.setCell ⟨wb,7,none⟩ (.int .i64 (m:Int))).frozen? ⟨wb,o,none⟩=false):=fun o=>by rw[World.frozen?_setCell];exact HFZ4.out o
  have HCC5:Hid ((W4.setCell ⟨wb,7,none⟩ (.int .i64 (m:Int))).cell? ⟨wb,5,none⟩=some (.bool true)∧(W4.setCell ⟨wb,7,none⟩ (.int .i64 (m:Int))).cell? ⟨wb,6,none⟩=some (.string SS)∧(W4.setCell ⟨wb,7,none⟩ (.int .i64 (m:Int))).cell? ⟨wb,7,none⟩=some (.int .i64 (m:Int))):=⟨(World.cell?_setCell_other _ _ _ _ (by intro e;injection e with e1 e2;omega)).trans HCC4.out.1,(World.cell?_setCell_other _ _ _ _ (by intro e;injection e with e1 e2;omega)).trans HCC4.out.2.1,World.cell?_setCell_same _ _ _ d7⟩;clear hq hwm d6 d7 f7 hwl4 HKE4 HKL4 HFZ4 HCC4;generalize W4.setCell ⟨wb,7,none⟩ (.int .i64 (m:Int))=W5 at *;try with_reducible refine hidO ?_
  have HAU:Hid (Calls Tryz.prog 17 #[.string SS] W5 fun en w'=> ∃g0 ml:Nat,en=.returned (.tuple #[.slice (some ⟨g0,0,none⟩) ml ml,.int .i64 0,.int .i64 (-1)])∧Hid (Below W5.heap.size W5 w'∧∃M:List Ord,M.length=ml∧ml≤1000000000∧w'.ownsRow W5.heap.size 48 7 (.slice (some ⟨g0,0,none⟩) ml ml) ml (M.flatMap encS)∧Tells M (bk E1).l)):=by
   obtain⟨q1,q2,q3,q4,q5⟩:=HM.out;have hbn:=HE.out.2.2;refine(zEi ad st SS W5 (HE.out.1.below HKE5.out.1) (by omega) (rs0++rs).length HRWS.out.1 HRWS.out.2.1 (rs0++rs) (bk E1) (Nat.le_refl _) HRWS.out.2.2 q4 (.inl rfl)).mono ?_;rintro en w' ⟨hb,⟨_,_,g0,ml,rfl,M,m1,m2,m3,m4⟩|⟨hno,_⟩⟩
   ·exact⟨g0,ml,rfl,hid ⟨hb,M,m1,m2,m3,m4⟩⟩
   ·exact absurd ⟨rfl,by rw[q2];exact q3.symm⟩ hno
  have d6:W5.cell? ⟨wb,6,none⟩=some (.string SS):=HCC5.out.2.1;go_wp2_with fail;refine HAU.out.mono ?_;rintro en w6 ⟨g0,ml,rfl,HZ6⟩;clear HAU d6;have HKE6:=hid (HKE5.out.below HZ6.out.1);obtain⟨nb6,eb6,c46,c06,hO6⟩:=HKE6.out.orders HNEW.out.2.1.hush.inv (by show E1.all.length≤_;have h1:=HNEW.out.1.len;have h2:=HNEW.out.2.2.1;have h3:=HM.out;have:=HE.out.2.2;omega);have HO6:=hid hO6;clear hO6;go_wp2_with fail;refine HO6.out.mono ?_;rintro en w7 ⟨g1,ml1,rfl,HZ7⟩;clear HO6 c46 c06;have HSAME:Hid (ml1=ml∧Calls Tryz.prog 27 #[.slice (some ⟨g0,0,none⟩) ml ml,.slice (some ⟨g1,0,none⟩) ml ml] w7 fun en w'=>en=.returned (.bool true)∧∃j,w'=w7.drewN j):=by
   obtain⟨hb6,M,m1,m2,m3,m4⟩:=HZ6.out;obtain⟨M',k1,k2,k3,k4,hb7⟩:=HZ7.out;have k2':M'.Perm E1.all:=k2;obtain⟨t1,t2,t3⟩:=zRr HNEW.out.2.1 HNEW.out.2.2.2.2.1 m4 k2' k3;have hml:ml1=ml:=by omega
   refine⟨hml,?_⟩;subst hml;subst m1;refine ksame g0 g1 _ _ _ (rowX (M.flatMap encS)) w7 m2 (fun j hj=>?_) (fun j hj=>?_) (fun k hk=>?_)
   ·rw[←zJ3 M j hj];exact(World.cell?_of_block (a:=⟨g0,j,none⟩) (hb7.block g0 (m3.lt g0 rfl).2)).trans (m3.cellAt j (by omega))
   ·rw[←zJ3 M j hj,t1];exact k4.cellAt j (by omega)
   ·rw[zJ4 M k (by omega),zJ4 M (k+1) (by omega)];exact t3 k (by omega) (by omega)
  obtain⟨hmle,hsm⟩:=HSAME.out;subst hmle;have HSM:=hid hsm;clear hsm HSAME;go_wp2_with fail;refine HSM.out.mono ?_;rintro en w8 ⟨rfl,j,rfl⟩;clear HSM;have HB7:Hid (Below W5.heap.size W5 (w7.drewN j)):=by
   obtain⟨_,_,_,_,_,hb7⟩:=HZ7.out;have:=(HZ6.out.1.trans (hb7.mono HZ6.out.1.size));exact⟨this.os,this.tape,this.output,this.size,this.block⟩
  have hwl5:wb<W5.heap.size:=HKE5.out.2.2.1;have x6:(w7.drewN j).cell? ⟨wb,6,none⟩=some (.string SS):=zA6 HB7.out hwl5 HCC5.out.2.1;have x7:(w7.drewN j).cell? ⟨wb,7,none⟩=some (.int .i64 (m:Int)):=zA6 HB7.out hwl5 HCC5.out.2.2;have hw22:wrap64 (22*(m:Int))=22*(m:Int):=by have:=HM.out;have:=HE.out.2.2;unfold wrap64;omega
  have hsz:=HQS.out.2;have HEND:Hid (∀W,Below W5.heap.size W5 W→∃e',GW w0 W wb e' (n+1)∧((encRes a v).2.1=0→e'=(e.apply (encRes a v).1).hush)):=fun W hWb=>by
   have hsq:E1.hush.seq=m:=HNEW.out.2.2.1.trans HM.out.1.symm;have hgd:=HNEW.out.1.hush;have htd:=hgd.told;refine⟨_,GW.below (w:=W5) ⟨HKE5.out,HKL5.out,HFZ5.out,HCC5.out.1,⟨rs0++rs,by rw[HSS.out];exact HCC5.out.2.1,HM.out.2.2.2.1,by rw[hsq];exact HM.out.2.1⟩,by rw[hsq];exact HCC5.out.2.2,rfl,?_,HNEW.out.2.1.hush,HNEW.out.2.2.2.2.1.hush,by rw[hsq];exact HM.out.2.2.2.2⟩ hWb,fun _=>by rw[HE1.out]⟩;rw[htd]at hgd;exact hgd
  clear hwl5 HKE5 HKL5 HFZ5 HCC5 HZ6 HZ7 HKE6 HRWS HQS;generalize w7.drewN j=W9 at *;go_wp2_with fail;go_quiet (fail);go_wp2;go_ret;have hbz:Below W5.heap.size W5 (W9.drewN nq):=⟨HB7.out.os,HB7.out.tape,HB7.out.output,HB7.out.size,HB7.out.block⟩;exact⟨rfl,hid (HEND.out _ hbz)⟩
 ·have e1:((encRes a v).2.1 != 0)=true:=by simpa using hz
  go_wp2;go_ret;exact⟨rfl,hid ⟨e,HK2.out.later (by omega),fun c=>absurd c hz⟩⟩
end
section
open Eng Go.Extern Go.Maps Go.RowKit
theorem zRt{T:List UInt8}{i:Nat}{q:Int}{r:Rcd}(hr:(T.drop (22*i)).take 22=Eng.recB r.kind q r.id r.other r.price r.qty r.reason)(hf:r.Fits)(q0:0≤q)(q1:q<4294967296):recL (ba T) (22*i)= [r.kind,q,r.id,r.other,r.price,r.qty,r.reason]:=by
 obtain⟨f1,f2,f3,f4,f5,f6,f7,f8,f9,f10,f11,f12⟩:=hf;unfold recL;rw[zAd hr 0 1 (by omega),zAd hr 1 4 (by omega),zAd hr 5 4 (by omega),zAd hr 9 4 (by omega),zAd hr 13 4 (by omega),zAd hr 17 4 (by omega),zAd hr 21 1 (by omega)];clear hr;have g: ∀(A B C:List UInt8) (a n:Nat) (x:Int),recB r.kind q r.id r.other r.price r.qty r.reason=A++(B++C)→A.length=a→B=be n x→0≤x→x<256 ^ n→val (((recB r.kind q r.id r.other r.price r.qty r.reason).drop a).take n)=x:=by
  intro A B C a n x e hA hB x0 x1;subst hB;rw[e,zGl A (be n x) C a n hA (zA2 n x),zBw n x x0 x1]
 rw[g [] (be 1 r.kind) (be 4 q++be 4 r.id++be 4 r.other++be 4 r.price++be 4 r.qty++be 1 r.reason) 0 1 r.kind (by unfold recB;simp[List.append_assoc]) rfl rfl (by omega) (by omega),
  g (be 1 r.kind) (be 4 q) (be 4 r.id++be 4 r.other++be 4 r.price++be 4 r.qty++be 1 r.reason) 1 4 q (by unfold recB;simp[List.append_assoc]) (by simp[zA2]) rfl (by omega) (by omega),
  g (be 1 r.kind++be 4 q) (be 4 r.id) (be 4 r.other++be 4 r.price++be 4 r.qty++be 1 r.reason) 5 4 r.id (by unfold recB;simp[List.append_assoc]) (by simp[zA2]) rfl (by omega) (by omega),
  g (be 1 r.kind++be 4 q++be 4 r.id) (be 4 r.other) (be 4 r.price++be 4 r.qty++be 1 r.reason) 9 4 r.other (by unfold recB;simp[List.append_assoc]) (by simp[zA2]) rfl (by omega) (by omega),
  g (be 1 r.kind++be 4 q++be 4 r.id++be 4 r.other) (be 4 r.price) (be 4 r.qty++be 1 r.reason) 13 4 r.price (by unfold recB;simp[List.append_assoc]) (by simp[zA2]) rfl (by omega) (by omega),
  g (be 1 r.kind++be 4 q++be 4 r.id++be 4 r.other++be 4 r.price) (be 4 r.qty) (be 1 r.reason) 17 4 r.qty (by unfold recB;simp[List.append_assoc]) (by simp[zA2]) rfl (by omega) (by omega),
  g (be 1 r.kind++be 4 q++be 4 r.id++be 4 r.other++be 4 r.price++be 4 r.qty) (be 1 r.reason) [] 21 1 r.reason (by unfold recB;simp[List.append_assoc]) (by simp[zA2]) rfl (by omega) (by omega)]
def chunks(s:Nat):List Rcd→List (List UInt8)
 | []=> []
 |r::t=>recB r.kind (s+1:Nat) r.id r.other r.price r.qty r.reason::chunks (s+1) t
theorem zC0: ∀(rs:List Rcd) (s:Nat),encR s rs=(chunks s rs).flatten
 | [],s=>rfl
 |r::t,s=>by
  show _++encR (s+1) t=_++(chunks (s+1) t).flatten;rw[zC0 t]
theorem zBp: ∀(rs:List Rcd) (s:Nat),(chunks s rs).length=rs.length
 | [],s=>rfl
 |r::t,s=>by
  show(chunks (s+1) t).length+1=t.length+1;rw[zBp t]
theorem zAk: ∀(rs:List Rcd) (s:Nat),∀c∈chunks s rs,c.length=22
 | [],s,c,hc=>by cases hc
 |r::t,s,c,hc=>by
  rcases List.mem_cons.1 hc with rfl|hc
  ·exact zCq ..
  ·exact zAk t (s+1) c hc
theorem zJ6: ∀(rs:List Rcd) (s i:Nat) (r:Rcd),rs[i]? =some r→(chunks s rs)[i]? =some (recB r.kind ((s+i+1:Nat):Int) r.id r.other r.price r.qty r.reason)
 | [],s,i,r,h=>by simp at h
 |x::t,s,0,r,h=>by
  obtain rfl:x=r:=by simpa using h
  rfl
 |x::t,s,i+1,r,h=>by
  have h':t[i]? =some r:=by simpa using h
  have:=zJ6 t (s+1) i r h';rw[show s+1+i+1=s+(i+1)+1 by omega]at this;exact this
section
variable {C:List (List UInt8)}
theorem zC1: ∀{C:List (List UInt8)},(∀c∈C,c.length=22)→C.flatten.length=22*C.length
 | [],_=>rfl
 |c::t,h=>by
  rw[List.flatten_cons,List.length_append,h c (List.mem_cons_self ..),zC1 (fun x hx=>h x (List.mem_cons_of_mem _ hx)),List.length_cons];omega
theorem zEl: ∀{C:List (List UInt8)} (i:Nat),(∀c∈C,c.length=22)→C.flatten.take (22*i)=(C.take i).flatten
 | [],i,_=>by simp
 |c::t,0,h=>by simp
 |c::t,i+1,h=>by
  have hc:=h c (List.mem_cons_self ..);rw[List.flatten_cons,List.take_succ_cons,List.flatten_cons,show 22*(i+1)=c.length+22*i by omega,List.take_length_add_append,zEl i (fun x hx=>h x (List.mem_cons_of_mem _ hx))]
theorem zD7: ∀{C:List (List UInt8)} (i:Nat),(∀c∈C,c.length=22)→C.flatten.drop (22*i)=(C.drop i).flatten
 | [],i,_=>by simp
 |c::t,0,h=>by simp
 |c::t,i+1,h=>by
  have hc:=h c (List.mem_cons_self ..);rw[List.flatten_cons,List.drop_succ_cons,show 22*(i+1)=c.length+22*i by omega,List.drop_length_add_append,zD7 i (fun x hx=>h x (List.mem_cons_of_mem _ hx))]
theorem zRu(t:List UInt8)(h: ∀c∈C,c.length=22)(l:Nat)(hl:l<C.length):((C.flatten++t).drop (22*l)).take 22=C[l]:=by
 have hlen:=zC1 h;rw[List.drop_append_of_le_length (by omega),zD7 l h,List.drop_eq_getElem_cons hl,List.flatten_cons,List.append_assoc];exact List.take_left' (h _ (List.getElem_mem hl))
end
theorem zJ7(ad:Nat→Addr)(st:Nat→ByteArray)(hrun:Run ⟨[],0⟩ rs b)(hlen:rs.length<4294967290)(p:Nat)(hp:p≤rs.length)(R:List (List UInt8))(t:List UInt8)(ht:t.length<22)(hR: ∀c∈R,c∈chunks 0 rs)(he:R= []∨∃(j:Nat) (R':List (List UInt8)) (c:List UInt8),(chunks 0 rs)[j]? =some c∧R=c::R'∧j≠p)(s:ByteArray)(hs:s=ba (((chunks 0 rs).take p++R).flatten++t))(hm:s.size≤1000000000)(w:World)(hE:Errs w ad st):
 Calls Tryz.prog 17 #[.string s] w fun e w'=>Below w.heap.size w w'∧((R= []∧t= []∧∃g0 ml:Nat,e=.returned (.tuple #[.slice (some ⟨g0,0,none⟩) ml ml,.int .i64 0,.int .i64 (-1)]))∨(¬(R= []∧t= [])∧∃nn:Int,nn≠0∧e=.returned (.tuple #[.slice none 0 0,.int .i64 nn,.int .i64 ((p:Int)+1)]))):=by
 have hcl:=zBp rs 0;have hC22: ∀c∈(chunks 0 rs).take p++R,c.length=22:=fun c hc=>by
  rcases List.mem_append.1 hc with h|h
  ·exact zAk rs 0 c (List.mem_of_mem_take h)
  ·exact zAk rs 0 c (hR c h)
 have hCl:((chunks 0 rs).take p++R).length=p+R.length:=by
  rw[List.length_append,List.length_take];omega
 have hsz:s.size=22*(p+R.length)+t.length:=by rw[hs,zA3,List.length_append,zC1 hC22,hCl]
 have hfit:=hrun.fits;have key: ∀(l j:Nat) (r:Rcd),l<p+R.length→((chunks 0 rs).take p++R)[l]? =(chunks 0 rs)[j]? →rs[j]? =some r→recL s (22*l)= [r.kind,(j:Int)+1,r.id,r.other,r.price,r.qty,r.reason]:=by
  intro l j r hl hlj hr;have hjl:=(List.getElem?_eq_some_iff.1 hr).1;rw[zJ6 rs 0 j r hr,List.getElem?_eq_getElem (by omega)]at hlj;have h1:=zRu t hC22 l (by omega);rw[Option.some.inj hlj]at h1;rw[hs,zRt h1 (hfit r (List.mem_of_getElem? hr)) (by omega) (by omega),Nat.zero_add];rfl
 have hok: ∀l,l<p+R.length→okRec s l:=fun l hl=>by
  have hmem:((chunks 0 rs).take p++R)[l]'(by omega)∈chunks 0 rs:=by
   rcases List.mem_append.1 (List.getElem_mem (l:=(chunks 0 rs).take p++R) (n:=l) (by omega)) with h|h
   ·exact List.mem_of_mem_take h
   ·exact hR _ h
  obtain⟨j,hj⟩:=List.getElem?_of_mem hmem;have hjl:j<rs.length:=by have:=(List.getElem?_eq_some_iff.1 hj).1;omega
  have hr:rs[j]? =some rs[j]:=List.getElem?_eq_getElem hjl;have hk:=key l j rs[j] hl (by rw[List.getElem?_eq_getElem (by omega),hj]) hr;have h0:fld s (22*l) 0 1=rs[j].kind:=by
   unfold recL at hk;injection hk
  have hf:=hfit rs[j] (List.getElem_mem hjl);exact⟨by rw[hsz];omega,by rw[h0];exact hf.k0,by rw[h0];exact hf.k1⟩
 have hpl:(rs.take p).length=p:=by rw[List.length_take];omega
 obtain⟨c,hc1,hc2⟩:=Run.part (s:=rs.take p) (t:=rs.drop p) (by rw[List.take_append_drop];exact hrun);refine(zEi ad st s w hE hm (p+R.length) hok (by omega) (rs.take p) c (by omega) (fun i r hi=>?_) hc1 ?_).mono ?_
 ·have hil:i<p:=by have:=(List.getElem?_eq_some_iff.1 hi).1;omega
  rw[List.getElem?_take_of_lt hil]at hi;refine key i i r (by omega) ?_ hi;rw[List.getElem?_append_left (by rw[List.length_take];omega),List.getElem?_take_of_lt hil]
 ·rcases he with h0|⟨j,R',x,hx,hR',hjp⟩
  ·left;rw[hpl,h0];rfl
  ·right;have hjl:j<rs.length:=by have:=(List.getElem?_eq_some_iff.1 hx).1;omega
   have hpt:((chunks 0 rs).take p).length=p:=by rw[List.length_take];omega
   have hk:=key p j rs[j] (by rw[hR'];simp) (by rw[List.getElem?_append_right (by omega),hpt,Nat.sub_self,hR',hx];rfl) (List.getElem?_eq_getElem hjl);have h1:fld s (22*p) 1 4=(j:Int)+1:=by
    unfold recL at hk;injection hk with _ hk;injection hk
   rw[hpl,h1];omega
 ·rintro e w' ⟨hb,h⟩;refine⟨hb,?_⟩;rw[hpl]at h;rcases h with⟨h1,h2,g0,ml,rfl,_⟩|⟨h1,nn,h2,rfl⟩
  ·have hr0:R= []:=List.eq_nil_of_length_eq_zero (by omega);have ht0:t= []:=List.eq_nil_of_length_eq_zero (by omega);exact .inl ⟨hr0,ht0,g0,ml,rfl⟩
  ·refine .inr ⟨fun c=>h1 ?_,nn,h2,rfl⟩;rw[c.1]at hsz⊢;rw[c.2]at hsz;simp at hsz;exact⟨by simp,by simp;omega⟩
theorem zD8(A:List UInt8)(a c:Nat):(ba A).extract a c=ba ((A.drop a).take (c - a)):=by
 apply ByteArray.ext;rw[ByteArray.data_extract];apply Array.toList_inj.1;rw[Array.toList_extract,List.extract_eq_take_drop];simp[ba]
theorem zAv(i:Nat):(ba (encR 0 rs)).extract 0 (22*i)=ba ((chunks 0 rs).take i).flatten:=by
 rw[zD8,List.drop_zero,Nat.sub_zero,zC0,zEl i (zAk rs 0)]
theorem zAq(i:Nat):(ba (encR 0 rs)).extract (22*i) (ba (encR 0 rs)).size=ba ((chunks 0 rs).drop i).flatten:=by
 rw[zD8,zA3,zC0,List.take_of_length_le (by simp),zD7 i (zAk rs 0)]
theorem zEm(i j:Nat):(ba (encR 0 rs)).extract (22*i) (22*j)=ba (((chunks 0 rs).drop i).take (j - i)).flatten:=by
 rw[zD8,zC0,zD7 i (zAk rs 0),show 22*j - 22*i=22*(j - i) by omega,zEl _ (fun c hc=>zAk rs 0 c (List.mem_of_mem_drop hc))]
theorem zRv(i r:Nat){c:List UInt8}(hc:(chunks 0 rs)[i]? =some c)(hr:r≤22):(ba (encR 0 rs)).extract 0 (22*i+r)=ba (((chunks 0 rs).take i).flatten++c.take r):=by
 obtain⟨hi,rfl⟩:=List.getElem?_eq_some_iff.1 hc;have h22:=zAk rs 0;have hcl:=h22 _ (List.getElem_mem hi);rw[zD8,List.drop_zero,Nat.sub_zero,zC0];have e1:(chunks 0 rs).flatten=((chunks 0 rs).take i).flatten++((chunks 0 rs)[i] ++((chunks 0 rs).drop (i+1)).flatten):=by
  rw[←List.flatten_cons,←List.drop_eq_getElem_cons hi,←List.flatten_append,List.take_append_drop]
 have hl:((chunks 0 rs).take i).flatten.length=22*i:=by
  rw[zC1 (fun c hc=>h22 c (List.mem_of_mem_take hc)),List.length_take];omega
 rw[e1,←hl,List.take_length_add_append,List.take_append_of_le_length (by omega)]
end
section
open Go.Extern Go.Maps Go.RowKit
theorem zJ8(hrun:Run ⟨[],0⟩ rs b)(hlen:rs.length≤42000000)(p:Nat)(hp:p≤rs.length)(hX:X=ba ((chunks 0 rs).take p).flatten): ∀W,Errs W ad st→Calls Tryz.prog 17 #[.string X] W fun en w'=> ∃g0 ml:Nat,en=.returned (.tuple #[.slice (some ⟨g0,0,none⟩) ml ml,.int .i64 0,.int .i64 (-1)])∧Hid (Below W.heap.size W w'):=fun W hW=>by
 have hz:X.size≤1000000000:=by
  rw[hX,zA3,zC1 (fun c hc=>zAk rs 0 c (List.mem_of_mem_take hc)),List.length_take];omega
 refine(zJ7 ad st hrun (by omega) p hp [] [] (by decide) (fun c hc=>by cases hc) (.inl rfl) X (by rw[hX,List.append_nil,List.append_nil]) hz W hW).mono ?_;rintro en w' ⟨hb,⟨_,_,g0,ml,rfl⟩|⟨h1,_⟩⟩
 ·exact⟨g0,ml,rfl,hb⟩
 ·exact absurd ⟨rfl,rfl⟩ h1
theorem zD9(hrun:Run ⟨[],0⟩ rs b)(hlen:rs.length≤42000000)(p:Nat)(hp:p≤rs.length)(R:List (List UInt8))(t:List UInt8)(ht:t.length<22)(hR: ∀c∈R,c∈chunks 0 rs)(he:R= []∨∃(j:Nat) (R':List (List UInt8)) (c:List UInt8),(chunks 0 rs)[j]? =some c∧R=c::R'∧j≠p)(hne: ¬(R= []∧t= []))(hRl:p+R.length≤rs.length+1)(hX:X=ba (((chunks 0 rs).take p++R).flatten++t)){fr:Int}(hfr:fr=(p:Int)+1): ∀W,Errs W ad st→Calls Tryz.prog 17 #[.string X] W fun en w'=> ∃nn:Int,en=.returned (.tuple #[.slice none 0 0,.int .i64 nn,.int .i64 fr])∧(nn != 0)=true∧Hid (Below W.heap.size W w'):=fun W hW=>by
 have hz:X.size≤1000000000:=by
  rw[hX,zA3,List.length_append,zC1 (fun c hc=>by
   rcases List.mem_append.1 hc with h|h
   ·exact zAk rs 0 c (List.mem_of_mem_take h)
   ·exact zAk rs 0 c (hR c h)),List.length_append,List.length_take]
  omega
 subst hfr;refine(zJ7 ad st hrun (by omega) p hp R t ht hR he X hX hz W hW).mono ?_;rintro en w' ⟨hb,⟨h1,h2,_⟩|⟨_,nn,h2,rfl⟩⟩
 ·exact absurd ⟨h1,h2⟩ hne
 ·exact⟨nn,rfl,by simpa using h2,hb⟩
theorem kspoilt0(h:GW w0 w wb e n)(hn:n≤20000)(hE:Errs w0 ad st)(kk a bb:Int)(ha: -9223372036854775808≤a∧a≤9223372036854775807)(hbb: -9223372036854775808≤bb∧bb≤9223372036854775807)(v:Nat→Int)(hc5:pickI a 5=0):
 Calls Tryz.prog 16 #[.pointer (some ⟨wb,0,none⟩),.agg #[.int .i64 kk,.int .i64 a,.int .i64 bb,.int .i64 (v 0),.int .i64 (v 1),.int .i64 (v 2),.int .i64 (v 3),.int .i64 (v 4),.int .i64 (v 5),.int .i64 (v 6),.int .i64 (v 7),.int .i64 (v 8)]] w fun en w'=>en=.returned (.bool true)∧Hid (Below w.heap.size w w'):=by
 have hwl:=h.ke.2.2.1;have hB1:Below w.heap.size w (w.alloc (.cells #[.int .i64 kk,.int .i64 a,.int .i64 bb,.int .i64 (v 0),.int .i64 (v 1),.int .i64 (v 2),.int .i64 (v 3),.int .i64 (v 4),.int .i64 (v 5),.int .i64 (v 6),.int .i64 (v 7),.int .i64 (v 8)] 37)):=(Below.refl _ _).alloc (Nat.le_refl _) _;have h1:=h.below hB1;obtain⟨rs,c6,hrun,hl⟩:=h1.c6;have c7:=h1.c7;have hbn:=h.bnd;have HER:Hid (∀W,Below w.heap.size w W→Errs W ad st):=fun W hW=>hE.below (zAa h.ke.1 hW)
 have b1:(w.alloc (.cells #[.int .i64 kk,.int .i64 a,.int .i64 bb,.int .i64 (v 0),.int .i64 (v 1),.int .i64 (v 2),.int .i64 (v 3),.int .i64 (v 4),.int .i64 (v 5),.int .i64 (v 6),.int .i64 (v 7),.int .i64 (v 8)] 37)).cell? ⟨w.heap.size,1,none⟩=some (.int .i64 a):=by rw[World.cell?_alloc_at _ _ _ _ rfl];rfl
 have b2:(w.alloc (.cells #[.int .i64 kk,.int .i64 a,.int .i64 bb,.int .i64 (v 0),.int .i64 (v 1),.int .i64 (v 2),.int .i64 (v 3),.int .i64 (v 4),.int .i64 (v 5),.int .i64 (v 6),.int .i64 (v 7),.int .i64 (v 8)] 37)).cell? ⟨w.heap.size,2,none⟩=some (.int .i64 bb):=by rw[World.cell?_alloc_at _ _ _ _ rfl];rfl
 have HB:=hid hB1;generalize hm:e.seq=m at *;have hmb:rs.length≤42000000:=by omega
 clear h h1 hE hB1 hwl hbn hn hm;by_cases hm0:m=0
 ·subst hm0;go_enter Tryz.func16,Tryz.ntmps16;go_wp2;go_ret;exact⟨rfl,HB⟩
 obtain⟨i,hi⟩: ∃i:Nat,(i:Int)=pickI bb m:=⟨(pickI bb m).toNat,by have:=zA bb (n:=m) (by omega);omega⟩;have him:i<m:=by have:=zA bb (n:=m) (by omega);omega
 obtain⟨r7,hr7⟩: ∃i:Nat,(i:Int)=pickI bb 7:=⟨(pickI bb 7).toNat,by have:=zA bb (n:=7) (by omega);omega⟩;have hr7b:r7<7:=by have:=zA bb (n:=7) (by omega);omega
 obtain⟨r21,hr21⟩: ∃i:Nat,(i:Int)=pickI bb 21:=⟨(pickI bb 21).toNat,by have:=zA bb (n:=21) (by omega);omega⟩;have hr21b:r21<21:=by have:=zA bb (n:=21) (by omega);omega
 obtain⟨cc,hcc⟩: ∃c:Int,c=pickI a 5:=⟨_,rfl⟩;have hcb:cc=0:=hcc.trans hc5;have HPI:Hid (∀W,Calls Tryz.prog 14 #[.int .i64 bb,.int .i64 (m:Int)] W fun en w'=>en=.returned (.int .i64 (i:Int))∧w'=W):=fun W=>by rw[hi];exact kpick W bb m hbb (by omega)
 have HP7:Hid (∀W,Calls Tryz.prog 14 #[.int .i64 bb,.int .i64 7] W fun en w'=>en=.returned (.int .i64 (r7:Int))∧w'=W):=fun W=>by rw[hr7];exact kpick W bb 7 hbb (by omega)
 have HP21:Hid (∀W,Calls Tryz.prog 14 #[.int .i64 bb,.int .i64 21] W fun en w'=>en=.returned (.int .i64 (r21:Int))∧w'=W):=fun W=>by rw[hr21];exact kpick W bb 21 hbb (by omega)
 have HPA:Hid (∀W,Calls Tryz.prog 14 #[.int .i64 a,.int .i64 5] W fun en w'=>en=.returned (.int .i64 cc)∧w'=W):=fun W=>by rw[hcc];exact kpick W a 5 ha (by omega)
 have HM:=hid (And.intro hrun (And.intro hl (And.intro hmb (And.intro him (And.intro hr7b hr21b)))));clear hc5 hi hr7 hr21 hcc hrun hl hmb hr7b hr21b ha hbb;have e0:((m:Int) == 0)=false:=by simpa using (show¬(m:Int)=0 by omega)
 obtain⟨at',hat⟩: ∃x:Int,x=22*(i:Int):=⟨_,rfl⟩;obtain⟨nx,hnx⟩: ∃x:Int,x=22*(i:Int)+22:=⟨_,rfl⟩;obtain⟨fr,hfr⟩: ∃x:Int,x=(i:Int)+1:=⟨_,rfl⟩;have w1:wrap64 (22*(i:Int))=at':=by rw[hat];have:=HM.out.2;unfold wrap64;omega
 have w2:wrap64 (at' +22)=nx:=by rw[hat,hnx];have:=HM.out.2;unfold wrap64;omega
 have w3:wrap64 ((i:Int)+1)=fr:=by rw[hfr];have:=HM.out.2;unfold wrap64;omega
 have HV:=hid (And.intro hat (And.intro hnx hfr));clear hat hnx hfr him;generalize hS:ba (encR 0 rs)=S at *;have HS:=hid hS;clear hS;have HSZ:Hid (S.size=22*m):=by show S.size=22*m;rw[←HS.out,zA3,zAt,HM.out.2.1]
 go_enter Tryz.func16,Tryz.ntmps16;go_wp2_with fail;generalize (w.alloc (.cells #[.int .i64 kk,.int .i64 a,.int .i64 bb,.int .i64 (v 0),.int .i64 (v 1),.int .i64 (v 2),.int .i64 (v 3),.int .i64 (v 4),.int .i64 (v 5),.int .i64 (v 6),.int .i64 (v 7),.int .i64 (v 8)] 37))=W at *;generalize hbx:w.heap.size=bx at *;have HBXE:=hid hbx;clear hbx;go_region_held3(fun X=>X.cell? ⟨bx,2,none⟩=some (.int .i64 bb)∧X.cell? ⟨wb,7,none⟩=some (.int .i64 (m:Int))) (go_keep) (first
  |(with_reducible refine(HPI.out _).mono ?_;rintro en w' ⟨rfl,rfl⟩))
 have d6:W.drew.cell? ⟨wb,6,none⟩=some (.string S):=c6;have d7:W.drew.cell? ⟨wb,7,none⟩=some (.int .i64 (m:Int)):=c7;have a1:W.drew.cell? ⟨bx,1,none⟩=some (.int .i64 a):=b1;have a2:W.drew.cell? ⟨bx,2,none⟩=some (.int .i64 bb):=b2;have HB2:Hid (∀W',Below W.drew.heap.size W.drew W'→Below w.heap.size w W'):=fun W' hW'=>by
  have h1:Below w.heap.size w W.drew:=by
   rw[HBXE.out];exact⟨HB.out.os,HB.out.tape,HB.out.output,HB.out.size,HB.out.block⟩
  exact h1.trans (hW'.mono h1.size)
 have HER2:Hid (∀k,Errs (W.drew.drewN k) ad st):=fun k=>HER.out _ ⟨HB.out.os,HB.out.tape,HB.out.output,HB.out.size,HB.out.block⟩
 have HER1:Hid (Errs W.drew ad st):=HER.out _ ⟨HB.out.os,HB.out.tape,HB.out.output,HB.out.size,HB.out.block⟩;clear c6 c7 b1 b2 HB HPI HER;generalize W.drew=V at *;go_wp2_with fail;refine(HPA.out _).mono ?_;rintro en V ⟨rfl,rfl⟩;clear HPA;have HDN:Hid (∀k W',Below (V.drewN k).heap.size (V.drewN k) W'→Below V.heap.size V W'):=fun k W' hW'=>⟨hW'.os,hW'.tape,hW'.output,hW'.size,hW'.block⟩
 obtain⟨P1,hP1⟩: ∃P:ByteArray,P=S.extract 0 (22*i):=⟨_,rfl⟩;obtain⟨P2,hP2⟩: ∃P:ByteArray,P=S.extract (22*(i+1)) S.size:=⟨_,rfl⟩;obtain⟨P3,hP3⟩: ∃P:ByteArray,P=S.extract 0 (22*(i+1)):=⟨_,rfl⟩;obtain⟨P4,hP4⟩: ∃P:ByteArray,P=S.extract (22*i) S.size:=⟨_,rfl⟩;have hc1: ∀W,(Instr.slice 9 (.string S) none (some (.int .i64 at')) none).run Tryz.prog W=.ok (.string P1) W:=fun W=>by
  rw[run_slice_string_to_if W 9 S .i64 at' Tryz.underlying9,if_pos (by rw[HV.out.1,HSZ.out];have:=HM.out.2;omega),hP1]
  congr 3
  rw[HV.out.1];omega
 have hc2: ∀W,(Instr.slice 9 (.string S) (some (.int .i64 nx)) none none).run Tryz.prog W=.ok (.string P2) W:=fun W=>by
  rw[run_slice_string_from_if W 9 S .i64 nx Tryz.underlying9,if_pos (by rw[HV.out.2.1,HSZ.out];have:=HM.out.2;omega),hP2]
  congr 3
  rw[HV.out.2.1];omega
 have hc3: ∀W,(Instr.slice 9 (.string S) none (some (.int .i64 nx)) none).run Tryz.prog W=.ok (.string P3) W:=fun W=>by
  rw[run_slice_string_to_if W 9 S .i64 nx Tryz.underlying9,if_pos (by rw[HV.out.2.1,HSZ.out];have:=HM.out.2;omega),hP3]
  congr 3
  rw[HV.out.2.1];omega
 have hc4: ∀W,(Instr.slice 9 (.string S) (some (.int .i64 at')) none none).run Tryz.prog W=.ok (.string P4) W:=fun W=>by
  rw[run_slice_string_from_if W 9 S .i64 at' Tryz.underlying9,if_pos (by rw[HV.out.1,HSZ.out];have:=HM.out.2;omega),hP4]
  congr 3
  rw[HV.out.1];omega
 have HP1:Hid (P1=ba ((chunks 0 rs).take i).flatten):=by show P1=_;rw[hP1,←HS.out,zAv]
 have HP2:Hid (P2=ba ((chunks 0 rs).drop (i+1)).flatten):=by show P2=_;rw[hP2,←HS.out,zAq]
 have HP3:Hid (P3=ba ((chunks 0 rs).take (i+1)).flatten):=by show P3=_;rw[hP3,←HS.out,zAv]
 have HP4:Hid (P4=ba ((chunks 0 rs).drop i).flatten):=by show P4=_;rw[hP4,←HS.out,zAq]
 have HPZ:Hid (P1.size≤1000000000∧P2.size≤1000000000∧P3.size≤1000000000∧P4.size≤1000000000):=by
  have hx: ∀a c,(S.extract a c).size≤S.size:=fun a c=>by rw[ByteArray.size_extract];omega
  have h0:=HSZ.out;have h1:=HM.out.2;have e1:=hx 0 (22*i);have e2:=hx (22*(i+1)) S.size;have e3:=hx 0 (22*(i+1));have e4:=hx (22*i) S.size;rw[←hP1]at e1;rw[←hP2]at e2;rw[←hP3]at e3;rw[←hP4]at e4;exact⟨by omega,by omega,by omega,by omega⟩
 clear hP1 hP2 hP3 hP4;have HCL:Hid ((chunks 0 rs).length=m):=(zBp rs 0).trans HM.out.2.1;obtain⟨mm,hmm⟩: ∃x:Int,x=(m:Int) - 1:=⟨_,rfl⟩;have w4:wrap64 ((m:Int) - 1)=mm:=by rw[hmm];have:=HM.out.2;unfold wrap64;omega
 have HMM:=hid hmm;clear hmm;subst hcb;have HG:Hid (∀W,Errs W ad st→Calls Tryz.prog 17 #[.string S] W fun en w'=> ∃g0 ml:Nat,en=.returned (.tuple #[.slice (some ⟨g0,0,none⟩) ml ml,.int .i64 0,.int .i64 (-1)])∧Hid (Below W.heap.size W w')):=zJ8 HM.out.1 HM.out.2.2.1 m (by have:=HM.out.2.1;omega) (by rw[←HS.out,zC0,List.take_of_length_le (by have:=HCL.out;omega)]);clear w4 hc1 hc2 hc3 hc4 d7 a1 a2;go_wp2_with fail;refine(HG.out _ HER1.out).mono ?_;rintro en w9 ⟨g0,ml,rfl,HZ⟩;go_wp2;go_ret;exact⟨rfl,hid (HB2.out _ HZ.out)⟩
theorem kspoilt1(h:GW w0 w wb e n)(hn:n≤20000)(hE:Errs w0 ad st)(kk a bb:Int)(ha: -9223372036854775808≤a∧a≤9223372036854775807)(hbb: -9223372036854775808≤bb∧bb≤9223372036854775807)(v:Nat→Int)(hc5:pickI a 5=1):
 Calls Tryz.prog 16 #[.pointer (some ⟨wb,0,none⟩),.agg #[.int .i64 kk,.int .i64 a,.int .i64 bb,.int .i64 (v 0),.int .i64 (v 1),.int .i64 (v 2),.int .i64 (v 3),.int .i64 (v 4),.int .i64 (v 5),.int .i64 (v 6),.int .i64 (v 7),.int .i64 (v 8)]] w fun en w'=>en=.returned (.bool true)∧Hid (Below w.heap.size w w'):=by
 have hwl:=h.ke.2.2.1;have hB1:Below w.heap.size w (w.alloc (.cells #[.int .i64 kk,.int .i64 a,.int .i64 bb,.int .i64 (v 0),.int .i64 (v 1),.int .i64 (v 2),.int .i64 (v 3),.int .i64 (v 4),.int .i64 (v 5),.int .i64 (v 6),.int .i64 (v 7),.int .i64 (v 8)] 37)):=(Below.refl _ _).alloc (Nat.le_refl _) _;have h1:=h.below hB1;obtain⟨rs,c6,hrun,hl⟩:=h1.c6;have c7:=h1.c7;have hbn:=h.bnd;have HER:Hid (∀W,Below w.heap.size w W→Errs W ad st):=fun W hW=>hE.below (zAa h.ke.1 hW)
 have b1:(w.alloc (.cells #[.int .i64 kk,.int .i64 a,.int .i64 bb,.int .i64 (v 0),.int .i64 (v 1),.int .i64 (v 2),.int .i64 (v 3),.int .i64 (v 4),.int .i64 (v 5),.int .i64 (v 6),.int .i64 (v 7),.int .i64 (v 8)] 37)).cell? ⟨w.heap.size,1,none⟩=some (.int .i64 a):=by rw[World.cell?_alloc_at _ _ _ _ rfl];rfl
 have b2:(w.alloc (.cells #[.int .i64 kk,.int .i64 a,.int .i64 bb,.int .i64 (v 0),.int .i64 (v 1),.int .i64 (v 2),.int .i64 (v 3),.int .i64 (v 4),.int .i64 (v 5),.int .i64 (v 6),.int .i64 (v 7),.int .i64 (v 8)] 37)).cell? ⟨w.heap.size,2,none⟩=some (.int .i64 bb):=by rw[World.cell?_alloc_at _ _ _ _ rfl];rfl
 have HB:=hid hB1;generalize hm:e.seq=m at *;have hmb:rs.length≤42000000:=by omega
 clear h h1 hE hB1 hwl hbn hn hm;by_cases hm0:m=0
 ·subst hm0;go_enter Tryz.func16,Tryz.ntmps16;go_wp2;go_ret;exact⟨rfl,HB⟩
 obtain⟨i,hi⟩: ∃i:Nat,(i:Int)=pickI bb m:=⟨(pickI bb m).toNat,by have:=zA bb (n:=m) (by omega);omega⟩;have him:i<m:=by have:=zA bb (n:=m) (by omega);omega
 obtain⟨r7,hr7⟩: ∃i:Nat,(i:Int)=pickI bb 7:=⟨(pickI bb 7).toNat,by have:=zA bb (n:=7) (by omega);omega⟩;have hr7b:r7<7:=by have:=zA bb (n:=7) (by omega);omega
 obtain⟨r21,hr21⟩: ∃i:Nat,(i:Int)=pickI bb 21:=⟨(pickI bb 21).toNat,by have:=zA bb (n:=21) (by omega);omega⟩;have hr21b:r21<21:=by have:=zA bb (n:=21) (by omega);omega
 obtain⟨cc,hcc⟩: ∃c:Int,c=pickI a 5:=⟨_,rfl⟩;have hcb:cc=1:=hcc.trans hc5;have HPI:Hid (∀W,Calls Tryz.prog 14 #[.int .i64 bb,.int .i64 (m:Int)] W fun en w'=>en=.returned (.int .i64 (i:Int))∧w'=W):=fun W=>by rw[hi];exact kpick W bb m hbb (by omega)
 have HP7:Hid (∀W,Calls Tryz.prog 14 #[.int .i64 bb,.int .i64 7] W fun en w'=>en=.returned (.int .i64 (r7:Int))∧w'=W):=fun W=>by rw[hr7];exact kpick W bb 7 hbb (by omega)
 have HP21:Hid (∀W,Calls Tryz.prog 14 #[.int .i64 bb,.int .i64 21] W fun en w'=>en=.returned (.int .i64 (r21:Int))∧w'=W):=fun W=>by rw[hr21];exact kpick W bb 21 hbb (by omega)
 have HPA:Hid (∀W,Calls Tryz.prog 14 #[.int .i64 a,.int .i64 5] W fun en w'=>en=.returned (.int .i64 cc)∧w'=W):=fun W=>by rw[hcc];exact kpick W a 5 ha (by omega)
 have HM:=hid (And.intro hrun (And.intro hl (And.intro hmb (And.intro him (And.intro hr7b hr21b)))));clear hc5 hi hr7 hr21 hcc hrun hl hmb hr7b hr21b ha hbb;have e0:((m:Int) == 0)=false:=by simpa using (show¬(m:Int)=0 by omega)
 obtain⟨at',hat⟩: ∃x:Int,x=22*(i:Int):=⟨_,rfl⟩;obtain⟨nx,hnx⟩: ∃x:Int,x=22*(i:Int)+22:=⟨_,rfl⟩;obtain⟨fr,hfr⟩: ∃x:Int,x=(i:Int)+1:=⟨_,rfl⟩;have w1:wrap64 (22*(i:Int))=at':=by rw[hat];have:=HM.out.2;unfold wrap64;omega
 have w2:wrap64 (at' +22)=nx:=by rw[hat,hnx];have:=HM.out.2;unfold wrap64;omega
 have w3:wrap64 ((i:Int)+1)=fr:=by rw[hfr];have:=HM.out.2;unfold wrap64;omega
 have HV:=hid (And.intro hat (And.intro hnx hfr));clear hat hnx hfr him;generalize hS:ba (encR 0 rs)=S at *;have HS:=hid hS;clear hS;have HSZ:Hid (S.size=22*m):=by show S.size=22*m;rw[←HS.out,zA3,zAt,HM.out.2.1]
 go_enter Tryz.func16,Tryz.ntmps16;go_wp2_with fail;generalize (w.alloc (.cells #[.int .i64 kk,.int .i64 a,.int .i64 bb,.int .i64 (v 0),.int .i64 (v 1),.int .i64 (v 2),.int .i64 (v 3),.int .i64 (v 4),.int .i64 (v 5),.int .i64 (v 6),.int .i64 (v 7),.int .i64 (v 8)] 37))=W at *;generalize hbx:w.heap.size=bx at *;have HBXE:=hid hbx;clear hbx;go_region_held3(fun X=>X.cell? ⟨bx,2,none⟩=some (.int .i64 bb)∧X.cell? ⟨wb,7,none⟩=some (.int .i64 (m:Int))) (go_keep) (first
  |(with_reducible refine(HPI.out _).mono ?_;rintro en w' ⟨rfl,rfl⟩))
 have d6:W.drew.cell? ⟨wb,6,none⟩=some (.string S):=c6;have d7:W.drew.cell? ⟨wb,7,none⟩=some (.int .i64 (m:Int)):=c7;have a1:W.drew.cell? ⟨bx,1,none⟩=some (.int .i64 a):=b1;have a2:W.drew.cell? ⟨bx,2,none⟩=some (.int .i64 bb):=b2;have HB2:Hid (∀W',Below W.drew.heap.size W.drew W'→Below w.heap.size w W'):=fun W' hW'=>by
  have h1:Below w.heap.size w W.drew:=by
   rw[HBXE.out];exact⟨HB.out.os,HB.out.tape,HB.out.output,HB.out.size,HB.out.block⟩
  exact h1.trans (hW'.mono h1.size)
 have HER2:Hid (∀k,Errs (W.drew.drewN k) ad st):=fun k=>HER.out _ ⟨HB.out.os,HB.out.tape,HB.out.output,HB.out.size,HB.out.block⟩
 have HER1:Hid (Errs W.drew ad st):=HER.out _ ⟨HB.out.os,HB.out.tape,HB.out.output,HB.out.size,HB.out.block⟩;clear c6 c7 b1 b2 HB HPI HER;generalize W.drew=V at *;go_wp2_with fail;refine(HPA.out _).mono ?_;rintro en V ⟨rfl,rfl⟩;clear HPA;have HDN:Hid (∀k W',Below (V.drewN k).heap.size (V.drewN k) W'→Below V.heap.size V W'):=fun k W' hW'=>⟨hW'.os,hW'.tape,hW'.output,hW'.size,hW'.block⟩
 obtain⟨P1,hP1⟩: ∃P:ByteArray,P=S.extract 0 (22*i):=⟨_,rfl⟩;obtain⟨P2,hP2⟩: ∃P:ByteArray,P=S.extract (22*(i+1)) S.size:=⟨_,rfl⟩;obtain⟨P3,hP3⟩: ∃P:ByteArray,P=S.extract 0 (22*(i+1)):=⟨_,rfl⟩;obtain⟨P4,hP4⟩: ∃P:ByteArray,P=S.extract (22*i) S.size:=⟨_,rfl⟩;have hc1: ∀W,(Instr.slice 9 (.string S) none (some (.int .i64 at')) none).run Tryz.prog W=.ok (.string P1) W:=fun W=>by
  rw[run_slice_string_to_if W 9 S .i64 at' Tryz.underlying9,if_pos (by rw[HV.out.1,HSZ.out];have:=HM.out.2;omega),hP1]
  congr 3
  rw[HV.out.1];omega
 have hc2: ∀W,(Instr.slice 9 (.string S) (some (.int .i64 nx)) none none).run Tryz.prog W=.ok (.string P2) W:=fun W=>by
  rw[run_slice_string_from_if W 9 S .i64 nx Tryz.underlying9,if_pos (by rw[HV.out.2.1,HSZ.out];have:=HM.out.2;omega),hP2]
  congr 3
  rw[HV.out.2.1];omega
 have hc3: ∀W,(Instr.slice 9 (.string S) none (some (.int .i64 nx)) none).run Tryz.prog W=.ok (.string P3) W:=fun W=>by
  rw[run_slice_string_to_if W 9 S .i64 nx Tryz.underlying9,if_pos (by rw[HV.out.2.1,HSZ.out];have:=HM.out.2;omega),hP3]
  congr 3
  rw[HV.out.2.1];omega
 have hc4: ∀W,(Instr.slice 9 (.string S) (some (.int .i64 at')) none none).run Tryz.prog W=.ok (.string P4) W:=fun W=>by
  rw[run_slice_string_from_if W 9 S .i64 at' Tryz.underlying9,if_pos (by rw[HV.out.1,HSZ.out];have:=HM.out.2;omega),hP4]
  congr 3
  rw[HV.out.1];omega
 have HP1:Hid (P1=ba ((chunks 0 rs).take i).flatten):=by show P1=_;rw[hP1,←HS.out,zAv]
 have HP2:Hid (P2=ba ((chunks 0 rs).drop (i+1)).flatten):=by show P2=_;rw[hP2,←HS.out,zAq]
 have HP3:Hid (P3=ba ((chunks 0 rs).take (i+1)).flatten):=by show P3=_;rw[hP3,←HS.out,zAv]
 have HP4:Hid (P4=ba ((chunks 0 rs).drop i).flatten):=by show P4=_;rw[hP4,←HS.out,zAq]
 have HPZ:Hid (P1.size≤1000000000∧P2.size≤1000000000∧P3.size≤1000000000∧P4.size≤1000000000):=by
  have hx: ∀a c,(S.extract a c).size≤S.size:=fun a c=>by rw[ByteArray.size_extract];omega
  have h0:=HSZ.out;have h1:=HM.out.2;have e1:=hx 0 (22*i);have e2:=hx (22*(i+1)) S.size;have e3:=hx 0 (22*(i+1));have e4:=hx (22*i) S.size;rw[←hP1]at e1;rw[←hP2]at e2;rw[←hP3]at e3;rw[←hP4]at e4;exact⟨by omega,by omega,by omega,by omega⟩
 clear hP1 hP2 hP3 hP4;have HCL:Hid ((chunks 0 rs).length=m):=(zBp rs 0).trans HM.out.2.1;obtain⟨mm,hmm⟩: ∃x:Int,x=(m:Int) - 1:=⟨_,rfl⟩;have w4:wrap64 ((m:Int) - 1)=mm:=by rw[hmm];have:=HM.out.2;unfold wrap64;omega
 have HMM:=hid hmm;clear hmm;subst hcb;by_cases hil:i+1=m
 ·have e1:((i:Int) == mm)=true:=by rw[HMM.out];simp;omega
  have HG:Hid (∀W,Errs W ad st→Calls Tryz.prog 17 #[.string P1] W fun en w'=> ∃g0 ml:Nat,en=.returned (.tuple #[.slice (some ⟨g0,0,none⟩) ml ml,.int .i64 0,.int .i64 (-1)])∧Hid (Below W.heap.size W w')):=zJ8 HM.out.1 HM.out.2.2.1 i (by have:=HM.out.2;omega) HP1.out;clear hc2 hc3 hc4;go_wp2_with fail;refine(HG.out _ HER1.out).mono ?_;rintro en w9 ⟨g0,ml,rfl,HZ⟩;go_wp2;go_ret;exact⟨rfl,hid (HB2.out _ HZ.out)⟩
 ·have e1:((i:Int) == mm)=false:=by rw[HMM.out];simp;omega
  have HX:Hid (∀W,Errs W ad st→Calls Tryz.prog 17 #[.string (P1++P2)] W fun en w'=> ∃nn:Int,en=.returned (.tuple #[.slice none 0 0,.int .i64 nn,.int .i64 fr])∧(nn != 0)=true∧Hid (Below W.heap.size W w')):=by
   have hi1:i+1<(chunks 0 rs).length:=by have:=HCL.out;have:=HM.out.2;omega
   refine zD9 HM.out.1 HM.out.2.2.1 i (by have:=HM.out.2;omega) ((chunks 0 rs).drop (i+1)) [] (by decide) (fun c hc=>List.mem_of_mem_drop hc) (.inr ⟨i+1,(chunks 0 rs).drop (i+1+1),(chunks 0 rs)[i+1],List.getElem?_eq_getElem hi1,List.drop_eq_getElem_cons hi1,by omega⟩) (fun c=>by rw[List.drop_eq_getElem_cons hi1]at c;cases c.1) (by rw[List.length_drop];have:=HCL.out;have:=HM.out.2;omega) ?_ HV.out.2.2;rw[HP1.out,HP2.out,List.append_nil,List.flatten_append];exact zAc _ _
  have hfit: ¬9223372036854775807<P1.size+P2.size:=by have:=HPZ.out;omega
  clear hc3 hc4;go_wp2_with fail;go_quiet (fail);clear hc1 hc2 hfit;go_wp2_with fail;refine(HX.out _ (HER2.out _)).mono ?_;rintro en w9 ⟨nn,rfl,en0,HZ⟩;go_wp2;go_ret;exact⟨rfl,hid (HB2.out _ (HDN.out _ _ HZ.out))⟩
theorem kspoilt2(h:GW w0 w wb e n)(hn:n≤20000)(hE:Errs w0 ad st)(kk a bb:Int)(ha: -9223372036854775808≤a∧a≤9223372036854775807)(hbb: -9223372036854775808≤bb∧bb≤9223372036854775807)(v:Nat→Int)(hc5:pickI a 5=2):
 Calls Tryz.prog 16 #[.pointer (some ⟨wb,0,none⟩),.agg #[.int .i64 kk,.int .i64 a,.int .i64 bb,.int .i64 (v 0),.int .i64 (v 1),.int .i64 (v 2),.int .i64 (v 3),.int .i64 (v 4),.int .i64 (v 5),.int .i64 (v 6),.int .i64 (v 7),.int .i64 (v 8)]] w fun en w'=>en=.returned (.bool true)∧Hid (Below w.heap.size w w'):=by
 have hwl:=h.ke.2.2.1;have hB1:Below w.heap.size w (w.alloc (.cells #[.int .i64 kk,.int .i64 a,.int .i64 bb,.int .i64 (v 0),.int .i64 (v 1),.int .i64 (v 2),.int .i64 (v 3),.int .i64 (v 4),.int .i64 (v 5),.int .i64 (v 6),.int .i64 (v 7),.int .i64 (v 8)] 37)):=(Below.refl _ _).alloc (Nat.le_refl _) _;have h1:=h.below hB1;obtain⟨rs,c6,hrun,hl⟩:=h1.c6;have c7:=h1.c7;have hbn:=h.bnd;have HER:Hid (∀W,Below w.heap.size w W→Errs W ad st):=fun W hW=>hE.below (zAa h.ke.1 hW)
 have b1:(w.alloc (.cells #[.int .i64 kk,.int .i64 a,.int .i64 bb,.int .i64 (v 0),.int .i64 (v 1),.int .i64 (v 2),.int .i64 (v 3),.int .i64 (v 4),.int .i64 (v 5),.int .i64 (v 6),.int .i64 (v 7),.int .i64 (v 8)] 37)).cell? ⟨w.heap.size,1,none⟩=some (.int .i64 a):=by rw[World.cell?_alloc_at _ _ _ _ rfl];rfl
 have b2:(w.alloc (.cells #[.int .i64 kk,.int .i64 a,.int .i64 bb,.int .i64 (v 0),.int .i64 (v 1),.int .i64 (v 2),.int .i64 (v 3),.int .i64 (v 4),.int .i64 (v 5),.int .i64 (v 6),.int .i64 (v 7),.int .i64 (v 8)] 37)).cell? ⟨w.heap.size,2,none⟩=some (.int .i64 bb):=by rw[World.cell?_alloc_at _ _ _ _ rfl];rfl
 have HB:=hid hB1;generalize hm:e.seq=m at *;have hmb:rs.length≤42000000:=by omega
 clear h h1 hE hB1 hwl hbn hn hm;by_cases hm0:m=0
 ·subst hm0;go_enter Tryz.func16,Tryz.ntmps16;go_wp2;go_ret;exact⟨rfl,HB⟩
 obtain⟨i,hi⟩: ∃i:Nat,(i:Int)=pickI bb m:=⟨(pickI bb m).toNat,by have:=zA bb (n:=m) (by omega);omega⟩;have him:i<m:=by have:=zA bb (n:=m) (by omega);omega
 obtain⟨r7,hr7⟩: ∃i:Nat,(i:Int)=pickI bb 7:=⟨(pickI bb 7).toNat,by have:=zA bb (n:=7) (by omega);omega⟩;have hr7b:r7<7:=by have:=zA bb (n:=7) (by omega);omega
 obtain⟨r21,hr21⟩: ∃i:Nat,(i:Int)=pickI bb 21:=⟨(pickI bb 21).toNat,by have:=zA bb (n:=21) (by omega);omega⟩;have hr21b:r21<21:=by have:=zA bb (n:=21) (by omega);omega
 obtain⟨cc,hcc⟩: ∃c:Int,c=pickI a 5:=⟨_,rfl⟩;have hcb:cc=2:=hcc.trans hc5;have HPI:Hid (∀W,Calls Tryz.prog 14 #[.int .i64 bb,.int .i64 (m:Int)] W fun en w'=>en=.returned (.int .i64 (i:Int))∧w'=W):=fun W=>by rw[hi];exact kpick W bb m hbb (by omega)
 have HP7:Hid (∀W,Calls Tryz.prog 14 #[.int .i64 bb,.int .i64 7] W fun en w'=>en=.returned (.int .i64 (r7:Int))∧w'=W):=fun W=>by rw[hr7];exact kpick W bb 7 hbb (by omega)
 have HP21:Hid (∀W,Calls Tryz.prog 14 #[.int .i64 bb,.int .i64 21] W fun en w'=>en=.returned (.int .i64 (r21:Int))∧w'=W):=fun W=>by rw[hr21];exact kpick W bb 21 hbb (by omega)
 have HPA:Hid (∀W,Calls Tryz.prog 14 #[.int .i64 a,.int .i64 5] W fun en w'=>en=.returned (.int .i64 cc)∧w'=W):=fun W=>by rw[hcc];exact kpick W a 5 ha (by omega)
 have HM:=hid (And.intro hrun (And.intro hl (And.intro hmb (And.intro him (And.intro hr7b hr21b)))));clear hc5 hi hr7 hr21 hcc hrun hl hmb hr7b hr21b ha hbb;have e0:((m:Int) == 0)=false:=by simpa using (show¬(m:Int)=0 by omega)
 obtain⟨at',hat⟩: ∃x:Int,x=22*(i:Int):=⟨_,rfl⟩;obtain⟨nx,hnx⟩: ∃x:Int,x=22*(i:Int)+22:=⟨_,rfl⟩;obtain⟨fr,hfr⟩: ∃x:Int,x=(i:Int)+1:=⟨_,rfl⟩;have w1:wrap64 (22*(i:Int))=at':=by rw[hat];have:=HM.out.2;unfold wrap64;omega
 have w2:wrap64 (at' +22)=nx:=by rw[hat,hnx];have:=HM.out.2;unfold wrap64;omega
 have w3:wrap64 ((i:Int)+1)=fr:=by rw[hfr];have:=HM.out.2;unfold wrap64;omega
 have HV:=hid (And.intro hat (And.intro hnx hfr));clear hat hnx hfr him;generalize hS:ba (encR 0 rs)=S at *;have HS:=hid hS;clear hS;have HSZ:Hid (S.size=22*m):=by show S.size=22*m;rw[←HS.out,zA3,zAt,HM.out.2.1]
 go_enter Tryz.func16,Tryz.ntmps16;go_wp2_with fail;generalize (w.alloc (.cells #[.int .i64 kk,.int .i64 a,.int .i64 bb,.int .i64 (v 0),.int .i64 (v 1),.int .i64 (v 2),.int .i64 (v 3),.int .i64 (v 4),.int .i64 (v 5),.int .i64 (v 6),.int .i64 (v 7),.int .i64 (v 8)] 37))=W at *;generalize hbx:w.heap.size=bx at *;have HBXE:=hid hbx;clear hbx;go_region_held3(fun X=>X.cell? ⟨bx,2,none⟩=some (.int .i64 bb)∧X.cell? ⟨wb,7,none⟩=some (.int .i64 (m:Int))) (go_keep) (first
  |(with_reducible refine(HPI.out _).mono ?_;rintro en w' ⟨rfl,rfl⟩))
 have d6:W.drew.cell? ⟨wb,6,none⟩=some (.string S):=c6;have d7:W.drew.cell? ⟨wb,7,none⟩=some (.int .i64 (m:Int)):=c7;have a1:W.drew.cell? ⟨bx,1,none⟩=some (.int .i64 a):=b1;have a2:W.drew.cell? ⟨bx,2,none⟩=some (.int .i64 bb):=b2;have HB2:Hid (∀W',Below W.drew.heap.size W.drew W'→Below w.heap.size w W'):=fun W' hW'=>by
  have h1:Below w.heap.size w W.drew:=by
   rw[HBXE.out];exact⟨HB.out.os,HB.out.tape,HB.out.output,HB.out.size,HB.out.block⟩
  exact h1.trans (hW'.mono h1.size)
 have HER2:Hid (∀k,Errs (W.drew.drewN k) ad st):=fun k=>HER.out _ ⟨HB.out.os,HB.out.tape,HB.out.output,HB.out.size,HB.out.block⟩
 have HER1:Hid (Errs W.drew ad st):=HER.out _ ⟨HB.out.os,HB.out.tape,HB.out.output,HB.out.size,HB.out.block⟩;clear c6 c7 b1 b2 HB HPI HER;generalize W.drew=V at *;go_wp2_with fail;refine(HPA.out _).mono ?_;rintro en V ⟨rfl,rfl⟩;clear HPA;have HDN:Hid (∀k W',Below (V.drewN k).heap.size (V.drewN k) W'→Below V.heap.size V W'):=fun k W' hW'=>⟨hW'.os,hW'.tape,hW'.output,hW'.size,hW'.block⟩
 obtain⟨P1,hP1⟩: ∃P:ByteArray,P=S.extract 0 (22*i):=⟨_,rfl⟩;obtain⟨P2,hP2⟩: ∃P:ByteArray,P=S.extract (22*(i+1)) S.size:=⟨_,rfl⟩;obtain⟨P3,hP3⟩: ∃P:ByteArray,P=S.extract 0 (22*(i+1)):=⟨_,rfl⟩;obtain⟨P4,hP4⟩: ∃P:ByteArray,P=S.extract (22*i) S.size:=⟨_,rfl⟩;have hc1: ∀W,(Instr.slice 9 (.string S) none (some (.int .i64 at')) none).run Tryz.prog W=.ok (.string P1) W:=fun W=>by
  rw[run_slice_string_to_if W 9 S .i64 at' Tryz.underlying9,if_pos (by rw[HV.out.1,HSZ.out];have:=HM.out.2;omega),hP1]
  congr 3
  rw[HV.out.1];omega
 have hc2: ∀W,(Instr.slice 9 (.string S) (some (.int .i64 nx)) none none).run Tryz.prog W=.ok (.string P2) W:=fun W=>by
  rw[run_slice_string_from_if W 9 S .i64 nx Tryz.underlying9,if_pos (by rw[HV.out.2.1,HSZ.out];have:=HM.out.2;omega),hP2]
  congr 3
  rw[HV.out.2.1];omega
 have hc3: ∀W,(Instr.slice 9 (.string S) none (some (.int .i64 nx)) none).run Tryz.prog W=.ok (.string P3) W:=fun W=>by
  rw[run_slice_string_to_if W 9 S .i64 nx Tryz.underlying9,if_pos (by rw[HV.out.2.1,HSZ.out];have:=HM.out.2;omega),hP3]
  congr 3
  rw[HV.out.2.1];omega
 have hc4: ∀W,(Instr.slice 9 (.string S) (some (.int .i64 at')) none none).run Tryz.prog W=.ok (.string P4) W:=fun W=>by
  rw[run_slice_string_from_if W 9 S .i64 at' Tryz.underlying9,if_pos (by rw[HV.out.1,HSZ.out];have:=HM.out.2;omega),hP4]
  congr 3
  rw[HV.out.1];omega
 have HP1:Hid (P1=ba ((chunks 0 rs).take i).flatten):=by show P1=_;rw[hP1,←HS.out,zAv]
 have HP2:Hid (P2=ba ((chunks 0 rs).drop (i+1)).flatten):=by show P2=_;rw[hP2,←HS.out,zAq]
 have HP3:Hid (P3=ba ((chunks 0 rs).take (i+1)).flatten):=by show P3=_;rw[hP3,←HS.out,zAv]
 have HP4:Hid (P4=ba ((chunks 0 rs).drop i).flatten):=by show P4=_;rw[hP4,←HS.out,zAq]
 have HPZ:Hid (P1.size≤1000000000∧P2.size≤1000000000∧P3.size≤1000000000∧P4.size≤1000000000):=by
  have hx: ∀a c,(S.extract a c).size≤S.size:=fun a c=>by rw[ByteArray.size_extract];omega
  have h0:=HSZ.out;have h1:=HM.out.2;have e1:=hx 0 (22*i);have e2:=hx (22*(i+1)) S.size;have e3:=hx 0 (22*(i+1));have e4:=hx (22*i) S.size;rw[←hP1]at e1;rw[←hP2]at e2;rw[←hP3]at e3;rw[←hP4]at e4;exact⟨by omega,by omega,by omega,by omega⟩
 clear hP1 hP2 hP3 hP4;have HCL:Hid ((chunks 0 rs).length=m):=(zBp rs 0).trans HM.out.2.1;obtain⟨mm,hmm⟩: ∃x:Int,x=(m:Int) - 1:=⟨_,rfl⟩;have w4:wrap64 ((m:Int) - 1)=mm:=by rw[hmm];have:=HM.out.2;unfold wrap64;omega
 have HMM:=hid hmm;clear hmm;subst hcb;obtain⟨f2,hf2⟩: ∃x:Int,x=(i:Int)+2:=⟨_,rfl⟩;have HX:Hid (∀W,Errs W ad st→Calls Tryz.prog 17 #[.string (P3++P4)] W fun en w'=> ∃nn:Int,en=.returned (.tuple #[.slice none 0 0,.int .i64 nn,.int .i64 f2])∧(nn != 0)=true∧Hid (Below W.heap.size W w')):=by
  clear w1 w2 w3 w4 e0;have hi1:i<(chunks 0 rs).length:=by have:=HCL.out;have:=HM.out.2;omega
  refine zD9 HM.out.1 HM.out.2.2.1 (i+1) (by have:=HM.out.2;omega) ((chunks 0 rs).drop i) [] (by decide) (fun c hc=>List.mem_of_mem_drop hc) (.inr ⟨i,(chunks 0 rs).drop (i+1),(chunks 0 rs)[i],List.getElem?_eq_getElem hi1,List.drop_eq_getElem_cons hi1,by omega⟩) (fun c=>by rw[List.drop_eq_getElem_cons hi1]at c;cases c.1) (by rw[List.length_drop];have:=HCL.out;have:=HM.out.2;omega) ?_ (by rw[hf2];omega);rw[HP3.out,HP4.out,List.append_nil,List.flatten_append];exact zAc _ _
 have hfit: ¬9223372036854775807<P3.size+P4.size:=by clear w1 w2 w3 w4 hf2;have:=HPZ.out;omega
 have w5:wrap64 ((i:Int)+2)=f2:=by clear w1 w2 w3 w4;rw[hf2];have:=HM.out.2;unfold wrap64;omega
 clear hc1 hc2 hf2;go_wp2_with fail;go_quiet (fail);clear hc3 hc4 hfit;go_wp2_with fail;refine(HX.out _ (HER2.out _)).mono ?_;rintro en w9 ⟨nn,rfl,en0,HZ⟩;go_wp2;go_ret;exact⟨rfl,hid (HB2.out _ (HDN.out _ _ HZ.out))⟩
end
end Go.Proofs.YtanfmhonjpjpoaaGreatDoor
