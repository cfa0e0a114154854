import Derived.Test.YtilbfpnpkkkpgaaGreatDoorQ00
import Derived.Test.YtilbfpnpkkkpgaaGreatDoorQ14
import Derived.Test.YtilbfpnpkkkpgaaGreatDoorQ35
import Derived.Test.YtilbfpnpkkkpgaaGreatDoorQ37
import Derived.Test.YtilbfpnpkkkpgaaGreatDoorQ38
import Derived.Test.YtilbfpnpkkkpgaaGreatDoorQ41
import Derived.Test.YtilbfpnpkkkpgaaGreatDoorQ42
import Derived.Test.YtilbfpnpkkkpgaaGreatDoorQ45
set_option linter.all false
set_option maxRecDepth 100000
set_option maxHeartbeats 8000000
namespace Go.Proofs.YtilbfpnpkkkpgaaGreatDoor
section
open Go.Extern Go.Maps Go.RowKit
section
variable {tag:Nat→Tag} {ps:List Duo} {w0 w:World} {n:Nat} {ws:List ByteArray} {left:Int}
theorem zR5{e:Eng}(inv:Eng.EInv e){M l:List Ord}(h1:M.Perm e.all)(h2:M.Pairwise fun x y=>x.id≤y.id)(h3:l.Perm e.all)(h4:Sorted l):M=l:=by
 refine List.Perm.eq_of_pairwise (fun a b ha hb hab hba=>?_) h2 h4 (h1.trans h3.symm);obtain⟨i,hi⟩:=List.getElem?_of_mem (h1.mem_iff.1 ha);obtain⟨j,hj⟩:=List.getElem?_of_mem (h3.mem_iff.1 hb);have:i=j:=inv.ids i j a b hi hj (Int.le_antisymm hab hba);subst this;exact Option.some.inj (hi.symm.trans hj)
theorem zR6(h:StT tag ps w0 w n ws left)(hall: ∀p∈ps,p.all.size≤sizes ws){gd cap:Nat}(hc5:w.cell? (iA w0.heap.size 5)=some (sL gd ps.length cap)){i:Nat}{p:Duo}(hp:ps[i]? =some p)(a b d:Int)(s:ByteArray)(v:Nat→Int):
 Cl 36 #[iP w0.heap.size,.pointer (some (iA gd (i*3))),opV 15 a b d s v] w fun e w'=>e=rB true∧Next w0 w' n∧(∀(k:Nat) (cur:Array Value),tag k=.own→w.heap[k]? =some (.cells cur 79 (0,0))→w'.heap[k]? =some (.cells cur 79 (0,0)))∧w'.cell? (iA w0.heap.size 5)=w.cell? (iA w0.heap.size 5):=by
 have HOP:Hid (∀W',Below (w.alloc (.cells (opC 15 a b d s v) 79)).heap.size (w.alloc (.cells (opC 15 a b d s v) 79)) W'→(∀(k:Nat) (cur:Array Value),tag k=.own→w.heap[k]? =some (.cells cur 79 (0,0))→W'.heap[k]? =some (.cells cur 79 (0,0)))∧W'.cell? (iA w0.heap.size 5)=w.cell? (iA w0.heap.size 5)):=fun W' hb=>by
  have hb2:=(zA0 (w:=w) (.cells (opC 15 a b d s v) 79)).trans (hb.mono (by simp));exact⟨fun k cur _ h9=>OpK.below hb2 k cur h9,World.cell?_of_block (a:=(iA w0.heap.size 5)) (hb2.block _ h.lt)⟩
 have h':=h.below (zA0 (w:=w) (.cells (opC 15 a b d s v) 79));have hc5':=h.cell5 (zA0 (w:=w) (.cells (opC 15 a b d s v) 79)) hc5;have hd:=h'.duos i p hp;obtain⟨c0,c1,c2⟩:=(h'.row hc5').2.2.2.2 i p hp;have HN:Hid (Next w0 (w.alloc (.cells (opC 15 a b d s v) 79)) n):=(St.next ⟨tag,ps,h',hall⟩);have HDR:=hid (zNu hd.dsk hd.code);have c4:(w.alloc (.cells (opC 15 a b d s v) 79)).cell? (iA p.db 4)=sI (p.e.drawn:Int):=hd.doc.cell 4;have HDE:Hid (p.e.hush.drawn=p.e.drawn):=rfl;rw[HDE.out]at HDR;clear h h' hc5 hc5' hd hp hall HDE;generalize p.e.drawn=dr at *;go_enter Tryz.func36,Tryz.ntmps36;go_wp2_with fail;refine HDR.mono ?_;rintro en w1 ⟨rfl,rfl⟩;have HOP1:=hid (HOP.out _ (Below.refl _ _));clear HOP;go_wp2;go_ret;exact⟨rfl,HN.out,HOP1.out⟩
theorem zR7(h:StT tag ps w0 w n ws left)(hall: ∀p∈ps,p.all.size≤sizes ws)(hn:n≤10000000)(hl:0<left){gd cap:Nat}(hc5:w.cell? (iA w0.heap.size 5)=some (sL gd ps.length cap)){i:Nat}{p:Duo}(hp:ps[i]? =some p)(a b d:Int)(s:ByteArray)(v:Nat→Int):
 Cl 36 #[iP w0.heap.size,.pointer (some (iA gd (i*3))),opV 13 a b d s v] w fun e w'=>e=rB true∧Next w0 w' n∧(∀(k:Nat) (cur:Array Value),tag k=.own→w.heap[k]? =some (.cells cur 79 (0,0))→w'.heap[k]? =some (.cells cur 79 (0,0)))∧w'.cell? (iA w0.heap.size 5)=w.cell? (iA w0.heap.size 5):=by
 have HOP:Hid (∀W',Below (w.alloc (.cells (opC 13 a b d s v) 79)).heap.size (w.alloc (.cells (opC 13 a b d s v) 79)) W'→(∀(k:Nat) (cur:Array Value),tag k=.own→w.heap[k]? =some (.cells cur 79 (0,0))→W'.heap[k]? =some (.cells cur 79 (0,0)))∧W'.cell? (iA w0.heap.size 5)=w.cell? (iA w0.heap.size 5)):=fun W' hb=>by
  have hb2:=(zA0 (w:=w) (.cells (opC 13 a b d s v) 79)).trans (hb.mono (by simp));exact⟨fun k cur _ h9=>OpK.below hb2 k cur h9,World.cell?_of_block (a:=(iA w0.heap.size 5)) (hb2.block _ h.lt)⟩
 have hsum:=h.sum;have hpall:=hall p (List.mem_of_getElem? hp);have h':=h.below (zA0 (w:=w) (.cells (opC 13 a b d s v) 79));have hc5':=h.cell5 (zA0 (w:=w) (.cells (opC 13 a b d s v) 79)) hc5;have hd:=h'.duos i p hp;obtain⟨g1,g2,g3,g4,g5⟩:=h'.row hc5';obtain⟨c0,c1,c2⟩:=g5 i p hp;have cE:=h'.desk hp;have hg:=hd.good;have hlen:p.e.all.length≤100000:=by have:=hg.len;have:=hg.told;omega
 have HS:Hid (StT tag ps w0 (w.alloc (.cells (opC 13 a b d s v) 79)) n ws left):=h';have HALL:Hid (∀p∈ps,p.all.size≤sizes ws):=hall;have HC1:Hid (∀W',Below (w.alloc (.cells (opC 13 a b d s v) 79)).heap.size (w.alloc (.cells (opC 13 a b d s v) 79)) W'→W'.cell? (iA gd (i*3+1))=some (iP p.db)):=fun W' hb=>(World.cell?_of_block (a:=(iA gd (i*3+1))) (hb.block gd g1)).trans c1
 have HDC:=hid (zNk hd.code (hg.inv.cong rfl rfl rfl rfl rfl rfl) (hd.holds.cong rfl) (by show p.e.all.length≤_;omega));have HDD:Hid (∀W',Below (w.alloc (.cells (opC 13 a b d s v) 79)).heap.size (w.alloc (.cells (opC 13 a b d s v) 79)) W'→Cl 77 #[iP p.db] W' fun en w'=> ∃v' l,en=.returned v'∧OR W'.heap.size w' v' l∧l.Perm p.e.all∧Sorted l∧Bw W' w'):=fun W' hb=>zMz (hd.doc.below hb) (by omega)
 have HINV:=hid hg.inv;have HLEN:=hid hlen;have hlt:=h'.lt;have HTUP:Hid (∀g,(w.alloc (.cells (opC 13 a b d s v) 79)).heap.size≤g→tag g=.own):=h'.tup;clear h h' hc5 hc5' hd hp hall g4 g5 c1 c2 hg hpall hsum hlen;go_enter Tryz.func36,Tryz.ntmps36;go_wp2_with fail;generalize w.alloc (.cells (opC 13 a b d s v) 79)=W at *;refine HDC.mono ?_;rintro en w1 ⟨ga,M,rfl,m1,m2,m3,m4⟩;have HMA:Hid (M.Perm p.e.all∧M.Pairwise (fun x y=>x.id≤y.id)∧M.length≤100000):=⟨m1,m2,by rw[m1.length_eq];exact HLEN.out⟩;have HB1:=hid m4;have HRA:Hid (SRow W.heap.size w1 (some (iA ga 0)) M.length M.length M):=SRow.of rfl m3;have d1:=HC1.out w1 m4;have HD2:=hid (HDD.out w1 m4);obtain⟨ml,hml⟩: ∃ml,ml=M.length:=⟨_,rfl⟩;have HML:Hid (ml=M.length):=hml;rw[←hml]at HRA;rw[←hml];clear m1 m2 m3 m4 HC1 HDD HDC c0 cE hml;go_wp2_with fail;refine HD2.mono ?_;rintro en w2 ⟨vl,l,rfl,k1,k2,k3,k4⟩
 have HL:Hid (l.Perm p.e.all∧Sorted l∧l.length≤100000):=⟨k2,k3,by rw[k2.length_eq];exact HLEN.out⟩;have HB2:Hid (Bw W w2):=HB1.trans (k4.mono HB1.size);have HRB:Hid (SRow W.heap.size w2 (some (iA ga 0)) ml ml M):=HRA.below k4;have HSC:=hid (zHa w1.heap.size w2 vl l k1 (by have:=HL.2.2;omega));obtain⟨pl,nl,cl,rfl⟩: ∃pl nl cl,vl=.slice pl nl cl:=by
  rcases k1.2 with⟨rfl,_⟩|⟨g,cap,cur,h,_⟩
  ·exact⟨_,_,_,rfl⟩
  ·exact⟨_,_,_,h⟩
 clear k1 k2 k3 k4 HRA HD2 d1;go_wp2_with fail;refine HSC.mono ?_;rintro en w3 ⟨pb,mb,cb,rfl,HZ⟩;have HB3:Hid (Bw W w3):=HB2.trans (HZ.2.mono HB2.size);have HRC:Hid (SRow W.heap.size w3 (some (iA ga 0)) ml ml M):=HRB.below HZ.2;have HSS:=hid (zH9 (by have:=HMA.2.2;omega) (by have:=HL.2.2;omega) HRC.out HZ.1);clear HSC HRB;go_wp2_with fail;refine HSS.mono ?_;rintro en w4 ⟨⟨r,rfl,hr⟩,j,rfl⟩;obtain rfl:r=true:=hr (zR5 HINV.out HMA.out.1 HMA.out.2.1 HL.out.1 HL.out.2.1);have HS4:Hid (StT tag ps w0 (w3.drewN j) n ws left):=(HS.below HB3.out).drewN j;have HRD:Hid (SRow W.heap.size (w3.drewN j) (some (iA ga 0)) ml ml M):=HRC.below ⟨rfl,rfl,rfl,Nat.le_refl _,fun _ _=>rfl⟩;have hml:ml≤1000000000:=by have h1:=HMA.2.2;have h2:=HML.out;omega
 clear hr HSS HRC;go_wp2_with fail;refine(zH3 HS4.out (by omega) (some (iA ga 0)) ml (stX M) hml (HRD.free hlt HTUP.out) (fun e=>by cases e)).mono ?_;rintro en w5 ⟨rfl,⟨tag',hS5⟩,hop5⟩;have HOP5:Hid ((∀(k:Nat) (cur:Array Value),tag k=.own→w.heap[k]? =some (.cells cur 79 (0,0))→w5.heap[k]? =some (.cells cur 79 (0,0)))∧w5.cell? (iA w0.heap.size 5)=w.cell? (iA w0.heap.size 5)):=by
  obtain⟨o1,o2⟩:=HOP.out (w3.drewN j) ⟨HB3.out.os,HB3.out.tape,HB3.out.output,HB3.out.size,HB3.out.block⟩;exact⟨fun k cur ho hb=>hop5.1 k cur (o1 k cur ho hb),hop5.2.trans o2⟩
 clear hop5;have HN:Hid (Next w0 w5 n):=Next.of ⟨tag',ps,hS5,HALL.out⟩;clear hS5;go_wp2;go_ret;exact⟨rfl,HN.out,HOP5.out⟩
end
end
section
open Go.Extern Go.RowKit
theorem zHb(x:Int)(h0:0≤x)(h1:x<1000000000000):wrap64 x=x:=by unfold wrap64;omega
theorem SR.mono{b b':Nat}{w:World}{v:Value}{m:Nat}(h:SR b' w v m)(hb:b≤b'):SR b w v m:=by
 obtain⟨xs,⟨h1,h2⟩,h3⟩:=h;refine⟨xs,⟨h1,?_⟩,h3⟩;rcases h2 with h2|⟨g,cap,cur,e,hg,r⟩
 ·exact .inl h2
 ·exact .inr ⟨g,cap,cur,e,Nat.le_trans hb hg,r⟩
def AudBack(w:World)(e:Ending)(w':World):Prop:= ∃v m n k,e=rV #[v,iV n,iV k]∧SR w.heap.size w' v m∧m≤100000000∧Below w.heap.size w w'
theorem zR8(t:ByteArray)(w:World)(ht:t.size≤100000000):
 Cl 117 #[.string t] w fun e w'=>AudBack w e w':=by
 obtain⟨N,hN⟩: ∃N,t.size / 22=N:=⟨_,rfl⟩;have hdiv:Int.tdiv (t.size:Int) 22=(N:Int):=by
  rw[←hN];exact(Int.ofNat_tdiv t.size 22).symm
 have hN1:22*N≤t.size:=by omega
 have hN2:N≤100000000:=by omega
 clear hN;have hwN:IntKind.i64.wrap (N:Int)=(N:Int):=by simp only[IntKind.wrap,IntKind.bits,IntKind.signed];simp;omega
 have hwN':wrap64 (N:Int)=(N:Int):=by unfold wrap64;omega
 go_enter Tryz.func117,Tryz.ntmps117;go_wp2_with fail;clear hdiv hwN hwN';go_loopw [6,7] (fun a i wr=> ∃j m:Nat,i=iV j∧j≤N∧SR w.heap.size wr a m∧m≤j∧Bw w wr) (fun _ i _=>N - (intOf i).toNat)
 case atStart=>exact⟨0,0,rfl,Nat.zero_le _,SR.nil _ _,Nat.le_refl _,Below.refl _ _⟩
 case round=>
  obtain⟨j,m,rfl,hj,hsr,hmj,hbw⟩:=hrel;have HR:Hid (SR w.heap.size wr u6 m∧Bw w wr):=⟨hsr,hbw⟩;have hbs:=hbw.size;clear hsr hbw;by_cases hlt:j<N
  ·have hjI:(j:Int)<(N:Int):=by omega
   have hle:22*j+22≤t.size:=by omega
   have hlj:(22:Int)* (j:Int)<1000000000:=by omega
   have hlk:(j:Int)<1000000000:=by omega
   have hmc:m≤100000000:=by omega
   have hm1:wrap64 (22*(j:Int))=((22*j:Nat):Int):=(zHb _ (by omega) (by omega)).trans (by push_cast;rfl);have hm2:wrap64 (((22*j:Nat):Int)+22)=((22*j+22:Nat):Int):=(zHb _ (by push_cast;omega) (by push_cast;omega)).trans (by push_cast;rfl);have hsz:=zBd t (22*j) 22 hle;obtain⟨tp,htp⟩: ∃tp,t.extract (22*j) (22*j+22)=tp:=⟨_,rfl⟩;rw[htp]at hsz;have HRR:Hid (∀W,Cl 114 #[.string tp] W fun e w'=> ∃(k:Nat) (n:Int),RecsOf tp k n∧Bw W w'∧
    ((n=0∧∃v,e=rV #[v,iV 0,iV 0]∧w'.ownsRow W.heap.size 220 7 v k (rowsC tp k))∨
     (n≠0∧e=rV #[.slice none 0 0,iV n,iV (k:Int)]))):=fun W=>zDo tp W (by rw[hsz];decide)
   have HTP:Hid (t.extract (22*j) (22*j+22)=tp):=htp;clear htp;go_wp2_with fail;rw[HTP.out];refine(HRR.out _).mono ?_;clear HRR hm1 hm2 HTP;rintro e w2 ⟨k,nn,hR,hb2,hback⟩;have HB2:Hid (Bw w w2):=HR.2.trans (hb2.mono hbs);have HS2:Hid (SR w.heap.size w2 u6 m):=HR.1.below hb2;have hbs2:=hb2.size;rcases hback with⟨rfl,vb,rfl,hvb⟩|⟨hne,rfl⟩
   ·obtain rfl:k=1:=by
     rcases hR.2 with⟨_,q⟩|⟨q,_⟩|⟨q,_⟩
     ·omega
     ·exact absurd q (by decide)
     ·exact absurd q (by decide)
    rcases hvb.2 with⟨_,q⟩|⟨gb,capb,cur,rfl,hgb,hhb,hleb,hmxb,hszb,htkb⟩
    ·exact absurd q (by decide)
    ·have hib:IntBlock w2 gb 220 7:=IntBlock.of_row hvb (zH4 tp 1);obtain⟨x1,cx1⟩:=hib.cell 1 (by omega);have HTK:Hid (Cl 147 #[u6,iP gb] w2 fun e w'=>TakeBack w.heap.size w2 m e w'):=zQv w.heap.size w2 u6 m gb ⟨HS2.out,hib,Below.refl _ _⟩ (Nat.le_trans hbs hbs2) hmc;clear hvb hhb htkb hszb hR hb2 hib;cases e1:(x1 != (j:Int)+1)
     ·go_wp2_with fail;refine HTK.mono ?_;rintro e w3 ⟨v',m',r,rfl,h1,h2,h3⟩;have HT3:Hid (SR w.heap.size w3 v' m'∧Bw w w3):=⟨h2,HB2.trans h3⟩;clear h2 h3;cases r
      ·go_wp2;go_ret3;exact⟨_,0,_,_,rfl,SR.nil _ _,Nat.zero_le _,HT3.2⟩
      ·go_wp2;go_roundw
       case rel=>
        exact⟨j+1,m',by go_num,hlt,HT3.1,by omega,HT3.2⟩
       case measure=>simp[intOf];omega
     ·go_wp2;go_ret3;exact⟨_,0,_,_,rfl,SR.nil _ _,Nat.zero_le _,HB2.out⟩
   ·have hq:(nn == 0)=false:=beq_eq_false_iff_ne.2 hne;clear hR hb2 hlj hlk;go_wp2;go_ret3;exact⟨_,0,_,_,rfl,SR.nil _ _,Nat.zero_le _,HB2.out⟩
  ·have hjN: ¬(j:Int)<(N:Int):=by omega
   have hlN:(N:Int)<1000000000:=by omega
   have hmc:m≤100000000:=by omega
   obtain⟨p,cap,rfl,-⟩:=HR.out.1.shape';have HOR:Hid (Cl 77 #[iP wr.heap.size] (wr.alloc (.cells #[iV 0,iV 0,iV 0,.slice none 0 0,iV 0,.slice p m cap,.string ⟨#[]⟩,iV 0,iV 0,iV 0,.string ⟨#[]⟩,iV 0,iV 0] 175)) fun e w'=> ∃v',e=.returned v'∧SR (wr.alloc (.cells #[iV 0,iV 0,iV 0,.slice none 0 0,iV 0,.slice p m cap,.string ⟨#[]⟩,iV 0,iV 0,iV 0,.string ⟨#[]⟩,iV 0,iV 0] 175)).heap.size w' v' m∧Below (wr.alloc (.cells #[iV 0,iV 0,iV 0,.slice none 0 0,iV 0,.slice p m cap,.string ⟨#[]⟩,iV 0,iV 0,iV 0,.string ⟨#[]⟩,iV 0,iV 0] 175)).heap.size (wr.alloc (.cells #[iV 0,iV 0,iV 0,.slice none 0 0,iV 0,.slice p m cap,.string ⟨#[]⟩,iV 0,iV 0,iV 0,.string ⟨#[]⟩,iV 0,iV 0] 175)) w'):=zQw wr.heap.size w.heap.size _ _ m (HR.1.below (zA0 _)) (zA wr _ _ 5 _ rfl) (by simp) hmc;have HMC:Hid (m≤100000000∧w.heap.size≤wr.heap.size):=⟨hmc,hbs⟩;clear hN1 ht hlN hmc hmj hj hbs hN2;go_wp2_with fail
   ·go_ret3;exact⟨_,0,_,_,rfl,SR.nil _ _,Nat.zero_le _,HR.2⟩
   ·refine HOR.mono ?_;rintro e w5 ⟨v',rfl,h2,h3⟩;have HX:Hid (SR w.heap.size w5 v' m∧Bw w w5):=⟨h2.mono (Nat.le_trans HMC.2 (by simp)),(zA2 HR.2 _).trans (h3.mono (Nat.le_trans HMC.2 (by simp)))⟩;clear h2 h3;go_wp2;go_ret3;exact⟨_,m,_,_,rfl,HX.1,HMC.1,HX.2⟩
end
section
open Go.Extern Go.Maps Go.RowKit
def alV(i:Nat):Int:=match i with|0=>7|1=>1|2=>1|3=>5|4=>3|7=>2|_=>0
def alT:List UInt8:=(encRes 1 alV).1
def alE:Eng:=newEng 1 9 9 []
def alO:List UInt8:=(alE.apply alT).out
theorem zHc:alT.length≤100:=by decide +kernel
theorem zR9:(encRes 1 alV).2=(0,-1):=by decide +kernel
theorem zDd:alO= [1,0,0,0,1,0,0,0,7,0,0,0,1,0,0,0,5,0,0,0,3,1,6,0,0,0,2,0,0,0,7,0,0,0,0,0,0,0,5,0,0,0,3,0]:=by decide +kernel
theorem zRa:RecsOf (ba alO) 2 0:=by
 rw[zDd];refine⟨fun i hi=>?_,.inl ⟨rfl,by decide +kernel⟩⟩;obtain rfl|rfl:i=0∨i=1:=by omega
 ·refine⟨by decide +kernel,by decide +kernel,by decide +kernel⟩
 ·refine⟨by decide +kernel,by decide +kernel,by decide +kernel⟩
theorem zRb:(recL (ba alO) (22*0))[0]? =some 1∧(recL (ba alO) (22*0))[2]? =some 7:=by rw[zDd];decide +kernel
theorem zRc:(recL (ba alO) (22*1))[0]? =some 6∧(recL (ba alO) (22*1))[5]? =some 3:=by rw[zDd];decide +kernel
theorem zRd:Good alE 0:=zG2 (by decide) (by decide) (fun x hx=>by cases hx)
theorem zRe(w:World){ad:Nat→Addr}{st:Nat→ByteArray}(hE:Errs w ad st)(hW:Wids w):
 Cl 7 #[] w fun e w'=>e=rB true∧Below w.heap.size w w':=by
 have HNEW:=hid (zGo 1 9 9 (.slice none 0 0) 0 [] w (World.ownsRow_nil _ _ _ _) (by decide) (by decide));have HE:Hid (∀W,Bw w W→Errs W ad st∧Wids W):=fun W hb=>⟨hE.below hb,hW.below hb⟩
 have HE0:Hid (Errs w ad st∧Wids w):=⟨hE,hW⟩;go_enter Tryz.func7,Tryz.ntmps7;go_wp2_with fail;refine HNEW.mono ?_;rintro e w1 ⟨nb,rfl,HD⟩;obtain⟨eb,g,d1,d2,d3,d4,d5,hgr⟩:=HD;have hB1:Bw w w1:=hgr;have hnb:nb<w1.heap.size:=(Array.getElem?_eq_some_iff.1 d2).1;have c0:w1.cell? (iA nb 0)=some (iP eb):=by simp[World.cell?,d2]
 have HENC:=hid (zFb ad st 1 alV w1 (HE w1 hB1).1 (HE w1 hB1).2 (fun i hi=>by
  unfold alV;split<;>omega))
 rw[zR9]at HENC;have HAP:Hid (∀W,Bw w1 W→W.cell? (iA nb 0)=some (iP eb)∧Hid (Cl 11 #[iP eb,.string (ba alT)] W fun en w'=>en=.returned (.string (ba alO))∧Hid (Bw w w'))):=fun W hb=>by
  have hBW:Bw w W:=hB1.trans (hb.mono hB1.size);refine⟨(World.cell?_of_block (a:=(iA nb 0)) (hb.block nb hnb)).trans c0,?_⟩;have hC:=d3.below hb;refine(zGv (w0:=w) (F:=fun k=>w.heap.size≤k∧k≠nb) (ad:=ad) (st:=st) ⟨HE0.1,HE0.2,fun k hk=>hk.1⟩ hC d4 d5 rfl hBW alT (zRd.taking (by omega) alT (by have:=zHc;omega)) ?_).mono ?_
  ·have h9:=zHc;show([]:List Ord).length+(([]:List UInt8)++alT).length≤_;simp;omega
  ·rintro en w' ⟨rfl,hz⟩;exact⟨rfl,hz.out.2⟩
 have HB1:=hid hB1;go_wp2_with fail;refine HENC.mono ?_;rintro e w2 ⟨rfl,hb2⟩;obtain⟨c2,HA2⟩:=HAP w2 hb2;have hbt:(⟨(encRes 1 alV).1.toArray⟩:ByteArray)=ba alT:=rfl;rw[hbt];generalize ba alT=T at *;go_wp2_with fail;refine HA2.mono ?_;rintro e w3 ⟨rfl,HB3⟩;have HREC:=hid (zFf ad st (ba alO) w3 (HE w3 HB3).1 (by rw[zA5,zDd];decide));have HR2:=hid zRa;have HX:=hid (And.intro zRb zRc);generalize ba alO=O at *;go_wp2_with fail;refine HREC.mono ?_;rintro e w4 ⟨k,nn,hR,hb4,hback⟩;obtain⟨rfl,rfl⟩:=HR2.out.uniq hR;have HB4:=hid (HB3.trans (hb4.mono HB3.size));rcases hback with⟨_,v,rfl,hv⟩|⟨hne,_⟩
 ·rcases hv with⟨_,h0⟩|⟨g,rfl,cap,hrow⟩
  ·cases h0
  ·have q0:=zAq hrow 0 (by omega) 0 (by omega) 1 HX.1.1;have q2:=zAq hrow 0 (by omega) 2 (by omega) 7 HX.1.2;have q7:=zAq hrow 1 (by omega) 0 (by omega) 6 HX.2.1;have q12:=zAq hrow 1 (by omega) 5 (by omega) 3 HX.2.2;simp only[Nat.zero_mul,Nat.one_mul,Nat.zero_add,Nat.add_zero]at q0 q2 q7 q12;go_wp2;go_ret;exact⟨rfl,HB4⟩
 ·exact absurd rfl hne
end
end Go.Proofs.YtilbfpnpkkkpgaaGreatDoor
