import Derived.Test.YtanfmhonjpjpoaaGreatDoorQ00
import Derived.Test.YtanfmhonjpjpoaaGreatDoorQ10
import Derived.Test.YtanfmhonjpjpoaaGreatDoorQ11
import Derived.Test.YtanfmhonjpjpoaaGreatDoorQ25
import Derived.Test.YtanfmhonjpjpoaaGreatDoorQ26
import Derived.Deep.RegionHeld3
set_option linter.all false
set_option maxRecDepth 100000
set_option maxHeartbeats 8000000
namespace Go.Proofs.YtanfmhonjpjpoaaGreatDoor
variable{e:Eng}{w1 w2:World}
section
open Go.Extern Go.Maps Go.RowKit
section
variable {base:Nat} {w w':World} {q:Nat} {o o':Ord}
theorem zP(k:Nat→Int)(hO:OA w q 0 o)(hk:AOk o)(hd:k 0=6∧k 1=0∧k 2=o.id∧k 3=0∧k 4=o.price∧k 6=0)(h4:k 4≠0)(h5:1≤k 5)(h5o:k 5≤o.qty - o.filled)(h5t:o.typ≠2→k 5=o.qty - o.filled):
 Calls Tryz.prog 183 #[.pointer (some ⟨q,0,none⟩),recW (k 0) (k 1) (k 2) (k 3) (k 4) (k 5) (k 6)] w fun en w'=>FX q w { o with shown:=k 5 } en w':=by
 have hneq:=fun W=>neqRec (k 0) (k 1) (k 2) (k 3) (k 4) (k 5) (k 6) 6 0 o.id 0 o.price (k 5) 0 W
 have hgd:=Tryz.recGuard;generalize hcc:(!(k 0 == 6 && k 1 == 0 && k 2 == o.id && k 3 == 0 && k 4 == o.price && k 5 == k 5 && k 6 == 0))=c at hneq;obtain rfl:c=false:=by rw[←hcc];obtain⟨d0,d1,d2,d3,d4,d6⟩:=hd;simp[d0,d1,d2,d3,d4,d6]
 have E3:Hid ((k 4 == 0)=false):=by show(k 4 == 0)=false;simp[h4]
 have E8:Hid (Eng.inn (k 5) 1 (o.qty - o.filled)=true):=by show Eng.inn (k 5) 1 (o.qty - o.filled)=true;unfold Eng.inn;simp[h5,h5o]
 have E9:Hid (o.typ≠2→Eng.inn (k 5) (o.qty - o.filled) (o.qty - o.filled)=true):=fun c=>by rw[h5t c];unfold Eng.inn;simp
 clear hcc hd h4 h5 h5o h5t;have HKK:=hid hk;have hoa:=hO.alloc (.cells #[.int .i64 (k 0),.int .i64 (k 1),.int .i64 (k 2),.int .i64 (k 3),.int .i64 (k 4),.int .i64 (k 5),.int .i64 (k 6)] 73);have hrb:RB (w.alloc (.cells #[.int .i64 (k 0),.int .i64 (k 1),.int .i64 (k 2),.int .i64 (k 3),.int .i64 (k 4),.int .i64 (k 5),.int .i64 (k 6)] 73)) w.heap.size k:=⟨heap_alloc_new w _⟩;have hch:=(ACh.refl q w).alloc (.cells #[.int .i64 (k 0),.int .i64 (k 1),.int .i64 (k 2),.int .i64 (k 3),.int .i64 (k 4),.int .i64 (k 5),.int .i64 (k 6)] 73);have hqn:q≠w.heap.size:=Nat.ne_of_lt hO.lt;clear hO hk;go_enter Tryz.func183,Tryz.ntmps183;go_wp2_with fail;generalize w.alloc (.cells #[.int .i64 (k 0),.int .i64 (k 1),.int .i64 (k 2),.int .i64 (k 3),.int .i64 (k 4),.int .i64 (k 5),.int .i64 (k 6)] 73)=W at *;generalize w.heap.size=rb at *;refine(zCa hoa HKK.out.opn).mono ?_;rintro en w1 ⟨rfl,m,rfl⟩
 have hs:Same W (W.drewN m):=(Same.refl W).drewN m;have HOA:=hid (hoa.same hs);have HRB:=hid (hrb.same hs);have HCH:=hid (hch.same hs);clear hoa hrb hch hs;generalize W.drewN m=X at *;have c0:X.cell? ⟨q,0,none⟩=some (.int .i64 o.id):=HOA.out.cell 0;have c2:X.cell? ⟨q,2,none⟩=some (.int .i64 o.typ):=HOA.out.cell 2;have c3:X.cell? ⟨q,3,none⟩=some (.int .i64 o.price):=HOA.out.cell 3;have r5:X.cell? ⟨rb,5,none⟩=some (.int .i64 (k 5)):=HRB.out.cell 5;have n1:=World.new_ne X _ (hid c0).out;have n2:=World.new_ne X _ (hid r5).out;have HOPD:Hid (∀X,OA X q 0 o→Calls Tryz.prog 124 #[.pointer (some ⟨q,0,none⟩)] X fun en w1=>en=.returned (.int .i64 (o.qty - o.filled))∧∃m,w1=X.drewN m):=fun X hX=>zCa hX HKK.out.opn
 by_cases ht:o.typ=2;all_goals(
  go_wp2_with fail;go_region_held3(fun X=>X.cell? ⟨q,0,none⟩=some (.int .i64 o.id)∧X.cell? ⟨q,3,none⟩=some (.int .i64 o.price)∧X.cell? ⟨rb,5,none⟩=some (.int .i64 (k 5))) (go_keep) (fail);have HD:=hid (zCb (w:=w) 6 0 o.id 0 o.price (k 5) 0 HOA.out HRB.out HCH.out);have HD:Hid (DueR q rb X.heap.size o k (dueF 6 0 o.id 0 o.price (k 5) 0) w (X.alloc (.cells #[.int .i64 6,.int .i64 0,.int .i64 o.id,.int .i64 0,.int .i64 o.price,.int .i64 (k 5),.int .i64 0] 73)).drew):=⟨HD.out.oa.drew,HD.out.rb.same (Same.refl _).drew,HD.out.db.same (Same.refl _).drew,HD.out.chg.same (Same.refl _).drew⟩;generalize (X.alloc (.cells #[.int .i64 6,.int .i64 0,.int .i64 o.id,.int .i64 0,.int .i64 o.price,.int .i64 (k 5),.int .i64 0] 73)).drew=Y at *;generalize X.heap.size=db at *;have y0:Y.cell? ⟨rb,0,none⟩=some (.int .i64 (k 0)):=HD.out.rb.cell 0
  have y1:Y.cell? ⟨rb,1,none⟩=some (.int .i64 (k 1)):=HD.out.rb.cell 1;have y2:Y.cell? ⟨rb,2,none⟩=some (.int .i64 (k 2)):=HD.out.rb.cell 2;have y3:Y.cell? ⟨rb,3,none⟩=some (.int .i64 (k 3)):=HD.out.rb.cell 3;have y4:Y.cell? ⟨rb,4,none⟩=some (.int .i64 (k 4)):=HD.out.rb.cell 4;have y5:Y.cell? ⟨rb,5,none⟩=some (.int .i64 (k 5)):=HD.out.rb.cell 5;have y6:Y.cell? ⟨rb,6,none⟩=some (.int .i64 (k 6)):=HD.out.rb.cell 6;have z0:Y.cell? ⟨db,0,none⟩=some (.int .i64 6):=HD.out.db.cell 0;have z1:Y.cell? ⟨db,1,none⟩=some (.int .i64 0):=HD.out.db.cell 1;have z2:Y.cell? ⟨db,2,none⟩=some (.int .i64 o.id):=HD.out.db.cell 2;have z3:Y.cell? ⟨db,3,none⟩=some (.int .i64 0):=HD.out.db.cell 3;have z4:Y.cell? ⟨db,4,none⟩=some (.int .i64 o.price):=HD.out.db.cell 4;have z5:Y.cell? ⟨db,5,none⟩=some (.int .i64 (k 5)):=HD.out.db.cell 5;have z6:Y.cell? ⟨db,6,none⟩=some (.int .i64 0):=HD.out.db.cell 6
  have x11:Y.cell? ⟨q,11,none⟩=some (.int .i64 o.shown):=HD.out.oa.cell 11;have f11:=HD.out.oa.froz 11;clear HOA HRB HCH c0 c2 c3 r5 n1 n2;have e3:=E3.out;have e8:=E8.out;go_wp2_with fail
  go_region_held3(fun X=>X.cell? ⟨rb,0,none⟩=some (.int .i64 (k 0))∧X.cell? ⟨rb,1,none⟩=some (.int .i64 (k 1))∧X.cell? ⟨rb,2,none⟩=some (.int .i64 (k 2))∧X.cell? ⟨rb,3,none⟩=some (.int .i64 (k 3))∧X.cell? ⟨rb,4,none⟩=some (.int .i64 (k 4))∧X.cell? ⟨rb,5,none⟩=some (.int .i64 (k 5))∧X.cell? ⟨rb,6,none⟩=some (.int .i64 (k 6))∧X.cell? ⟨db,0,none⟩=some (.int .i64 6)∧X.cell? ⟨db,1,none⟩=some (.int .i64 0)∧X.cell? ⟨db,2,none⟩=some (.int .i64 o.id)∧X.cell? ⟨db,3,none⟩=some (.int .i64 0)∧X.cell? ⟨db,4,none⟩=some (.int .i64 o.price)∧X.cell? ⟨db,5,none⟩=some (.int .i64 (k 5))∧X.cell? ⟨db,6,none⟩=some (.int .i64 0)) (go_keep) (first|(go_at_call 124;refine(HOPD.out _ (by exact HD.out.oa.drew)).mono ?_;rintro en w7 ⟨rfl,m7,rfl⟩)|(go_at_call 145;refine(zBy _ _ _).mono ?_;rintro en w8 ⟨rfl,rfl⟩));all_goals(
   try rw[e8]
   try rw[E9.out ht]
   go_wp2;go_ret;exact⟨rfl,hid ⟨(HD.out.oa.same ((Same.refl Y).drewN (1+m7))).wr 11 (.int .i64 (k 5)) { o with shown:=k 5 } (by simp[Ord.code]),(HD.out.chg.same ((Same.refl Y).drewN (1+m7))).set _ _⟩⟩))
end
end
section
open Eng
theorem zP0(h:Calm e)(hsg:Sg e){kind:Int}{v:Nat→Int}(henc:(encRes kind v).2.1=0): ∃rs,(kind≤3→rs≠[])∧(e.apply (encRes kind v).1).out=encR e.seq rs∧(e.apply (encRes kind v).1).seq=e.seq+rs.length∧Book.takes (v 6) (bk e) rs=some (bk (e.apply (encRes kind v).1))∧(∀r∈rs,r.Fits)∧(bk (e.apply (encRes kind v).1)).Still e.mp∧(e.apply (encRes kind v).1).mp=e.mp∧Calm (e.apply (encRes kind v).1)∧rs.length≤2100∧Run (bk e) rs (bk (e.apply (encRes kind v).1))∧Sg (e.apply (encRes kind v).1):=by
 obtain⟨k1,k5,nE,nM,nK,nV⟩:=zGd henc;have hne:(encRes kind v).1≠[]:=fun c=>by
  rw[c]at nE;exact absurd nE (by decide +kernel)
 generalize hT:(encRes kind v).1=t at *;obtain⟨f,hf⟩: ∃f,t.length=f+1:=⟨t.length - 1,by have:=List.length_pos_iff.2 hne;omega⟩;have hr0:(e.begin_ t).rest=t:=by show e.rest++t=t;rw[h.rest];rfl
 have hcut:(e.begin_ t).cut={ e with rest:=[],out:=[] }:=by
  unfold Eng.cut;rw[hr0,nM];show({ e with rest:=t.drop ((t.length:Int)).toNat,out:=[] }:Eng)=_;rw[Int.toNat_natCast,List.drop_length]
 have hfr:(e.begin_ t).frame=({ e with rest:=[],out:=[] }:Eng).run kind (nextV (ba t)):=by
  unfold Eng.frame;rw[hr0,if_neg (by rw[nE];decide),hcut,nK]
 have hi:EInv (e.begin_ t):=h.inv.cong rfl rfl rfl rfl rfl rfl;obtain⟨_,hkp,hgw⟩:=step_more hi;rw[hcut]at hkp;have hrest:(e.begin_ t).frame.follow.rest= []:=hkp.rest;have hmp:(e.begin_ t).frame.follow.mp=e.mp:=hkp.mp;have hap:e.apply t=(e.begin_ t).frame.follow:=by
  show steps (e.rest.length+t.length) (e.begin_ t)=_;rw[h.rest,List.length_nil,Nat.zero_add,hf];show(if nextE (ba (e.begin_ t).rest)=4 then e.begin_ t else steps f (e.begin_ t).frame.follow)=_;rw[hr0,if_neg (by rw[nE];decide)];cases f with
  |zero=>rfl
  |succ f=>
   show(if nextE (ba (e.begin_ t).frame.follow.rest)=4 then(e.begin_ t).frame.follow else _)=_;rw[hrest,if_pos (by decide +kernel)]
 have hi0:EInv ({ e with rest:=[],out:=[] }:Eng):=h.inv.cong rfl rfl rfl rfl rfl rfl;have hp0:Pegs ({ e with rest:=[],out:=[] }:Eng):=h.pegs.cong rfl;obtain⟨rs,n1,t1,s1,l1,f1⟩:=zG9 (e:={ e with rest:=[],out:=[] }) (v 6) kind (v:=nextV (ba t)) (fun c=>(nV c).symm) hi0 (h.lv.cong rfl) (h.fr.cong rfl) hp0 (zAn _);rw[←hfr]at t1 s1 l1 f1;have hi2:=(step_more hi).1;have hp2:Pegs (e.begin_ t).frame.follow:=by rw[hfr];exact Pegs.follow (Pegs.run hp0 hi0 kind (zAn _))
 rw[hap];refine⟨rs,fun c=>n1 (by omega),?_,t1.seq,t1.tk,t1.fits,?_,hmp,⟨hi2,l1,f1,hp2,hrest⟩,?_,Run.of t1.tk t1.can t1.fits,?_⟩
 ·have:=t1.out;rw[this];rfl
 ·rw[←hmp];exact s1
 ·have h1:=t1.seq;have h2:=hgw.seq1;have h3:(e.begin_ t).seq=e.seq:=rfl;have h4:({ e with rest:=[],out:=[] }:Eng).seq=e.seq:=rfl;rw[h4]at h1;omega
 ·rw[hfr];exact zLl (zLo kind hi0 (h.lv.cong rfl) (hsg.cong rfl) (zAn _))
theorem zP1(h:Calm e)(hsg:Sg e){i:Nat}{o:Ord}(ho:e.all[i]? =some o):o.ent.so.state=o.state:=by
 have k:=h.inv.ok i o ho;have l:=h.lv i o ho;have g:=hsg i o ho;by_cases c:0<o.opn
 ·have hs:=l.2 c;have hc:=k.live hs;have e1:o.ent.live=true:=decide_eq_true c;unfold Ent.so;rw[if_pos e1];show[o.id,1,o.price,o.opn,o.filled,0,o.shown]= [o.id,o.status,o.price,o.opn,o.filled,o.cancelled,o.shown];rw[hs,hc]
 ·have hn:o.status≠1:=fun q=>c (l.1 q)
  have e1: ¬o.ent.live=true:=by
   show¬decide (0<o.opn)=true;simpa using c
  have h0:o.opn=0:=by have:=k.opn0;omega
  have h1:=k.dead hn;unfold Ent.so;rw[if_neg e1];show[o.id,if o.cancelled=0 then 2 else 3,o.price,0,o.filled,o.cancelled,0]= [o.id,o.status,o.price,o.opn,o.filled,o.cancelled,o.shown];have h2:(if o.cancelled=0 then(2:Int) else 3)=o.status:=by
   rcases k.status with q|q|q
   ·exact absurd q hn
   ·rw[if_pos (g.1 q),q]
   ·rw[if_neg (by have:=g.2 q;omega),q]
  rw[h0,h1,h2]
theorem zHo: ∀(M M':List Ord),M.Pairwise (fun x y=>x.id≤y.id)→M'.Pairwise (fun x y=>x.id≤y.id)→(M.map Ord.id).Nodup→(M'.map Ord.id).Nodup→(∀s,s∈M.map Ord.state↔s∈M'.map Ord.state)→M.map Ord.state=M'.map Ord.state:=by
 have sid: ∀{x y:Ord},x.state=y.state→x.id=y.id:=fun h=>by unfold Ord.state at h;injection h
 intro M
 induction M with
 |nil=>
  intro M' _ _ _ _ h;cases M' with
  |nil=>rfl
  |cons y t=>exact absurd ((h y.state).2 (by simp)) (by simp)
 |cons x t ih=>
  intro M' p1 p2 n1 n2 h;cases M' with
  |nil=>exact absurd ((h x.state).1 (by simp)) (by simp)
  |cons y u=>
   rw[List.pairwise_cons]at p1 p2;rw[List.map_cons,List.nodup_cons]at n1 n2;have hx:x.state∈(y::u).map Ord.state:=(h x.state).1 (by simp);have hy:y.state∈(x::t).map Ord.state:=(h y.state).2 (by simp);have hxy:x.state=y.state:=by
    rw[List.map_cons,List.mem_cons]at hx hy;rcases hx with c|c
    ·exact c
    rcases hy with d|d
    ·exact d.symm
    obtain⟨z,hz,ez⟩:=List.mem_map.1 c;obtain⟨z',hz',ez'⟩:=List.mem_map.1 d;have a1:=p2.1 z hz;have a2:=p1.1 z' hz';have a3:=sid ez;have a4:=sid ez';have:y.id=z.id:=by omega
    exact absurd (by rw[this];exact List.mem_map_of_mem hz) n2.1
   rw[List.map_cons,List.map_cons,hxy]
   congr 1
   refine ih u p1.2 p2.2 n1.2 n2.2 (fun s=>⟨fun hs=>?_,fun hs=>?_⟩)
   ·have:=(h s).1 (by rw[List.map_cons];exact List.mem_cons_of_mem _ hs);rw[List.map_cons,List.mem_cons]at this;rcases this with c|c
    ·obtain⟨z,hz,ez⟩:=List.mem_map.1 hs;have e1:z.id=x.id:=sid (ez.trans (c.trans hxy.symm));exact absurd (by rw[←e1];exact List.mem_map_of_mem hz) n1.1
    ·exact c
   ·have:=(h s).2 (by rw[List.map_cons];exact List.mem_cons_of_mem _ hs);rw[List.map_cons,List.mem_cons]at this;rcases this with c|c
    ·obtain⟨z,hz,ez⟩:=List.mem_map.1 hs;have e1:z.id=y.id:=sid (ez.trans (c.trans hxy));exact absurd (by rw[←e1];exact List.mem_map_of_mem hz) n2.1
    ·exact c
end
section
open Go.Extern Go.Maps Go.RowKit
section
variable {F:Nat→Prop} {base:Nat} {w:World} {b i:Nat} {e:Eng} {g:Gh} {S:Sets} {o:Ord}
theorem zP2(ho:e.all[i]? =some o)(h:e.target o=o.price):e.followOne i=e:=by
 unfold Eng.followOne;rw[ho];simp only;by_cases hc:o.status=1∧o.typ=3
 ·rw[if_pos hc,if_pos h]
 ·rw[if_neg hc]
theorem zP3(ho:e.all[i]? =some o)(h: ¬o.typ=3):e.followOne i=e:=by
 unfold Eng.followOne;rw[ho];simp only;rw[if_neg (fun hc=>h hc.2)]
theorem zP4(ho:e.all[i]? =some o)(hs:o.status=1)(ht:o.typ=3)(h: ¬e.target o=o.price)(h0:e.target o=0):e.followOne i=e.park i o:=by
 unfold Eng.followOne;rw[ho];simp only;rw[if_pos ⟨hs,ht⟩,if_neg h,if_pos h0];rfl
theorem zP5(ho:e.all[i]? =some o)(hs:o.status=1)(ht:o.typ=3)(h: ¬e.target o=o.price)(h0: ¬e.target o=0):e.followOne i=e.move i o (e.target o):=by
 unfold Eng.followOne;rw[ho];simp only;rw[if_pos ⟨hs,ht⟩,if_neg h,if_neg h0];rfl
theorem zP6(h:CRep F base w b e g S)(inv:Eng.EInv e)(hH:Holds e S [] [])(ho:e.all[i]? =some o)(hs:o.status=1)(ht:o.typ=3)(hop:0<o.opn)(hro:Room 1 e):
 Cl 122 #[iP b,iP (g.blk i)] w fun en w'=>en=rV #[]∧Hid (Cdone F base w b g (e.followOne i) w'):=by
 have htb:=Eng.target_bd inv o;have hmp:=inv.mp1;have HPP:Hid (Cl 164 #[iP b,iP (g.blk i)] w fun en w1=>en=.returned (iV (e.target o))∧cI w1 (g.blk i) 3 o.price∧Hid (CRep F base w1 b e g S∧Touch F w w1)):=by
  refine(zNu h inv hH ho hs).mono ?_;rintro en w1 ⟨rfl,hb⟩;have h1:=h.below hb;exact⟨rfl,(h1.oa ho hs).cell 3,h1,zAp h.up hb⟩
 by_cases q1:e.target o=o.price
 ·have HE:=hid (zP2 ho q1);have HH:=hid hH;rw[q1]at HPP;go_enter Tryz.func122,Tryz.ntmps122;go_wp2_with fail;refine HPP.mono ?_;rintro en w1 ⟨rfl,c3,HZ⟩;go_wp2
  (try simp only[Exit.inBlock,Exit.then])
  refine bodyPost_ret (results_none rfl _ _ _) rfl ?_;exact⟨rfl,by rw[HE.out];exact⟨g.txt,S,HZ.1,HH,HZ.2⟩⟩
 ·by_cases q2:e.target o=0
  ·have HPK:Hid (∀W,CRep F base W b e g S∧Touch F w W→Cl 165 #[iP b,iP (g.blk i)] W fun en w'=>en=rV #[]∧Hid (Cdone F base w b g (e.followOne i) w')):=by
    rintro W ⟨hW,hT⟩;refine(zNq hW inv hH ho hs hro).mono ?_;rintro en w' ⟨rfl,hz⟩;obtain⟨t,S',r1,r2,r3⟩:=hz.out;rw[zP4 ho hs ht q1 q2];exact⟨rfl,t,S',r1,r2,hT.trans r3⟩
   have q3: ¬(0:Int)=o.price:=by rw[←q2];exact q1
   rw[q2]at HPP;go_enter Tryz.func122,Tryz.ntmps122;go_wp2_with fail;refine HPP.mono ?_;rintro en w1 ⟨rfl,c3,HZ⟩;have HP:=hid (HPK w1 HZ);go_wp2_with fail;refine HP.mono ?_;rintro en w2 ⟨rfl,HD⟩;go_wp2;go_end0;exact⟨rfl,HD⟩
  ·have HPK:Hid (∀W,CRep F base W b e g S∧Touch F w W→Cl 166 #[iP b,iP (g.blk i),iV (e.target o)] W fun en w'=>en=rV #[]∧Hid (Cdone F base w b g (e.followOne i) w')):=by
    rintro W ⟨hW,hT⟩;refine(zNr (e.target o) ⟨htb.1,by omega⟩ hW inv hH ho hs hop hro).mono ?_;rintro en w' ⟨rfl,hz⟩;obtain⟨t,S',r1,r2,r3⟩:=hz.out;rw[zP5 ho hs ht q1 q2];exact⟨rfl,t,S',r1,r2,hT.trans r3⟩
   generalize e.target o=p at *;go_enter Tryz.func122,Tryz.ntmps122;go_wp2_with fail;refine HPP.mono ?_;rintro en w1 ⟨rfl,c3,HZ⟩;have HP:=hid (HPK w1 HZ);go_wp2_with fail;refine HP.mono ?_;rintro en w2 ⟨rfl,HD⟩;go_wp2;go_end0;exact⟨rfl,HD⟩
structure Laying(G:Nat→Prop)(base:Nat)(w1:World)(b:Nat)(g:Gh)(e:Eng)(L:List Nat)(k:Nat)(E:Eng)(wr:World):Prop where
 rep: ∃t S',CRep G base wr b E { g with txt:=t } S'∧Holds E S' [] []
 touch:Touch G w1 wr
 inv:Eng.EInv E
 pegs:Eng.Pegs E
 is:E=(L.take k).foldl Eng.followOne e
 rest: ∀j,j∈L.drop k→E.all[j]? =e.all[j]?
 grew:Eng.Grew k 0 e E
 len:E.all.length=e.all.length
theorem zP7(e:Eng)(i:Nat):Eng.Grew 1 0 e (e.followOne i):=by
 rcases Eng.followOne_at e i with h|⟨o,_,_,_,_,⟨_,h⟩|⟨_,h⟩⟩
 ·rw[h];exact(Eng.Grew.refl e).mono (by omega) (by omega)
 ·rw[h];exact Eng.Grew.park e i o
 ·rw[h];exact Eng.Grew.move e i o _
theorem zP8(p:Eng.Pegs e)(i:Nat):Eng.Pegs (e.followOne i):=by
 rcases Eng.followOne_at e i with h|⟨o,ho,hs,ht,_,⟨h0,h⟩|⟨h0,h⟩⟩
 ·rw[h];exact p
 ·rw[h];refine Eng.Pegs.cong (e:=e.upd i fun o=>{ o with price:=0,shown:=0 }) (p.upd i _ fun x hx h1 h2=>?_) rfl;exact⟨(p i x hx h1 h2).1,fun hc=>absurd rfl hc⟩
 ·rw[h];refine Eng.Pegs.cong (e:=({ e with stamp:=e.stamp+1 }:Eng).upd i fun x=>{ x with price:=e.target o,stamp:=(e.stamp+1:Nat),shown:=x.opn }) (Eng.Pegs.upd (e:={ e with stamp:=e.stamp+1 }) (p.cong rfl) i _ fun x hx h1 h2=>?_) rfl;have:=(p i x hx h1 h2).1;exact⟨this,fun _=>this⟩
theorem zP9(h:CRep F base w b e g S)(inv:Eng.EInv e)(hH:Holds e S [] [])(hpg:Eng.Pegs e)(hro:Room 100 e)(hl:e.all.length≤100000000):
 Cl 74 #[iP b] w fun en w'=>en=rV #[]∧Hid (Cdone F base w b g e.follow w'):=by
 have HAL:Hid (Cl 49 #[.pointer (some (iA b 8))] w fun en w1=> ∃(p:Option Addr) (cap:Nat) (L:List Nat),en=.returned (.slice p L.length cap)∧Hid (L.length≤64∧L.Pairwise (· < ·)∧(∀j,j∈L↔∃o,e.all[j]? =some o∧o.status=1)∧Apart (Foot F w w1) w1 g (.slice p L.length cap) L∧Laying (Foot F w w1) base w1 b g e L 0 e w1∧Touch F w w1)):=by
  refine(zHi h hH hl).mono ?_;rintro en w1 ⟨v,L,rfl,h1,h2,h3⟩;obtain⟨p,cap,rfl⟩: ∃p cap,v=.slice p L.length cap:=by
   rcases h1.row.2 with⟨h5,h6⟩|⟨d,cap,cur,h5,_⟩
   ·exact⟨none,0,by rw[h5,h6]⟩
   ·exact⟨_,_,h5⟩
  have hnd:L.Nodup:=h1.up.imp (fun h=>Nat.ne_of_lt h);have hL64:L.length≤64:=by
   have h2:L.length≤((List.range e.all.length).filter (Eng.lives e)).length:=zC7 hnd (fun j hj=>by
    obtain⟨o,q1,q2⟩:=(h2 j).1 hj;rw[List.mem_filter,List.mem_range];exact⟨(List.getElem?_eq_some_iff.1 q1).1,by unfold Eng.lives;rw[q1];simp[q2]⟩)
   rw[←List.countP_eq_length_filter,Eng.count_range]at h2;have:=inv.live;have:=inv.mo1;omega
  have hC:=h.foot (h.below h3) rfl;refine⟨p,cap,L,rfl,hL64,h1.up,h2,h1.apart (fun k h2 h3 hc=>hc.elim (fun h=>by omega) (fun h=>by omega)),⟨⟨g.txt,S,hC,hH⟩,Touch.refl _ _,inv,hpg,rfl,fun _ _=>rfl,Eng.Grew.refl e,rfl⟩,zAp h.up h3⟩
 have HRO:=hid hro;have HUP:=hid h.up;go_enter Tryz.func74,Tryz.ntmps74;go_wp2_with fail;refine HAL.mono ?_;rintro en w1 ⟨p,cap,L,rfl,HZ⟩;have hL64:=HZ.1;go_wp2_with fail;go_loopw [9] (fun iv wr=> ∃(k:Nat) (E:Eng),iv=iV k∧k≤L.length∧Laying (Foot F w w1) base w1 b g e L k E wr) (fun iv _=>L.length - (intOf iv).toNat)
 case atStart=>exact⟨0,e,rfl,Nat.zero_le _,HZ.2.2.2.2.1⟩
 case round=>
  obtain⟨k,E,rfl,hk,hE⟩:=hrel;have HE:=hid hE;by_cases hlt:k<L.length
  ·have hkI:(k:Int)<(L.length:Int):=by omega
   have hw1:wrap64 ((k:Int)+1)=(k:Int)+1:=by unfold wrap64;omega
   have hj:L[k]? =some L[k]:=List.getElem?_eq_getElem hlt;have hd:L.drop k=L[k]::L.drop (k+1):=List.drop_eq_getElem_cons hlt;obtain⟨p',cap',hpe,hap⟩:=HZ.out.2.2.2.1;injection hpe with hpe1 _ hpe2;subst hpe1 hpe2;obtain⟨vb,rfl,hvF,hvl,hcell⟩:=hap.resolve_left (fun hc=>by rw[hc]at hlt;simp at hlt);have ck:wr.cell? (iA vb k)=some (iP (g.blk L[k])):=by
    have:=hcell k _ hj;unfold World.cell? at this⊢;rw[HE.out.touch.block vb hvl hvF];exact this
   obtain⟨o,ho0,hs⟩:=(HZ.out.2.2.1 L[k]).1 (List.getElem_mem hlt);have ho:E.all[L[k]]? =some o:=(HE.rest L[k] (by rw[hd];exact List.mem_cons_self ..)).trans ho0;obtain⟨t,S',hC,hH⟩:=HE.out.rep;have hO:=hC.oa ho hs;have o2:cI wr (g.blk L[k]) 2 o.typ:=hO.cell 2;have hnk:L[k]∉L.drop (k+1):=fun hc=>by
    have h2:=HZ.2.1;rw[←List.take_append_drop k L,hd,List.pairwise_append]at h2;have:=(List.pairwise_cons.1 h2.2.1).1 _ hc;omega
   have hst:=Eng.followOne_stays E L[k];have hgr:=zP7 E L[k];have HNX:Hid (∀W,(∃t S',CRep (Foot F w w1) base W b (E.followOne L[k]) { g with txt:=t } S'∧Holds (E.followOne L[k]) S' [] [])→Touch (Foot F w w1) wr W→Laying (Foot F w w1) base w1 b g e L (k+1) (E.followOne L[k]) W):=fun W hW hT=>by
    refine⟨hW,HE.touch.trans hT,Eng.followOne_inv HE.inv L[k],zP8 HE.pegs L[k],?_,fun j hjd=>?_,?_,hst.len.trans HE.len⟩
    ·rw[List.take_add_one,hj,List.foldl_append,←HE.out.is];rfl
    ·rw[Eng.follow_ne E L[k] j (fun e1=>hnk (e1▸hjd))];exact HE.rest j (by rw[hd];exact List.mem_cons_of_mem _ hjd)
    ·exact(HE.grew.trans hgr).mono (by omega) (by omega)
   by_cases ht:o.typ=3
   ·have hop:=(HE.pegs _ _ ho hs ht).1;have hroom:Room 1 E:=((HRO).grew HE.grew HE.len (by omega)).mono (by omega);have HLP:Hid (Cl 122 #[iP b,iP (g.blk L[k])] wr fun en w'=>en=rV #[]∧Hid (Laying (Foot F w w1) base w1 b g e L (k+1) (E.followOne L[k]) w')):=by
     refine(zP6 hC HE.inv hH ho hs ht hop hroom).mono ?_;rintro en w' ⟨rfl,hz⟩;obtain⟨t',S2,r1,r2,r3⟩:=hz.out;exact⟨rfl,HNX w' ⟨t',S2,r1,r2⟩ r3⟩
    have HTT:=hid ht;generalize L[k]=j at *;rw[ht]at o2;go_wp2_with fail;refine HLP.mono ?_;rintro en w2 ⟨rfl,HD⟩;go_wp2;go_roundw
    case rel=>exact⟨k+1,_,by go_num,hlt,HD⟩
    case measure=>simp[intOf];omega
   ·have HD:=hid (HNX wr (by rw[zP3 ho ht];exact HE.rep) (Touch.refl _ _));generalize L[k]=j at *;go_wp2;go_roundw
    case rel=>exact⟨k+1,_,by go_num,hlt,HD⟩
    case measure=>simp[intOf];omega
  ·have hke:k=L.length:=by omega
   subst hke;go_wp2;go_end0;obtain⟨_,hup,hmem,_,_,hT⟩:=HZ;have hfl:=Eng.follow_list hup hmem;have his:=HE.is;rw[List.take_length,←hfl]at his;obtain⟨t,S',r1,r2⟩:=HE.out.rep;rw[his]at r1 r2;exact⟨rfl,Cdone.foots HUP hT ⟨t,S',r1,r2,HE.touch⟩⟩
end
theorem zeroStC(w:World):(zeroValue 48).run Tryz.prog w=.ok (aggElem.val [0,0,0,0,0,0,0]) w:=by kernel_rfl
theorem zPa{id:Int}(h:e.find id=none):e.liveAt id=none:=by unfold Eng.liveAt;rw[h]
theorem zPb{id:Int}{i:Nat}{o:Ord}(h:e.find id=some i)(ho:e.all[i]? =some o):e.liveAt id=if o.status=1 then some i else none:=by
 unfold Eng.liveAt;rw[h];simp only[ho]
section
variable {F:Nat→Prop} {base:Nat} {w:World} {b i:Nat} {e:Eng} {g:Gh} {S:Sets} {o:Ord} {v:Nat→Int}
theorem zHp(id:Int)(h63:r63 id)(h:CRep F base w b e g S)(hn: ∀j∈S.ended,idAt e.all j≠id):
 (Instr.lookup 113 (.map (some g.endM)) (iV id) true).run Tryz.prog w=.ok (.tuple #[.agg #[iV 0,iV 0,iV 0,iV 0,iV 0,iV 0,iV 0],.bool false]) w:=
 h.body.ended.miss keyedInt Tryz.underlying3 Tryz.underlying113 (zeroStC w) (fun p hp=>by obtain⟨j,hj,rfl⟩:=List.mem_map.1 hp;exact hn j hj) (wf63 h63)
theorem zPc(id:Int)(h63:r63 id)(h:CRep F base w b e g S)(hi:i∈S.ended)(ho:e.all[i]? =some o)(hid':o.id=id):
 (Instr.lookup 113 (.map (some g.endM)) (iV id) true).run Tryz.prog w=.ok (.tuple #[.agg #[iV o.id,iV o.status,iV o.price,iV o.opn,iV o.filled,iV o.cancelled,iV o.shown],.bool true]) w:=by
 have hm:(id,o.state)∈S.ended.map fun i=>(idAt e.all i,stAt e.all i):=List.mem_map.2 ⟨i,hi,by rw[zAe ho,hid'];unfold stAt;rw[ho]⟩
 exact h.body.ended.hit keyedInt Tryz.underlying3 Tryz.underlying113 (zeroStC w) hm (wf63 h63)
theorem zPd(id:Int)(h63:r63 id)(h:CRep F base w b e g S)(inv:Eng.EInv e)(hH:Holds e S [] []):
 Cl 196 #[iP b,iV id] w fun en w'=>en=.returned (.bool (e.find id).isSome)∧Below w.heap.size w w':=by
 rcases hf:e.find id with _|i
 ·have hL:=zPa hf;have hno:=Eng.find_none hf;have HFD:Hid (Cl 154 #[.pointer (some (iA b 8)),iV id] w fun en w1=>en=rV #[.pointer none,.bool false]∧w1.cell? (iA b 10)=some (.map (some g.endM))∧(Instr.lookup 113 (.map (some g.endM)) (iV id) true).run Tryz.prog w1=.ok (.tuple #[.agg #[iV 0,iV 0,iV 0,iV 0,iV 0,iV 0,iV 0],.bool false]) w1∧Hid (Bw w w1)):=by
   refine(zC8 id h63 h inv hH).mono ?_;rintro en w1 ⟨rfl,hs⟩;have h1:=h.same hs;refine⟨by rw[hL];rfl,h1.cell 10,zHp id h63 h1 (fun j hj=>?_),zBl (Below.refl _ _) hs⟩;obtain⟨o,q1,_⟩:=(hH.ended j).1 hj;rw[zAe q1];exact hno j o q1
  go_enter Tryz.func196,Tryz.ntmps196;go_wp2_with fail;refine HFD.mono ?_;rintro en w1 ⟨rfl,c10,l10,HB⟩;go_wp2;go_ret;exact⟨rfl,HB.alloc HB.size _⟩
 ·obtain⟨o,ho,hid'⟩:=Eng.find_some hf;by_cases hs:o.status=1
  ·have hL:=zHj inv ho hs hid';have HFD:Hid (Cl 154 #[.pointer (some (iA b 8)),iV id] w fun en w1=>en=rV #[iP (g.blk i),.bool true]∧w1.cell? (iA b 10)=some (.map (some g.endM))∧(Instr.lookup 113 (.map (some g.endM)) (iV id) true).run Tryz.prog w1=.ok (.tuple #[.agg #[iV 0,iV 0,iV 0,iV 0,iV 0,iV 0,iV 0],.bool false]) w1∧Hid (Bw w w1)):=by
    refine(zC8 id h63 h inv hH).mono ?_;rintro en w1 ⟨rfl,hsm⟩;have h1:=h.same hsm;refine⟨by rw[hL];rfl,h1.cell 10,zHp id h63 h1 (fun j hj hc=>?_),zBl (Below.refl _ _) hsm⟩;obtain⟨x,q1,q2⟩:=(hH.ended j).1 hj;rw[zAe q1]at hc;have:=inv.ids j i x o q1 ho (hc.trans hid'.symm);subst this;obtain rfl:x=o:=Option.some.inj (q1.symm.trans ho);exact q2 hs
   go_enter Tryz.func196,Tryz.ntmps196;go_wp2_with fail;refine HFD.mono ?_;rintro en w1 ⟨rfl,c10,l10,HB⟩;go_wp2;go_ret;exact⟨rfl,HB.alloc HB.size _⟩
  ·have hL:=(zPb hf ho).trans (if_neg hs);have HFD:Hid (Cl 154 #[.pointer (some (iA b 8)),iV id] w fun en w1=>en=rV #[.pointer none,.bool false]∧w1.cell? (iA b 10)=some (.map (some g.endM))∧(Instr.lookup 113 (.map (some g.endM)) (iV id) true).run Tryz.prog w1=.ok (.tuple #[.agg #[iV o.id,iV o.status,iV o.price,iV o.opn,iV o.filled,iV o.cancelled,iV o.shown],.bool true]) w1∧Hid (Bw w w1)):=by
    refine(zC8 id h63 h inv hH).mono ?_;rintro en w1 ⟨rfl,hsm⟩;have h1:=h.same hsm;exact⟨by rw[hL];rfl,h1.cell 10,zPc id h63 h1 ((hH.ended i).2 ⟨o,ho,hs⟩) ho hid',zBl (Below.refl _ _) hsm⟩
   go_enter Tryz.func196,Tryz.ntmps196;go_wp2_with fail;refine HFD.mono ?_;rintro en w1 ⟨rfl,c10,l10,HB⟩;go_wp2;go_ret;exact⟨rfl,HB.alloc HB.size _⟩
def Look(F:Nat→Prop)(base:Nat)(w:World)(b:Nat)(e:Eng)(g:Gh)(S:Sets)(v:Nat→Int)(wr:World):Prop:=CRep F base wr b e g S∧TA wr w.heap.size v∧Below w.heap.size w wr
theorem Look.below(h:Look F base w b e g S v w1)(hb:Below w1.heap.size w1 w2):Look F base w b e g S v w2:=⟨h.1.below hb,h.2.1.below hb,zAa h.2.2 hb⟩
theorem Look.same(h:Look F base w b e g S v w1)(hb:Same w1 w2):Look F base w b e g S v w2:=⟨h.1.same hb,h.2.1.same hb,zBl h.2.2 hb⟩
theorem zPe(hf:wordsB v=true):e.why v=if(e.find (v 0)).isSome then 2 else if priceB e.mp (v 2) (v 3)=false then 5 else if qtyB e.mq v=false then 6 else if offB e.mp v=false then 7 else if timeB e.now v=false then 8 else if e.mo≤e.alive then 9 else 0:=by
 unfold Eng.why;unfold wordsB at hf;have h1: ¬(v 0=0∨Eng.inn (v 1) 1 2=false∨Eng.inn (v 2) 1 3=false∨Eng.inn (v 7) 1 3=false):=by
  simp only[Bool.and_eq_true,Bool.not_eq_true',beq_eq_false_iff_ne]at hf;rintro(hc|hc|hc|hc)
  ·exact hf.1.1.1 hc
  ·rw[hf.1.1.2]at hc;cases hc
  ·rw[hf.1.2]at hc;cases hc
  ·rw[hf.2]at hc;cases hc
 rw[if_neg h1];have h2:(Eng.inn (v 4) 1 e.mq=false∨(if v 2=2 then Eng.inn (v 5) 1 (v 4) else v 5 == 0)=false)↔qtyB e.mq v=false:=by
  unfold qtyB;rw[Bool.and_eq_false_iff]
 unfold priceB offB timeB;by_cases hc:qtyB e.mq v=false
 ·simp only[h2,hc,if_true]
 ·simp only[h2,hc,if_false]
theorem zPf(hf:wordsB v=false):e.why v=4:=by
 unfold Eng.why;refine if_pos ?_;unfold wordsB at hf;simp only[Bool.and_eq_false_iff,Bool.not_eq_false',beq_iff_eq]at hf;rcases hf with((hf|hf)|hf)|hf
 ·exact .inl hf
 ·exact .inr (.inl hf)
 ·exact .inr (.inr (.inl hf))
 ·exact .inr (.inr (.inr hf))
end
section
variable {F:Nat→Prop} {base:Nat} {w:World} {b i:Nat} {e:Eng} {g:Gh} {S:Sets} {o:Ord} {v:Nat→Int}
theorem zPg(h:CRep F base w b e g S)(inv:Eng.EInv e)(hH:Holds e S [] [])(hv:0≤v 0∧v 0<4294967296)(hl:e.all.length≤100000000):
 Cl 150 #[iP b,termsV v] w fun en w'=>en=.returned (iV (e.why v))∧Below w.heap.size w w':=by
 have h63:=zA0 hv.1 (by omega);have HL0:Hid (Look F base w b e g S v (w.alloc (.cells (termsC v) 100))):=⟨h.alloc _,TA.new w v _,(Below.refl w.heap.size w).alloc (Nat.le_refl _) _⟩;have HWD:Hid (∀W,Look F base w b e g S v W→Cl 195 #[termsV v] W fun en w'=>en=.returned (.bool (wordsB v))∧Hid (Look F base w b e g S v w')):=fun W hW=>(zN).mono fun en w' ⟨h1,h2⟩=>⟨h1,hW.below h2⟩
 have HWA:Hid (∀W,Look F base w b e g S v W→Cl 196 #[iP b,iV (v 0)] W fun en w'=>en=.returned (.bool (e.find (v 0)).isSome)∧Hid (Look F base w b e g S v w')):=fun W hW=>(zPd (v 0) h63 hW.1 inv hH).mono fun en w' ⟨h1,h2⟩=>⟨h1,hW.below h2⟩
 have HPR:Hid (∀W,Look F base w b e g S v W→Cl 197 #[iP b,iV (v 2),iV (v 3)] W fun en w'=>en=.returned (.bool (priceB e.mp (v 2) (v 3)))∧Hid (Look F base w b e g S v w')):=fun W hW=>(zHd (v 2) (v 3) hW.1).mono fun en w' ⟨h1,h2⟩=>⟨h1,hW.same h2⟩
 have HQT:Hid (∀W,Look F base w b e g S v W→Cl 198 #[iP b,termsV v] W fun en w'=>en=.returned (.bool (qtyB e.mq v))∧Hid (Look F base w b e g S v w')):=fun W hW=>(zN0 hW.1).mono fun en w' ⟨h1,h2⟩=>⟨h1,hW.below h2⟩
 have HOF:Hid (∀W,Look F base w b e g S v W→Cl 199 #[iP b,termsV v] W fun en w'=>en=.returned (.bool (offB e.mp v))∧Hid (Look F base w b e g S v w')):=fun W hW=>(zN1 hW.1 ⟨inv.mp0,inv.mp1⟩).mono fun en w' ⟨h1,h2⟩=>⟨h1,hW.below h2⟩
 have HTM:Hid (∀W,Look F base w b e g S v W→Cl 200 #[iP b,termsV v] W fun en w'=>en=.returned (.bool (timeB e.now v))∧Hid (Look F base w b e g S v w')):=fun W hW=>(zN2 hW.1).mono fun en w' ⟨h1,h2⟩=>⟨h1,hW.below h2⟩
 have hal:=hH.alive h.nodups.1 h.nodups.2.1;have hsm:=h.small hH;have HCN:Hid (∀W,Look F base w b e g S v W→Cl 151 #[.pointer (some (iA b 8))] W fun en w'=>en=.returned (iV (e.alive:Int))∧cI w' b 0 e.mo∧Hid (Look F base w b e g S v w')):=fun W hW=>(zH1 hW.1 (by have:=hsm.day;have:=hsm.oth;omega)).mono fun en w' ⟨h1,h2⟩=>⟨by rw[h1,hal],(hW.same h2).1.cell 0,hW.same h2⟩
 unfold termsV at *;unfold termsC at HL0;cases q0:wordsB v
 ·have HR:=hid (zPf (e:=e) q0);simp only[q0]at HWD;go_enter Tryz.func150,Tryz.ntmps150;go_wp2_with fail;refine(HWD _ HL0).mono ?_;rintro en w1 ⟨rfl,HL1⟩;go_wp2;go_ret;exact⟨by rw[HR.out];rfl,HL1.2.2⟩
 have HWY:=hid (zPe (e:=e) q0);simp only[q0]at HWD;go_enter Tryz.func150,Tryz.ntmps150;go_wp2_with fail;refine(HWD _ HL0).mono ?_;rintro en w1 ⟨rfl,HL1⟩;have r0:cI w1 w.heap.size 0 (v 0):=HL1.2.1.cell 0;go_wp2_with fail;refine(HWA _ HL1).mono ?_;rintro en w2 ⟨rfl,HL2⟩;cases q1:(e.find (v 0)).isSome
 case true=>
  have HR:Hid (e.why v=2):=by show _=_;rw[HWY.out,q1];rfl
  go_wp2;go_ret;exact⟨by rw[HR.out];rfl,HL2.2.2⟩
 have r2:cI w2 w.heap.size 2 (v 2):=HL2.2.1.cell 2;have r3:cI w2 w.heap.size 3 (v 3):=HL2.2.1.cell 3;go_wp2_with fail;refine(HPR _ HL2).mono ?_;rintro en w3 ⟨rfl,HL3⟩;cases q2:priceB e.mp (v 2) (v 3)
 case false=>
  have HR:Hid (e.why v=5):=by show _=_;rw[HWY.out,q1,q2];rfl
  go_wp2;go_ret;exact⟨by rw[HR.out];rfl,HL3.2.2⟩
 have s0:cI w3 w.heap.size 0 (v 0):=HL3.2.1.cell 0;have s1:cI w3 w.heap.size 1 (v 1):=HL3.2.1.cell 1;have s2:cI w3 w.heap.size 2 (v 2):=HL3.2.1.cell 2;have s3:cI w3 w.heap.size 3 (v 3):=HL3.2.1.cell 3;have s4:cI w3 w.heap.size 4 (v 4):=HL3.2.1.cell 4;have s5:cI w3 w.heap.size 5 (v 5):=HL3.2.1.cell 5;have s6:cI w3 w.heap.size 6 (v 6):=HL3.2.1.cell 6;have s7:cI w3 w.heap.size 7 (v 7):=HL3.2.1.cell 7;have s8:cI w3 w.heap.size 8 (v 8):=HL3.2.1.cell 8;go_wp2_with fail;refine(HQT _ HL3).mono ?_;rintro en w4 ⟨rfl,HL4⟩;cases q3:qtyB e.mq v
 case false=>
  have HR:Hid (e.why v=6):=by show _=_;rw[HWY.out,q1,q2,q3];rfl
  go_wp2;go_ret;exact⟨by rw[HR.out];rfl,HL4.2.2⟩
 have s0:cI w4 w.heap.size 0 (v 0):=HL4.2.1.cell 0;have s1:cI w4 w.heap.size 1 (v 1):=HL4.2.1.cell 1;have s2:cI w4 w.heap.size 2 (v 2):=HL4.2.1.cell 2;have s3:cI w4 w.heap.size 3 (v 3):=HL4.2.1.cell 3;have s4:cI w4 w.heap.size 4 (v 4):=HL4.2.1.cell 4;have s5:cI w4 w.heap.size 5 (v 5):=HL4.2.1.cell 5;have s6:cI w4 w.heap.size 6 (v 6):=HL4.2.1.cell 6;have s7:cI w4 w.heap.size 7 (v 7):=HL4.2.1.cell 7;have s8:cI w4 w.heap.size 8 (v 8):=HL4.2.1.cell 8;go_wp2_with fail;refine(HOF _ HL4).mono ?_;rintro en w5 ⟨rfl,HL5⟩;cases q4:offB e.mp v
 case false=>
  have HR:Hid (e.why v=7):=by show _=_;rw[HWY.out,q1,q2,q3,q4];rfl
  go_wp2;go_ret;exact⟨by rw[HR.out];rfl,HL5.2.2⟩
 have s0:cI w5 w.heap.size 0 (v 0):=HL5.2.1.cell 0;have s1:cI w5 w.heap.size 1 (v 1):=HL5.2.1.cell 1;have s2:cI w5 w.heap.size 2 (v 2):=HL5.2.1.cell 2;have s3:cI w5 w.heap.size 3 (v 3):=HL5.2.1.cell 3;have s4:cI w5 w.heap.size 4 (v 4):=HL5.2.1.cell 4;have s5:cI w5 w.heap.size 5 (v 5):=HL5.2.1.cell 5;have s6:cI w5 w.heap.size 6 (v 6):=HL5.2.1.cell 6;have s7:cI w5 w.heap.size 7 (v 7):=HL5.2.1.cell 7;have s8:cI w5 w.heap.size 8 (v 8):=HL5.2.1.cell 8;go_wp2_with fail;refine(HTM _ HL5).mono ?_;rintro en w6 ⟨rfl,HL6⟩;cases q5:timeB e.now v
 case false=>
  have HR:Hid (e.why v=8):=by show _=_;rw[HWY.out,q1,q2,q3,q4,q5];rfl
  go_wp2;go_ret;exact⟨by rw[HR.out];rfl,HL6.2.2⟩
 have c0:cI w6 b 0 e.mo:=HL6.1.cell 0;go_wp2_with fail;go_region_held3(fun X=>X.cell? (iA b 0)=sI e.mo) (first|exact c0|exact c0') ((go_at_call 151;refine(HCN _ (HL6.same (Same.refl _).drew)).mono ?_;rintro en w7 ⟨rfl,c0',HL7⟩));by_cases q6:e.mo≤(e.alive:Int)
 ·have HR:Hid (e.why v=9):=by show _=_;rw[HWY.out,q1,q2,q3,q4,q5];simp[q6]
  go_wp2;go_ret;exact⟨by rw[HR.out];rfl,HL7.2.2⟩
 ·have HR:Hid (e.why v=0):=by show _=_;rw[HWY.out,q1,q2,q3,q4,q5];simp[q6]
  go_wp2;go_ret;exact⟨by rw[HR.out];rfl,HL7.2.2⟩
end
end
end Go.Proofs.YtanfmhonjpjpoaaGreatDoor
