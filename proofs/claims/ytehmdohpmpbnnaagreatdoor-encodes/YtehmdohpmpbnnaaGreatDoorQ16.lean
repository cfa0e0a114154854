import Derived.Test.YtehmdohpmpbnnaaGreatDoorQ00
import Derived.Test.YtehmdohpmpbnnaaGreatDoorQ12
import Derived.Test.YtehmdohpmpbnnaaGreatDoorQ14
set_option linter.all false
set_option maxRecDepth 100000
set_option maxHeartbeats 8000000
namespace Go.Proofs.YtehmdohpmpbnnaaGreatDoor
variable{i:Nat}{o:Ord}
open Go.Proofs.Tryz
open Go.Extern Go.RowKit
def bf.dF(e:bf)(i k:Nat)(o r:Ord):bf:=(e.upd i fun _=>bf.kg o r).upd k fun _=>bf.jb o r
theorem aM(x:Int)(h0: -9223372036854775808≤x)(h1:x≤9223372036854775807):IntKind.i64.wrap x=x:=by
 rw[IntKind.wrap_i64];omega
theorem zFa{F:Nat→Prop}{base:Nat}{w:World}{b:Nat}{e:bf}{dv:Value}{g cap:Nat}(i k:Nat)(o r:Ord)(h:dn F base w b e dv (sL g e.all.length cap))(hI:bf.fe e)(ho:e.all[i]? =some o)(hk:e.all[k]? =some r)(hne:i≠k)(hos:o.dm=1)(hsh:o.bg=0)(hop:0<o.opn)(hrs:r.bg≠0)(hrst:r.dm=1)(hr:Room 2 e)
 (hv0:0≤e.gq) (hv1:e.gq≤1000000000000) (hw0:0≤e.worth) (hw1:e.worth≤1000000000000000000) (hd:e.gz.length≤1000000000) (hx:∀x∈e.gz,-9223372036854775808≤x∧x≤9223372036854775807):
 Cl 180 #[iP b,iV i,iV k] w fun en w'=>en=rV #[]∧dn F base w' b (e.sw i k) dv (sL g e.all.length cap)∧Touch F w w':=by
 have hi:i<e.all.length:=(List.getElem?_eq_some_iff.1 ho).1;have As:k<e.all.length:=(List.getElem?_eq_some_iff.1 hk).1;have Ar:(i:Int)<(e.all.length:Int):=by omega
 have At:(k:Int)<(e.all.length:Int):=by omega
 have Au:=hr.len;obtain⟨s,Z,Aq,_⟩:=h.jc;have u:=hI.ok i o ho;have B:=hI.ok k r hk;obtain⟨q1,v,q3⟩:=bf.vM B hop hrs;have c5:w.cell? (iA b 5)=some (sL g e.all.length cap):=h.cell 5;have Av:=s.cell i 10 o _ ho rfl;have Aw:=s.cell i 11 o _ ho rfl;have Ax:=s.cell k 10 r _ hk rfl;have Ay:=s.cell k 11 r _ hk rfl;have Az:=s.cell k 13 r _ hk rfl;have f1:=s.dz (i*15+10);have f2:=s.dz (i*15+11);have f3:=s.dz (k*15+10);have f4:=s.dz (k*15+11);have f5:=s.dz (k*15+13);have b1:=u.fH;have b2:=u.fJ;have b3:=u.sum;have b4:=u.jN;have b5:=B.fH;have b6:=B.fJ;have b7:=B.sum;have b8:=B.jN;have b9:=B.kJ;have Ap:=B.dN;have HR:=hid h;have e1:o.opn+o.bu≤1000:=by omega
 have e2:r.opn+r.bu≤1000:=by omega
 have HQ:Hd (bf.gy o r=if r.bg<o.opn then r.bg else o.opn):=rfl;generalize hq:bf.gy o r=q at *;go_enter func180,ntmps180;by_cases hc:r.bg<o.opn
 ·have A6:q=r.bg:=by rw[HQ.o,if_pos hc]
  subst A6;go_wp2_with fail;have H:Hd (dn F base (((((w.setCell (iA g (i*15+10)) (iV (o.opn - r.bg))).setCell (iA g (i*15+11)) (iV (o.bu+r.bg))).setCell (iA g (k*15+10)) (iV (r.opn - r.bg))).setCell (iA g (k*15+11)) (iV (r.bu+r.bg))).setCell (iA g (k*15+13)) (iV 0)) b (e.dF i k o r) dv (sL g e.all.length cap)):=by
   have h1:=HR.bB i 10 (o.opn - r.bg) o { o with opn:=o.opn - r.bg } ho rfl (by omega);have h2:=h1.bB i 11 (o.bu+r.bg) _ (bf.kg o r) (bf.nu _ _ _ _ ho) (by unfold bf.kg;rw[hq];rfl) (by omega);rw[bf.jD]at h2;have C:(e.upd i fun _=>bf.kg o r).all[k]? =some r:=by rw[bf.upd_ne _ _ _ _ hne];exact hk
   have h3:=h2.bB k 10 (r.opn - r.bg) r { r with opn:=r.opn - r.bg } C rfl (by omega);have h4:=h3.bB k 11 (r.bu+r.bg) _ { r with opn:=r.opn - r.bg,bu:=r.bu+r.bg } (bf.nu _ _ _ _ C) rfl (by omega);rw[bf.jD]at h4;have h5:=h4.bB k 13 (r.bg - r.bg) _ (bf.jb o r) (bf.nu _ _ _ _ C) (by unfold bf.jb;rw[hq];rfl) (by omega);rw[bf.jD]at h5;simp only[Int.sub_self]at h5;exact h5
  have A1:Hd (Touch F w (((((w.setCell (iA g (i*15+10)) (iV (o.opn - r.bg))).setCell (iA g (i*15+11)) (iV (o.bu+r.bg))).setCell (iA g (k*15+10)) (iV (r.opn - r.bg))).setCell (iA g (k*15+11)) (iV (r.bu+r.bg))).setCell (iA g (k*15+13)) (iV 0))):=(((((Touch.refl F w).set g _ _ Z).set g _ _ Z).set g _ _ Z).set g _ _ Z).set g _ _ Z;generalize (((((w.setCell (iA g (i*15+10)) (iV (o.opn - r.bg))).setCell (iA g (i*15+11)) (iV (o.bu+r.bg))).setCell (iA g (k*15+10)) (iV (r.opn - r.bg))).setCell (iA g (k*15+11)) (iV (r.bu+r.bg))).setCell (iA g (k*15+13)) (iV 0))=W1 at *;have A5:Hd ((e.dF i k o r).all[i]? =some (bf.kg o r)):=by
   show(((e.upd i fun _=>bf.kg o r).upd k fun _=>bf.jb o r).all[i]?)=_;rw[bf.upd_ne _ _ _ _ (fun e=>hne e.symm)];exact bf.nu _ _ _ _ ho
  have C:Hd ((e.dF i k o r).all[k]? =some (bf.jb o r)):=by
   show(((e.upd i fun _=>bf.kg o r).upd k fun _=>bf.jb o r).all[k]?)=_;exact bf.nu _ _ _ r (by rw[bf.upd_ne _ _ _ _ hne];exact hk)
  have Ae:cI W1 b 11 e.worth:=H.cell 11;have Ag:=H.dz 11;have r9:cI W1 g (k*15+9) r.bn:=by have q:=H.jc.1.cell k 9 _ _ C.out rfl;exact q
  have m0:0≤r.bg*r.bn:=Int.mul_nonneg (by omega) B.lM;have m1:r.bg*r.bn≤1000000000:=by
   have p1:=B.gY;have p2:=hI.oN;have:r.bg*r.bn≤r.bg*1000000:=Int.mul_le_mul_of_nonneg_left (by omega) (by omega);omega
  apply merge
  ·intro hh;go_region_law(fail);all_goals exact hh
  rw[aM (r.bg*r.bn) (by omega) (by omega),aM (e.worth+r.bg*r.bn) (by omega) (by omega)];have I:Hd (dn F base (W1.setCell (iA b 11) (iV (e.worth+r.bg*r.bn))).drew b { e.dF i k o r with worth:=e.worth+r.bg*r.bn } dv (sL g e.all.length cap)):=(H.set 11 (iV (e.worth+r.bg*r.bn)) { e.dF i k o r with worth:=e.worth+r.bg*r.bn } rfl rfl rfl).drew;have A2:Hd (Touch F w (W1.setCell (iA b 11) (iV (e.worth+r.bg*r.bn))).drew):=(A1.set b _ _ H.own).drew;generalize (W1.setCell (iA b 11) (iV (e.worth+r.bg*r.bn))).drew=W2 at *;have Af:cI W2 b 12 e.gq:=I.cell 12;have Ah:=I.dz 12;have z:Hd (∀(W:World) (E:bf),dn F base W b E dv (sL g e.all.length cap)→E.all=(e.dF i k o r).all→cI W g (i*15) o.id∧cI W g (k*15) r.id∧cI W g (k*15+9) r.bn):=fun W E hW hE=>by
   have a0:=hW.jc.1.cell0 i _ (by rw[hE];exact A5.out);have a1:=hW.jc.1.cell0 k _ (by rw[hE];exact C.out);have a2:=hW.jc.1.cell k 9 _ _ (by rw[hE];exact C.out) rfl;exact⟨a0,a1,a2⟩
  obtain⟨s0,s1,s2⟩:=z W2 _ I rfl;go_wp2_with fail;have c:Hd (dn F base (W2.setCell (iA b 12) (iV (e.gq+r.bg))) b { e.dF i k o r with worth:=e.worth+r.bg*r.bn,gq:=e.gq+r.bg } dv (sL g e.all.length cap)):=I.set 12 (iV (e.gq+r.bg)) { e.dF i k o r with worth:=e.worth+r.bg*r.bn,gq:=e.gq+r.bg } rfl rfl rfl;have A3:Hd (Touch F w (W2.setCell (iA b 12) (iV (e.gq+r.bg)))):=A2.set b _ _ I.own;generalize W2.setCell (iA b 12) (iV (e.gq+r.bg))=W3 at *
  have y:=hid (vk c.o A3 3 o.id r.id r.bn r.bg 0 ⟨by have:=hr.seq;show e.seq+1≤_;omega,by have:=hr.qC;show e.dh+1≤_;omega,by have:=hr.out;show e.out.length+22*1≤_;omega,by show(((e.upd i fun _=>bf.kg o r).upd k fun _=>bf.jb o r).all.length)≤_;rw[bf.kz,bf.kz];exact hr.len,by have:=hr.fD;show e.drawn+1≤_;omega⟩ (n63 3 (by omega) (by omega)) (n63 o.id (by have:=u.nC;omega) (by have:=u.nD;omega)) (n63 r.id (by have:=B.nC;omega) (by have:=B.nD;omega)) (n63 r.bn B.lM (by have:=B.gY;have:=hI.oN;omega)) (n63 r.bg (by omega) (by omega)) (n63 0 (by omega) (by omega)));obtain⟨s0,s1,s2⟩:=z W3 _ c rfl;go_region_held3(fun X=>X.cell? (iA g (i*15))=sI o.id∧X.cell? (iA g (k*15))=sI r.id∧X.cell? (iA g (k*15+9))=sI r.bn) (first|exact⟨s0,s1,s2⟩|exact z _ _ j rfl) ((go_at_call 106;refine(y W3.drew rfl rfl rfl rfl).mono ?_;rintro en w' ⟨rfl,j,A8⟩))
  have D:Hd (dn F base w' b (e.dx i k o r) dv (sL g e.all.length cap)):=by
   have e3:e.dx i k o r=({ e.dF i k o r with worth:=e.worth+r.bg*r.bn,gq:=e.gq+r.bg }:bf).tell 3 o.id r.id r.bn r.bg 0:=by
    unfold bf.dx;rw[hq];rfl
   rw[e3];exact j
  have V:Hd (Touch F w w'):=A8;have A:Hd ((e.dx i k o r).all[k]? =some (bf.jb o r)):=by show _=_;rw[bf.cK,if_pos rfl,hk];rfl
  have Ai:Hd (bf.fe (e.dx i k o r)):=hI.dx i k o r ho hk hne hos hsh hop hrs;have K:Hd ((e.dx i k o r).all.length=e.all.length):=bf.gD _ _ _ _ _;have G:Hd (Room 1 (e.dx i k o r)):=by
   have hg:=bf.jv.dx (e:=e) i k o r (by omega) (B.shp (by omega)) (by have:=B.gY;have:=hI.oN;omega);exact(hr.qY hg K.out (by omega)).mono (by omega)
  have HE:Hd (e.sw i k=(e.dx i k o r).rq k (bf.jb o r)):=bf.gZ e i k o r ho hk hne;have M:(bf.jb o r).opn=r.opn - r.bg:=by unfold bf.jb;rw[hq]
  have Y:(bf.jb o r).bg=r.bg - r.bg:=by unfold bf.jb;rw[hq]
  have t4:(bf.jb o r).jw=r.jw:=rfl;have Ab:cI w' g (k*15+10) (r.opn - r.bg):=by have q:=D.jc.1.cell k 10 _ _ A.out rfl;rw[M]at q;exact q
  have Ac:cI w' g (k*15+13) 0:=by have q:=D.jc.1.cell k 13 _ _ A.out rfl;rw[Y,Int.sub_self]at q;exact q
  have a8:cI w' g (k*15+8) r.dm:=by have q:=D.jc.1.cell k 8 _ _ A.out rfl;exact q
  have g8:=D.jc.1.dz (k*15+8);cases hz:(r.opn - r.bg == 0)
  ·have L:r.opn - r.bg≠0:=by simpa using hz
   by_cases hy:r.bg - r.bg≠0
   ·exact absurd (Int.sub_self _) hy
   have l:r.bg - r.bg=0:=Int.sub_self _;have ht:r.typ=2:=Classical.byContradiction fun hn=>L (by rcases B.whole hn with h1|h1<;>omega)
   have An:=B.jw ht;have HD:=hid (zC0 D G.out hd hx);go_wp2_with fail;refine HD.mono ?_;rintro en t ⟨rfl,A7,A9⟩;have J:=hid A7;have f:Hd (Touch F w t):=V.trans A9;have Aj:0≤(e.dx i k o r).draw.1∧(e.dx i k o r).draw.1<4294967296:=by
    show 0≤(if e.gz.length=0 then 0 else(e.gz.getD (e.drawn % e.gz.length) 0) % 4294967296)∧(if e.gz.length=0 then 0 else(e.gz.getD (e.drawn % e.gz.length) 0) % 4294967296)<4294967296;split<;>omega
   have Aa:cI t g (k*15+10) (r.opn - r.bg):=by have q:=J.jc.1.cell k 10 _ _ A.out rfl;rw[M]at q;exact q
   have Ad:cI t g (k*15+4) r.jw:=by have q:=J.jc.1.cell k 4 _ _ A.out rfl;exact q
   have A0:=fun n hn=>hid (fC (w:=t) (F:=F) (base:=base) (b:=b) (e:=(e.dx i k o r).draw.2) (dv:=dv) (g:=g) (cap:=cap) k n (bf.jb o r) (by have q:=J;exact K.out▸q) A.out (by show(e.dx i k o r).all.length≤_;rw[K.out];omega) (by have:=G.out.seq;show(e.dx i k o r).seq<_;omega) (by have:=G.out.qC;show(e.dx i k o r).dh<_;omega) (by have:=G.out.out;show(e.dx i k o r).out.length≤_;omega) (n63 _ (by have:=B.nC;show 0≤r.id;omega) (by have:=B.nD;show r.id≤_;omega)) (n63 _ B.lM (by have:=B.gY;have:=hI.oN;show r.bn≤_;omega)) hn)
   have O:Hd (e.sw i k=(e.dx i k o r).draw.2.lay k (if r.opn - r.bg<1+(e.dx i k o r).draw.1 % r.jw then r.opn - r.bg else 1+(e.dx i k o r).draw.1 % r.jw)):=by
    show _=_;rw[HE.o];unfold bf.rq;rw[M,Y,if_neg L,if_pos l];rfl
   have N:=hid A0;generalize (e.dx i k o r).draw.1=d at *;have Ao:Int.tmod d r.jw=d % r.jw:=Int.tmod_eq_emod_of_nonneg (by omega);have Am:(r.jw == 0)=false:=by simp;omega
   have Ak:=Int.emod_nonneg d (b:=r.jw) (by omega);have Al:=Int.emod_lt_of_pos d (b:=r.jw) (by omega);generalize d % r.jw=m at *;by_cases A4:r.opn - r.bg<1+m
   ·go_wp2_with fail;refine(N (r.opn - r.bg) ⟨by omega,by omega⟩).out.mono ?_;rintro en p ⟨rfl,T,U⟩;rw[if_pos A4]at O;have R:Hd (dn F base p b (e.sw i k) dv (sL g e.all.length cap)):=by
     have q:=T;rw[←O.o]at q;have v:(e.dx i k o r).draw.2.all.length=e.all.length:=K.out;rw[v]at q;exact q
    have S:Hd (Touch F w p):=f.trans U;go_wp2;go_end0;exact⟨rfl,R,S⟩
   go_wp2_with fail;refine(N (1+m) ⟨by omega,by omega⟩).out.mono ?_;rintro en p ⟨rfl,T,U⟩;rw[if_neg (by omega)]at O;have R:Hd (dn F base p b (e.sw i k) dv (sL g e.all.length cap)):=by
    have q:=T;rw[←O.o]at q;have v:(e.dx i k o r).draw.2.all.length=e.all.length:=K.out;rw[v]at q;exact q
   have S:Hd (Touch F w p):=f.trans U;go_wp2;go_end0;exact⟨rfl,R,S⟩
  have L:r.opn - r.bg=0:=by simpa using hz
  have O:Hd (e.sw i k=(e.dx i k o r).upd k fun _=>{ bf.jb o r with dm:=2 }):=by
   show _=_;rw[HE.o];unfold bf.rq;rw[M,if_pos L];exact bf.nk _ k _ _ (fun x hx=>by obtain rfl:bf.jb o r=x:=Option.some.inj (A.out.symm.trans hx);rfl)
  have J:Hd (dn F base (w'.setCell (iA g (k*15+8)) (iV 2)) b ((e.dx i k o r).upd k fun _=>{ bf.jb o r with dm:=2 }) dv (sL g e.all.length cap)):=D.bB k 8 2 _ _ A.out rfl (by omega);go_wp2;go_end0;exact⟨rfl,O.o▸J.o,V.set g _ _ Z⟩
 have A6:q=o.opn:=by rw[HQ.o,if_neg hc]
 subst A6;go_wp2_with fail;have H:Hd (dn F base (((((w.setCell (iA g (i*15+10)) (iV 0)).setCell (iA g (i*15+11)) (iV (o.bu+o.opn))).setCell (iA g (k*15+10)) (iV (r.opn - o.opn))).setCell (iA g (k*15+11)) (iV (r.bu+o.opn))).setCell (iA g (k*15+13)) (iV (r.bg - o.opn))) b (e.dF i k o r) dv (sL g e.all.length cap)):=by
  have h1:=HR.bB i 10 (o.opn - o.opn) o { o with opn:=o.opn - o.opn } ho rfl (by omega);have h2:=h1.bB i 11 (o.bu+o.opn) _ (bf.kg o r) (bf.nu _ _ _ _ ho) (by unfold bf.kg;rw[hq];rfl) (by omega);rw[bf.jD]at h2;have C:(e.upd i fun _=>bf.kg o r).all[k]? =some r:=by rw[bf.upd_ne _ _ _ _ hne];exact hk
  have h3:=h2.bB k 10 (r.opn - o.opn) r { r with opn:=r.opn - o.opn } C rfl (by omega);have h4:=h3.bB k 11 (r.bu+o.opn) _ { r with opn:=r.opn - o.opn,bu:=r.bu+o.opn } (bf.nu _ _ _ _ C) rfl (by omega);rw[bf.jD]at h4;have h5:=h4.bB k 13 (r.bg - o.opn) _ (bf.jb o r) (bf.nu _ _ _ _ C) (by unfold bf.jb;rw[hq];rfl) (by omega);rw[bf.jD]at h5;simp only[Int.sub_self]at h5;exact h5
 have A1:Hd (Touch F w (((((w.setCell (iA g (i*15+10)) (iV 0)).setCell (iA g (i*15+11)) (iV (o.bu+o.opn))).setCell (iA g (k*15+10)) (iV (r.opn - o.opn))).setCell (iA g (k*15+11)) (iV (r.bu+o.opn))).setCell (iA g (k*15+13)) (iV (r.bg - o.opn)))):=(((((Touch.refl F w).set g _ _ Z).set g _ _ Z).set g _ _ Z).set g _ _ Z).set g _ _ Z;generalize (((((w.setCell (iA g (i*15+10)) (iV 0)).setCell (iA g (i*15+11)) (iV (o.bu+o.opn))).setCell (iA g (k*15+10)) (iV (r.opn - o.opn))).setCell (iA g (k*15+11)) (iV (r.bu+o.opn))).setCell (iA g (k*15+13)) (iV (r.bg - o.opn)))=W1 at *;have A5:Hd ((e.dF i k o r).all[i]? =some (bf.kg o r)):=by
  show(((e.upd i fun _=>bf.kg o r).upd k fun _=>bf.jb o r).all[i]?)=_;rw[bf.upd_ne _ _ _ _ (fun e=>hne e.symm)];exact bf.nu _ _ _ _ ho
 have C:Hd ((e.dF i k o r).all[k]? =some (bf.jb o r)):=by
  show(((e.upd i fun _=>bf.kg o r).upd k fun _=>bf.jb o r).all[k]?)=_;exact bf.nu _ _ _ r (by rw[bf.upd_ne _ _ _ _ hne];exact hk)
 have Ae:cI W1 b 11 e.worth:=H.cell 11;have Ag:=H.dz 11;have r9:cI W1 g (k*15+9) r.bn:=by have q:=H.jc.1.cell k 9 _ _ C.out rfl;exact q
 have m0:0≤o.opn*r.bn:=Int.mul_nonneg (by omega) B.lM;have m1:o.opn*r.bn≤1000000000:=by
  have p1:=B.gY;have p2:=hI.oN;have:o.opn*r.bn≤o.opn*1000000:=Int.mul_le_mul_of_nonneg_left (by omega) (by omega);omega
 apply merge
 ·intro hh;go_region_law(fail);all_goals exact hh
 rw[aM (o.opn*r.bn) (by omega) (by omega),aM (e.worth+o.opn*r.bn) (by omega) (by omega)];have I:Hd (dn F base (W1.setCell (iA b 11) (iV (e.worth+o.opn*r.bn))).drew b { e.dF i k o r with worth:=e.worth+o.opn*r.bn } dv (sL g e.all.length cap)):=(H.set 11 (iV (e.worth+o.opn*r.bn)) { e.dF i k o r with worth:=e.worth+o.opn*r.bn } rfl rfl rfl).drew;have A2:Hd (Touch F w (W1.setCell (iA b 11) (iV (e.worth+o.opn*r.bn))).drew):=(A1.set b _ _ H.own).drew;generalize (W1.setCell (iA b 11) (iV (e.worth+o.opn*r.bn))).drew=W2 at *;have Af:cI W2 b 12 e.gq:=I.cell 12;have Ah:=I.dz 12;have z:Hd (∀(W:World) (E:bf),dn F base W b E dv (sL g e.all.length cap)→E.all=(e.dF i k o r).all→cI W g (i*15) o.id∧cI W g (k*15) r.id∧cI W g (k*15+9) r.bn):=fun W E hW hE=>by
  have a0:=hW.jc.1.cell0 i _ (by rw[hE];exact A5.out);have a1:=hW.jc.1.cell0 k _ (by rw[hE];exact C.out);have a2:=hW.jc.1.cell k 9 _ _ (by rw[hE];exact C.out) rfl;exact⟨a0,a1,a2⟩
 obtain⟨s0,s1,s2⟩:=z W2 _ I rfl;go_wp2_with fail;have c:Hd (dn F base (W2.setCell (iA b 12) (iV (e.gq+o.opn))) b { e.dF i k o r with worth:=e.worth+o.opn*r.bn,gq:=e.gq+o.opn } dv (sL g e.all.length cap)):=I.set 12 (iV (e.gq+o.opn)) { e.dF i k o r with worth:=e.worth+o.opn*r.bn,gq:=e.gq+o.opn } rfl rfl rfl;have A3:Hd (Touch F w (W2.setCell (iA b 12) (iV (e.gq+o.opn)))):=A2.set b _ _ I.own;generalize W2.setCell (iA b 12) (iV (e.gq+o.opn))=W3 at *
 have y:=hid (vk c.o A3 3 o.id r.id r.bn o.opn 0 ⟨by have:=hr.seq;show e.seq+1≤_;omega,by have:=hr.qC;show e.dh+1≤_;omega,by have:=hr.out;show e.out.length+22*1≤_;omega,by show(((e.upd i fun _=>bf.kg o r).upd k fun _=>bf.jb o r).all.length)≤_;rw[bf.kz,bf.kz];exact hr.len,by have:=hr.fD;show e.drawn+1≤_;omega⟩ (n63 3 (by omega) (by omega)) (n63 o.id (by have:=u.nC;omega) (by have:=u.nD;omega)) (n63 r.id (by have:=B.nC;omega) (by have:=B.nD;omega)) (n63 r.bn B.lM (by have:=B.gY;have:=hI.oN;omega)) (n63 o.opn (by omega) (by omega)) (n63 0 (by omega) (by omega)));obtain⟨s0,s1,s2⟩:=z W3 _ c rfl;go_region_held3(fun X=>X.cell? (iA g (i*15))=sI o.id∧X.cell? (iA g (k*15))=sI r.id∧X.cell? (iA g (k*15+9))=sI r.bn) (first|exact⟨s0,s1,s2⟩|exact z _ _ j rfl) ((go_at_call 106;refine(y W3.drew rfl rfl rfl rfl).mono ?_;rintro en w' ⟨rfl,j,A8⟩))
 have D:Hd (dn F base w' b (e.dx i k o r) dv (sL g e.all.length cap)):=by
  have e3:e.dx i k o r=({ e.dF i k o r with worth:=e.worth+o.opn*r.bn,gq:=e.gq+o.opn }:bf).tell 3 o.id r.id r.bn o.opn 0:=by
   unfold bf.dx;rw[hq];rfl
  rw[e3];exact j
 have V:Hd (Touch F w w'):=A8;have A:Hd ((e.dx i k o r).all[k]? =some (bf.jb o r)):=by show _=_;rw[bf.cK,if_pos rfl,hk];rfl
 have Ai:Hd (bf.fe (e.dx i k o r)):=hI.dx i k o r ho hk hne hos hsh hop hrs;have K:Hd ((e.dx i k o r).all.length=e.all.length):=bf.gD _ _ _ _ _;have G:Hd (Room 1 (e.dx i k o r)):=by
  have hg:=bf.jv.dx (e:=e) i k o r (by omega) (B.shp (by omega)) (by have:=B.gY;have:=hI.oN;omega);exact(hr.qY hg K.out (by omega)).mono (by omega)
 have HE:Hd (e.sw i k=(e.dx i k o r).rq k (bf.jb o r)):=bf.gZ e i k o r ho hk hne;have M:(bf.jb o r).opn=r.opn - o.opn:=by unfold bf.jb;rw[hq]
 have Y:(bf.jb o r).bg=r.bg - o.opn:=by unfold bf.jb;rw[hq]
 have t4:(bf.jb o r).jw=r.jw:=rfl;have Ab:cI w' g (k*15+10) (r.opn - o.opn):=by have q:=D.jc.1.cell k 10 _ _ A.out rfl;rw[M]at q;exact q
 have Ac:cI w' g (k*15+13) (r.bg - o.opn):=by have q:=D.jc.1.cell k 13 _ _ A.out rfl;rw[Y]at q;exact q
 have a8:cI w' g (k*15+8) r.dm:=by have q:=D.jc.1.cell k 8 _ _ A.out rfl;exact q
 have g8:=D.jc.1.dz (k*15+8);cases hz:(r.opn - o.opn == 0)
 ·have L:r.opn - o.opn≠0:=by simpa using hz
  cases hy:(r.bg - o.opn == 0)
  ·have l:r.bg - o.opn≠0:=by simpa using hy
   have O:Hd (e.sw i k=e.dx i k o r):=by
    show _=_;rw[HE.o];unfold bf.rq;rw[M,Y,if_neg L,if_neg l]
   go_wp2;go_end0;exact⟨rfl,O.o▸D.o,V⟩
  have l:r.bg - o.opn=0:=by simpa using hy
  have ht:r.typ=2:=Classical.byContradiction fun hn=>L (by rcases B.whole hn with h1|h1<;>omega)
  have An:=B.jw ht;have HD:=hid (zC0 D G.out hd hx);go_wp2_with fail;refine HD.mono ?_;rintro en t ⟨rfl,A7,A9⟩;have J:=hid A7;have f:Hd (Touch F w t):=V.trans A9;have Aj:0≤(e.dx i k o r).draw.1∧(e.dx i k o r).draw.1<4294967296:=by
   show 0≤(if e.gz.length=0 then 0 else(e.gz.getD (e.drawn % e.gz.length) 0) % 4294967296)∧(if e.gz.length=0 then 0 else(e.gz.getD (e.drawn % e.gz.length) 0) % 4294967296)<4294967296;split<;>omega
  have Aa:cI t g (k*15+10) (r.opn - o.opn):=by have q:=J.jc.1.cell k 10 _ _ A.out rfl;rw[M]at q;exact q
  have Ad:cI t g (k*15+4) r.jw:=by have q:=J.jc.1.cell k 4 _ _ A.out rfl;exact q
  have A0:=fun n hn=>hid (fC (w:=t) (F:=F) (base:=base) (b:=b) (e:=(e.dx i k o r).draw.2) (dv:=dv) (g:=g) (cap:=cap) k n (bf.jb o r) (by have q:=J;exact K.out▸q) A.out (by show(e.dx i k o r).all.length≤_;rw[K.out];omega) (by have:=G.out.seq;show(e.dx i k o r).seq<_;omega) (by have:=G.out.qC;show(e.dx i k o r).dh<_;omega) (by have:=G.out.out;show(e.dx i k o r).out.length≤_;omega) (n63 _ (by have:=B.nC;show 0≤r.id;omega) (by have:=B.nD;show r.id≤_;omega)) (n63 _ B.lM (by have:=B.gY;have:=hI.oN;show r.bn≤_;omega)) hn)
  have O:Hd (e.sw i k=(e.dx i k o r).draw.2.lay k (if r.opn - o.opn<1+(e.dx i k o r).draw.1 % r.jw then r.opn - o.opn else 1+(e.dx i k o r).draw.1 % r.jw)):=by
   show _=_;rw[HE.o];unfold bf.rq;rw[M,Y,if_neg L,if_pos l];rfl
  have N:=hid A0;generalize (e.dx i k o r).draw.1=d at *;have Ao:Int.tmod d r.jw=d % r.jw:=Int.tmod_eq_emod_of_nonneg (by omega);have Am:(r.jw == 0)=false:=by simp;omega
  have Ak:=Int.emod_nonneg d (b:=r.jw) (by omega);have Al:=Int.emod_lt_of_pos d (b:=r.jw) (by omega);generalize d % r.jw=m at *;by_cases A4:r.opn - o.opn<1+m
  ·go_wp2_with fail;refine(N (r.opn - o.opn) ⟨by omega,by omega⟩).out.mono ?_;rintro en p ⟨rfl,T,U⟩;rw[if_pos A4]at O;have R:Hd (dn F base p b (e.sw i k) dv (sL g e.all.length cap)):=by
    have q:=T;rw[←O.o]at q;have v:(e.dx i k o r).draw.2.all.length=e.all.length:=K.out;rw[v]at q;exact q
   have S:Hd (Touch F w p):=f.trans U;go_wp2;go_end0;exact⟨rfl,R,S⟩
  go_wp2_with fail;refine(N (1+m) ⟨by omega,by omega⟩).out.mono ?_;rintro en p ⟨rfl,T,U⟩;rw[if_neg (by omega)]at O;have R:Hd (dn F base p b (e.sw i k) dv (sL g e.all.length cap)):=by
   have q:=T;rw[←O.o]at q;have v:(e.dx i k o r).draw.2.all.length=e.all.length:=K.out;rw[v]at q;exact q
  have S:Hd (Touch F w p):=f.trans U;go_wp2;go_end0;exact⟨rfl,R,S⟩
 have L:r.opn - o.opn=0:=by simpa using hz
 have O:Hd (e.sw i k=(e.dx i k o r).upd k fun _=>{ bf.jb o r with dm:=2 }):=by
  show _=_;rw[HE.o];unfold bf.rq;rw[M,if_pos L];exact bf.nk _ k _ _ (fun x hx=>by obtain rfl:bf.jb o r=x:=Option.some.inj (A.out.symm.trans hx);rfl)
 have J:Hd (dn F base (w'.setCell (iA g (k*15+8)) (iV 2)) b ((e.dx i k o r).upd k fun _=>{ bf.jb o r with dm:=2 }) dv (sL g e.all.length cap)):=D.bB k 8 2 _ _ A.out rfl (by omega);go_wp2;go_end0;exact⟨rfl,O.o▸J.o,V.set g _ _ Z⟩
structure jR(m:Int)(e:bf):Prop where
 v0:0≤e.gq
 v1:e.gq+m≤1000000000000
 w0:0≤e.worth
 w1:e.worth+1000000*m≤1000000000000000000
theorem jR.mono{m m':Int}{e:bf}(h:jR m e)(hm:m'≤m):jR m' e:=⟨h.v0,by have:=h.v1;omega,h.w0,by have:=h.w1;omega⟩
theorem jR.qY{n:Nat}{m k:Int}{e e':bf}(h:jR m e)(hg:bf.jv n k e e'):jR (m - k) e':=by
 have E:=h.v0;have F:=h.v1;have G:=h.w0;have H:=h.w1;have A:=hg.vol0;have B:=hg.vol1;have C:=hg.wor0;have D:=hg.wor1;exact⟨by omega,by omega,by omega,by omega⟩
structure Dr(e:bf):Prop where
 len:e.gz.length≤1000000000
 bd:∀x∈e.gz,-9223372036854775808≤x∧x≤9223372036854775807
theorem Dr.stays{e e':bf}(h:Dr e)(hs:bf.ng e e'):Dr e':=⟨by rw[hs.gz];exact h.len,by rw[hs.gz];exact h.bd⟩
structure bC(e0:bf)(i:Nat)(E:bf)(o:Ord):Prop where
 inv:bf.fe E
 at_:E.all[i]? =some o
 st:o.dm=1
 sh:o.bg=0
 room:Room (2*o.opn.toNat+1) E
 sums:jR o.opn E
 dr:Dr E
 len:E.all.length=e0.all.length
 fuel:∃f:Nat,o.opn≤(f:Int)∧bf.qg f E i=bf.qg (e0.nH i).toNat e0 i
theorem bC.start{e:bf}(h:bf.fe e)(ho:e.all[i]? =some o)(hs:o.dm=1)(hsh:o.bg=0)(hr:Room 2001 e)(hsu:jR 1000 e)(hd:Dr e):bC e i e o:=by
 have k:=h.ok i o ho;have:=k.sum;have:=k.fJ;have:=k.jN;have:=k.fH;have:=k.dN;refine⟨h,ho,hs,hsh,hr.mono (by omega),hsu.mono (by omega),hd,rfl,⟨o.opn.toNat,by omega,?_⟩⟩;unfold bf.nH;rw[ho]
theorem bC.step{e0 E:bf}{k:Nat}{r:Ord}(h:bC e0 i E o)(hm:E.bH i=some k)(hk:E.all[k]? =some r):bC e0 i (E.sw i k) (bf.kg o r)∧(bf.kg o r).opn<o.opn:=by
 obtain⟨r',M,D,F,G,O,N,L,U,et,R,K,C,T⟩:=bf.bJ h.inv h.at_ h.st h.sh hm;obtain rfl:r'=r:=Option.some.inj (M.symm.trans hk);have I:=bf.trade_grew h.inv h.at_ hk D F G;have H:=et▸(bf.ng.dx E i k o r').trans (bf.ng.rq _ k _);have S:(bf.kg o r').opn=o.opn - bf.gy o r':=rfl;obtain⟨f,J,B⟩:=h.fuel;obtain⟨A,rfl⟩:∃A,f=A +1:=⟨f - 1,by omega⟩;refine⟨⟨R,K,h.st,h.sh,?_,?_,h.dr.stays H,H.len.trans h.len,⟨A,by omega,?_⟩⟩,C⟩
 ·exact(h.room.qY I H.len (by omega)).mono (by omega)
 ·exact(h.sums.qY I).mono (by omega)
 rw[←B];rw[bf.qg,hm]
theorem bC.done{e0 E:bf}(h:bC e0 i E o)(hm:E.bH i=none):e0.zy i=bf.dP E i:=by
 obtain⟨f,B,A⟩:=h.fuel;rw[bf.kK,←A]
 congr 1
 cases f with
 |zero=>rfl
 |succ f=>rw[bf.qg,hm]
def dG(a b c:Int)(ds:List Int):bf:={ mo:=a,mp:=b,mq:=c,gz:=ds,drawn:=0,all:=[],rest:=[],now:=0,seq:=0,dh:=0,out:=[],worth:=0,gq:=0 }
def dV(a b c:Int):Bool:=decide (1≤a) && decide (a≤64) && decide (1≤b) && decide (b≤1000000) && decide (1≤c) && decide (c≤1000)
theorem zFb{a b c:Int}{ds:List Int}(h:dV a b c=true):bf.fe (dG a b c ds):=by
 simp[dV]at h;obtain⟨⟨⟨⟨⟨C,D⟩,E⟩,F⟩,G⟩,H⟩:=h;have B:∀(i:Nat) (o:Ord),(dG a b c ds).all[i]? =some o→False:=fun i o A=>by
  have A:([]:List Ord)[i]? =some o:=A;simp at A
 exact⟨C,D,E,F,G,H,fun i o A=>(B i o A).elim,fun i j x y hx=>(B i x hx).elim,fun i j x y hx=>(B i x hx).elim,by show(0:Int)≤0;omega,by show(0:Int)<4294967296;omega,by show((0:Nat):Int)≤a;omega⟩
theorem zFc(base:Nat)(a b c:Int)(ds:List Int)(dv:Value)(w:World)(hb:base≤w.heap.size)(hd:w.ownsRow base 3 1 dv ds.length (ds.map (iV))):
 Cl 40 #[.agg #[iV a,iV b,iV c],dv] w fun en w'=>(dV a b c=false∧en=rV #[.pointer none,.bool false]∧Below w.heap.size w w')∨(dV a b c=true∧∃nb,en=rV #[iP nb,.bool true]∧w.heap.size≤nb∧dn (fun k=>w.heap.size≤k) base w' nb (dG a b c ds) dv (.slice none 0 0)∧Below w.heap.size w w'):=by
 obtain⟨p,l,cp,rfl⟩:∃p l cp,dv=.slice p l cp:=by
  rcases hd.2 with⟨B,_⟩|⟨g,G,H,B,_⟩
  ·exact⟨_,_,_,B⟩
  exact⟨_,_,_,B⟩
 have E:=hid hd;go_enter func40,ntmps40;cases A:dV a b c
 ·have F:=hid A;by_cases I:a<1∨64<a∨b<1∨1000000<b∨c<1∨1000<c;rotate_left
  ·have:dV a b c=true:=by simp[dV];omega
   rw[A]at this;cases this
  have O:(decide (a<1) || decide (64<a) || decide (b<1) || decide (1000000<b) || decide (c<1) || decide (1000<c))=true:=by
   rcases I with h|h|h|h|h|h<;>simp[h]
  go_wp2;all_goals
   go_ret2;exact⟨rfl,(Below.refl _ _).alloc (Nat.le_refl _) _⟩
 have F:=hid A;simp[dV]at A;obtain⟨⟨⟨⟨⟨B,J⟩,K⟩,L⟩,M⟩,N⟩:=A;go_wp2;go_ret2;have C:Bw w ((w.alloc (.cells #[iV a,iV b,iV c] 110)).alloc (.cells (jC (dG a b c ds) (.slice p l cp) (.slice none 0 0)) 118)):=((Below.refl _ _).alloc (Nat.le_refl _) _).alloc (by simp) _;have D:(w.alloc (.cells #[iV a,iV b,iV c] 110)).heap.size=w.heap.size+1:=by simp
 refine⟨w.heap.size+1,rfl,by omega,⟨?_,by show w.heap.size≤w.heap.size+1;omega,fun k hk=>Nat.le_trans C.size hk,Nat.le_trans hb C.size,(E.alloc _).alloc _,World.ownsRow_nil _ _ _ _,fun q hq=>by cases hq⟩,C⟩;have:=heap_alloc_new (w.alloc (.cells #[iV a,iV b,iV c] 110)) (.cells (jC (dG a b c ds) (.slice p l cp) (.slice none 0 0)) 118);rw[D]at this;exact this
def sgUp(n:Nat):Bool:=decide (2 ^ (n.log2 - 24)<n % 2 ^ (n.log2 - 23)) || (decide (n % 2 ^ (n.log2 - 23)=2 ^ (n.log2 - 24)) && decide (n / 2 ^ (n.log2 - 23) % 2=1))
def jK(n:Nat):Nat:=if n.log2≤23 then n*2 ^ (23 - n.log2) else if sgUp n then(if n / 2 ^ (n.log2 - 23)+1=16777216 then 8388608 else n / 2 ^ (n.log2 - 23)+1) else n / 2 ^ (n.log2 - 23)
def qH(n:Nat):Int:=if n.log2≤23 then(n.log2:Int) - 23 else if sgUp n && decide (n / 2 ^ (n.log2 - 23)+1=16777216) then(n.log2:Int) - 22 else(n.log2:Int) - 23
theorem zFd(n k:Nat)(h0:0<n)(h1:n / 2 ^ k<16777216)(h2:k=0∨16777216≤n / 2 ^ (k - 1)):k=n.log2 - 23:=by
 have B:0<2 ^ k:=Nat.two_pow_pos k;have A:n≠0:=by omega
 have u1:n<2 ^ (24+k):=by
  rw[Nat.pow_add];exact(Nat.div_lt_iff_lt_mul B).1 h1
 have u2:n.log2<24+k:=(Nat.log2_lt A).2 u1;rcases h2 with rfl|h2
 ·omega
 by_cases D:k=0
 ·omega
 have C:2 ^ (24+(k - 1))≤n:=by
  rw[Nat.pow_add];exact(Nat.le_div_iff_mul_le (Nat.two_pow_pos (k - 1))).1 h2
 have E:24+(k - 1)≤n.log2:=(Nat.le_log2 A).2 C;omega
theorem zC1(x k:Nat)(hk:k≤62)(hx:x*2 ^ k<9223372036854775808)(w:World):(binOp .shl 3 (iV (x:Int)) (.int .u64 (k:Int))).run prog w=.ok (iV ((x*2 ^ k:Nat):Int)) w:=by
 have e:min (k:Int).toNat IntKind.i64.bits=k:=by simp[IntKind.bits];omega
 have A:IntKind.i64.wrap ((x:Int)* 2 ^ k)=((x*2 ^ k:Nat):Int):=by
  have:(x:Int)* 2 ^ k=((x*2 ^ k:Nat):Int):=by simp
  rw[this];simp only[IntKind.wrap,IntKind.bits,IntKind.signed];simp;omega
 simp only[binOp_shl,shift_shl_any _ _ _ _ (Int.natCast_nonneg k),e,A];rfl
theorem zP5(x k:Nat)(hk:k≤62)(w:World):(binOp .shr 3 (iV (x:Int)) (.int .u64 (k:Int))).run prog w=.ok (iV ((x / 2 ^ k:Nat):Int)) w:=by
 have e:min (k:Int).toNat IntKind.i64.bits=k:=by simp[IntKind.bits];omega
 have A:(x:Int) / 2 ^ k=((x / 2 ^ k:Nat):Int):=by simp
 simp only[binOp_shr,shift_shr_any _ _ _ _ (Int.natCast_nonneg k),e,A];rfl
theorem toU(k:Nat)(hk:k≤62)(w:World):(convert 3 161 (iV (k:Int))).run prog w=.ok (.int .u64 (k:Int)) w:=by
 have h:(convert 3 161 (iV (k:Int))).run prog w=.ok (.int .u64 (IntKind.u64.wrap (k:Int))) w:=by kernel_rfl
 rw[h];have:IntKind.u64.wrap (k:Int)=(k:Int):=by
  simp only[IntKind.wrap,IntKind.bits,IntKind.signed];simp;omega
 rw[this]
theorem zP6(n k:Nat):((n / 2 ^ k:Nat):Int).tdiv 2=((n / 2 ^ (k+1):Nat):Int):=by
 have A:((n / 2 ^ k:Nat):Int).tdiv 2=((n / 2 ^ k / 2:Nat):Int):=by
  rw[Int.tdiv_eq_ediv_of_nonneg (Int.natCast_nonneg _)];rfl
 rw[A,Nat.div_div_eq_div_mul,←Nat.pow_succ]
def SgI(n k M:Nat):Prop:=M=n / 2 ^ k∧(k=0∨16777216≤n / 2 ^ (k - 1))
theorem wrapU(k:Nat)(hk:k≤62):IntKind.u64.wrap (k:Int)=(k:Int):=by
 simp only[IntKind.wrap,IntKind.bits,IntKind.signed];simp;omega
theorem zFe(n k M:Nat)(h:M=n / 2 ^ k):(n:Int) - ((M*2 ^ k:Nat):Int)=((n % 2 ^ k:Nat):Int):=by
 have:=Nat.div_add_mod n (2 ^ k);rw[Nat.mul_comm,←h]at this;omega
theorem zFf(n k M:Nat)(h:M=n / 2 ^ k):M*2 ^ k≤n:=by rw[h];exact Nat.div_mul_le_self n (2 ^ k)
theorem zC2(n:Nat)(h0:0<n)(h1:n<4611686018427387904)(w:World):
 Cl 77 #[iV (n:Int)] w fun en w'=>en=rV #[iV (jK n:Int),iV (qH n)]∧w'=w:=by
 have A3:n.log2<62:=(Nat.log2_lt (by omega)).2 (by simpa using h1);have HN:=hid h0;have Z:=hid h1;have Am:=hid A3;clear h0 h1 A3;go_enter func77,ntmps77;go_wp2_with fail;go_loopw [4,5] (fun ev mv wr=> ∃k M:Nat,ev=iV k∧mv=iV (M:Int)∧k≤62∧M<4611686018427387904∧Hd (SgI n k M)∧wr=w) (fun _ mv _=>(intOf mv).toNat)
 case atStart=>exact⟨0,n,rfl,rfl,by omega,Z.o,⟨by simp,.inl rfl⟩,rfl⟩
 case round=>
  obtain⟨k,M,rfl,rfl,hk,T,Y,rfl⟩:=hrel;by_cases K:16777216≤M
  ·have Ad:(16777216:Int)≤(M:Int):=by omega
   have Ar:k<62:=by
    have h3:=Y.1;rcases Nat.lt_or_ge k 62 with h|h
    ·exact h
    have Ao:n / 2 ^ 62=0:=Nat.div_eq_of_lt (by simpa using Z.o);have:k=62:=by omega
    subst this;omega
   have L:wrap64 ((k:Int)+1)=(k:Int)+1:=by unfold wrap64;omega
   have Au:(M:Int).tdiv 2=((M / 2:Nat):Int):=by rw[Int.tdiv_eq_ediv_of_nonneg (Int.natCast_nonneg _)];rfl
   have Ay:wrap64 ((M / 2:Nat):Int)=((M / 2:Nat):Int):=by unfold wrap64;omega
   go_wp2;go_roundw
   case rel=>
    refine⟨k+1,M / 2,by go_num,by rfl,by omega,by omega,⟨?_,.inr ?_⟩,by trivial⟩
    ·rw[Y.o.1,Nat.div_div_eq_div_mul,←Nat.pow_succ]
    rw[Nat.add_sub_cancel,←Y.o.1];exact K
   case measure=>simp[intOf];omega
  have Ad:¬(16777216:Int)≤(M:Int):=by omega
  have g:Hd (k=n.log2 - 23):=zFd n k HN.o (by rw[←Y.1];omega) Y.2;obtain⟨v,d⟩:∃v,M*2 ^ k=v:=⟨_,rfl⟩;obtain⟨low,p⟩:∃low,n % 2 ^ k=low:=⟨_,rfl⟩;obtain⟨y1,s⟩:∃y1:Int,y1=(k:Int):=⟨_,rfl⟩;have Ab:v≤n:=by rw[←d];exact zFf n k M Y.1
  have hU:∀W,(convert 3 161 (iV (k:Int))).run prog W=.ok (.int .u64 y1) W:=fun W=>by rw[s];exact toU k hk W
  have hS:∀W,(Op.shift .shl .i64 (M:Int) .u64 y1).run prog W=.ok (iV (v:Int)) W:=fun W=>by rw[s,←d];exact zC1 M k hk (by have:=Z.o;omega) W
  clear s;have Av:wrap64 ((n:Int) - (v:Int))=(low:Int):=by
   have c:=zFe n k M Y.1;rw[d,p]at c;have:=Z.o;rw[c];have h4:n % 2 ^ k≤n:=Nat.mod_le _ _;unfold wrap64;omega
  have A8:=hid p;have An:=hid d;have V:low<4611686018427387904:=by have h4:n % 2 ^ k≤n:=Nat.mod_le _ _;have:=Z.o;omega
  clear d p Ab;by_cases l:k=0
  ·have A7:=hid l;have Ag:¬(0:Int)<(k:Int):=by omega
   have A0:M=n:=by have:=Y.1;rw[l]at this;simpa using this
   have A9:=hid A0;have z:n.log2≤23:=by have:=g.o;omega
   have HL:=hid z;clear l A0 z;go_wp2_with fail;go_loopw [4,5] (fun ev mv wr'=> ∃j N:Nat,ev=iV (-(j:Int))∧mv=iV (N:Int)∧j≤23∧N<16777216∧Hd (N=n*2 ^ j∧j≤23 - n.log2)∧wr'=wr) (fun _ mv _=>16777216 - (intOf mv).toNat)
   case atStart=>exact⟨0,M,by rw[A7.o];rfl,rfl,by omega,by omega,⟨by rw[A9.o];simp,by omega⟩,rfl⟩
   case round=>
    obtain⟨j,N,rfl,rfl,hj,hN,u,rfl⟩:=hrel;have A4:2 ^ (n.log2+j)≤N:=by
     rw[u.o.1,Nat.pow_add];exact Nat.mul_le_mul_right _ (Nat.log2_self_le (by have:=HN.o;omega))
    have A2:N<2 ^ (n.log2+1+j):=by
     rw[u.o.1,Nat.pow_add];exact Nat.mul_lt_mul_of_pos_right Nat.lt_log2_self (Nat.two_pow_pos _)
    have F:=hid A4;have A5:=hid A2;clear A4 A2;by_cases At:N<8388608
    ·have Ah:(N:Int)<8388608:=by omega
     have Aw:wrap64 (2*(N:Int))=((2*N:Nat):Int):=by unfold wrap64;omega
     have Ax:wrap64 (-(j:Int) - 1)= -((j+1:Nat):Int):=by unfold wrap64;omega
     have Al:0<N:=by have h1:=F.o;have c:=Nat.two_pow_pos (n.log2+j);omega
     have Af:j+1≤23 - n.log2:=by
      have h1:2 ^ (n.log2+j)<2 ^ 23:=by have:=F.o;omega
      have c:=(Nat.pow_lt_pow_iff_right (by omega)).1 h1;omega
     go_wp2;go_roundw
     case rel=>
      refine⟨j+1,2*N,by congr 1;omega,by rfl,by omega,by omega,⟨?_,Af⟩,by trivial⟩;rw[u.o.1,Nat.pow_succ,Nat.mul_comm 2,Nat.mul_assoc]
     case measure=>simp[intOf];omega
    have Ah:¬(N:Int)<8388608:=by omega
    have m:Hd (N=jK n∧-(j:Int)=qH n):=by
     have Ae:j=23 - n.log2:=by
      have h1:2 ^ 23<2 ^ (n.log2+1+j):=by have:=A5.o;omega
      have c:=(Nat.pow_lt_pow_iff_right (by omega)).1 h1;have:=u.2;omega
     have z:=HL.o;refine⟨?_,?_⟩
     ·unfold jK;rw[if_pos z,u.o.1,Ae]
     unfold qH;rw[if_pos z];omega
    go_wp2;go_ret2;rw[m.o.1,m.o.2];exact⟨rfl,rfl⟩
  have As:0<k:=by omega
  have Ag:(0:Int)<(k:Int):=by omega
  obtain⟨q,hq⟩:∃q,q=k - 1:=⟨_,rfl⟩;have X:q≤62:=by omega
  obtain⟨H,y⟩:∃H,H=2 ^ q:=⟨_,rfl⟩;have S:H≤2305843009213693952:=by
   rw[y];exact Nat.le_trans (Nat.pow_le_pow_right (by omega) (show q≤61 by omega)) (by decide)
  obtain⟨y2,t⟩:∃y2:Int,y2=(q:Int):=⟨_,rfl⟩;have Aq:∀W,(convert 3 161 (iV ((k:Int) - 1))).run prog W=.ok (.int .u64 y2) W:=fun W=>by rw[t,show(k:Int) - 1=(q:Int) by omega];exact toU q (by omega) W
  have Ap:∀W,(Op.shift .shl .i64 1 .u64 y2).run prog W=.ok (iV (H:Int)) W:=fun W=>by
   have h9:=zC1 1 q (by omega) (by rw[Nat.one_mul,←y];omega) W;rw[Nat.one_mul,←y]at h9;rw[t];exact h9
  clear t;have C:8388608≤M:=by
   have h1:=Y.2.resolve_left (by omega);have c:n / 2 ^ k=n / 2 ^ (k - 1) / 2:=by
    rw[Nat.div_div_eq_div_mul,←Nat.pow_succ]
    congr 2
    omega
   rw[←Y.o.1]at c;omega
  have HQ:Hd (q=n.log2 - 24∧¬n.log2≤23):=by have:=g.o;exact⟨by omega,by omega⟩
  have A6:Hd (H=2 ^ q):=y;have i:Hd (sgUp n=(decide (H<low) || (decide (low=H) && decide (M % 2=1)))):=by
   show _=_;unfold sgUp;rw[←g.o,←HQ.o.1,←A6.o,A8.o,←Y.o.1]
  have Aa:Hd (∀up:Bool,sgUp n=up→jK n=(if up then(if M+1=16777216 then 8388608 else M+1) else M)∧qH n=(if up && decide (M+1=16777216) then(k:Int)+1 else(k:Int))):=fun up hup=>by
   have h1:=HQ.2;have c:=g.o;unfold jK qH;rw[if_neg h1,if_neg h1,hup,←c,←Y.o.1];refine⟨rfl,?_⟩;split<;>omega
  have Aj:(M:Int).tmod 2=((M % 2:Nat):Int):=by rw[Int.tmod_eq_emod_of_nonneg (Int.natCast_nonneg _)];rfl
  clear hq y l;have G:M<16777216:=by omega
  have Ak:wrap64 ((M:Int)+1)=((M+1:Nat):Int):=by unfold wrap64;omega
  have L:wrap64 ((k:Int)+1)=(k:Int)+1:=by unfold wrap64;omega
  have R:Hd (∀(up:Bool) (N:Nat) (x:Int),sgUp n=up→N=(if up then(if M+1=16777216 then 8388608 else M+1) else M)→x=(if up && decide (M+1=16777216) then(k:Int)+1 else(k:Int))→N=jK n∧x=qH n):=fun up N x h1 c h3=>by
   obtain⟨a1,a2⟩:=Aa.o up h1;exact⟨c.trans a1.symm,h3.trans a2.symm⟩
  clear Ak Aj;by_cases I:H<low
  ·have A1:(H:Int)<(low:Int):=by omega
   have D:Hd (sgUp n=true):=by show _=_;rw[i.o,decide_eq_true I];rfl
   clear I;by_cases A:M+1=16777216
   ·have b:Hd (8388608=jK n∧(k:Int)+1=qH n):=R.o true _ _ D.o (by rw[if_pos rfl,if_pos A]) (by rw[Bool.true_and,decide_eq_true A,if_pos rfl]);have f:((M:Int)+1 == 16777216)=true:=by rw[beq_iff_eq];omega
    have HF:=hid A;clear A;clear G C S V T K L X;go_wp2_with fail;go_loopw [4,5] (fun ev mv wr'=> ∃(x:Int) (E:Nat),ev=iV x∧mv=iV (E:Int)∧¬(E:Int)<8388608∧Hd (E=jK n∧x=qH n)∧wr'=wr) (fun _ _ _=>0)
    case atStart=>exact⟨(k:Int)+1,8388608,by first|rfl|(congr 1;omega),by first|rfl|(have:=HF.o;congr 1;omega),by omega,b,rfl⟩
    case round=>
     obtain⟨x,E,rfl,rfl,J,B,rfl⟩:=hrel;go_wp2;go_ret2;rw[←B.o.1,←B.o.2];exact⟨rfl,rfl⟩
   have b:Hd (M+1=jK n∧(k:Int)=qH n):=R.o true _ _ D.o (by rw[if_pos rfl,if_neg A]) (by rw[Bool.true_and,decide_eq_false A];rfl);have f:((M:Int)+1 == 16777216)=false:=by rw[beq_eq_false_iff_ne];omega
   have F:Hd (8388608≤M):=C;clear A;clear G C S V T K L X;go_wp2_with fail;go_loopw [4,5] (fun ev mv wr'=> ∃(x:Int) (E:Nat),ev=iV x∧mv=iV (E:Int)∧¬(E:Int)<8388608∧Hd (E=jK n∧x=qH n)∧wr'=wr) (fun _ _ _=>0)
   case atStart=>exact⟨(k:Int),M+1,by first|rfl|(congr 1;omega),by first|rfl|(congr 1;omega),by have:=F.o;omega,b,rfl⟩
   case round=>
    obtain⟨x,E,rfl,rfl,J,B,rfl⟩:=hrel;go_wp2;go_ret2;rw[←B.o.1,←B.o.2];exact⟨rfl,rfl⟩
  have A1:¬(H:Int)<(low:Int):=by omega
  by_cases U:low=H
  ·have Ac:(low:Int)=(H:Int):=by omega
   by_cases O:M % 2=1
   ·have Ai:((M:Int) % 2 == 1)=true:=by rw[beq_iff_eq];omega
    have D:Hd (sgUp n=true):=by show _=_;rw[i.o,decide_eq_false I,decide_eq_true U,decide_eq_true O];rfl
    clear O U I;by_cases A:M+1=16777216
    ·have b:Hd (8388608=jK n∧(k:Int)+1=qH n):=R.o true _ _ D.o (by rw[if_pos rfl,if_pos A]) (by rw[Bool.true_and,decide_eq_true A,if_pos rfl]);have f:((M:Int)+1 == 16777216)=true:=by rw[beq_iff_eq];omega
     have HF:=hid A;clear A;clear G C S V T K L X;go_wp2_with fail;go_loopw [4,5] (fun ev mv wr'=> ∃(x:Int) (E:Nat),ev=iV x∧mv=iV (E:Int)∧¬(E:Int)<8388608∧Hd (E=jK n∧x=qH n)∧wr'=wr) (fun _ _ _=>0)
     case atStart=>exact⟨(k:Int)+1,8388608,by first|rfl|(congr 1;omega),by first|rfl|(have:=HF.o;congr 1;omega),by omega,b,rfl⟩
     case round=>
      obtain⟨x,E,rfl,rfl,J,B,rfl⟩:=hrel;go_wp2;go_ret2;rw[←B.o.1,←B.o.2];exact⟨rfl,rfl⟩
    have b:Hd (M+1=jK n∧(k:Int)=qH n):=R.o true _ _ D.o (by rw[if_pos rfl,if_neg A]) (by rw[Bool.true_and,decide_eq_false A];rfl);have f:((M:Int)+1 == 16777216)=false:=by rw[beq_eq_false_iff_ne];omega
    have F:Hd (8388608≤M):=C;clear A;clear G C S V T K L X;go_wp2_with fail;go_loopw [4,5] (fun ev mv wr'=> ∃(x:Int) (E:Nat),ev=iV x∧mv=iV (E:Int)∧¬(E:Int)<8388608∧Hd (E=jK n∧x=qH n)∧wr'=wr) (fun _ _ _=>0)
    case atStart=>exact⟨(k:Int),M+1,by first|rfl|(congr 1;omega),by first|rfl|(congr 1;omega),by have:=F.o;omega,b,rfl⟩
    case round=>
     obtain⟨x,E,rfl,rfl,J,B,rfl⟩:=hrel;go_wp2;go_ret2;rw[←B.o.1,←B.o.2];exact⟨rfl,rfl⟩
   have Ai:((M:Int) % 2 == 1)=false:=by rw[beq_eq_false_iff_ne];omega
   have D:Hd (sgUp n=false):=by show _=_;rw[i.o,decide_eq_false I,decide_eq_true U,decide_eq_false O];rfl
   clear O U I;have b:Hd (M=jK n∧(k:Int)=qH n):=R.o false _ _ D.o rfl rfl;have f:((M:Int) == 16777216)=false:=by rw[beq_eq_false_iff_ne];omega
   have F:Hd (8388608≤M):=C;clear G C S V T K L X;go_wp2_with fail;go_loopw [4,5] (fun ev mv wr'=> ∃(x:Int) (E:Nat),ev=iV x∧mv=iV (E:Int)∧¬(E:Int)<8388608∧Hd (E=jK n∧x=qH n)∧wr'=wr) (fun _ _ _=>0)
   case atStart=>exact⟨(k:Int),M,by first|rfl|(congr 1;omega),by first|rfl|(congr 1;omega),by have:=F.o;omega,b,rfl⟩
   case round=>
    obtain⟨x,E,rfl,rfl,J,B,rfl⟩:=hrel;go_wp2;go_ret2;rw[←B.o.1,←B.o.2];exact⟨rfl,rfl⟩
  have Ac:¬(low:Int)=(H:Int):=by omega
  have D:Hd (sgUp n=false):=by show _=_;rw[i.o,decide_eq_false I,decide_eq_false U];rfl
  clear U I;have b:Hd (M=jK n∧(k:Int)=qH n):=R.o false _ _ D.o rfl rfl;have f:((M:Int) == 16777216)=false:=by rw[beq_eq_false_iff_ne];omega
  have F:Hd (8388608≤M):=C;clear G C S V T K L X;go_wp2_with fail;go_loopw [4,5] (fun ev mv wr'=> ∃(x:Int) (E:Nat),ev=iV x∧mv=iV (E:Int)∧¬(E:Int)<8388608∧Hd (E=jK n∧x=qH n)∧wr'=wr) (fun _ _ _=>0)
  case atStart=>exact⟨(k:Int),M,by first|rfl|(congr 1;omega),by first|rfl|(congr 1;omega),by have:=F.o;omega,b,rfl⟩
  case round=>
   obtain⟨x,E,rfl,rfl,J,B,rfl⟩:=hrel;go_wp2;go_ret2;rw[←B.o.1,←B.o.2];exact⟨rfl,rfl⟩
end Go.Proofs.YtehmdohpmpbnnaaGreatDoor
