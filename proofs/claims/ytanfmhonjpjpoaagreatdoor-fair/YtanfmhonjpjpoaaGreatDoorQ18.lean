import Derived.Test.YtanfmhonjpjpoaaGreatDoorQ00
import Derived.Test.YtanfmhonjpjpoaaGreatDoorQ04
import Derived.Test.YtanfmhonjpjpoaaGreatDoorQ11
import Derived.Test.YtanfmhonjpjpoaaGreatDoorQ15
set_option linter.all false
set_option maxRecDepth 100000
set_option maxHeartbeats 8000000
namespace Go.Proofs.YtanfmhonjpjpoaaGreatDoor
open Go.Extern Go.RowKit
theorem kstill{base:Nat}{w:World}{wb:Nat}{b:Book}(h:KL base w wb b)(mp:Int)(c1:w.cell? ⟨wb,1,none⟩=some (.int .i64 mp))(hst:b.Still mp)(hb: ∀(j:Nat) (x:Ent),b.l[j]? =some x→EB x)(hsd: ∀(j:Nat) (x:Ent),b.l[j]? =some x→x.side=1∨x.side=2)(hpr: ∀x∈b.l,0≤x.price∧x.price≤1000000)(hof: ∀x∈b.l,-1000000≤x.off∧x.off≤1000000):
 Calls Tryz.prog 25 #[.pointer (some ⟨wb,0,none⟩)] w fun en w'=>en=.returned (.bool true)∧Below w.heap.size w w':=by
 obtain⟨p,cap,c8,hx⟩:=h.at';have hlen:=h.len;have HX:Hid (∀(k:Nat) (x:Ent),b.l[k]? =some x→∃g,p=some ⟨g,0,none⟩∧∀W,Below w.heap.size w W→∀j,j<12→W.cell? ⟨g,k*12+j,none⟩=x.cells[j]?):=hx;have HC8:Hid (∀W,Below w.heap.size w W→W.cell? ⟨wb,8,none⟩=some (.slice p b.l.length cap)):=fun W hW=>zA3 hW (zA7 c8) c8
 have HF1:=hidK (kfirst h 1 (.inl rfl));have HF2:Hid (∀W,Below w.heap.size w W→Calls Tryz.prog 46 #[.pointer (some ⟨wb,0,none⟩),.int .i64 2] W fun en w'=>en=.returned (.int .i64 (idx (b.first 2)))∧Below W.heap.size W w'):=fun W hW=>kfirst (h.below hW) 2 (.inr rfl)
 have HTA:Hid (∀(k:Nat) (x:Ent),b.l[k]? =some x→Hid (x.live=true→x.kind=3→∀W,Below w.heap.size w W→Calls Tryz.prog 47 #[.pointer (some ⟨wb,0,none⟩),.int .i64 (k:Int)] W fun en w'=>en=.returned (.int .i64 x.price)∧Below W.heap.size W w')):=fun k x hk=>by
  intro hl h3 W hW;have:=ktarget (h.below hW) mp (zA3 hW (zA7 c1) c1) hk (hsd k x hk) hpr (hof x (List.mem_of_getElem? hk));rw[(hst.peg k x hk hl h3).1]at this;exact this
 have HSUM:Hid (∀(k:Nat) (x:Ent),b.l[k]? =some x→x.qty=x.filled+x.gone+x.opn∧¬x.filled<0∧¬x.opn<0∧x.live=decide (0<x.opn)∧(x.live=false→¬0<x.shown)):=fun k x hk=>by
  obtain⟨a1,a2,a3,a4,a5⟩:=hst.sum k x hk;exact⟨a1,by omega,by omega,a4,fun c=>by have:=a5 c;omega⟩
 have HWR:Hid (∀(k:Nat) (x:Ent),b.l[k]? =some x→wrap64 (x.filled+x.gone)=x.filled+x.gone∧wrap64 (x.filled+x.gone+x.opn)=x.filled+x.gone+x.opn):=fun k x hk=>by
  obtain⟨a1,a2,a3,a4,a5,a6,_,_⟩:=hb k x hk;unfold wrap64;exact⟨by omega,by omega⟩
 have HPEG:Hid (∀(k:Nat) (x:Ent),b.l[k]? =some x→x.live=true→x.kind=3→(0<x.price→x.shown=x.opn)∧(x.price=0→¬0<x.shown)∧0≤x.price):=fun k x hk hl h3=>by
  obtain⟨_,a2,a3⟩:=hst.peg k x hk hl h3;exact⟨a2,fun c=>by have:=a3 c;omega,(hb k x hk).prc.1⟩
 have HOTH:Hid (∀(k:Nat) (x:Ent),b.l[k]? =some x→x.live=true→x.kind≠3→¬x.shown<1∧(x.kind=1→x.shown=x.opn)):=fun k x hk hl h3=>by
  obtain⟨a2,a3⟩:=hst.oth k x hk hl h3;exact⟨by omega,a3⟩
 have HCR:Hid (∀(i j:Nat),b.first 1=some i→b.first 2=some j→∃x y,b.l[i]? =some x∧b.l[j]? =some y∧decide (y.price≤x.price)=false):=fun i j hi hj=>by
  have l1:=zC9 (Nat.le_refl _) hi;have l2:=zC9 (Nat.le_refl _) hj;have:=hst.cross i j b.l[i] b.l[j] hi hj (List.getElem?_eq_getElem l1) (List.getElem?_eq_getElem l2);exact⟨_,_,List.getElem?_eq_getElem l1,List.getElem?_eq_getElem l2,by simp;omega⟩
 clear h hx hst hb hsd hpr hof c1 c8;go_enter Tryz.func25,Tryz.ntmps25;go_wp2_with fail;refine HF1.out.mono ?_;rintro en W1 ⟨rfl,hW1⟩;have HS2:=hidK (HF2.out W1 hW1);go_wp2_with fail;refine HS2.out.mono ?_;rintro en W2 ⟨rfl,hW2⟩;have HB2:Hid (Below w.heap.size w W2):=zCb hW1 hW2;clear hW1 hW2 HF1 HF2 HS2;have c8:=HC8.out W2 HB2.out;cases f1:b.first 1 with
 |none=>
  have z1:idx none= -1:=rfl;rw[z1];generalize idx (b.first 2)=z2 at *;clear f1 HCR z1;go_wp2_with fail;go_quiet (fail);replace HB2:Hid (Below w.heap.size w (W2.drewN nq)):=⟨HB2.out.os,HB2.out.tape,HB2.out.output,HB2.out.size,HB2.out.block⟩;clear c8;generalize W2.drewN nq=W3 at *;go_wp2_with fail;go_loopw [5] (fun iv wr=> ∃k:Nat,iv=.int .i64 k∧k≤b.l.length∧Below w.heap.size w wr) (fun iv _=>b.l.length - (intOf iv).toNat)
  case atStart=>exact⟨0,rfl,Nat.zero_le _,HB2.out⟩
  case round=>
   obtain⟨k,rfl,hk,hbw⟩:=hrel;have HB:Hid (Below w.heap.size w wr):=hbw;have c8:=(HC8.out wr hbw);clear hbw;by_cases hlt:k<b.l.length
   ·have hkI:(k:Int)<(b.l.length:Int):=by omega
    have hw1:wrap64 ((k:Int)+1)=(k:Int)+1:=by unfold wrap64;omega
    have HAT:Hid (b.l[k]? =some b.l[k]):=List.getElem?_eq_getElem hlt;obtain⟨g,hg,hc⟩:=HX.out k _ HAT.out;first|subst hg|(injection hg with hg;injection hg with hg;subst hg)
    have hcw:=hc wr HB.out;obtain⟨s1,s2,s3,s4,s5⟩:=HSUM.out k _ HAT.out;obtain⟨u1,u2⟩:=HWR.out k _ HAT.out;have HTG:=HTA.out k _ HAT.out;have HPG:=hidK (HPEG.out k _ HAT.out);have HOT:=hidK (HOTH.out k _ HAT.out);generalize hxk:b.l[k]=x at *;clear hxk hc;have j0:wr.cell? ⟨g,k*12,none⟩=some (.int .i64 x.id):=hcw 0 (by omega);have j1:wr.cell? ⟨g,k*12+1,none⟩=some (.int .i64 x.side):=hcw 1 (by omega);have j2:wr.cell? ⟨g,k*12+2,none⟩=some (.int .i64 x.kind):=hcw 2 (by omega);have j3:wr.cell? ⟨g,k*12+3,none⟩=some (.int .i64 x.qty):=hcw 3 (by omega);have j4:wr.cell? ⟨g,k*12+4,none⟩=some (.int .i64 x.off):=hcw 4 (by omega);have j5:wr.cell? ⟨g,k*12+5,none⟩=some (.int .i64 x.price):=hcw 5 (by omega);have j6:wr.cell? ⟨g,k*12+6,none⟩=some (.int .i64 x.opn):=hcw 6 (by omega);have j7:wr.cell? ⟨g,k*12+7,none⟩=some (.int .i64 x.filled):=hcw 7 (by omega)
    have j8:wr.cell? ⟨g,k*12+8,none⟩=some (.int .i64 x.shown):=hcw 8 (by omega);have j9:wr.cell? ⟨g,k*12+9,none⟩=some (.int .i64 x.gone):=hcw 9 (by omega);have j10:wr.cell? ⟨g,k*12+10,none⟩=some (.int .i64 x.place):=hcw 10 (by omega);have j11:wr.cell? ⟨g,k*12+11,none⟩=some (.bool x.live):=hcw 11 (by omega);clear hcw;have n2:(wr.alloc (.cells #[.int .i64 x.id,.int .i64 x.side,.int .i64 x.kind,.int .i64 x.qty,.int .i64 x.off,.int .i64 x.price,.int .i64 x.opn,.int .i64 x.filled,.int .i64 x.shown,.int .i64 x.gone,.int .i64 x.place,.bool x.live] 42)).cell? ⟨wr.heap.size,2,none⟩=some (.int .i64 x.kind):=by rw[World.cell?_alloc_at _ _ _ _ rfl];rfl
    have n3:(wr.alloc (.cells #[.int .i64 x.id,.int .i64 x.side,.int .i64 x.kind,.int .i64 x.qty,.int .i64 x.off,.int .i64 x.price,.int .i64 x.opn,.int .i64 x.filled,.int .i64 x.shown,.int .i64 x.gone,.int .i64 x.place,.bool x.live] 42)).cell? ⟨wr.heap.size,3,none⟩=some (.int .i64 x.qty):=by rw[World.cell?_alloc_at _ _ _ _ rfl];rfl
    have n5:(wr.alloc (.cells #[.int .i64 x.id,.int .i64 x.side,.int .i64 x.kind,.int .i64 x.qty,.int .i64 x.off,.int .i64 x.price,.int .i64 x.opn,.int .i64 x.filled,.int .i64 x.shown,.int .i64 x.gone,.int .i64 x.place,.bool x.live] 42)).cell? ⟨wr.heap.size,5,none⟩=some (.int .i64 x.price):=by rw[World.cell?_alloc_at _ _ _ _ rfl];rfl
    have n6:(wr.alloc (.cells #[.int .i64 x.id,.int .i64 x.side,.int .i64 x.kind,.int .i64 x.qty,.int .i64 x.off,.int .i64 x.price,.int .i64 x.opn,.int .i64 x.filled,.int .i64 x.shown,.int .i64 x.gone,.int .i64 x.place,.bool x.live] 42)).cell? ⟨wr.heap.size,6,none⟩=some (.int .i64 x.opn):=by rw[World.cell?_alloc_at _ _ _ _ rfl];rfl
    have n7:(wr.alloc (.cells #[.int .i64 x.id,.int .i64 x.side,.int .i64 x.kind,.int .i64 x.qty,.int .i64 x.off,.int .i64 x.price,.int .i64 x.opn,.int .i64 x.filled,.int .i64 x.shown,.int .i64 x.gone,.int .i64 x.place,.bool x.live] 42)).cell? ⟨wr.heap.size,7,none⟩=some (.int .i64 x.filled):=by rw[World.cell?_alloc_at _ _ _ _ rfl];rfl
    have n8:(wr.alloc (.cells #[.int .i64 x.id,.int .i64 x.side,.int .i64 x.kind,.int .i64 x.qty,.int .i64 x.off,.int .i64 x.price,.int .i64 x.opn,.int .i64 x.filled,.int .i64 x.shown,.int .i64 x.gone,.int .i64 x.place,.bool x.live] 42)).cell? ⟨wr.heap.size,8,none⟩=some (.int .i64 x.shown):=by rw[World.cell?_alloc_at _ _ _ _ rfl];rfl
    have n9:(wr.alloc (.cells #[.int .i64 x.id,.int .i64 x.side,.int .i64 x.kind,.int .i64 x.qty,.int .i64 x.off,.int .i64 x.price,.int .i64 x.opn,.int .i64 x.filled,.int .i64 x.shown,.int .i64 x.gone,.int .i64 x.place,.bool x.live] 42)).cell? ⟨wr.heap.size,9,none⟩=some (.int .i64 x.gone):=by rw[World.cell?_alloc_at _ _ _ _ rfl];rfl
    have n11:(wr.alloc (.cells #[.int .i64 x.id,.int .i64 x.side,.int .i64 x.kind,.int .i64 x.qty,.int .i64 x.off,.int .i64 x.price,.int .i64 x.opn,.int .i64 x.filled,.int .i64 x.shown,.int .i64 x.gone,.int .i64 x.place,.bool x.live] 42)).cell? ⟨wr.heap.size,11,none⟩=some (.bool x.live):=by rw[World.cell?_alloc_at _ _ _ _ rfl];rfl
    have hsz:w.heap.size≤wr.heap.size:=HB.out.size;have HBA:Hid (Below w.heap.size w (wr.alloc (.cells #[.int .i64 x.id,.int .i64 x.side,.int .i64 x.kind,.int .i64 x.qty,.int .i64 x.off,.int .i64 x.price,.int .i64 x.opn,.int .i64 x.filled,.int .i64 x.shown,.int .i64 x.gone,.int .i64 x.place,.bool x.live] 42))):=HB.out.alloc hsz _;have d8:=HC8.out _ HBA.out
    have HKEEP:Hid (∀W',Below (wr.alloc (.cells #[.int .i64 x.id,.int .i64 x.side,.int .i64 x.kind,.int .i64 x.qty,.int .i64 x.off,.int .i64 x.price,.int .i64 x.opn,.int .i64 x.filled,.int .i64 x.shown,.int .i64 x.gone,.int .i64 x.place,.bool x.live] 42)).heap.size (wr.alloc (.cells #[.int .i64 x.id,.int .i64 x.side,.int .i64 x.kind,.int .i64 x.qty,.int .i64 x.off,.int .i64 x.price,.int .i64 x.opn,.int .i64 x.filled,.int .i64 x.shown,.int .i64 x.gone,.int .i64 x.place,.bool x.live] 42)) W'→W'.cell? ⟨wr.heap.size,5,none⟩=some (.int .i64 x.price)∧W'.cell? ⟨wr.heap.size,6,none⟩=some (.int .i64 x.opn)∧W'.cell? ⟨wr.heap.size,8,none⟩=some (.int .i64 x.shown)∧Below w.heap.size w W'):=fun W' h'=>by
     have z:wr.heap.size<(wr.alloc (.cells #[.int .i64 x.id,.int .i64 x.side,.int .i64 x.kind,.int .i64 x.qty,.int .i64 x.off,.int .i64 x.price,.int .i64 x.opn,.int .i64 x.filled,.int .i64 x.shown,.int .i64 x.gone,.int .i64 x.place,.bool x.live] 42)).heap.size:=by simp
     exact⟨zA3 h' z n5,zA3 h' z n6,zA3 h' z n8,zCb HBA.out h'⟩
    have q1:(x.qty != x.filled+x.gone+x.opn)=false:=by simp[s1]
    have q2:decide (x.filled<0)=false:=by simpa using s2
    have q3:decide (x.opn<0)=false:=by simpa using s3
    have HS5:=hidK s5;clear s1 s2 s3 s5;cases e1:x.live
    ·have q4:decide (0<x.opn)=false:=by rw[←s4,e1]
     have q5:decide (0<x.shown)=false:=by have:=HS5.out e1;simpa using this
     clear s4;go_wp2;go_roundw
     case rel=>exact⟨k+1,by go_num,hlt,by first|exact HBA.out|(rw[e1]at HBA;exact HBA.out)|exact HB.out.alloc hsz _⟩
     case measure=>simp[intOf];omega
    ·have q4:decide (0<x.opn)=true:=by rw[←s4,e1]
     clear s4;cases e2:(x.kind == 3)
     ·have ho:=HOT.out e1 (by simpa using e2);have q5:decide (x.shown<1)=false:=by have:=ho.1;simpa using this
      cases e3:(x.kind == 1)
      ·clear ho;go_wp2;go_roundw
       case rel=>exact⟨k+1,by go_num,hlt,by first|exact HBA.out|(rw[e1]at HBA;exact HBA.out)|exact HB.out.alloc hsz _⟩
       case measure=>simp[intOf];omega
      ·have q6:(x.shown != x.opn)=false:=by have:=ho.2 (by simpa using e3);simp[this]
       clear ho;go_wp2;go_roundw
       case rel=>exact⟨k+1,by go_num,hlt,by first|exact HBA.out|(rw[e1]at HBA;exact HBA.out)|exact HB.out.alloc hsz _⟩
       case measure=>simp[intOf];omega
     ·have ho:=HPG.out e1 (by simpa using e2);have HT:=hidK (HTG.out e1 (by simpa using e2) _ HBA.out);clear HTG;rw[e1]at HT HKEEP;go_wp2_with fail;refine HT.out.mono ?_;rintro en W' ⟨rfl,h'⟩;obtain⟨m5,m6,m8,hbz⟩:=HKEEP.out W' h';have HBZ:=hidK hbz;clear h' hbz j0 j1 j2 j3 j4 j5 j6 j7 j8 j9 j10 j11 n2 n3 n5 n6 n7 n8 n9 n11 c8 d8 HT;cases e3:decide (0<x.price)
      ·have q6:(x.price == 0)=true:=by have:=of_decide_eq_false e3;have:=ho.2.2;simp;omega
       have q7:decide (0<x.shown)=false:=by have:=ho.2.1 (by simpa using q6);simpa using this
       clear ho;go_wp2;go_roundw
       case rel=>exact⟨k+1,by go_num,hlt,HBZ.out⟩
       case measure=>simp[intOf];omega
      ·have q6:(x.price == 0)=false:=by have:=of_decide_eq_true e3;simp;omega
       have q7:(x.shown != x.opn)=false:=by have:=ho.1 (of_decide_eq_true e3);simp[this]
       clear ho;go_wp2;go_roundw
       case rel=>exact⟨k+1,by go_num,hlt,HBZ.out⟩
       case measure=>simp[intOf];omega
   ·obtain rfl:k=b.l.length:=by omega
    have hkI: ¬(b.l.length:Int)<(b.l.length:Int):=by omega
    go_wp2;go_ret;exact⟨rfl,HB.out⟩
 |some i=>
  cases f2:b.first 2 with
  |none=>
   have z1:idx none= -1:=rfl;have z2:idx (some i)=(i:Int):=rfl;rw[z1,z2];have z3:((0:Int)≤(i:Int)):=by omega
   clear f1 f2 HCR z1 z2;go_wp2_with fail;go_quiet (fail);replace HB2:Hid (Below w.heap.size w (W2.drewN nq)):=⟨HB2.out.os,HB2.out.tape,HB2.out.output,HB2.out.size,HB2.out.block⟩;clear c8;generalize W2.drewN nq=W3 at *;go_wp2_with fail;go_loopw [5] (fun iv wr=> ∃k:Nat,iv=.int .i64 k∧k≤b.l.length∧Below w.heap.size w wr) (fun iv _=>b.l.length - (intOf iv).toNat)
   case atStart=>exact⟨0,rfl,Nat.zero_le _,HB2.out⟩
   case round=>
    obtain⟨k,rfl,hk,hbw⟩:=hrel;have HB:Hid (Below w.heap.size w wr):=hbw;have c8:=(HC8.out wr hbw);clear hbw;by_cases hlt:k<b.l.length
    ·have hkI:(k:Int)<(b.l.length:Int):=by omega
     have hw1:wrap64 ((k:Int)+1)=(k:Int)+1:=by unfold wrap64;omega
     have HAT:Hid (b.l[k]? =some b.l[k]):=List.getElem?_eq_getElem hlt;obtain⟨g,hg,hc⟩:=HX.out k _ HAT.out;first|subst hg|(injection hg with hg;injection hg with hg;subst hg)
     have hcw:=hc wr HB.out;obtain⟨s1,s2,s3,s4,s5⟩:=HSUM.out k _ HAT.out;obtain⟨u1,u2⟩:=HWR.out k _ HAT.out;have HTG:=HTA.out k _ HAT.out;have HPG:=hidK (HPEG.out k _ HAT.out);have HOT:=hidK (HOTH.out k _ HAT.out);generalize hxk:b.l[k]=x at *;clear hxk hc;have j0:wr.cell? ⟨g,k*12,none⟩=some (.int .i64 x.id):=hcw 0 (by omega);have j1:wr.cell? ⟨g,k*12+1,none⟩=some (.int .i64 x.side):=hcw 1 (by omega);have j2:wr.cell? ⟨g,k*12+2,none⟩=some (.int .i64 x.kind):=hcw 2 (by omega);have j3:wr.cell? ⟨g,k*12+3,none⟩=some (.int .i64 x.qty):=hcw 3 (by omega);have j4:wr.cell? ⟨g,k*12+4,none⟩=some (.int .i64 x.off):=hcw 4 (by omega);have j5:wr.cell? ⟨g,k*12+5,none⟩=some (.int .i64 x.price):=hcw 5 (by omega);have j6:wr.cell? ⟨g,k*12+6,none⟩=some (.int .i64 x.opn):=hcw 6 (by omega);have j7:wr.cell? ⟨g,k*12+7,none⟩=some (.int .i64 x.filled):=hcw 7 (by omega)
     have j8:wr.cell? ⟨g,k*12+8,none⟩=some (.int .i64 x.shown):=hcw 8 (by omega);have j9:wr.cell? ⟨g,k*12+9,none⟩=some (.int .i64 x.gone):=hcw 9 (by omega);have j10:wr.cell? ⟨g,k*12+10,none⟩=some (.int .i64 x.place):=hcw 10 (by omega);have j11:wr.cell? ⟨g,k*12+11,none⟩=some (.bool x.live):=hcw 11 (by omega);clear hcw;have n2:(wr.alloc (.cells #[.int .i64 x.id,.int .i64 x.side,.int .i64 x.kind,.int .i64 x.qty,.int .i64 x.off,.int .i64 x.price,.int .i64 x.opn,.int .i64 x.filled,.int .i64 x.shown,.int .i64 x.gone,.int .i64 x.place,.bool x.live] 42)).cell? ⟨wr.heap.size,2,none⟩=some (.int .i64 x.kind):=by rw[World.cell?_alloc_at _ _ _ _ rfl];rfl
     have n3:(wr.alloc (.cells #[.int .i64 x.id,.int .i64 x.side,.int .i64 x.kind,.int .i64 x.qty,.int .i64 x.off,.int .i64 x.price,.int .i64 x.opn,.int .i64 x.filled,.int .i64 x.shown,.int .i64 x.gone,.int .i64 x.place,.bool x.live] 42)).cell? ⟨wr.heap.size,3,none⟩=some (.int .i64 x.qty):=by rw[World.cell?_alloc_at _ _ _ _ rfl];rfl
     have n5:(wr.alloc (.cells #[.int .i64 x.id,.int .i64 x.side,.int .i64 x.kind,.int .i64 x.qty,.int .i64 x.off,.int .i64 x.price,.int .i64 x.opn,.int .i64 x.filled,.int .i64 x.shown,.int .i64 x.gone,.int .i64 x.place,.bool x.live] 42)).cell? ⟨wr.heap.size,5,none⟩=some (.int .i64 x.price):=by rw[World.cell?_alloc_at _ _ _ _ rfl];rfl
     have n6:(wr.alloc (.cells #[.int .i64 x.id,.int .i64 x.side,.int .i64 x.kind,.int .i64 x.qty,.int .i64 x.off,.int .i64 x.price,.int .i64 x.opn,.int .i64 x.filled,.int .i64 x.shown,.int .i64 x.gone,.int .i64 x.place,.bool x.live] 42)).cell? ⟨wr.heap.size,6,none⟩=some (.int .i64 x.opn):=by rw[World.cell?_alloc_at _ _ _ _ rfl];rfl
     have n7:(wr.alloc (.cells #[.int .i64 x.id,.int .i64 x.side,.int .i64 x.kind,.int .i64 x.qty,.int .i64 x.off,.int .i64 x.price,.int .i64 x.opn,.int .i64 x.filled,.int .i64 x.shown,.int .i64 x.gone,.int .i64 x.place,.bool x.live] 42)).cell? ⟨wr.heap.size,7,none⟩=some (.int .i64 x.filled):=by rw[World.cell?_alloc_at _ _ _ _ rfl];rfl
     have n8:(wr.alloc (.cells #[.int .i64 x.id,.int .i64 x.side,.int .i64 x.kind,.int .i64 x.qty,.int .i64 x.off,.int .i64 x.price,.int .i64 x.opn,.int .i64 x.filled,.int .i64 x.shown,.int .i64 x.gone,.int .i64 x.place,.bool x.live] 42)).cell? ⟨wr.heap.size,8,none⟩=some (.int .i64 x.shown):=by rw[World.cell?_alloc_at _ _ _ _ rfl];rfl
     have n9:(wr.alloc (.cells #[.int .i64 x.id,.int .i64 x.side,.int .i64 x.kind,.int .i64 x.qty,.int .i64 x.off,.int .i64 x.price,.int .i64 x.opn,.int .i64 x.filled,.int .i64 x.shown,.int .i64 x.gone,.int .i64 x.place,.bool x.live] 42)).cell? ⟨wr.heap.size,9,none⟩=some (.int .i64 x.gone):=by rw[World.cell?_alloc_at _ _ _ _ rfl];rfl
     have n11:(wr.alloc (.cells #[.int .i64 x.id,.int .i64 x.side,.int .i64 x.kind,.int .i64 x.qty,.int .i64 x.off,.int .i64 x.price,.int .i64 x.opn,.int .i64 x.filled,.int .i64 x.shown,.int .i64 x.gone,.int .i64 x.place,.bool x.live] 42)).cell? ⟨wr.heap.size,11,none⟩=some (.bool x.live):=by rw[World.cell?_alloc_at _ _ _ _ rfl];rfl
     have hsz:w.heap.size≤wr.heap.size:=HB.out.size;have HBA:Hid (Below w.heap.size w (wr.alloc (.cells #[.int .i64 x.id,.int .i64 x.side,.int .i64 x.kind,.int .i64 x.qty,.int .i64 x.off,.int .i64 x.price,.int .i64 x.opn,.int .i64 x.filled,.int .i64 x.shown,.int .i64 x.gone,.int .i64 x.place,.bool x.live] 42))):=HB.out.alloc hsz _;have d8:=HC8.out _ HBA.out
     have HKEEP:Hid (∀W',Below (wr.alloc (.cells #[.int .i64 x.id,.int .i64 x.side,.int .i64 x.kind,.int .i64 x.qty,.int .i64 x.off,.int .i64 x.price,.int .i64 x.opn,.int .i64 x.filled,.int .i64 x.shown,.int .i64 x.gone,.int .i64 x.place,.bool x.live] 42)).heap.size (wr.alloc (.cells #[.int .i64 x.id,.int .i64 x.side,.int .i64 x.kind,.int .i64 x.qty,.int .i64 x.off,.int .i64 x.price,.int .i64 x.opn,.int .i64 x.filled,.int .i64 x.shown,.int .i64 x.gone,.int .i64 x.place,.bool x.live] 42)) W'→W'.cell? ⟨wr.heap.size,5,none⟩=some (.int .i64 x.price)∧W'.cell? ⟨wr.heap.size,6,none⟩=some (.int .i64 x.opn)∧W'.cell? ⟨wr.heap.size,8,none⟩=some (.int .i64 x.shown)∧Below w.heap.size w W'):=fun W' h'=>by
      have z:wr.heap.size<(wr.alloc (.cells #[.int .i64 x.id,.int .i64 x.side,.int .i64 x.kind,.int .i64 x.qty,.int .i64 x.off,.int .i64 x.price,.int .i64 x.opn,.int .i64 x.filled,.int .i64 x.shown,.int .i64 x.gone,.int .i64 x.place,.bool x.live] 42)).heap.size:=by simp
      exact⟨zA3 h' z n5,zA3 h' z n6,zA3 h' z n8,zCb HBA.out h'⟩
     have q1:(x.qty != x.filled+x.gone+x.opn)=false:=by simp[s1]
     have q2:decide (x.filled<0)=false:=by simpa using s2
     have q3:decide (x.opn<0)=false:=by simpa using s3
     have HS5:=hidK s5;clear s1 s2 s3 s5;cases e1:x.live
     ·have q4:decide (0<x.opn)=false:=by rw[←s4,e1]
      have q5:decide (0<x.shown)=false:=by have:=HS5.out e1;simpa using this
      clear s4;go_wp2;go_roundw
      case rel=>exact⟨k+1,by go_num,hlt,by first|exact HBA.out|(rw[e1]at HBA;exact HBA.out)|exact HB.out.alloc hsz _⟩
      case measure=>simp[intOf];omega
     ·have q4:decide (0<x.opn)=true:=by rw[←s4,e1]
      clear s4;cases e2:(x.kind == 3)
      ·have ho:=HOT.out e1 (by simpa using e2);have q5:decide (x.shown<1)=false:=by have:=ho.1;simpa using this
       cases e3:(x.kind == 1)
       ·clear ho;go_wp2;go_roundw
        case rel=>exact⟨k+1,by go_num,hlt,by first|exact HBA.out|(rw[e1]at HBA;exact HBA.out)|exact HB.out.alloc hsz _⟩
        case measure=>simp[intOf];omega
       ·have q6:(x.shown != x.opn)=false:=by have:=ho.2 (by simpa using e3);simp[this]
        clear ho;go_wp2;go_roundw
        case rel=>exact⟨k+1,by go_num,hlt,by first|exact HBA.out|(rw[e1]at HBA;exact HBA.out)|exact HB.out.alloc hsz _⟩
        case measure=>simp[intOf];omega
      ·have ho:=HPG.out e1 (by simpa using e2);have HT:=hidK (HTG.out e1 (by simpa using e2) _ HBA.out);clear HTG;rw[e1]at HT HKEEP;go_wp2_with fail;refine HT.out.mono ?_;rintro en W' ⟨rfl,h'⟩;obtain⟨m5,m6,m8,hbz⟩:=HKEEP.out W' h';have HBZ:=hidK hbz;clear h' hbz j0 j1 j2 j3 j4 j5 j6 j7 j8 j9 j10 j11 n2 n3 n5 n6 n7 n8 n9 n11 c8 d8 HT;cases e3:decide (0<x.price)
       ·have q6:(x.price == 0)=true:=by have:=of_decide_eq_false e3;have:=ho.2.2;simp;omega
        have q7:decide (0<x.shown)=false:=by have:=ho.2.1 (by simpa using q6);simpa using this
        clear ho;go_wp2;go_roundw
        case rel=>exact⟨k+1,by go_num,hlt,HBZ.out⟩
        case measure=>simp[intOf];omega
       ·have q6:(x.price == 0)=false:=by have:=of_decide_eq_true e3;simp;omega
        have q7:(x.shown != x.opn)=false:=by have:=ho.1 (of_decide_eq_true e3);simp[this]
        clear ho;go_wp2;go_roundw
        case rel=>exact⟨k+1,by go_num,hlt,HBZ.out⟩
        case measure=>simp[intOf];omega
    ·obtain rfl:k=b.l.length:=by omega
     have hkI: ¬(b.l.length:Int)<(b.l.length:Int):=by omega
     go_wp2;go_ret;exact⟨rfl,HB.out⟩
  |some j=>
   obtain⟨xx,yy,hxx,hyy,hcr⟩:=HCR.out i j f1 f2;obtain⟨g,hg,hcx⟩:=HX.out i xx hxx;obtain⟨g',hg',hcy⟩:=HX.out j yy hyy;subst hg;obtain rfl:g=g':=by injection hg' with q;injection q
   have cx:W2.cell? ⟨g,i*12+5,none⟩=some (.int .i64 xx.price):=hcx W2 HB2.out 5 (by omega);have cy:W2.cell? ⟨g,j*12+5,none⟩=some (.int .i64 yy.price):=hcy W2 HB2.out 5 (by omega);have li:=(List.getElem?_eq_some_iff.1 hxx).1;have lj:=(List.getElem?_eq_some_iff.1 hyy).1;have liI:(i:Int)<(b.l.length:Int):=by omega
   have ljI:(j:Int)<(b.l.length:Int):=by omega
   have z1:idx (some j)=(j:Int):=rfl;have z2:idx (some i)=(i:Int):=rfl;rw[z1,z2];have z3:((0:Int)≤(i:Int)):=by omega
   have z4:((0:Int)≤(j:Int)):=by omega
   clear f1 f2 HCR z1 z2 hcx hcy hxx hyy hg';go_wp2_with fail;go_quiet (fail);replace HB2:Hid (Below w.heap.size w (W2.drewN nq)):=⟨HB2.out.os,HB2.out.tape,HB2.out.output,HB2.out.size,HB2.out.block⟩;clear c8 cx cy hcr;generalize W2.drewN nq=W3 at *;go_wp2_with fail;go_loopw [5] (fun iv wr=> ∃k:Nat,iv=.int .i64 k∧k≤b.l.length∧Below w.heap.size w wr) (fun iv _=>b.l.length - (intOf iv).toNat)
   case atStart=>exact⟨0,rfl,Nat.zero_le _,HB2.out⟩
   case round=>
    obtain⟨k,rfl,hk,hbw⟩:=hrel;have HB:Hid (Below w.heap.size w wr):=hbw;have c8:=(HC8.out wr hbw);clear hbw;by_cases hlt:k<b.l.length
    ·have hkI:(k:Int)<(b.l.length:Int):=by omega
     have hw1:wrap64 ((k:Int)+1)=(k:Int)+1:=by unfold wrap64;omega
     have HAT:Hid (b.l[k]? =some b.l[k]):=List.getElem?_eq_getElem hlt;obtain⟨g,hg,hc⟩:=HX.out k _ HAT.out;first|subst hg|(injection hg with hg;injection hg with hg;subst hg)
     have hcw:=hc wr HB.out;obtain⟨s1,s2,s3,s4,s5⟩:=HSUM.out k _ HAT.out;obtain⟨u1,u2⟩:=HWR.out k _ HAT.out;have HTG:=HTA.out k _ HAT.out;have HPG:=hidK (HPEG.out k _ HAT.out);have HOT:=hidK (HOTH.out k _ HAT.out);generalize hxk:b.l[k]=x at *;clear hxk hc;have j0:wr.cell? ⟨g,k*12,none⟩=some (.int .i64 x.id):=hcw 0 (by omega);have j1:wr.cell? ⟨g,k*12+1,none⟩=some (.int .i64 x.side):=hcw 1 (by omega);have j2:wr.cell? ⟨g,k*12+2,none⟩=some (.int .i64 x.kind):=hcw 2 (by omega);have j3:wr.cell? ⟨g,k*12+3,none⟩=some (.int .i64 x.qty):=hcw 3 (by omega);have j4:wr.cell? ⟨g,k*12+4,none⟩=some (.int .i64 x.off):=hcw 4 (by omega);have j5:wr.cell? ⟨g,k*12+5,none⟩=some (.int .i64 x.price):=hcw 5 (by omega);have j6:wr.cell? ⟨g,k*12+6,none⟩=some (.int .i64 x.opn):=hcw 6 (by omega);have j7:wr.cell? ⟨g,k*12+7,none⟩=some (.int .i64 x.filled):=hcw 7 (by omega)
     have j8:wr.cell? ⟨g,k*12+8,none⟩=some (.int .i64 x.shown):=hcw 8 (by omega);have j9:wr.cell? ⟨g,k*12+9,none⟩=some (.int .i64 x.gone):=hcw 9 (by omega);have j10:wr.cell? ⟨g,k*12+10,none⟩=some (.int .i64 x.place):=hcw 10 (by omega);have j11:wr.cell? ⟨g,k*12+11,none⟩=some (.bool x.live):=hcw 11 (by omega);clear hcw;have n2:(wr.alloc (.cells #[.int .i64 x.id,.int .i64 x.side,.int .i64 x.kind,.int .i64 x.qty,.int .i64 x.off,.int .i64 x.price,.int .i64 x.opn,.int .i64 x.filled,.int .i64 x.shown,.int .i64 x.gone,.int .i64 x.place,.bool x.live] 42)).cell? ⟨wr.heap.size,2,none⟩=some (.int .i64 x.kind):=by rw[World.cell?_alloc_at _ _ _ _ rfl];rfl
     have n3:(wr.alloc (.cells #[.int .i64 x.id,.int .i64 x.side,.int .i64 x.kind,.int .i64 x.qty,.int .i64 x.off,.int .i64 x.price,.int .i64 x.opn,.int .i64 x.filled,.int .i64 x.shown,.int .i64 x.gone,.int .i64 x.place,.bool x.live] 42)).cell? ⟨wr.heap.size,3,none⟩=some (.int .i64 x.qty):=by rw[World.cell?_alloc_at _ _ _ _ rfl];rfl
     have n5:(wr.alloc (.cells #[.int .i64 x.id,.int .i64 x.side,.int .i64 x.kind,.int .i64 x.qty,.int .i64 x.off,.int .i64 x.price,.int .i64 x.opn,.int .i64 x.filled,.int .i64 x.shown,.int .i64 x.gone,.int .i64 x.place,.bool x.live] 42)).cell? ⟨wr.heap.size,5,none⟩=some (.int .i64 x.price):=by rw[World.cell?_alloc_at _ _ _ _ rfl];rfl
     have n6:(wr.alloc (.cells #[.int .i64 x.id,.int .i64 x.side,.int .i64 x.kind,.int .i64 x.qty,.int .i64 x.off,.int .i64 x.price,.int .i64 x.opn,.int .i64 x.filled,.int .i64 x.shown,.int .i64 x.gone,.int .i64 x.place,.bool x.live] 42)).cell? ⟨wr.heap.size,6,none⟩=some (.int .i64 x.opn):=by rw[World.cell?_alloc_at _ _ _ _ rfl];rfl
     have n7:(wr.alloc (.cells #[.int .i64 x.id,.int .i64 x.side,.int .i64 x.kind,.int .i64 x.qty,.int .i64 x.off,.int .i64 x.price,.int .i64 x.opn,.int .i64 x.filled,.int .i64 x.shown,.int .i64 x.gone,.int .i64 x.place,.bool x.live] 42)).cell? ⟨wr.heap.size,7,none⟩=some (.int .i64 x.filled):=by rw[World.cell?_alloc_at _ _ _ _ rfl];rfl
     have n8:(wr.alloc (.cells #[.int .i64 x.id,.int .i64 x.side,.int .i64 x.kind,.int .i64 x.qty,.int .i64 x.off,.int .i64 x.price,.int .i64 x.opn,.int .i64 x.filled,.int .i64 x.shown,.int .i64 x.gone,.int .i64 x.place,.bool x.live] 42)).cell? ⟨wr.heap.size,8,none⟩=some (.int .i64 x.shown):=by rw[World.cell?_alloc_at _ _ _ _ rfl];rfl
     have n9:(wr.alloc (.cells #[.int .i64 x.id,.int .i64 x.side,.int .i64 x.kind,.int .i64 x.qty,.int .i64 x.off,.int .i64 x.price,.int .i64 x.opn,.int .i64 x.filled,.int .i64 x.shown,.int .i64 x.gone,.int .i64 x.place,.bool x.live] 42)).cell? ⟨wr.heap.size,9,none⟩=some (.int .i64 x.gone):=by rw[World.cell?_alloc_at _ _ _ _ rfl];rfl
     have n11:(wr.alloc (.cells #[.int .i64 x.id,.int .i64 x.side,.int .i64 x.kind,.int .i64 x.qty,.int .i64 x.off,.int .i64 x.price,.int .i64 x.opn,.int .i64 x.filled,.int .i64 x.shown,.int .i64 x.gone,.int .i64 x.place,.bool x.live] 42)).cell? ⟨wr.heap.size,11,none⟩=some (.bool x.live):=by rw[World.cell?_alloc_at _ _ _ _ rfl];rfl
     have hsz:w.heap.size≤wr.heap.size:=HB.out.size;have HBA:Hid (Below w.heap.size w (wr.alloc (.cells #[.int .i64 x.id,.int .i64 x.side,.int .i64 x.kind,.int .i64 x.qty,.int .i64 x.off,.int .i64 x.price,.int .i64 x.opn,.int .i64 x.filled,.int .i64 x.shown,.int .i64 x.gone,.int .i64 x.place,.bool x.live] 42))):=HB.out.alloc hsz _;have d8:=HC8.out _ HBA.out
     have HKEEP:Hid (∀W',Below (wr.alloc (.cells #[.int .i64 x.id,.int .i64 x.side,.int .i64 x.kind,.int .i64 x.qty,.int .i64 x.off,.int .i64 x.price,.int .i64 x.opn,.int .i64 x.filled,.int .i64 x.shown,.int .i64 x.gone,.int .i64 x.place,.bool x.live] 42)).heap.size (wr.alloc (.cells #[.int .i64 x.id,.int .i64 x.side,.int .i64 x.kind,.int .i64 x.qty,.int .i64 x.off,.int .i64 x.price,.int .i64 x.opn,.int .i64 x.filled,.int .i64 x.shown,.int .i64 x.gone,.int .i64 x.place,.bool x.live] 42)) W'→W'.cell? ⟨wr.heap.size,5,none⟩=some (.int .i64 x.price)∧W'.cell? ⟨wr.heap.size,6,none⟩=some (.int .i64 x.opn)∧W'.cell? ⟨wr.heap.size,8,none⟩=some (.int .i64 x.shown)∧Below w.heap.size w W'):=fun W' h'=>by
      have z:wr.heap.size<(wr.alloc (.cells #[.int .i64 x.id,.int .i64 x.side,.int .i64 x.kind,.int .i64 x.qty,.int .i64 x.off,.int .i64 x.price,.int .i64 x.opn,.int .i64 x.filled,.int .i64 x.shown,.int .i64 x.gone,.int .i64 x.place,.bool x.live] 42)).heap.size:=by simp
      exact⟨zA3 h' z n5,zA3 h' z n6,zA3 h' z n8,zCb HBA.out h'⟩
     have q1:(x.qty != x.filled+x.gone+x.opn)=false:=by simp[s1]
     have q2:decide (x.filled<0)=false:=by simpa using s2
     have q3:decide (x.opn<0)=false:=by simpa using s3
     have HS5:=hidK s5;clear s1 s2 s3 s5;cases e1:x.live
     ·have q4:decide (0<x.opn)=false:=by rw[←s4,e1]
      have q5:decide (0<x.shown)=false:=by have:=HS5.out e1;simpa using this
      clear s4;go_wp2;go_roundw
      case rel=>exact⟨k+1,by go_num,hlt,by first|exact HBA.out|(rw[e1]at HBA;exact HBA.out)|exact HB.out.alloc hsz _⟩
      case measure=>simp[intOf];omega
     ·have q4:decide (0<x.opn)=true:=by rw[←s4,e1]
      clear s4;cases e2:(x.kind == 3)
      ·have ho:=HOT.out e1 (by simpa using e2);have q5:decide (x.shown<1)=false:=by have:=ho.1;simpa using this
       cases e3:(x.kind == 1)
       ·clear ho;go_wp2;go_roundw
        case rel=>exact⟨k+1,by go_num,hlt,by first|exact HBA.out|(rw[e1]at HBA;exact HBA.out)|exact HB.out.alloc hsz _⟩
        case measure=>simp[intOf];omega
       ·have q6:(x.shown != x.opn)=false:=by have:=ho.2 (by simpa using e3);simp[this]
        clear ho;go_wp2;go_roundw
        case rel=>exact⟨k+1,by go_num,hlt,by first|exact HBA.out|(rw[e1]at HBA;exact HBA.out)|exact HB.out.alloc hsz _⟩
        case measure=>simp[intOf];omega
      ·have ho:=HPG.out e1 (by simpa using e2);have HT:=hidK (HTG.out e1 (by simpa using e2) _ HBA.out);clear HTG;rw[e1]at HT HKEEP;go_wp2_with fail;refine HT.out.mono ?_;rintro en W' ⟨rfl,h'⟩;obtain⟨m5,m6,m8,hbz⟩:=HKEEP.out W' h';have HBZ:=hidK hbz;clear h' hbz j0 j1 j2 j3 j4 j5 j6 j7 j8 j9 j10 j11 n2 n3 n5 n6 n7 n8 n9 n11 c8 d8 HT;cases e3:decide (0<x.price)
       ·have q6:(x.price == 0)=true:=by have:=of_decide_eq_false e3;have:=ho.2.2;simp;omega
        have q7:decide (0<x.shown)=false:=by have:=ho.2.1 (by simpa using q6);simpa using this
        clear ho;go_wp2;go_roundw
        case rel=>exact⟨k+1,by go_num,hlt,HBZ.out⟩
        case measure=>simp[intOf];omega
       ·have q6:(x.price == 0)=false:=by have:=of_decide_eq_true e3;simp;omega
        have q7:(x.shown != x.opn)=false:=by have:=ho.1 (of_decide_eq_true e3);simp[this]
        clear ho;go_wp2;go_roundw
        case rel=>exact⟨k+1,by go_num,hlt,HBZ.out⟩
        case measure=>simp[intOf];omega
    ·obtain rfl:k=b.l.length:=by omega
     have hkI: ¬(b.l.length:Int)<(b.l.length:Int):=by omega
     go_wp2;go_ret;exact⟨rfl,HB.out⟩
end Go.Proofs.YtanfmhonjpjpoaaGreatDoor
