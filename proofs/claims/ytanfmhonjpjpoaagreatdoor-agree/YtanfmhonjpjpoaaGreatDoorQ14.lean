import Derived.Test.YtanfmhonjpjpoaaGreatDoorQ00
import Derived.Test.YtanfmhonjpjpoaaGreatDoorQ03
import Derived.Test.YtanfmhonjpjpoaaGreatDoorQ11
import Derived.Test.YtanfmhonjpjpoaaGreatDoorQ13
import Derived.WalkKit
import Derived.Below
import Derived.Laws.OwnMore
import Derived.Deep.QuietTactic
import Derived.BigQuiet
set_option linter.all false
set_option maxRecDepth 100000
set_option maxHeartbeats 8000000
namespace Go.Proofs.YtanfmhonjpjpoaaGreatDoor
variable{w w':World}{wb base i:Nat}{b:Book}{rs:List Rcd}{side:Int}
section
open Eng
theorem zGl(A B C:List UInt8)(a n:Nat)(hA:A.length=a)(hB:B.length=n):((A++(B++C)).drop a).take n=B:=by
 rw[List.drop_left' hA,List.take_left' hB]
theorem zCq(k s i o p q r:Int):(recB k s i o p q r).length=22:=by
 unfold recB;simp[zA2]
theorem zAt: ∀(rs:List Rcd) (s:Nat),(encR s rs).length=22*rs.length
 | [],s=>rfl
 |r::t,s=>by
  show(recB _ _ _ _ _ _ _++encR (s+1) t).length=_;rw[List.length_append,zCq,zAt t,List.length_cons];omega
theorem zGm: ∀(rs:List Rcd) (s i:Nat) (r:Rcd),rs[i]? =some r→((encR s rs).drop (22*i)).take 22=recB r.kind ((s+i+1:Nat):Int) r.id r.other r.price r.qty r.reason
 | [],s,i,r,h=>by simp at h
 |x::t,s,0,r,h=>by
  obtain rfl:x=r:=by simpa using h
  show((recB _ _ _ _ _ _ _++encR (s+1) t).drop 0).take 22=_;rw[List.drop_zero,List.take_left' (zCq ..)]
 |x::t,s,i+1,r,h=>by
  have h':t[i]? =some r:=by simpa using h
  have ih:=zGm t (s+1) i r h';show((recB _ _ _ _ _ _ _++encR (s+1) t).drop (22*(i+1))).take 22=_;have e:22*(i+1)=22+22*i:=by omega
  rw[e,←List.drop_drop,List.drop_left' (zCq ..),ih];have e2:s+1+i+1=s+(i+1)+1:=by omega
  rw[e2]
theorem zAd{L:List UInt8}{R:List UInt8}(h:(L.drop (22*i)).take 22=R)(a n:Nat)(han:a+n≤22):fld (ba L) (22*i) a n=val ((R.drop a).take n):=by
 unfold fld;have e:(ba L).data.toList=L:=by simp[ba]
 rw[e,←h,List.drop_take,List.take_take,←List.drop_drop];rw[show min n (22 - a)=n by omega]
theorem zGn{s:Nat}{r:Rcd}(h:rs[i]? =some r)(hf:r.Fits)(hs:s+i+1<4294967296):recL (ba (encR s rs)) (22*i)= [r.kind,((s+i+1:Nat):Int),r.id,r.other,r.price,r.qty,r.reason]:=by
 obtain⟨f1,f2,f3,f4,f5,f6,f7,f8,f9,f10,f11,f12⟩:=hf;have hr:=zGm rs s i r h;unfold recL;rw[zAd hr 0 1 (by omega),zAd hr 1 4 (by omega),zAd hr 5 4 (by omega),zAd hr 9 4 (by omega),zAd hr 13 4 (by omega),zAd hr 17 4 (by omega),zAd hr 21 1 (by omega)];have q0:0≤((s+i+1:Nat):Int):=by omega
 have q1:((s+i+1:Nat):Int)<4294967296:=by omega
 clear hr h;generalize ((s+i+1:Nat):Int)=q at *;have g: ∀(A B C:List UInt8) (a n:Nat) (x:Int),recB r.kind q r.id r.other r.price r.qty r.reason=A++(B++C)→A.length=a→B=be n x→0≤x→x<256 ^ n→val (((recB r.kind q r.id r.other r.price r.qty r.reason).drop a).take n)=x:=by
  intro A B C a n x e hA hB x0 x1;subst hB;rw[e,zGl A (be n x) C a n hA (zA2 n x),zBw n x x0 x1]
 rw[g [] (be 1 r.kind) (be 4 q++be 4 r.id++be 4 r.other++be 4 r.price++be 4 r.qty++be 1 r.reason) 0 1 r.kind (by unfold recB;simp[List.append_assoc]) rfl rfl (by omega) (by omega),
  g (be 1 r.kind) (be 4 q) (be 4 r.id++be 4 r.other++be 4 r.price++be 4 r.qty++be 1 r.reason) 1 4 q (by unfold recB;simp[List.append_assoc]) (by simp[zA2]) rfl (by omega) (by omega),
  g (be 1 r.kind++be 4 q) (be 4 r.id) (be 4 r.other++be 4 r.price++be 4 r.qty++be 1 r.reason) 5 4 r.id (by unfold recB;simp[List.append_assoc]) (by simp[zA2]) rfl (by omega) (by omega),
  g (be 1 r.kind++be 4 q++be 4 r.id) (be 4 r.other) (be 4 r.price++be 4 r.qty++be 1 r.reason) 9 4 r.other (by unfold recB;simp[List.append_assoc]) (by simp[zA2]) rfl (by omega) (by omega),
  g (be 1 r.kind++be 4 q++be 4 r.id++be 4 r.other) (be 4 r.price) (be 4 r.qty++be 1 r.reason) 13 4 r.price (by unfold recB;simp[List.append_assoc]) (by simp[zA2]) rfl (by omega) (by omega),
  g (be 1 r.kind++be 4 q++be 4 r.id++be 4 r.other++be 4 r.price) (be 4 r.qty) (be 1 r.reason) 17 4 r.qty (by unfold recB;simp[List.append_assoc]) (by simp[zA2]) rfl (by omega) (by omega),
  g (be 1 r.kind++be 4 q++be 4 r.id++be 4 r.other++be 4 r.price++be 4 r.qty) (be 1 r.reason) [] 21 1 r.reason (by unfold recB;simp[List.append_assoc]) (by simp[zA2]) rfl (by omega) (by omega)]
theorem zLu{s:Nat}(hf: ∀r∈rs,r.Fits)(hs:s+rs.length<4294967296):RecsOf (ba (encR s rs)) rs.length 0:=by
 have hz:(ba (encR s rs)).size=22*rs.length:=by rw[zA3,zAt]
 refine⟨fun i hi=>?_,.inl ⟨rfl,hz.symm⟩⟩;have hr:rs[i]? =some rs[i]:=List.getElem?_eq_getElem hi;have k:=hf rs[i] (List.getElem_mem hi);have hL:=zGn (s:=s) hr k (by omega);have h0:fld (ba (encR s rs)) (22*i) 0 1=rs[i].kind:=by
  unfold recL at hL;injection hL
 refine⟨by rw[hz];omega,by rw[h0];exact k.k0,by rw[h0];exact k.k1⟩
end
section
open Go.Extern Go.RowKit
def Ent.cells(x:Ent):List Value:=[.int .i64 x.id,.int .i64 x.side,.int .i64 x.kind,.int .i64 x.qty,.int .i64 x.off,.int .i64 x.price,.int .i64 x.opn,.int .i64 x.filled,.int .i64 x.shown,.int .i64 x.gone,.int .i64 x.place,.bool x.live]
theorem flat12: ∀(l:List Ent) (k j:Nat) (x:Ent),l[k]? =some x→j<12→(l.flatMap Ent.cells)[k*12+j]? =x.cells[j]?
 | [],k,j,x,h,hj=>by simp at h
 |y::l,0,j,x,h,hj=>by
  obtain rfl:y=x:=by simpa using h
  rw[List.flatMap_cons,Nat.zero_mul,Nat.zero_add,List.getElem?_append_left (by simp[Ent.cells];omega)]
 |y::l,k+1,j,x,h,hj=>by
  have hl:y.cells.length=12:=rfl;rw[List.flatMap_cons,List.getElem?_append_right (by rw[hl];omega),hl];have:=flat12 l k j x (by simpa using h) hj;rw[←this]
  congr 1
  omega
structure KL(base:Nat)(w:World)(wb:Nat)(b:Book):Prop where
 row: ∃lv,w.cell? ⟨wb,8,none⟩=some lv∧w.ownsRow base 42 12 lv b.l.length (b.l.flatMap Ent.cells)
 place:w.cell? ⟨wb,9,none⟩=some (.int .i64 b.place)
 len:b.l.length≤100000000
theorem KL.shape(h:KL base w wb b): ∃(p:Option Addr) (cap:Nat),w.cell? ⟨wb,8,none⟩=some (.slice p b.l.length cap)∧∀(k:Nat) (x:Ent),b.l[k]? =some x→∃g,p=some ⟨g,0,none⟩∧∀j,j<12→w.cell? ⟨g,k*12+j,none⟩=x.cells[j]? :=by
 obtain⟨lv,c8,hr⟩:=h.row;rcases hr.2 with⟨rfl,h0⟩|⟨g,cap,cur,rfl,_⟩
 ·refine⟨none,0,by rw[c8,h0],fun k x hk=>?_⟩;have:=(List.getElem?_eq_some_iff.1 hk).1;omega
 ·refine⟨_,cap,c8,fun k x hk=>⟨g,rfl,fun j hj=>?_⟩⟩;have hlt:=(List.getElem?_eq_some_iff.1 hk).1;rw[hr.cellAt (k*12+j) (by omega),flat12 b.l k j x hk hj]
def idx:Option Nat→Int|some i=>i|none=> -1
theorem kfind(h:KL base w wb b)(id:Int):
 Calls Tryz.prog 43 #[.pointer (some ⟨wb,0,none⟩),.int .i64 id] w fun en w'=>en=.returned (.int .i64 (idx (b.find id)))∧w'=w:=by
 obtain⟨p,cap,c8,hx⟩:=h.shape;have hlen:=h.len;have HX:Hid (∀(k:Nat) (x:Ent),b.l[k]? =some x→∃g,p=some ⟨g,0,none⟩∧∀j,j<12→w.cell? ⟨g,k*12+j,none⟩=x.cells[j]?):=hx;have HF:Hid (∀k x,b.l[k]? =some x→x.id=id→(∀j y,j<k→b.l[j]? =some y→y.id≠id)→b.find id=some k):=by
  intro k x hk he hn;show b.l.findIdx? (fun x=>x.id == id)=some k;rw[List.findIdx?_eq_some_iff_getElem];obtain⟨hl,hv⟩:=List.getElem?_eq_some_iff.1 hk;refine⟨hl,by rw[hv];simpa using he,fun j hj=>?_⟩;have:=hn j _ hj (List.getElem?_eq_getElem (by omega));simpa using this
 have HN:Hid ((∀j y,j<b.l.length→b.l[j]? =some y→y.id≠id)→b.find id=none):=by
  intro hn;show b.l.findIdx? (fun x=>x.id == id)=none;rw[List.findIdx?_eq_none_iff];intro x hx;obtain⟨i,hi⟩:=List.getElem?_of_mem hx;have:=hn i x (List.getElem?_eq_some_iff.1 hi).1 hi;simpa using this
 clear h hx;go_enter Tryz.func43,Tryz.ntmps43;go_wp2;go_loopw [5] (fun iv wr=> ∃k:Nat,iv=.int .i64 k∧k≤b.l.length∧(∀j y,j<k→b.l[j]? =some y→y.id≠id)∧wr=w) (fun iv _=>b.l.length - (intOf iv).toNat)
 case atStart=>exact⟨0,rfl,Nat.zero_le _,fun j x hj=>absurd hj (Nat.not_lt_zero _),rfl⟩
 case round=>
  obtain⟨k,rfl,hk,hno,hw⟩:=hrel;subst hw;have HNO:Hid (∀j y,j<k→b.l[j]? =some y→y.id≠id):=hno;clear hno;by_cases hlt:k<b.l.length
  ·have hkI:(k:Int)<(b.l.length:Int):=by omega
   have hw1:wrap64 ((k:Int)+1)=(k:Int)+1:=by unfold wrap64;omega
   have HAT:Hid (b.l[k]? =some b.l[k]):=List.getElem?_eq_getElem hlt;obtain⟨g,hp,hc⟩:=HX.out k _ HAT.out;have c0:wr.cell? ⟨g,k*12,none⟩=some (.int .i64 b.l[k].id):=hc 0 (by omega);clear hc;subst hp;generalize hxk:b.l[k]=x at *;clear hxk;cases e1:(x.id == id)
   ·have HNE:Hid (x.id≠id):=by show x.id≠id;simpa using e1
    go_wp2;go_roundw
    case rel=>
     refine⟨k+1,by go_num,hlt,fun j y hj hy=>?_,by first|rfl|trivial⟩;by_cases q:j<k
     ·exact HNO.out j y q hy
     ·obtain rfl:j=k:=by omega
      obtain rfl:x=y:=Option.some.inj (HAT.out.symm.trans hy);exact HNE.out
    case measure=>simp[intOf];omega
   ·have HEQ:Hid (x.id=id):=by show x.id=id;simpa using e1
    have HR:Hid (b.find id=some k):=HF.out k x HAT.out HEQ.out HNO.out;go_wp2;go_ret;exact⟨by rw[HR.out];rfl,rfl⟩
  ·obtain rfl:k=b.l.length:=by omega
   have HR:Hid (b.find id=none):=HN.out HNO.out;have hkI: ¬(b.l.length:Int)<(b.l.length:Int):=by omega
   go_wp2;go_ret;exact⟨by rw[HR.out];rfl,rfl⟩
theorem heapNew(w:World)(o:Obj):(w.alloc o).heap[w.heap.size]? =some o:=by unfold World.alloc;simp
def entObj(x:Ent):Obj:=.cells #[.int .i64 x.id,.int .i64 x.side,.int .i64 x.kind,.int .i64 x.qty,.int .i64 x.off,.int .i64 x.price,.int .i64 x.opn,.int .i64 x.filled,.int .i64 x.shown,.int .i64 x.gone,.int .i64 x.place,.bool x.live] 42
theorem KL.below(h:KL base w wb b)(hb:Below w.heap.size w w'):KL base w' wb b:=by
 obtain⟨⟨lv,c8,hr⟩,c9,hl⟩:=h;have lt: ∀{o:Nat} {v:Value},w.cell? ⟨wb,o,none⟩=some v→wb<w.heap.size:=by
  intro o v hc;unfold World.cell? at hc;rcases q:w.heap[wb]? with _|x
  ·rw[q]at hc;simp at hc
  ·exact(Array.getElem?_eq_some_iff.1 q).1
 have hlt:=lt c9;have keep: ∀{o:Nat} {v:Value},w.cell? ⟨wb,o,none⟩=some v→w'.cell? ⟨wb,o,none⟩=some v:=by
  intro o v hc;unfold World.cell? at hc⊢;rw[hb.block wb hlt];exact hc
 refine⟨⟨lv,keep c8,hr.1,?_⟩,keep c9,hl⟩;rcases hr.2 with h2|⟨g,cap,cur,hv,hg,hh,r⟩
 ·exact .inl h2
 ·exact .inr ⟨g,cap,cur,hv,hg,by rw[hb.block g (Array.getElem?_eq_some_iff.1 hh).1];exact hh,r⟩
theorem zCr{l:List Ent}{n:Nat}{x:Ent}(hx:l[n]? =some x):Book.firstTo l side (n+1)=if Book.rests side x then(match Book.firstTo l side n with|none=>some n|some c=>if(match l[c]? with|some y=>Book.ahead side x y|none=>true) then some n else some c) else Book.firstTo l side n:=by
 show(match l[n]? with|none=>_|some x=>_)=_;rw[hx];rfl
theorem zGo{l:List Ent}: ∀{n c:Nat},n≤l.length→Book.firstTo l side n=some c→c<l.length
 |0,c,_,h=>by cases h
 |n+1,c,hn,h=>by
  have hx:l[n]? =some l[n]:=List.getElem?_eq_getElem (by omega);rw[zCr hx]at h;cases q:Book.firstTo l side n with
  |none=>
   rw[q]at h;by_cases r:Book.rests side l[n]=true
   ·rw[if_pos r]at h;obtain rfl:=Option.some.inj h;omega
   ·rw[if_neg r]at h;cases h
  |some c'=>
   have ih:=zGo (show n≤l.length by omega) q;rw[q]at h;by_cases r:Book.rests side l[n]=true
   ·rw[if_pos r]at h;simp only at h;by_cases z:(match l[c']? with|some y=>Book.ahead side l[n] y|none=>true)=true
    ·rw[if_pos z]at h;obtain rfl:=Option.some.inj h;omega
    ·rw[if_neg z]at h;obtain rfl:=Option.some.inj h;exact ih
   ·rw[if_neg r]at h;obtain rfl:=Option.some.inj h;exact ih
theorem kfirst(h:KL base w wb b)(side:Int)(hs:side=1∨side=2):
 Calls Tryz.prog 46 #[.pointer (some ⟨wb,0,none⟩),.int .i64 side] w fun en w'=>en=.returned (.int .i64 (idx (b.first side)))∧Below w.heap.size w w':=by
 obtain⟨p,cap,c8,hx⟩:=h.shape;have hlen:=h.len;have HKL:Hid (KL base w wb b):=h;have HLT:Hid (∀k x,b.l[k]? =some x→∀g,p=some ⟨g,0,none⟩→∀W,Below w.heap.size w W→∀j,j<12→W.cell? ⟨g,k*12+j,none⟩=x.cells[j]?):=by
  intro k x hk g hp W hW j hj;obtain⟨g',hp',hc⟩:=hx k x hk;obtain rfl:g=g':=by rw[hp]at hp';injection hp' with q;injection q
  have hcj:=hc j hj;have hsome: ∃v,x.cells[j]? =some v:=⟨_,List.getElem?_eq_getElem (show j<x.cells.length from hj)⟩;obtain⟨v,hv⟩:=hsome;rw[hv]at hcj⊢;have hlt:g<w.heap.size:=by
   unfold World.cell? at hcj;rcases q:w.heap[g]? with _|y
   ·rw[q]at hcj;simp at hcj
   ·exact(Array.getElem?_eq_some_iff.1 q).1
  unfold World.cell? at hcj⊢;rw[hW.block g hlt];exact hcj
 have HP:Hid (∀k x,b.l[k]? =some x→∃g,p=some ⟨g,0,none⟩):=fun k x hk=>by obtain⟨g,hp,_⟩:=hx k x hk;exact⟨g,hp⟩
 have H8:Hid (∀W,Below w.heap.size w W→W.cell? ⟨wb,8,none⟩=some (.slice p b.l.length cap)):=by
  intro W hW;have hlt:wb<w.heap.size:=by
   unfold World.cell? at c8;rcases q:w.heap[wb]? with _|y
   ·rw[q]at c8;simp at c8
   ·exact(Array.getElem?_eq_some_iff.1 q).1
  unfold World.cell? at c8⊢;rw[hW.block wb hlt];exact c8
 have HS:Hid (side=1∨side=2):=hs;clear h hx hs c8;go_enter Tryz.func46,Tryz.ntmps46;go_wp2;go_loopw [5,6] (fun bv iv wr=> ∃k:Nat,iv=.int .i64 k∧k≤b.l.length∧(∃z,bv=.int .i64 z∧z=idx (Book.firstTo b.l side k))∧Below w.heap.size w wr) (fun _ iv _=>b.l.length - (intOf iv).toNat)
 case atStart=>exact⟨0,rfl,Nat.zero_le _,⟨_,rfl,rfl⟩,Below.refl _ _⟩
 case round=>
  obtain⟨k,rfl,hk,⟨z,rfl,hz⟩,hbw⟩:=hrel;have HB:Hid (Below w.heap.size w wr):=hbw;have HZ:Hid (z=idx (Book.firstTo b.l side k)):=hz;clear hz;have c8:=H8.out wr hbw;clear hbw;by_cases hlt:k<b.l.length
  ·have hkI:(k:Int)<(b.l.length:Int):=by omega
   have hw1:wrap64 ((k:Int)+1)=(k:Int)+1:=by unfold wrap64;omega
   have HAT:Hid (b.l[k]? =some b.l[k]):=List.getElem?_eq_getElem hlt;obtain⟨g,hp⟩:=HP.out k _ HAT.out;have hc:=HLT.out k _ HAT.out g hp wr HB.out;generalize hxk:b.l[k]=x at *;clear hxk;have c0:wr.cell? ⟨g,k*12,none⟩=some (.int .i64 x.id):=hc 0 (by omega);have c1:wr.cell? ⟨g,k*12+1,none⟩=some (.int .i64 x.side):=hc 1 (by omega);have c2:wr.cell? ⟨g,k*12+2,none⟩=some (.int .i64 x.kind):=hc 2 (by omega);have c3:wr.cell? ⟨g,k*12+3,none⟩=some (.int .i64 x.qty):=hc 3 (by omega);have c4:wr.cell? ⟨g,k*12+4,none⟩=some (.int .i64 x.off):=hc 4 (by omega);have c5:wr.cell? ⟨g,k*12+5,none⟩=some (.int .i64 x.price):=hc 5 (by omega);have c6:wr.cell? ⟨g,k*12+6,none⟩=some (.int .i64 x.opn):=hc 6 (by omega);have c7:wr.cell? ⟨g,k*12+7,none⟩=some (.int .i64 x.filled):=hc 7 (by omega);have c8':wr.cell? ⟨g,k*12+8,none⟩=some (.int .i64 x.shown):=hc 8 (by omega)
   have c9:wr.cell? ⟨g,k*12+9,none⟩=some (.int .i64 x.gone):=hc 9 (by omega);have c10:wr.cell? ⟨g,k*12+10,none⟩=some (.int .i64 x.place):=hc 10 (by omega);have c11:wr.cell? ⟨g,k*12+11,none⟩=some (.bool x.live):=hc 11 (by omega);clear hc;subst hp;have HN:Hid (Book.rests side x=false→Book.firstTo b.l side (k+1)=Book.firstTo b.l side k):=fun q=>by rw[zCr HAT.out,if_neg (by rw[q];simp)]
   cases e1:x.live
   ·have HF:Hid (Book.firstTo b.l side (k+1)=Book.firstTo b.l side k):=HN.out (by unfold Book.rests;rw[e1];rfl);go_wp2;go_roundw
    case rel=>exact⟨k+1,by go_num,hlt,⟨z,rfl,by rw[HF.out];exact HZ.out⟩,HB.out.alloc HB.out.size _⟩
    case measure=>simp[intOf];omega
   ·cases e2:(x.side != side)
    ·cases e3:(x.shown == 0)
     ·have HRT:Hid (Book.rests side x=true):=by
       show Book.rests side x=true;unfold Book.rests;have a:x.side=side:=by simpa using e2
       have c: ¬x.shown=0:=by simpa using e3
       simp[e1,a,c]
      go_wp2_with fail;have HW:Hid (Below w.heap.size w (wr.alloc (.cells #[.int .i64 x.id,.int .i64 x.side,.int .i64 x.kind,.int .i64 x.qty,.int .i64 x.off,.int .i64 x.price,.int .i64 x.opn,.int .i64 x.filled,.int .i64 x.shown,.int .i64 x.gone,.int .i64 x.place,.bool true] 42))):=HB.out.alloc HB.out.size _;have r5:(wr.alloc (.cells #[.int .i64 x.id,.int .i64 x.side,.int .i64 x.kind,.int .i64 x.qty,.int .i64 x.off,.int .i64 x.price,.int .i64 x.opn,.int .i64 x.filled,.int .i64 x.shown,.int .i64 x.gone,.int .i64 x.place,.bool true] 42)).cell? ⟨wr.heap.size,5,none⟩=some (.int .i64 x.price):=by rw[World.cell?_alloc_at _ _ _ _ rfl];rfl
      have r10:(wr.alloc (.cells #[.int .i64 x.id,.int .i64 x.side,.int .i64 x.kind,.int .i64 x.qty,.int .i64 x.off,.int .i64 x.price,.int .i64 x.opn,.int .i64 x.filled,.int .i64 x.shown,.int .i64 x.gone,.int .i64 x.place,.bool true] 42)).cell? ⟨wr.heap.size,10,none⟩=some (.int .i64 x.place):=by rw[World.cell?_alloc_at _ _ _ _ rfl];rfl
      have d8:=H8.out _ HW.out;clear c8;cases hq:Book.firstTo b.l side k with
      |none=>
       have hi:z= -1:=by rw[HZ.out,hq];rfl
       subst hi;have HF:Hid (Book.firstTo b.l side (k+1)=some k):=by
        show _=_;rw[zCr HAT.out,if_pos HRT.out,hq]
       clear hq;generalize wr.alloc (.cells #[.int .i64 x.id,.int .i64 x.side,.int .i64 x.kind,.int .i64 x.qty,.int .i64 x.off,.int .i64 x.price,.int .i64 x.opn,.int .i64 x.filled,.int .i64 x.shown,.int .i64 x.gone,.int .i64 x.place,.bool true] 42)=W at *;clear c0 c1 c2 c3 c4 c5 c6 c7 c8' c9 c10 c11;go_quiet (fail);go_wp2;go_roundw
       case rel=>exact⟨k+1,by go_num,hlt,⟨_,rfl,by rw[HF.out];rfl⟩,⟨HW.out.os,HW.out.tape,HW.out.output,HW.out.size,HW.out.block⟩⟩
       case measure=>simp[intOf];omega
      |some c=>
       have hcl:c<b.l.length:=zGo (by omega) hq;have HY:Hid (b.l[c]? =some b.l[c]):=List.getElem?_eq_getElem hcl;have hc2:=HLT.out c _ HY.out g rfl _ HW.out;generalize hyk:b.l[c]=y at *;clear hyk;have d5:(wr.alloc (.cells #[.int .i64 x.id,.int .i64 x.side,.int .i64 x.kind,.int .i64 x.qty,.int .i64 x.off,.int .i64 x.price,.int .i64 x.opn,.int .i64 x.filled,.int .i64 x.shown,.int .i64 x.gone,.int .i64 x.place,.bool true] 42)).cell? ⟨g,c*12+5,none⟩=some (.int .i64 y.price):=hc2 5 (by omega);have d10:(wr.alloc (.cells #[.int .i64 x.id,.int .i64 x.side,.int .i64 x.kind,.int .i64 x.qty,.int .i64 x.off,.int .i64 x.price,.int .i64 x.opn,.int .i64 x.filled,.int .i64 x.shown,.int .i64 x.gone,.int .i64 x.place,.bool true] 42)).cell? ⟨g,c*12+10,none⟩=some (.int .i64 y.place):=hc2 10 (by omega);have hi:z=(c:Int):=by rw[HZ.out,hq];rfl
       subst hi;have hc0: ¬(c:Int)<0:=by omega
       have hcI:(c:Int)<(b.l.length:Int):=by omega
       have HFF:Hid (Book.firstTo b.l side (k+1)=if Book.ahead side x y=true then some k else some c):=by
        show _=_;rw[zCr HAT.out,if_pos HRT.out,hq];simp only[HY.out]
       clear hq hc2;generalize wr.alloc (.cells #[.int .i64 x.id,.int .i64 x.side,.int .i64 x.kind,.int .i64 x.qty,.int .i64 x.off,.int .i64 x.price,.int .i64 x.opn,.int .i64 x.filled,.int .i64 x.shown,.int .i64 x.gone,.int .i64 x.place,.bool true] 42)=W at *;clear c0 c1 c2 c3 c4 c5 c6 c7 c8' c9 c10 c11;rcases HS.out with s|s
       ·have e4:(side == 1)=true:=by simp[s]
        have e5:(side == 2)=false:=by simp[s]
        cases q1:decide (y.price<x.price)
        ·cases q2:(x.price == y.price)
         ·have HA:Hid (Book.ahead side x y=false):=by show Book.ahead side x y=false;unfold Book.ahead;rw[s];simp at q1 q2⊢;omega
          have HF:Hid (Book.firstTo b.l side (k+1)=some c):=by show _=_;rw[HFF.out,HA.out];rfl
          go_quiet (fail);go_wp2;go_roundw
          case rel=>exact⟨k+1,by go_num,hlt,⟨_,rfl,by rw[HF.out];rfl⟩,⟨HW.out.os,HW.out.tape,HW.out.output,HW.out.size,HW.out.block⟩⟩
          case measure=>simp[intOf];omega
         ·cases q3:decide (x.place<y.place)
          ·have HA:Hid (Book.ahead side x y=false):=by show Book.ahead side x y=false;unfold Book.ahead;rw[s];simp at q1 q2 q3⊢;omega
           have HF:Hid (Book.firstTo b.l side (k+1)=some c):=by show _=_;rw[HFF.out,HA.out];rfl
           go_quiet (fail);go_wp2;go_roundw
           case rel=>exact⟨k+1,by go_num,hlt,⟨_,rfl,by rw[HF.out];rfl⟩,⟨HW.out.os,HW.out.tape,HW.out.output,HW.out.size,HW.out.block⟩⟩
           case measure=>simp[intOf];omega
          ·have HA:Hid (Book.ahead side x y=true):=by show Book.ahead side x y=true;unfold Book.ahead;rw[s];simp at q1 q2 q3⊢;omega
           have HF:Hid (Book.firstTo b.l side (k+1)=some k):=by show _=_;rw[HFF.out,HA.out];rfl
           go_quiet (fail);go_wp2;go_roundw
           case rel=>exact⟨k+1,by go_num,hlt,⟨_,rfl,by rw[HF.out];rfl⟩,⟨HW.out.os,HW.out.tape,HW.out.output,HW.out.size,HW.out.block⟩⟩
           case measure=>simp[intOf];omega
        ·have HA:Hid (Book.ahead side x y=true):=by show Book.ahead side x y=true;unfold Book.ahead;rw[s];simp at q1⊢;omega
         have HF:Hid (Book.firstTo b.l side (k+1)=some k):=by show _=_;rw[HFF.out,HA.out];rfl
         go_quiet (fail);go_wp2;go_roundw
         case rel=>exact⟨k+1,by go_num,hlt,⟨_,rfl,by rw[HF.out];rfl⟩,⟨HW.out.os,HW.out.tape,HW.out.output,HW.out.size,HW.out.block⟩⟩
         case measure=>simp[intOf];omega
       ·have e4:(side == 1)=false:=by simp[s]
        have e5:(side == 2)=true:=by simp[s]
        cases q1:decide (x.price<y.price)
        ·cases q2:(x.price == y.price)
         ·have HA:Hid (Book.ahead side x y=false):=by show Book.ahead side x y=false;unfold Book.ahead;rw[s];simp at q1 q2⊢;omega
          have HF:Hid (Book.firstTo b.l side (k+1)=some c):=by show _=_;rw[HFF.out,HA.out];rfl
          go_quiet (fail);go_wp2;go_roundw
          case rel=>exact⟨k+1,by go_num,hlt,⟨_,rfl,by rw[HF.out];rfl⟩,⟨HW.out.os,HW.out.tape,HW.out.output,HW.out.size,HW.out.block⟩⟩
          case measure=>simp[intOf];omega
         ·cases q3:decide (x.place<y.place)
          ·have HA:Hid (Book.ahead side x y=false):=by show Book.ahead side x y=false;unfold Book.ahead;rw[s];simp at q1 q2 q3⊢;omega
           have HF:Hid (Book.firstTo b.l side (k+1)=some c):=by show _=_;rw[HFF.out,HA.out];rfl
           go_quiet (fail);go_wp2;go_roundw
           case rel=>exact⟨k+1,by go_num,hlt,⟨_,rfl,by rw[HF.out];rfl⟩,⟨HW.out.os,HW.out.tape,HW.out.output,HW.out.size,HW.out.block⟩⟩
           case measure=>simp[intOf];omega
          ·have HA:Hid (Book.ahead side x y=true):=by show Book.ahead side x y=true;unfold Book.ahead;rw[s];simp at q1 q2 q3⊢;omega
           have HF:Hid (Book.firstTo b.l side (k+1)=some k):=by show _=_;rw[HFF.out,HA.out];rfl
           go_quiet (fail);go_wp2;go_roundw
           case rel=>exact⟨k+1,by go_num,hlt,⟨_,rfl,by rw[HF.out];rfl⟩,⟨HW.out.os,HW.out.tape,HW.out.output,HW.out.size,HW.out.block⟩⟩
           case measure=>simp[intOf];omega
        ·have HA:Hid (Book.ahead side x y=true):=by show Book.ahead side x y=true;unfold Book.ahead;rw[s];simp at q1⊢;omega
         have HF:Hid (Book.firstTo b.l side (k+1)=some k):=by show _=_;rw[HFF.out,HA.out];rfl
         go_quiet (fail);go_wp2;go_roundw
         case rel=>exact⟨k+1,by go_num,hlt,⟨_,rfl,by rw[HF.out];rfl⟩,⟨HW.out.os,HW.out.tape,HW.out.output,HW.out.size,HW.out.block⟩⟩
         case measure=>simp[intOf];omega
     ·have HF:Hid (Book.firstTo b.l side (k+1)=Book.firstTo b.l side k):=HN.out (by have z:x.shown=0:=(by simpa using e3);unfold Book.rests;simp[z]);go_wp2;go_roundw
      case rel=>exact⟨k+1,by go_num,hlt,⟨z,rfl,by rw[HF.out];exact HZ.out⟩,HB.out.alloc HB.out.size _⟩
      case measure=>simp[intOf];omega
    ·have HF:Hid (Book.firstTo b.l side (k+1)=Book.firstTo b.l side k):=HN.out (by have z: ¬x.side=side:=(by simpa using e2);unfold Book.rests;simp[z]);go_wp2;go_roundw
     case rel=>exact⟨k+1,by go_num,hlt,⟨z,rfl,by rw[HF.out];exact HZ.out⟩,HB.out.alloc HB.out.size _⟩
     case measure=>simp[intOf];omega
  ·obtain rfl:k=b.l.length:=by omega
   have hkI: ¬(b.l.length:Int)<(b.l.length:Int):=by omega
   have HR:Hid (b.first side=Book.firstTo b.l side b.l.length):=rfl;go_wp2;go_ret;exact⟨by rw[HR.out,←HZ.out];first|done|rfl,HB.out⟩
structure KF(wb g:Nat)(w w':World):Prop where
 os:w'.os=w.os
 tape:w'.tape=w.tape
 output:w'.output=w.output
 size:w'.heap.size=w.heap.size
 block: ∀k,k≠wb→k≠g→w'.heap[k]? =w.heap[k]?
 cell: ∀o,o≠8→o≠9→w'.cell? ⟨wb,o,none⟩=w.cell? ⟨wb,o,none⟩
theorem krests{g:Nat}{n cap:Nat}{pl x10 x8:Int}(c8:w.cell? ⟨wb,8,none⟩=some (.slice (some ⟨g,0,none⟩) n cap))(c9:w.cell? ⟨wb,9,none⟩=some (.int .i64 pl))(hi:i<n)(hn:n≤100000000)(hne:wb≠g)(f9:w.frozen? ⟨wb,9,none⟩=false)(fg: ∀j,w.frozen? ⟨g,j,none⟩=false)(g8:w.cell? ⟨g,i*12+8,none⟩=some (.int .i64 x8))(g10:w.cell? ⟨g,i*12+10,none⟩=some (.int .i64 x10))(hp:0≤pl∧pl≤1000000000)(m:Int):
 Calls Tryz.prog 45 #[.pointer (some ⟨wb,0,none⟩),.int .i64 (i:Int),.int .i64 m] w fun en w'=>en=.returned (.tuple #[])∧∃q,w'=(((w.drewN q).setCell ⟨wb,9,none⟩ (.int .i64 (pl+1))).setCell ⟨g,i*12+10,none⟩ (.int .i64 (pl+1))).setCell ⟨g,i*12+8,none⟩ (.int .i64 m):=by
 have hw:wrap64 (pl+1)=pl+1:=by unfold wrap64;omega
 have hiI:(i:Int)<(n:Int):=by omega
 have hne':g≠wb:=fun h=>hne h.symm
 have f10:=fg (i*12+10);have f8:=fg (i*12+8);clear fg;go_enter Tryz.func45,Tryz.ntmps45;go_wp2_with fail;go_region;all_goals(go_wp2;go_end0;exact⟨rfl,1,rfl⟩)
theorem zDv{b o:Nat}{v:Value}(hc:w.cell? ⟨b,o,none⟩=some v):b<w.heap.size:=by
 unfold World.cell? at hc;rcases q:w.heap[b]? with _|x
 ·rw[q]at hc;simp at hc
 ·exact(Array.getElem?_eq_some_iff.1 q).1
theorem zA6{B b o:Nat}{v:Value}(hB:Below B w w')(hb:b<B)(hc:w.cell? ⟨b,o,none⟩=some v):w'.cell? ⟨b,o,none⟩=some v:=by
 unfold World.cell? at hc⊢;rw[hB.block b hb];exact hc
theorem KL.at'(h:KL base w wb b): ∃(p:Option Addr) (cap:Nat),w.cell? ⟨wb,8,none⟩=some (.slice p b.l.length cap)∧∀(k:Nat) (x:Ent),b.l[k]? =some x→∃g,p=some ⟨g,0,none⟩∧∀W,Below w.heap.size w W→∀j,j<12→W.cell? ⟨g,k*12+j,none⟩=x.cells[j]? :=by
 obtain⟨p,cap,c8,hx⟩:=h.shape;refine⟨p,cap,c8,fun k x hk=>?_⟩;obtain⟨g,hp,hc⟩:=hx k x hk;refine⟨g,hp,fun W hW j hj=>?_⟩;have hcj:=hc j hj;obtain⟨v,hv⟩: ∃v,x.cells[j]? =some v:=⟨_,List.getElem?_eq_getElem (show j<x.cells.length from hj)⟩;rw[hv]at hcj⊢;exact zA6 hW (zDv hcj) hcj
theorem ktarget(h:KL base w wb b)(mp:Int)(c1:w.cell? ⟨wb,1,none⟩=some (.int .i64 mp)){o:Ent}(ho:b.l[i]? =some o)(hs:o.side=1∨o.side=2)(hb: ∀x∈b.l,0≤x.price∧x.price≤1000000)(hoff: -1000000≤o.off∧o.off≤1000000):
 Calls Tryz.prog 47 #[.pointer (some ⟨wb,0,none⟩),.int .i64 (i:Int)] w fun en w'=>en=.returned (.int .i64 (b.target mp o))∧Below w.heap.size w w':=by
 obtain⟨p,cap,c8,hx⟩:=h.at';have hlen:=h.len;have hil:=(List.getElem?_eq_some_iff.1 ho).1;have hiI:(i:Int)<(b.l.length:Int):=by omega
 obtain⟨g,hp,hc⟩:=hx i o ho;have HX:Hid (∀(k:Nat) (x:Ent),b.l[k]? =some x→∃g,p=some ⟨g,0,none⟩∧∀W,Below w.heap.size w W→∀j,j<12→W.cell? ⟨g,k*12+j,none⟩=x.cells[j]?):=hx;have HBD:Hid (∀x∈b.l,0≤x.price∧x.price≤1000000):=hb;have HOF:Hid (-1000000≤o.off∧o.off≤1000000):=hoff;have HS:Hid (o.side=1∨o.side=2):=hs;have HC8:Hid (∀W,Below w.heap.size w W→W.cell? ⟨wb,8,none⟩=some (.slice p b.l.length cap)∧W.cell? ⟨wb,1,none⟩=some (.int .i64 mp)):=fun W hW=>⟨zA6 hW (zDv c8) c8,zA6 hW (zDv c8) c1⟩
 have hcw:=hc w (Below.refl _ _);have i0:w.cell? ⟨g,i*12,none⟩=some (.int .i64 o.id):=hcw 0 (by omega);have i1:w.cell? ⟨g,i*12+1,none⟩=some (.int .i64 o.side):=hcw 1 (by omega);have i2:w.cell? ⟨g,i*12+2,none⟩=some (.int .i64 o.kind):=hcw 2 (by omega);have i3:w.cell? ⟨g,i*12+3,none⟩=some (.int .i64 o.qty):=hcw 3 (by omega);have i4:w.cell? ⟨g,i*12+4,none⟩=some (.int .i64 o.off):=hcw 4 (by omega);have i5:w.cell? ⟨g,i*12+5,none⟩=some (.int .i64 o.price):=hcw 5 (by omega);have i6:w.cell? ⟨g,i*12+6,none⟩=some (.int .i64 o.opn):=hcw 6 (by omega);have i7:w.cell? ⟨g,i*12+7,none⟩=some (.int .i64 o.filled):=hcw 7 (by omega);have i8:w.cell? ⟨g,i*12+8,none⟩=some (.int .i64 o.shown):=hcw 8 (by omega);have i9:w.cell? ⟨g,i*12+9,none⟩=some (.int .i64 o.gone):=hcw 9 (by omega);have i10:w.cell? ⟨g,i*12+10,none⟩=some (.int .i64 o.place):=hcw 10 (by omega)
 have i11:w.cell? ⟨g,i*12+11,none⟩=some (.bool o.live):=hcw 11 (by omega);have W1:(w.alloc (.cells #[.int .i64 o.id,.int .i64 o.side,.int .i64 o.kind,.int .i64 o.qty,.int .i64 o.off,.int .i64 o.price,.int .i64 o.opn,.int .i64 o.filled,.int .i64 o.shown,.int .i64 o.gone,.int .i64 o.place,.bool o.live] 42)).cell? ⟨w.heap.size,1,none⟩=some (.int .i64 o.side):=by rw[World.cell?_alloc_at _ _ _ _ rfl];rfl
 have W4:(w.alloc (.cells #[.int .i64 o.id,.int .i64 o.side,.int .i64 o.kind,.int .i64 o.qty,.int .i64 o.off,.int .i64 o.price,.int .i64 o.opn,.int .i64 o.filled,.int .i64 o.shown,.int .i64 o.gone,.int .i64 o.place,.bool o.live] 42)).cell? ⟨w.heap.size,4,none⟩=some (.int .i64 o.off):=by rw[World.cell?_alloc_at _ _ _ _ rfl];rfl
 have HT:Hid (∀W,Below (w.heap.size+1) (w.alloc (.cells #[.int .i64 o.id,.int .i64 o.side,.int .i64 o.kind,.int .i64 o.qty,.int .i64 o.off,.int .i64 o.price,.int .i64 o.opn,.int .i64 o.filled,.int .i64 o.shown,.int .i64 o.gone,.int .i64 o.place,.bool o.live] 42)) W→W.cell? ⟨w.heap.size,1,none⟩=some (.int .i64 o.side)∧W.cell? ⟨w.heap.size,4,none⟩=some (.int .i64 o.off)∧Below w.heap.size w W):=fun W hW=>⟨zA6 hW (by omega) W1,zA6 hW (by omega) W4,⟨hW.os,hW.tape,hW.output,by have:=hW.size;simp at this;omega,fun k hk=>(hW.block k (by omega)).trans (Below.heap_alloc _ _ k hk)⟩⟩
 clear h hx hs c1 hb hoff hc hcw ho W1 W4;subst hp;go_enter Tryz.func47,Tryz.ntmps47;go_wp2;go_loopw [6,7] (fun pv iv wr=> ∃k:Nat,iv=.int .i64 k∧k≤b.l.length∧(∃z,pv=.int .i64 z∧z=(b.l.take k).foldl (Book.tF o.side) 0∧0≤z∧z≤1000000)∧Below (w.heap.size+1) (w.alloc (.cells #[.int .i64 o.id,.int .i64 o.side,.int .i64 o.kind,.int .i64 o.qty,.int .i64 o.off,.int .i64 o.price,.int .i64 o.opn,.int .i64 o.filled,.int .i64 o.shown,.int .i64 o.gone,.int .i64 o.place,.bool o.live] 42)) wr) (fun _ iv _=>b.l.length - (intOf iv).toNat)
 case atStart=>exact⟨0,rfl,Nat.zero_le _,⟨0,rfl,rfl,by omega,by omega⟩,by have:=Below.refl (w.heap.size+1) (w.alloc (.cells #[.int .i64 o.id,.int .i64 o.side,.int .i64 o.kind,.int .i64 o.qty,.int .i64 o.off,.int .i64 o.price,.int .i64 o.opn,.int .i64 o.filled,.int .i64 o.shown,.int .i64 o.gone,.int .i64 o.place,.bool o.live] 42));exact this⟩
 case round=>
  obtain⟨k,rfl,hk,⟨z,rfl,hz,hz0,hz1⟩,hbw⟩:=hrel;have HB:Hid (Below (w.heap.size+1) (w.alloc (.cells #[.int .i64 o.id,.int .i64 o.side,.int .i64 o.kind,.int .i64 o.qty,.int .i64 o.off,.int .i64 o.price,.int .i64 o.opn,.int .i64 o.filled,.int .i64 o.shown,.int .i64 o.gone,.int .i64 o.place,.bool o.live] 42)) wr):=hbw;have HZ:Hid (z=(b.l.take k).foldl (Book.tF o.side) 0):=hz;obtain⟨t1,t4,hbw'⟩:=HT.out wr hbw;obtain⟨c8',c1'⟩:=HC8.out wr hbw';have HB':Hid (Below w.heap.size w wr):=hbw';have hsz:w.heap.size<wr.heap.size:=by have:=HB.out.size;simp at this;omega
  have hqn:w.heap.size≠wr.heap.size:=Nat.ne_of_lt hsz;clear hbw hz hbw' i0 i1 i2 i3 i4 i5 i6 i7 i8 i9 i10 i11 c8;by_cases hlt:k<b.l.length
  ·have hkI:(k:Int)<(b.l.length:Int):=by omega
   have hw1:wrap64 ((k:Int)+1)=(k:Int)+1:=by unfold wrap64;omega
   have HAT:Hid (b.l[k]? =some b.l[k]):=List.getElem?_eq_getElem hlt;obtain⟨g',hg',hc⟩:=HX.out k _ HAT.out;obtain rfl:g=g':=by injection hg' with q;injection q
   have hcw:=hc wr HB'.out;generalize hxk:b.l[k]=x at *;clear hxk hc hg';have HXB:Hid (0≤x.price∧x.price≤1000000):=HBD.out x (List.mem_of_getElem? HAT.out);have j0:wr.cell? ⟨g,k*12,none⟩=some (.int .i64 x.id):=hcw 0 (by omega);have j1:wr.cell? ⟨g,k*12+1,none⟩=some (.int .i64 x.side):=hcw 1 (by omega);have j2:wr.cell? ⟨g,k*12+2,none⟩=some (.int .i64 x.kind):=hcw 2 (by omega);have j3:wr.cell? ⟨g,k*12+3,none⟩=some (.int .i64 x.qty):=hcw 3 (by omega);have j4:wr.cell? ⟨g,k*12+4,none⟩=some (.int .i64 x.off):=hcw 4 (by omega);have j5:wr.cell? ⟨g,k*12+5,none⟩=some (.int .i64 x.price):=hcw 5 (by omega);have j6:wr.cell? ⟨g,k*12+6,none⟩=some (.int .i64 x.opn):=hcw 6 (by omega);have j7:wr.cell? ⟨g,k*12+7,none⟩=some (.int .i64 x.filled):=hcw 7 (by omega);have j8:wr.cell? ⟨g,k*12+8,none⟩=some (.int .i64 x.shown):=hcw 8 (by omega)
   have j9:wr.cell? ⟨g,k*12+9,none⟩=some (.int .i64 x.gone):=hcw 9 (by omega);have j10:wr.cell? ⟨g,k*12+10,none⟩=some (.int .i64 x.place):=hcw 10 (by omega);have j11:wr.cell? ⟨g,k*12+11,none⟩=some (.bool x.live):=hcw 11 (by omega);clear hcw;have HSUC:Hid ((b.l.take (k+1)).foldl (Book.tF o.side) 0=Book.tF o.side z x):=by
    show _=_;rw[List.take_add_one,HAT.out,HZ.out];show((b.l.take k++ [x]).foldl (Book.tF o.side) 0)=_;rw[List.foldl_append];rfl
   have HNO:Hid (¬(x.live=true∧x.side=o.side∧x.kind≠3∧0<x.shown∧(z=0∨(o.side=1∧z<x.price)∨(o.side=2∧x.price<z)))→(b.l.take (k+1)).foldl (Book.tF o.side) 0=z):=fun q=>HSUC.out.trans (if_neg q)
   have HYE:Hid ((x.live=true∧x.side=o.side∧x.kind≠3∧0<x.shown∧(z=0∨(o.side=1∧z<x.price)∨(o.side=2∧x.price<z)))→(b.l.take (k+1)).foldl (Book.tF o.side) 0=x.price):=fun q=>HSUC.out.trans (if_pos q)
   cases e1:x.live
   ·have HF:Hid ((b.l.take (k+1)).foldl (Book.tF o.side) 0=z):=HNO.out (fun q=>by rw[e1]at q;exact absurd q.1 (by decide));go_wp2;go_roundw
    case rel=>exact⟨k+1,by go_num,hlt,⟨z,rfl,HF.out.symm,hz0,hz1⟩,HB.out.alloc hsz _⟩
    case measure=>simp[intOf];omega
   ·cases e2:(x.side == o.side)
    ·have HF:Hid ((b.l.take (k+1)).foldl (Book.tF o.side) 0=z):=HNO.out (fun q=>by have:=q.2.1;simp[this]at e2);go_wp2;go_roundw
     case rel=>exact⟨k+1,by go_num,hlt,⟨z,rfl,HF.out.symm,hz0,hz1⟩,HB.out.alloc hsz _⟩
     case measure=>simp[intOf];omega
    ·cases e3:(x.kind != 3)
     ·have HF:Hid ((b.l.take (k+1)).foldl (Book.tF o.side) 0=z):=HNO.out (fun q=>by have:=q.2.2.1;simp[this]at e3);go_wp2;go_roundw
      case rel=>exact⟨k+1,by go_num,hlt,⟨z,rfl,HF.out.symm,hz0,hz1⟩,HB.out.alloc hsz _⟩
      case measure=>simp[intOf];omega
     ·cases e4:decide (0<x.shown)
      ·have HF:Hid ((b.l.take (k+1)).foldl (Book.tF o.side) 0=z):=HNO.out (fun q=>absurd q.2.2.2.1 (of_decide_eq_false e4));go_wp2;go_roundw
       case rel=>exact⟨k+1,by go_num,hlt,⟨z,rfl,HF.out.symm,hz0,hz1⟩,HB.out.alloc hsz _⟩
       case measure=>simp[intOf];omega
      ·cases e5:(z == 0)
       ·rcases HS.out with s|s
        ·have e6:(o.side == 1)=true:=by simp[s]
         have e7:(o.side == 2)=false:=by simp[s]
         have HSS:Hid (o.side=1):=s;clear s;cases e8:decide (z<x.price)
         ·have HF:Hid ((b.l.take (k+1)).foldl (Book.tF o.side) 0=z):=HNO.out (fun q=>by have z0: ¬z=0:=(by simpa using e5);have z1:=of_decide_eq_false e8;have s:=HSS.out;have:=q.2.2.2.2;omega);go_wp2;go_roundw
          case rel=>exact⟨k+1,by go_num,hlt,⟨z,rfl,HF.out.symm,hz0,hz1⟩,HB.out.alloc hsz _⟩
          case measure=>simp[intOf];omega
         ·have HF:Hid ((b.l.take (k+1)).foldl (Book.tF o.side) 0=x.price):=HYE.out (⟨e1,(by simpa using e2),(by simpa using e3),of_decide_eq_true e4,.inr (.inl ⟨HSS.out,of_decide_eq_true e8⟩)⟩);go_wp2;go_roundw
          case rel=>exact⟨k+1,by go_num,hlt,⟨_,rfl,HF.out.symm,HXB.out.1,HXB.out.2⟩,HB.out.alloc hsz _⟩
          case measure=>simp[intOf];omega
        ·have e6:(o.side == 1)=false:=by simp[s]
         have e7:(o.side == 2)=true:=by simp[s]
         have HSS:Hid (o.side=2):=s;clear s;cases e8:decide (x.price<z)
         ·have HF:Hid ((b.l.take (k+1)).foldl (Book.tF o.side) 0=z):=HNO.out (fun q=>by have z0: ¬z=0:=(by simpa using e5);have z1:=of_decide_eq_false e8;have s:=HSS.out;have:=q.2.2.2.2;omega);go_wp2;go_roundw
          case rel=>exact⟨k+1,by go_num,hlt,⟨z,rfl,HF.out.symm,hz0,hz1⟩,HB.out.alloc hsz _⟩
          case measure=>simp[intOf];omega
         ·have HF:Hid ((b.l.take (k+1)).foldl (Book.tF o.side) 0=x.price):=HYE.out (⟨e1,(by simpa using e2),(by simpa using e3),of_decide_eq_true e4,.inr (.inr ⟨HSS.out,of_decide_eq_true e8⟩)⟩);go_wp2;go_roundw
          case rel=>exact⟨k+1,by go_num,hlt,⟨_,rfl,HF.out.symm,HXB.out.1,HXB.out.2⟩,HB.out.alloc hsz _⟩
          case measure=>simp[intOf];omega
       ·have HF:Hid ((b.l.take (k+1)).foldl (Book.tF o.side) 0=x.price):=HYE.out (⟨e1,(by simpa using e2),(by simpa using e3),of_decide_eq_true e4,.inl (by simpa using e5)⟩);go_wp2;go_roundw
        case rel=>exact⟨k+1,by go_num,hlt,⟨_,rfl,HF.out.symm,HXB.out.1,HXB.out.2⟩,HB.out.alloc hsz _⟩
        case measure=>simp[intOf];omega
  ·obtain rfl:k=b.l.length:=by omega
   have hkI: ¬(b.l.length:Int)<(b.l.length:Int):=by omega
   have HZ2:Hid (b.l.foldl (Book.tF o.side) 0=z):=by have:=HZ.out;rw[List.take_length]at this;exact this.symm
   clear HZ;cases e5:(z == 0)
   ·have HNZ:Hid (¬z=0):=by show¬z=0;simpa using e5
    have hw2:wrap64 (z+o.off)=z+o.off:=by have:=HOF.out;unfold wrap64;omega
    have HR:Hid (b.target mp o=Eng.clamp (z+o.off) 1 mp):=by
     show _=_;unfold Book.target;rw[HZ2.out,if_neg HNZ.out]
    cases e6:decide (z+o.off<1)
    ·cases e7:decide (mp<z+o.off)
     ·have HV:Hid (Eng.clamp (z+o.off) 1 mp=z+o.off):=by show _=_;unfold Eng.clamp;simp only;rw[if_neg (of_decide_eq_false e6),if_neg (of_decide_eq_false e7)]
      go_wp2;go_ret;exact⟨by rw[HR.out,HV.out];first|done|rfl,HB'.out⟩
     ·have HV:Hid (Eng.clamp (z+o.off) 1 mp=mp):=by show _=_;unfold Eng.clamp;simp only;rw[if_neg (of_decide_eq_false e6),if_pos (of_decide_eq_true e7)]
      go_wp2;go_ret;exact⟨by rw[HR.out,HV.out];first|done|rfl,HB'.out⟩
    ·cases e7:decide (mp<1)
     ·have HV:Hid (Eng.clamp (z+o.off) 1 mp=1):=by show _=_;unfold Eng.clamp;simp only;rw[if_pos (of_decide_eq_true e6),if_neg (of_decide_eq_false e7)]
      go_wp2;go_ret;exact⟨by rw[HR.out,HV.out];first|done|rfl,HB'.out⟩
     ·have HV:Hid (Eng.clamp (z+o.off) 1 mp=mp):=by show _=_;unfold Eng.clamp;simp only;rw[if_pos (of_decide_eq_true e6),if_pos (of_decide_eq_true e7)]
      go_wp2;go_ret;exact⟨by rw[HR.out,HV.out];first|done|rfl,HB'.out⟩
   ·have HR:Hid (b.target mp o=0):=by
     show _=_;unfold Book.target;rw[HZ2.out,if_pos (by simpa using e5)]
    go_wp2;go_ret;exact⟨by rw[HR.out];first|done|rfl,HB'.out⟩
end
end Go.Proofs.YtanfmhonjpjpoaaGreatDoor
