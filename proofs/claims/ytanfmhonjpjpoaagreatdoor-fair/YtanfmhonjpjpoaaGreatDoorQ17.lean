import Derived.Test.YtanfmhonjpjpoaaGreatDoorQ00
import Derived.Test.YtanfmhonjpjpoaaGreatDoorQ04
import Derived.Test.YtanfmhonjpjpoaaGreatDoorQ15
import Derived.Deep.AppendLies
set_option linter.all false
set_option maxRecDepth 100000
set_option maxHeartbeats 8000000
namespace Go.Proofs.YtanfmhonjpjpoaaGreatDoor
variable{w:World}{base wb:Nat}{b:Book}
open Go.Extern Go.RowKit
theorem ktake7(h:KL base w wb b)(hwb:wb<base)(fz: ∀o,w.frozen? ⟨wb,o,none⟩=false){r:Rcd}{seq:Int}{rb ro:Nat}(hr: ∀j,j<7→w.cell? ⟨rb,ro+j,none⟩=(r.cells seq)[j]?)(hrb:rb<w.heap.size)(hrw:rb≠wb)(hrl: ¬LB w wb rb)(v:Nat→Int){i:Nat}{o:Ent}(hf:b.find r.id=some i)(ho:b.l[i]? =some o)(hl:o.live=true)(hkd:r.kind=7)(hpl:0≤b.place∧b.place≤1000000000)(hq:r.qty=o.opn):
 Calls Tryz.prog 24 #[.pointer (some ⟨wb,0,none⟩),.pointer (some ⟨rb,ro,none⟩),.agg #[.int .i64 (v 0),.int .i64 (v 1),.int .i64 (v 2),.int .i64 (v 3),.int .i64 (v 4),.int .i64 (v 5),.int .i64 (v 6),.int .i64 (v 7),.int .i64 (v 8)]] w fun en w'=>en=.returned (.bool true)∧Hid (KL base w' wb ((b.set i fun x=>{ x with price:=r.price }).lay i r.qty)∧KT wb w w'):=by
 have HR:Hid (∀W,KT wb w W→∀j,j<7→W.cell? ⟨rb,ro+j,none⟩=(r.cells seq)[j]?):=fun W hW j hj=>(World.cell?_of_block (a:=⟨rb,ro+j,none⟩) (hW.block rb hrb hrw hrl)).trans (hr j hj)
 have hwl:wb<w.heap.size:=by obtain⟨lv,c8,_⟩:=h.row;exact zA7 c8
 have hB1:Below w.heap.size w (w.alloc (.cells #[.int .i64 (v 0),.int .i64 (v 1),.int .i64 (v 2),.int .i64 (v 3),.int .i64 (v 4),.int .i64 (v 5),.int .i64 (v 6),.int .i64 (v 7),.int .i64 (v 8)] 35)):=(Below.refl _ _).alloc (Nat.le_refl _) _;have HT1:Hid (KT wb w (w.alloc (.cells #[.int .i64 (v 0),.int .i64 (v 1),.int .i64 (v 2),.int .i64 (v 3),.int .i64 (v 4),.int .i64 (v 5),.int .i64 (v 6),.int .i64 (v 7),.int .i64 (v 8)] 35))):=KT.below hwl hB1;have hK1:KL base (w.alloc (.cells #[.int .i64 (v 0),.int .i64 (v 1),.int .i64 (v 2),.int .i64 (v 3),.int .i64 (v 4),.int .i64 (v 5),.int .i64 (v 6),.int .i64 (v 7),.int .i64 (v 8)] 35)) wb b:=h.below hB1;obtain⟨g,cap,c8,lb,hbg,hfz,hgl,hci⟩:=hK1.lb ho;have hne:wb≠g:=by omega
 have HKA:Hid (KA base wb g i b (fun x=>x) w (w.alloc (.cells #[.int .i64 (v 0),.int .i64 (v 1),.int .i64 (v 2),.int .i64 (v 3),.int .i64 (v 4),.int .i64 (v 5),.int .i64 (v 6),.int .i64 (v 7),.int .i64 (v 8)] 35))):=KA.start hK1 lb hne HT1.out;have r0:(w.alloc (.cells #[.int .i64 (v 0),.int .i64 (v 1),.int .i64 (v 2),.int .i64 (v 3),.int .i64 (v 4),.int .i64 (v 5),.int .i64 (v 6),.int .i64 (v 7),.int .i64 (v 8)] 35)).cell? ⟨rb,ro,none⟩=some (.int .i64 r.kind):=HR.out _ HT1.out 0 (by omega);have r2:(w.alloc (.cells #[.int .i64 (v 0),.int .i64 (v 1),.int .i64 (v 2),.int .i64 (v 3),.int .i64 (v 4),.int .i64 (v 5),.int .i64 (v 6),.int .i64 (v 7),.int .i64 (v 8)] 35)).cell? ⟨rb,ro+2,none⟩=some (.int .i64 r.id):=HR.out _ HT1.out 2 (by omega);rw[hkd]at r0
 have i11:(w.alloc (.cells #[.int .i64 (v 0),.int .i64 (v 1),.int .i64 (v 2),.int .i64 (v 3),.int .i64 (v 4),.int .i64 (v 5),.int .i64 (v 6),.int .i64 (v 7),.int .i64 (v 8)] 35)).cell? ⟨g,i*12+11,none⟩=some (.bool o.live):=hci 11 (by omega);rw[hl]at i11;have hil:=(List.getElem?_eq_some_iff.1 ho).1;have hlen:=h.len;have hiI:(i:Int)<(b.l.length:Int):=by omega
 have hin: ¬(i:Int)<0:=by omega
 have HFI:Hid (Calls Tryz.prog 43 #[.pointer (some ⟨wb,0,none⟩),.int .i64 r.id] (w.alloc (.cells #[.int .i64 (v 0),.int .i64 (v 1),.int .i64 (v 2),.int .i64 (v 3),.int .i64 (v 4),.int .i64 (v 5),.int .i64 (v 6),.int .i64 (v 7),.int .i64 (v 8)] 35)) fun en w'=>en=.returned (.int .i64 (i:Int))∧w'=(w.alloc (.cells #[.int .i64 (v 0),.int .i64 (v 1),.int .i64 (v 2),.int .i64 (v 3),.int .i64 (v 4),.int .i64 (v 5),.int .i64 (v 6),.int .i64 (v 7),.int .i64 (v 8)] 35))):=by
  have:=kfind hK1 r.id;rw[hf]at this;exact this
 have HPL:=hidK hpl;clear hpl;have HQ7:=hidK hq;clear hq;have HO:=hidK ho;have HFZ:Hid (∀o,w.frozen? ⟨wb,o,none⟩=false):=fz;have HRX:Hid (rb<w.heap.size∧rb≠wb∧¬LB w wb rb∧wb<base):=⟨hrb,hrw,hrl,hwb⟩;clear h hwb fz hr hrb hrw hrl hK1 hB1 lb hfz hci ho hf hl hbg;go_enter Tryz.func24,Tryz.ntmps24;go_wp2_with fail;refine HFI.out.mono ?_;rintro en W ⟨rfl,hW⟩;have hW':=hW.symm;clear hW HFI;generalize (w.alloc (.cells #[.int .i64 (v 0),.int .i64 (v 1),.int .i64 (v 2),.int .i64 (v 3),.int .i64 (v 4),.int .i64 (v 5),.int .i64 (v 6),.int .i64 (v 7),.int .i64 (v 8)] 35))=WX at *;subst hW';have q4:WX.cell? ⟨rb,ro+4,none⟩=some (.int .i64 r.price):=HR.out _ HKA.out.2.2.2 4 (by omega);have c5:WX.cell? ⟨g,i*12+5,none⟩=some (.int .i64 o.price):=(HKA.out.cells HO.out).1 5 (by omega);have fz:WX.frozen? ⟨g,i*12+5,none⟩=false:=(HKA.out.cells HO.out).2 _
 go_wp2_with(with_reducible first|refine zA1 ?_|refine zA0 ?_);replace HKA:=hidK (HKA.out.put HO.out (j:=5) (by omega) (.int .i64 r.price) (fun x=>{ x with price:=r.price }) rfl);clear c8 r0 r2 i11 q4 c5 fz;generalize WX.setCell ⟨g,i*12+5,none⟩ (.int .i64 r.price)=V1 at *;try with_reducible refine hidO ?_
 have q5:V1.cell? ⟨rb,ro+5,none⟩=some (.int .i64 r.qty):=HR.out _ HKA.out.2.2.2 5 (by omega);go_wp2_with fail;refine(zFk HKA.out.1 HRX.out.2.2.2 HKA.out.2.2.2 HFZ.out (zAo (i:=i) _ HO.out) HPL.out r.qty).mono ?_;rintro en W' ⟨rfl,HZ⟩;clear q5;have q5:W'.cell? ⟨rb,ro+5,none⟩=some (.int .i64 r.qty):=HR.out _ HZ.out.2.1 5 (by omega);have c6:W'.cell? ⟨g,i*12+6,none⟩=some (.int .i64 o.opn):=by
  have hx:=zAo (i:=i) (fun x:Ent=>{ x with price:=r.price }) HO.out;rw[if_pos rfl]at hx;have hx2:((b.set i fun x=>{ x with price:=r.price }).lay i r.qty).l[i]? =some { o with price:=r.price,place:=b.place+1,shown:=r.qty }:=by
   show(((b.set i fun x=>{ x with price:=r.price }).l).modify i _)[i]? =_;rw[List.getElem?_modify,hx];simp;rfl
  obtain⟨g',cap',_,lb',_,_,_,hc'⟩:=HZ.out.1.lb hx2;obtain rfl:=LB.uniq lb' (HZ.out.2.2 g HKA.out.2.1);exact hc' 6 (by omega)
 have e1:(r.qty == o.opn)=true:=by have:=HQ7.out;simpa using this
 go_wp2_with fail;go_quiet (fail);go_wp2;go_ret;exact⟨rfl,hidK ⟨HZ.out.1.drew nq,HZ.out.2.1.drew nq⟩⟩
theorem Tryz.infoEntK:(Tryz.prog.info? 42).map (fun i=>(i.size,i.bytes))=some (12,96):=by kernel_rfl
theorem Tryz.zeroEntK:(Tryz.prog.info? 42).map (fun i=>i.zero)=some (some (.agg #[.int .i64 0,.int .i64 0,.int .i64 0,.int .i64 0,.int .i64 0,.int .i64 0,.int .i64 0,.int .i64 0,.int .i64 0,.int .i64 0,.int .i64 0,.bool false])):=by kernel_rfl
theorem zFm{P:Program}{t:TypeId}{z:Value}{s b:Nat}(h:(P.info? t).map (fun i=>(i.size,i.bytes))=some (s,b))(hz:(P.info? t).map (fun i=>i.zero)=some (some z)): ∃i,P.info? t=some i∧i.zero=some z∧i.size=s∧i.bytes=b:=by
 cases q:P.info? t with
 |none=>rw[q]at h;cases h
 |some i=>
  rw[q]at h hz;simp at h hz;exact⟨i,rfl,hz,h.1,h.2⟩
theorem zFn(w:World)(cs:Array Value)(ty:TypeId)(j:Nat)(u:Value)(h:cs[j]? =some u):(w.alloc (.cells cs ty)).cell? ⟨w.heap.size,j,none⟩=some u:=by
 rw[World.cell?_alloc_at _ _ _ _ rfl];exact h
theorem zFo{B:Nat}{e:TypeId}{size:Nat}{v:Value}{n:Nat}{xs:List Value}(h:w.ownsRow B e size v n xs):w.drew.ownsRow B e size v n xs:=h
theorem KL.push{g cap':Nat}{W w1:World}{lv:Value}{x:Ent}{o:Obj}(h:KL base W wb b)(hwb:wb<base)(hT:KT wb w W)(c8:W.cell? ⟨wb,8,none⟩=some lv)(hlen:b.l.length+1≤100000000)(hown:w1.ownsRow base 42 12 (.slice (some ⟨g,0,none⟩) (b.l.length+1) cap') (b.l.length+1) (b.l.flatMap Ent.cells++x.cells))(hgr:(W.alloc o).drew.grownBy w1 lv.ownBlock)(hat:lv.ownBlock=some g∨g=W.heap.size+1):KL base (w1.setCell ⟨wb,8,none⟩ (.slice (some ⟨g,0,none⟩) (b.l.length+1) cap')) wb { b with l:=b.l++ [x] }∧KT wb w (w1.setCell ⟨wb,8,none⟩ (.slice (some ⟨g,0,none⟩) (b.l.length+1) cap')):=by
 obtain⟨⟨lv',c8',hr⟩,c9,hl⟩:=h;obtain rfl:=Option.some.inj (c8'.symm.trans c8);have hwl:=zA7 c8;have hsz:W.heap.size+1≤w1.heap.size:=by have:=hgr.size;simp at this;exact this
 have hfar:some wb≠lv'.ownBlock:=fun e=>by have:=(hr.lt wb e.symm).1;omega
 have hblk: ∀k,k<W.heap.size→some k≠lv'.ownBlock→w1.heap[k]? =W.heap[k]? :=fun k hk hn=>(hgr.block k (by show k<(W.alloc o).heap.size;simp;omega) hn).trans (Below.heap_alloc W _ _ hk)
 have hb:=hblk wb hwl hfar;have cw: ∀j,w1.cell? ⟨wb,j,none⟩=W.cell? ⟨wb,j,none⟩:=fun j=>World.cell?_of_block (a:=⟨wb,j,none⟩) hb
 have d8:w1.cell? ⟨wb,8,none⟩=some lv':=(cw 8).trans c8;have oth: ∀j,j≠8→(w1.setCell ⟨wb,8,none⟩ (.slice (some ⟨g,0,none⟩) (b.l.length+1) cap')).cell? ⟨wb,j,none⟩=W.cell? ⟨wb,j,none⟩:=fun j hj=>(World.cell?_setCell_other _ _ _ _ (by intro e;injection e with e1 e2;omega)).trans (cw j)
 have hgb:base≤g:=by
  rcases hown.2 with⟨e,_⟩|⟨g',_,_,e,hg,_⟩
  ·cases e
  ·injection e with e1;injection e1 with e1;injection e1 with e1;omega
 have isl: ∀k,LB (w1.setCell ⟨wb,8,none⟩ (.slice (some ⟨g,0,none⟩) (b.l.length+1) cap')) wb k→k=g:=fun k ⟨n,cp,e⟩=>by
  rw[World.cell?_setCell_same _ _ _ d8]at e;have:=Option.some.inj e;injection this with e1;injection e1 with e1;injection e1 with e1;exact e1.symm
 have lbo: ∀k,lv'.ownBlock=some k→LB W wb k:=fun k hk=>by
  rcases hr.2 with⟨e,_⟩|⟨g',cp,_,e,_⟩
  ·rw[e]at hk;simp[Value.ownBlock]at hk
  ·rw[e]at hk;have:g'=k:=by simpa [Value.ownBlock] using hk
   subst this;exact⟨_,_,by rw[c8,e]⟩
 refine⟨⟨⟨_,World.cell?_setCell_same _ _ _ d8,?_⟩,(oth 9 (by decide)).trans c9,by show(b.l++ [x]).length≤_;simp;omega⟩,hT.trans ⟨hgr.os,hgr.tape,hgr.output,by simp;omega,fun k hk h1 h2=>?_,fun k hk hlb=>?_,fun o h8 _=>oth o h8,fun o=>?_⟩⟩
 ·have e1:(b.l++ [x]).flatMap Ent.cells=b.l.flatMap Ent.cells++x.cells:=by simp
  have e2:(b.l++ [x]).length=b.l.length+1:=by simp
  show(w1.setCell _ _).ownsRow base 42 12 _ (b.l++ [x]).length ((b.l++ [x]).flatMap Ent.cells);rw[e1,e2];refine⟨hown.1,?_⟩;rcases hown.2 with h2|⟨g',cp,cur,hv,hg,hh,r⟩
  ·exact .inl h2
  ·exact .inr ⟨g',cp,cur,hv,hg,(Below.heap_setCell _ _ _ _ (fun c=>by have c:g'=wb:=c;omega)).trans hh,r⟩
 ·rw[Below.heap_setCell _ _ _ _ h1];exact hblk k hk (fun e=>h2 (lbo k e.symm))
 ·have:=isl k hlb;subst this;rcases hat with e|e
  ·exact lbo k e
  ·omega
 ·rw[World.frozen?_setCell];exact World.frozen?_of_block (a:=⟨wb,o,none⟩) hb
theorem ktake1(h:KL base w wb b)(hwb:wb<base)(fz: ∀o,w.frozen? ⟨wb,o,none⟩=false){r:Rcd}{seq:Int}{rb ro:Nat}(hr: ∀j,j<7→w.cell? ⟨rb,ro+j,none⟩=(r.cells seq)[j]?)(hrb:rb<w.heap.size)(hrw:rb≠wb)(hrl: ¬LB w wb rb)(v:Nat→Int)(hkd:r.kind=1)(hf:b.find r.id=none)(hln:b.l.length+1≤100000000)(hbs:base≤w.heap.size):
 Calls Tryz.prog 24 #[.pointer (some ⟨wb,0,none⟩),.pointer (some ⟨rb,ro,none⟩),.agg #[.int .i64 (v 0),.int .i64 (v 1),.int .i64 (v 2),.int .i64 (v 3),.int .i64 (v 4),.int .i64 (v 5),.int .i64 (v 6),.int .i64 (v 7),.int .i64 (v 8)]] w fun en w'=>en=.returned (.bool true)∧Hid (KL base w' wb { b with l:=b.l++ [⟨r.id,r.other,r.reason,r.qty,v 6,r.price,r.qty,0,0,0,0,true⟩] }∧KT wb w w'):=by
 have HR:Hid (∀W,KT wb w W→∀j,j<7→W.cell? ⟨rb,ro+j,none⟩=(r.cells seq)[j]?):=fun W hW j hj=>(World.cell?_of_block (a:=⟨rb,ro+j,none⟩) (hW.block rb hrb hrw hrl)).trans (hr j hj)
 have hwl:wb<w.heap.size:=by obtain⟨lv,c8,_⟩:=h.row;exact zA7 c8
 have hB1:Below w.heap.size w (w.alloc (.cells #[.int .i64 (v 0),.int .i64 (v 1),.int .i64 (v 2),.int .i64 (v 3),.int .i64 (v 4),.int .i64 (v 5),.int .i64 (v 6),.int .i64 (v 7),.int .i64 (v 8)] 35)):=(Below.refl _ _).alloc (Nat.le_refl _) _;have HT1:Hid (KT wb w (w.alloc (.cells #[.int .i64 (v 0),.int .i64 (v 1),.int .i64 (v 2),.int .i64 (v 3),.int .i64 (v 4),.int .i64 (v 5),.int .i64 (v 6),.int .i64 (v 7),.int .i64 (v 8)] 35))):=KT.below hwl hB1;have hK1:KL base (w.alloc (.cells #[.int .i64 (v 0),.int .i64 (v 1),.int .i64 (v 2),.int .i64 (v 3),.int .i64 (v 4),.int .i64 (v 5),.int .i64 (v 6),.int .i64 (v 7),.int .i64 (v 8)] 35)) wb b:=h.below hB1;have HK1:=hidK hK1;obtain⟨p,cap,c8,_⟩:=hK1.shape
 have r0:(w.alloc (.cells #[.int .i64 (v 0),.int .i64 (v 1),.int .i64 (v 2),.int .i64 (v 3),.int .i64 (v 4),.int .i64 (v 5),.int .i64 (v 6),.int .i64 (v 7),.int .i64 (v 8)] 35)).cell? ⟨rb,ro,none⟩=some (.int .i64 r.kind):=HR.out _ HT1.out 0 (by omega);have r2:(w.alloc (.cells #[.int .i64 (v 0),.int .i64 (v 1),.int .i64 (v 2),.int .i64 (v 3),.int .i64 (v 4),.int .i64 (v 5),.int .i64 (v 6),.int .i64 (v 7),.int .i64 (v 8)] 35)).cell? ⟨rb,ro+2,none⟩=some (.int .i64 r.id):=HR.out _ HT1.out 2 (by omega);rw[hkd]at r0;have v6:(w.alloc (.cells #[.int .i64 (v 0),.int .i64 (v 1),.int .i64 (v 2),.int .i64 (v 3),.int .i64 (v 4),.int .i64 (v 5),.int .i64 (v 6),.int .i64 (v 7),.int .i64 (v 8)] 35)).cell? ⟨w.heap.size,6,none⟩=some (.int .i64 (v 6)):=by rw[World.cell?_alloc_at _ _ _ _ rfl];rfl
 have hbx:w.heap.size<(w.alloc (.cells #[.int .i64 (v 0),.int .i64 (v 1),.int .i64 (v 2),.int .i64 (v 3),.int .i64 (v 4),.int .i64 (v 5),.int .i64 (v 6),.int .i64 (v 7),.int .i64 (v 8)] 35)).heap.size:=by simp
 have hrx:rb<(w.alloc (.cells #[.int .i64 (v 0),.int .i64 (v 1),.int .i64 (v 2),.int .i64 (v 3),.int .i64 (v 4),.int .i64 (v 5),.int .i64 (v 6),.int .i64 (v 7),.int .i64 (v 8)] 35)).heap.size:=by simp;omega
 have hwx:wb<(w.alloc (.cells #[.int .i64 (v 0),.int .i64 (v 1),.int .i64 (v 2),.int .i64 (v 3),.int .i64 (v 4),.int .i64 (v 5),.int .i64 (v 6),.int .i64 (v 7),.int .i64 (v 8)] 35)).heap.size:=by simp;omega
 have hbs1:base≤(w.alloc (.cells #[.int .i64 (v 0),.int .i64 (v 1),.int .i64 (v 2),.int .i64 (v 3),.int .i64 (v 4),.int .i64 (v 5),.int .i64 (v 6),.int .i64 (v 7),.int .i64 (v 8)] 35)).heap.size:=by simp;omega
 have HFI:Hid (Calls Tryz.prog 43 #[.pointer (some ⟨wb,0,none⟩),.int .i64 r.id] (w.alloc (.cells #[.int .i64 (v 0),.int .i64 (v 1),.int .i64 (v 2),.int .i64 (v 3),.int .i64 (v 4),.int .i64 (v 5),.int .i64 (v 6),.int .i64 (v 7),.int .i64 (v 8)] 35)) fun en w'=>en=.returned (.int .i64 (-1))∧w'=(w.alloc (.cells #[.int .i64 (v 0),.int .i64 (v 1),.int .i64 (v 2),.int .i64 (v 3),.int .i64 (v 4),.int .i64 (v 5),.int .i64 (v 6),.int .i64 (v 7),.int .i64 (v 8)] 35))):=by
  have:=kfind hK1 r.id;rw[hf]at this;exact this
 have f8:(w.alloc (.cells #[.int .i64 (v 0),.int .i64 (v 1),.int .i64 (v 2),.int .i64 (v 3),.int .i64 (v 4),.int .i64 (v 5),.int .i64 (v 6),.int .i64 (v 7),.int .i64 (v 8)] 35)).frozen? ⟨wb,8,none⟩=false:=(HT1.out.froz 8).trans (fz 8);have HLR:Hid (¬LB (w.alloc (.cells #[.int .i64 (v 0),.int .i64 (v 1),.int .i64 (v 2),.int .i64 (v 3),.int .i64 (v 4),.int .i64 (v 5),.int .i64 (v 6),.int .i64 (v 7),.int .i64 (v 8)] 35)) wb rb):=fun c=>hrl (HT1.out.list rb hrb c)
 have HRW:=hidK hrw;have HBW:Hid (w.heap.size≠wb):=by show w.heap.size≠wb;omega
 have HWB:=hidK hwb;obtain⟨lv,c8',hown⟩:=hK1.row;obtain rfl:=Option.some.inj (c8.symm.trans c8');have HOWN:=hidK hown;have HBX:Hid (some w.heap.size≠(Value.slice p b.l.length cap).ownBlock):=fun e=>by
  rcases hown.2 with⟨e2,_⟩|⟨g',cp,cur,e2,_,hh,_⟩
  ·rw[e2]at e;simp[Value.ownBlock]at e
  ·rw[e2]at e;have:w.heap.size=g':=by simpa [Value.ownBlock] using e
   subst this;rw[heapNew]at hh;injection hh with hh;injection hh with h1 h2;exact absurd h2 (by decide)
 have HRR:Hid (some rb≠(Value.slice p b.l.length cap).ownBlock):=fun e=>by
  rcases hown.2 with⟨e2,_⟩|⟨g',cp,cur,e2,_,hh,_⟩
  ·rw[e2]at e;simp[Value.ownBlock]at e
  ·rw[e2]at e;have:rb=g':=by simpa [Value.ownBlock] using e
   subst this;exact HLR.out ⟨_,_,c8.trans (by rw[e2])⟩
 have HWR:Hid (some wb≠(Value.slice p b.l.length cap).ownBlock):=fun e=>by have:=(hown.lt wb e.symm).1;omega
 clear h hwb fz hr hrb hrw hrl hK1 hB1 hf c8' hown hwl hbs;go_enter Tryz.func24,Tryz.ntmps24;go_wp2_with fail;refine HFI.out.mono ?_;rintro en W ⟨rfl,hW⟩;have hW':=hW.symm;clear hW HFI;generalize (w.alloc (.cells #[.int .i64 (v 0),.int .i64 (v 1),.int .i64 (v 2),.int .i64 (v 3),.int .i64 (v 4),.int .i64 (v 5),.int .i64 (v 6),.int .i64 (v 7),.int .i64 (v 8)] 35))=WX at *;subst hW';have q2:WX.cell? ⟨rb,ro+2,none⟩=some (.int .i64 r.id):=HR.out _ HT1.out 2 (by omega);have q3:WX.cell? ⟨rb,ro+3,none⟩=some (.int .i64 r.other):=HR.out _ HT1.out 3 (by omega);have q4:WX.cell? ⟨rb,ro+4,none⟩=some (.int .i64 r.price):=HR.out _ HT1.out 4 (by omega);have q5:WX.cell? ⟨rb,ro+5,none⟩=some (.int .i64 r.qty):=HR.out _ HT1.out 5 (by omega);have q6:WX.cell? ⟨rb,ro+6,none⟩=some (.int .i64 r.reason):=HR.out _ HT1.out 6 (by omega);clear r0 r2;generalize hbox:w.heap.size=bx at *
 obtain⟨i0,hi,hz0,hz1,hz2⟩:=zFm Tryz.infoEntK Tryz.zeroEntK;have HINF:=hidK (And.intro hi (And.intro hz0 (And.intro hz1 hz2)));clear hi hz0 hz1 hz2;have HC1:Hid (∀(j:Nat) (u:Value),[.int .i64 r.id,.int .i64 r.other,.int .i64 r.reason,.int .i64 r.qty,.int .i64 (v 6),.int .i64 r.price,.int .i64 r.qty,.int .i64 0,.int .i64 0,.int .i64 0,.int .i64 0,.bool true][j]? =some u→(WX.alloc (.cells #[.int .i64 r.id,.int .i64 r.other,.int .i64 r.reason,.int .i64 r.qty,.int .i64 (v 6),.int .i64 r.price,.int .i64 r.qty,.int .i64 0,.int .i64 0,.int .i64 0,.int .i64 0,.bool true] 42)).drew.cell? (Addr.add ⟨WX.heap.size,0,none⟩ j)=some u):=fun j u hj=>by
  rw[Addr.add_lit,Nat.zero_add];exact zFn WX #[.int .i64 r.id,.int .i64 r.other,.int .i64 r.reason,.int .i64 r.qty,.int .i64 (v 6),.int .i64 r.price,.int .i64 r.qty,.int .i64 0,.int .i64 0,.int .i64 0,.int .i64 0,.bool true] 42 j u (by simp;exact hj)
 have HC2:Hid (∀u∈([.int .i64 r.id,.int .i64 r.other,.int .i64 r.reason,.int .i64 r.qty,.int .i64 (v 6),.int .i64 r.price,.int .i64 r.qty,.int .i64 0,.int .i64 0,.int .i64 0,.int .i64 0,.bool true]:List Value),u.oneCell'=true):=fun u hu=>by
  simp at hu;rcases hu with rfl|rfl|rfl|rfl|rfl|rfl|rfl|rfl|rfl<;>rfl
 have HC3:Hid (b.l.length+1≤maxLen∧(b.l.length+1)* 96≤140737488355328∧base≤(WX.alloc (.cells #[.int .i64 r.id,.int .i64 r.other,.int .i64 r.reason,.int .i64 r.qty,.int .i64 (v 6),.int .i64 r.price,.int .i64 r.qty,.int .i64 0,.int .i64 0,.int .i64 0,.int .i64 0,.bool true] 42)).drew.heap.size∧(WX.alloc (.cells #[.int .i64 r.id,.int .i64 r.other,.int .i64 r.reason,.int .i64 r.qty,.int .i64 (v 6),.int .i64 r.price,.int .i64 r.qty,.int .i64 0,.int .i64 0,.int .i64 0,.int .i64 0,.bool true] 42)).drew.heap.size=WX.heap.size+1):=⟨by unfold maxLen;omega,by omega,by show base≤(WX.alloc _).heap.size;simp;omega,by show(WX.alloc _).heap.size=_;simp⟩
 have HW2:Hid ((WX.alloc (.cells #[.int .i64 r.id,.int .i64 r.other,.int .i64 r.reason,.int .i64 r.qty,.int .i64 (v 6),.int .i64 r.price,.int .i64 r.qty,.int .i64 0,.int .i64 0,.int .i64 0,.int .i64 0,.bool true] 42)).drew.ownsRow base 42 12 (.slice p b.l.length cap) b.l.length (b.l.flatMap Ent.cells)):=zFo (World.ownsRow.alloc HOWN.out _)
 have HNX:Hid (∀(g cap':Nat) (w1:World),w1.ownsRow base 42 12 (.slice (some ⟨g,0,none⟩) (b.l.length+1) cap') (b.l.length+1) (b.l.flatMap Ent.cells++ [.int .i64 r.id,.int .i64 r.other,.int .i64 r.reason,.int .i64 r.qty,.int .i64 (v 6),.int .i64 r.price,.int .i64 r.qty,.int .i64 0,.int .i64 0,.int .i64 0,.int .i64 0,.bool true])→(WX.alloc (.cells #[.int .i64 r.id,.int .i64 r.other,.int .i64 r.reason,.int .i64 r.qty,.int .i64 (v 6),.int .i64 r.price,.int .i64 r.qty,.int .i64 0,.int .i64 0,.int .i64 0,.int .i64 0,.bool true] 42)).drew.grownBy w1 (Value.slice p b.l.length cap).ownBlock→((Value.slice p b.l.length cap).ownBlock=some g∨g=WX.heap.size+1)→(∀j u,WX.cell? ⟨rb,j,none⟩=some u→w1.cell? ⟨rb,j,none⟩=some u)∧(∀j u,WX.cell? ⟨bx,j,none⟩=some u→w1.cell? ⟨bx,j,none⟩=some u)∧w1.cell? ⟨wb,8,none⟩=some (.slice p b.l.length cap)∧w1.frozen? ⟨wb,8,none⟩=false∧Hid (KL base (w1.setCell ⟨wb,8,none⟩ (.slice (some ⟨g,0,none⟩) (b.l.length+1) cap')) wb { b with l:=b.l++ [⟨r.id,r.other,r.reason,r.qty,v 6,r.price,r.qty,0,0,0,0,true⟩] }∧KT wb w (w1.setCell ⟨wb,8,none⟩ (.slice (some ⟨g,0,none⟩) (b.l.length+1) cap')))):=fun g cap' w1 hown1 hgrow hat=>⟨fun j u hj=>(hgrow.cell_far ⟨rb,j,none⟩ (by show rb<(WX.alloc _).heap.size;simp;omega) HRR.out).trans ((World.cell?_alloc_lt WX _ ⟨rb,j,none⟩ hrx).trans hj),fun j u hj=>(hgrow.cell_far ⟨bx,j,none⟩ (by show bx<(WX.alloc _).heap.size;simp;omega) HBX.out).trans ((World.cell?_alloc_lt WX _ ⟨bx,j,none⟩ hbx).trans hj),(hgrow.cell_far ⟨wb,8,none⟩ (by show wb<(WX.alloc _).heap.size;simp;omega) HWR.out).trans ((World.cell?_alloc_lt WX _ ⟨wb,8,none⟩ hwx).trans c8),(hgrow.frozen_far ⟨wb,8,none⟩ (by show wb<(WX.alloc _).heap.size;simp;omega) HWR.out).trans ((World.frozen?_alloc_old WX _ _ (by show wb≠WX.heap.size;omega)).trans f8),hidK (KL.push HK1.out HWB.out HT1.out c8 hln hown1 hgrow hat)⟩
 have HST:Hid (∀(X:World) (k j:Nat) (u y:Value),k≠wb→X.cell? ⟨k,j,none⟩=some y→(X.setCell ⟨wb,8,none⟩ u).cell? ⟨k,j,none⟩=some y):=fun X k j u y hk hj=>(World.cell?_setCell_other _ _ _ _ (by intro e;injection e with e1 e2;exact hk e1.symm)).trans hj
 have hN0:=HRW.out;have hNb:bx≠wb:=HBW.out;have c8a: ∀o,(WX.alloc o).drew.cell? ⟨wb,8,none⟩=some (.slice p b.l.length cap):=fun o=>(World.cell?_alloc_lt WX o ⟨wb,8,none⟩ hwx).trans c8
 clear HOWN HK1 HRR HBX HWR HLR HRW HWB HR HT1;go_wp2_with fail;have hS0:Hid ((fun X=>X.cell? ⟨rb,ro+2,none⟩=some (.int .i64 r.id)∧X.cell? ⟨rb,ro+3,none⟩=some (.int .i64 r.other)∧X.cell? ⟨rb,ro+4,none⟩=some (.int .i64 r.price)∧X.cell? ⟨rb,ro+5,none⟩=some (.int .i64 r.qty)∧X.cell? ⟨rb,ro+6,none⟩=some (.int .i64 r.reason)∧X.cell? ⟨bx,6,none⟩=some (.int .i64 (v 6))∧X.cell? ⟨wb,8,none⟩=some (.slice p b.l.length cap)) WX.drew):=⟨q2,q3,q4,q5,q6,v6,c8⟩;refine zC 36 (fun X=>X.cell? ⟨rb,ro+2,none⟩=some (.int .i64 r.id)∧X.cell? ⟨rb,ro+3,none⟩=some (.int .i64 r.other)∧X.cell? ⟨rb,ro+4,none⟩=some (.int .i64 r.price)∧X.cell? ⟨rb,ro+5,none⟩=some (.int .i64 r.qty)∧X.cell? ⟨rb,ro+6,none⟩=some (.int .i64 r.reason)∧X.cell? ⟨bx,6,none⟩=some (.int .i64 (v 6))∧X.cell? ⟨wb,8,none⟩=some (.slice p b.l.length cap)) (by kernel_rfl) ?_
 refine zA (i:=0) (v:=.pointer (some ⟨wb,0,none⟩)) (by rfl) (by kernel_rfl) (by kernel_rfl) (by kernel_rfl) (by kernel_rfl) (by exact fun _ _ _ h=>h) (Or.inl ⟨by rfl,?_⟩) hS0.out ?_
 ·intro W _;go_simp
 simp only[Act.put,List.setIfInBounds_toArray,List.set_cons_zero,List.set_cons_succ];refine zA (i:=1) (v:=.pointer (some ⟨wb,0,none⟩)) (by rfl) (by kernel_rfl) (by kernel_rfl) (by kernel_rfl) (by kernel_rfl) (by exact fun _ _ _ h=>h) (Or.inl ⟨by rfl,?_⟩) hS0.out ?_
 ·intro W _;go_simp
 simp only[Act.put,List.setIfInBounds_toArray,List.set_cons_zero,List.set_cons_succ];refine zA (i:=2) (v:=.pointer (some ⟨wb,0,none⟩)) (by rfl) (by kernel_rfl) (by kernel_rfl) (by kernel_rfl) (by kernel_rfl) (by exact fun _ _ _ h=>h) (Or.inl ⟨by rfl,?_⟩) hS0.out ?_
 ·intro W _;go_simp
 simp only[Act.put,List.setIfInBounds_toArray,List.set_cons_zero,List.set_cons_succ];refine zA (i:=3) (v:=.pointer (some ⟨wb,8,none⟩)) (by rfl) (by kernel_rfl) (by kernel_rfl) (by kernel_rfl) (by kernel_rfl) (by exact fun _ _ _ h=>h) (Or.inl ⟨by rfl,?_⟩) hS0.out ?_
 ·intro W _;go_simp
 simp only[Act.put,List.setIfInBounds_toArray,List.set_cons_zero,List.set_cons_succ];refine zA (i:=4) (v:=.slice p b.l.length cap) (by rfl) (by kernel_rfl) (by kernel_rfl) (by kernel_rfl) (by kernel_rfl) (by exact fun _ _ _ h=>h) (Or.inl ⟨by rfl,?_⟩) hS0.out ?_
 ·intro W hW;obtain⟨y0,y1,y2,y3,y4,y5,y6⟩:=hW;go_simp
 simp only[Act.put,List.setIfInBounds_toArray,List.set_cons_zero,List.set_cons_succ];refine zA (i:=5) (v:=.pointer (some ⟨rb,ro,none⟩)) (by rfl) (by kernel_rfl) (by kernel_rfl) (by kernel_rfl) (by kernel_rfl) (by exact fun _ _ _ h=>h) (Or.inl ⟨by rfl,?_⟩) hS0.out ?_
 ·intro W _;go_simp
 simp only[Act.put,List.setIfInBounds_toArray,List.set_cons_zero,List.set_cons_succ];refine zA (i:=6) (v:=.pointer (some ⟨rb,ro,none⟩)) (by rfl) (by kernel_rfl) (by kernel_rfl) (by kernel_rfl) (by kernel_rfl) (by exact fun _ _ _ h=>h) (Or.inl ⟨by rfl,?_⟩) hS0.out ?_
 ·intro W _;go_simp
 simp only[Act.put,List.setIfInBounds_toArray,List.set_cons_zero,List.set_cons_succ];refine zA (i:=7) (v:=.pointer (some ⟨rb,ro+2,none⟩)) (by rfl) (by kernel_rfl) (by kernel_rfl) (by kernel_rfl) (by kernel_rfl) (by exact fun _ _ _ h=>h) (Or.inl ⟨by rfl,?_⟩) hS0.out ?_
 ·intro W _;go_simp
 simp only[Act.put,List.setIfInBounds_toArray,List.set_cons_zero,List.set_cons_succ];refine zA (i:=8) (v:=.int .i64 r.id) (by rfl) (by kernel_rfl) (by kernel_rfl) (by kernel_rfl) (by kernel_rfl) (by exact fun _ _ _ h=>h) (Or.inl ⟨by rfl,?_⟩) hS0.out ?_
 ·intro W hW;obtain⟨y0,y1,y2,y3,y4,y5,y6⟩:=hW;go_simp
 simp only[Act.put,List.setIfInBounds_toArray,List.set_cons_zero,List.set_cons_succ];refine zA (i:=9) (v:=.pointer (some ⟨rb,ro,none⟩)) (by rfl) (by kernel_rfl) (by kernel_rfl) (by kernel_rfl) (by kernel_rfl) (by exact fun _ _ _ h=>h) (Or.inl ⟨by rfl,?_⟩) hS0.out ?_
 ·intro W _;go_simp
 simp only[Act.put,List.setIfInBounds_toArray,List.set_cons_zero,List.set_cons_succ];refine zA (i:=10) (v:=.pointer (some ⟨rb,ro,none⟩)) (by rfl) (by kernel_rfl) (by kernel_rfl) (by kernel_rfl) (by kernel_rfl) (by exact fun _ _ _ h=>h) (Or.inl ⟨by rfl,?_⟩) hS0.out ?_
 ·intro W _;go_simp
 simp only[Act.put,List.setIfInBounds_toArray,List.set_cons_zero,List.set_cons_succ];refine zA (i:=11) (v:=.pointer (some ⟨rb,ro+3,none⟩)) (by rfl) (by kernel_rfl) (by kernel_rfl) (by kernel_rfl) (by kernel_rfl) (by exact fun _ _ _ h=>h) (Or.inl ⟨by rfl,?_⟩) hS0.out ?_
 ·intro W _;go_simp
 simp only[Act.put,List.setIfInBounds_toArray,List.set_cons_zero,List.set_cons_succ];refine zA (i:=12) (v:=.int .i64 r.other) (by rfl) (by kernel_rfl) (by kernel_rfl) (by kernel_rfl) (by kernel_rfl) (by exact fun _ _ _ h=>h) (Or.inl ⟨by rfl,?_⟩) hS0.out ?_
 ·intro W hW;obtain⟨y0,y1,y2,y3,y4,y5,y6⟩:=hW;go_simp
 simp only[Act.put,List.setIfInBounds_toArray,List.set_cons_zero,List.set_cons_succ];refine zA (i:=13) (v:=.pointer (some ⟨rb,ro,none⟩)) (by rfl) (by kernel_rfl) (by kernel_rfl) (by kernel_rfl) (by kernel_rfl) (by exact fun _ _ _ h=>h) (Or.inl ⟨by rfl,?_⟩) hS0.out ?_
 ·intro W _;go_simp
 simp only[Act.put,List.setIfInBounds_toArray,List.set_cons_zero,List.set_cons_succ];refine zA (i:=14) (v:=.pointer (some ⟨rb,ro,none⟩)) (by rfl) (by kernel_rfl) (by kernel_rfl) (by kernel_rfl) (by kernel_rfl) (by exact fun _ _ _ h=>h) (Or.inl ⟨by rfl,?_⟩) hS0.out ?_
 ·intro W _;go_simp
 simp only[Act.put,List.setIfInBounds_toArray,List.set_cons_zero,List.set_cons_succ];refine zA (i:=15) (v:=.pointer (some ⟨rb,ro+6,none⟩)) (by rfl) (by kernel_rfl) (by kernel_rfl) (by kernel_rfl) (by kernel_rfl) (by exact fun _ _ _ h=>h) (Or.inl ⟨by rfl,?_⟩) hS0.out ?_
 ·intro W _;go_simp
 simp only[Act.put,List.setIfInBounds_toArray,List.set_cons_zero,List.set_cons_succ];refine zA (i:=16) (v:=.int .i64 r.reason) (by rfl) (by kernel_rfl) (by kernel_rfl) (by kernel_rfl) (by kernel_rfl) (by exact fun _ _ _ h=>h) (Or.inl ⟨by rfl,?_⟩) hS0.out ?_
 ·intro W hW;obtain⟨y0,y1,y2,y3,y4,y5,y6⟩:=hW;go_simp
 simp only[Act.put,List.setIfInBounds_toArray,List.set_cons_zero,List.set_cons_succ];refine zA (i:=17) (v:=.pointer (some ⟨rb,ro,none⟩)) (by rfl) (by kernel_rfl) (by kernel_rfl) (by kernel_rfl) (by kernel_rfl) (by exact fun _ _ _ h=>h) (Or.inl ⟨by rfl,?_⟩) hS0.out ?_
 ·intro W _;go_simp
 simp only[Act.put,List.setIfInBounds_toArray,List.set_cons_zero,List.set_cons_succ];refine zA (i:=18) (v:=.pointer (some ⟨rb,ro,none⟩)) (by rfl) (by kernel_rfl) (by kernel_rfl) (by kernel_rfl) (by kernel_rfl) (by exact fun _ _ _ h=>h) (Or.inl ⟨by rfl,?_⟩) hS0.out ?_
 ·intro W _;go_simp
 simp only[Act.put,List.setIfInBounds_toArray,List.set_cons_zero,List.set_cons_succ];refine zA (i:=19) (v:=.pointer (some ⟨rb,ro+5,none⟩)) (by rfl) (by kernel_rfl) (by kernel_rfl) (by kernel_rfl) (by kernel_rfl) (by exact fun _ _ _ h=>h) (Or.inl ⟨by rfl,?_⟩) hS0.out ?_
 ·intro W _;go_simp
 simp only[Act.put,List.setIfInBounds_toArray,List.set_cons_zero,List.set_cons_succ];refine zA (i:=20) (v:=.int .i64 r.qty) (by rfl) (by kernel_rfl) (by kernel_rfl) (by kernel_rfl) (by kernel_rfl) (by exact fun _ _ _ h=>h) (Or.inl ⟨by rfl,?_⟩) hS0.out ?_
 ·intro W hW;obtain⟨y0,y1,y2,y3,y4,y5,y6⟩:=hW;go_simp
 simp only[Act.put,List.setIfInBounds_toArray,List.set_cons_zero,List.set_cons_succ];refine zA (i:=21) (v:=.pointer (some ⟨bx,6,none⟩)) (by rfl) (by kernel_rfl) (by kernel_rfl) (by kernel_rfl) (by kernel_rfl) (by exact fun _ _ _ h=>h) (Or.inl ⟨by rfl,?_⟩) hS0.out ?_
 ·intro W _;go_simp
 simp only[Act.put,List.setIfInBounds_toArray,List.set_cons_zero,List.set_cons_succ];refine zA (i:=22) (v:=.int .i64 (v 6)) (by rfl) (by kernel_rfl) (by kernel_rfl) (by kernel_rfl) (by kernel_rfl) (by exact fun _ _ _ h=>h) (Or.inl ⟨by rfl,?_⟩) hS0.out ?_
 ·intro W hW;obtain⟨y0,y1,y2,y3,y4,y5,y6⟩:=hW;go_simp
 simp only[Act.put,List.setIfInBounds_toArray,List.set_cons_zero,List.set_cons_succ];refine zA (i:=23) (v:=.pointer (some ⟨rb,ro,none⟩)) (by rfl) (by kernel_rfl) (by kernel_rfl) (by kernel_rfl) (by kernel_rfl) (by exact fun _ _ _ h=>h) (Or.inl ⟨by rfl,?_⟩) hS0.out ?_
 ·intro W _;go_simp
 simp only[Act.put,List.setIfInBounds_toArray,List.set_cons_zero,List.set_cons_succ];refine zA (i:=24) (v:=.pointer (some ⟨rb,ro,none⟩)) (by rfl) (by kernel_rfl) (by kernel_rfl) (by kernel_rfl) (by kernel_rfl) (by exact fun _ _ _ h=>h) (Or.inl ⟨by rfl,?_⟩) hS0.out ?_
 ·intro W _;go_simp
 simp only[Act.put,List.setIfInBounds_toArray,List.set_cons_zero,List.set_cons_succ];refine zA (i:=25) (v:=.pointer (some ⟨rb,ro+4,none⟩)) (by rfl) (by kernel_rfl) (by kernel_rfl) (by kernel_rfl) (by kernel_rfl) (by exact fun _ _ _ h=>h) (Or.inl ⟨by rfl,?_⟩) hS0.out ?_
 ·intro W _;go_simp
 simp only[Act.put,List.setIfInBounds_toArray,List.set_cons_zero,List.set_cons_succ];refine zA (i:=26) (v:=.int .i64 r.price) (by rfl) (by kernel_rfl) (by kernel_rfl) (by kernel_rfl) (by kernel_rfl) (by exact fun _ _ _ h=>h) (Or.inl ⟨by rfl,?_⟩) hS0.out ?_
 ·intro W hW;obtain⟨y0,y1,y2,y3,y4,y5,y6⟩:=hW;go_simp
 simp only[Act.put,List.setIfInBounds_toArray,List.set_cons_zero,List.set_cons_succ];refine zA (i:=27) (v:=.pointer (some ⟨rb,ro,none⟩)) (by rfl) (by kernel_rfl) (by kernel_rfl) (by kernel_rfl) (by kernel_rfl) (by exact fun _ _ _ h=>h) (Or.inl ⟨by rfl,?_⟩) hS0.out ?_
 ·intro W _;go_simp
 simp only[Act.put,List.setIfInBounds_toArray,List.set_cons_zero,List.set_cons_succ];refine zA (i:=28) (v:=.pointer (some ⟨rb,ro,none⟩)) (by rfl) (by kernel_rfl) (by kernel_rfl) (by kernel_rfl) (by kernel_rfl) (by exact fun _ _ _ h=>h) (Or.inl ⟨by rfl,?_⟩) hS0.out ?_
 ·intro W _;go_simp
 simp only[Act.put,List.setIfInBounds_toArray,List.set_cons_zero,List.set_cons_succ];refine zA (i:=29) (v:=.pointer (some ⟨rb,ro+5,none⟩)) (by rfl) (by kernel_rfl) (by kernel_rfl) (by kernel_rfl) (by kernel_rfl) (by exact fun _ _ _ h=>h) (Or.inl ⟨by rfl,?_⟩) hS0.out ?_
 ·intro W _;go_simp
 simp only[Act.put,List.setIfInBounds_toArray,List.set_cons_zero,List.set_cons_succ];refine zA (i:=30) (v:=.int .i64 r.qty) (by rfl) (by kernel_rfl) (by kernel_rfl) (by kernel_rfl) (by kernel_rfl) (by exact fun _ _ _ h=>h) (Or.inl ⟨by rfl,?_⟩) hS0.out ?_
 ·intro W hW;obtain⟨y0,y1,y2,y3,y4,y5,y6⟩:=hW;go_simp
 simp only[Act.put,List.setIfInBounds_toArray,List.set_cons_zero,List.set_cons_succ];refine zA (i:=31) (v:=.agg #[.int .i64 r.id,.int .i64 r.other,.int .i64 r.reason,.int .i64 r.qty,.int .i64 (v 6),.int .i64 r.price,.int .i64 r.qty,.int .i64 0,.int .i64 0,.int .i64 0,.int .i64 0,.bool true]) (by rfl) (by kernel_rfl) (by kernel_rfl) (by kernel_rfl) (by kernel_rfl) (by exact fun _ _ _ h=>h) (Or.inl ⟨by rfl,?_⟩) hS0.out ?_
 ·intro W _;go_simp
 simp only[Act.put,List.setIfInBounds_toArray,List.set_cons_zero,List.set_cons_succ];refine zAb (i:=32) (by kernel_rfl) (by rfl) (fun K hK=>?_);go_simp;refine hK.out _ _ (.inr ⟨(World.cell?_alloc_lt _ _ _ hrx).trans q2,(World.cell?_alloc_lt _ _ _ hrx).trans q3,(World.cell?_alloc_lt _ _ _ hrx).trans q4,(World.cell?_alloc_lt _ _ _ hrx).trans q5,(World.cell?_alloc_lt _ _ _ hrx).trans q6,(World.cell?_alloc_lt _ _ _ hbx).trans v6,(World.cell?_alloc_lt _ _ _ hwx).trans c8⟩) ?_;clear hK K;try simp only[Act.put,List.setIfInBounds_toArray,List.set_cons_zero,List.set_cons_succ]
 refine zAb (i:=33) (by kernel_rfl) (by rfl) (fun K hK=>?_);refine step_append_lies _ (by rfl) _ _ 31 (by rfl) base 42 i0 _ 12 96 Tryz.underlying31 HINF.out.1 HINF.out.2.1 HINF.out.2.2.1 HINF.out.2.2.2 rfl (by decide) (.slice p b.l.length cap) b.l.length (b.l.flatMap Ent.cells) (by rfl) HW2.out ⟨WX.heap.size,0,none⟩ 1 1 [.int .i64 r.id,.int .i64 r.other,.int .i64 r.reason,.int .i64 r.qty,.int .i64 (v 6),.int .i64 r.price,.int .i64 r.qty,.int .i64 0,.int .i64 0,.int .i64 0,.int .i64 0,.bool true] (by rfl) rfl HC1.out HC2.out (by decide) HC3.out.1 HC3.out.2.1 HC3.out.2.2.1 (WX.heap.size+1) HC3.out.2.2.2 ?_;intro g cap' w1 hown1 hgrow hat hltg;obtain⟨hN1,hN2,hN3,hN4,HX⟩:=HNX.out g cap' w1 hown1 hgrow hat
 have HS1:Hid ((fun X=>X.cell? ⟨rb,ro+2,none⟩=some (.int .i64 r.id)∧X.cell? ⟨rb,ro+3,none⟩=some (.int .i64 r.other)∧X.cell? ⟨rb,ro+4,none⟩=some (.int .i64 r.price)∧X.cell? ⟨rb,ro+5,none⟩=some (.int .i64 r.qty)∧X.cell? ⟨rb,ro+6,none⟩=some (.int .i64 r.reason)∧X.cell? ⟨bx,6,none⟩=some (.int .i64 (v 6))∧X.cell? ⟨wb,8,none⟩=some (.slice p b.l.length cap)) w1):=⟨hN1 _ _ q2,hN1 _ _ q3,hN1 _ _ q4,hN1 _ _ q5,hN1 _ _ q6,hN2 _ _ v6,hN3⟩;clear hown1 hgrow hat hltg hN1 hN2;refine hK.out _ _ (.inr HS1.out) ?_;clear hK K;try simp only[Act.put,List.setIfInBounds_toArray,List.set_cons_zero,List.set_cons_succ]
 refine zAb (i:=34) (by kernel_rfl) (by rfl) (fun K hK=>?_);go_simp;refine hK.out _ _ (.inr HS1.out) ?_;clear hK K;try simp only[Act.put,List.setIfInBounds_toArray,List.set_cons_zero,List.set_cons_succ]
 refine zAb (i:=35) (by kernel_rfl) (by rfl) (fun K hK=>?_);go_simp;refine hK.out _ _ (.inr HS1.out) ?_;clear hK K;try simp only[Act.put,List.setIfInBounds_toArray,List.set_cons_zero,List.set_cons_succ]
 refine zAb (i:=36) (by kernel_rfl) (by rfl) (fun K hK=>?_);go_simp;refine hK.out _ _ (.inl rfl) ?_;clear hK K;refine zBz (by kernel_rfl) ?_ _;clear hN3 hN4 HS1 hS0 HNX HC1 HC2 HC3 HW2 HINF q2 q3 q4 q5 q6 v6 c8 c8a HST hN0 hNb f8;generalize w1.setCell ⟨wb,8,none⟩ (.slice (some ⟨g,0,none⟩) (b.l.length+1) cap')=W3 at *;go_wp2;go_ret;exact⟨rfl,HX⟩
end Go.Proofs.YtanfmhonjpjpoaaGreatDoor
