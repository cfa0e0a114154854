import Derived.Test.YtanfmhonjpjpoaaGreatDoorQ00
import Derived.Test.YtanfmhonjpjpoaaGreatDoorQ01
import Derived.Test.YtanfmhonjpjpoaaGreatDoorQ06
import Derived.Test.YtanfmhonjpjpoaaGreatDoorQ15
import Derived.Deep.RegionLaw
import Derived.Deep.RegionHeld3
import Derived.Deep.AppendLies
set_option linter.all false
set_option maxRecDepth 100000
set_option maxHeartbeats 8000000
namespace Go.Proofs.YtanfmhonjpjpoaaGreatDoor
variable{w a w':World}{F:Nat→Prop}{e:Eng}{base b vb g n cap:Nat}{dv av:Value}{v:Nat→Int}{l:List UInt8}
open Go.Extern Go.RowKit
theorem merge{T G:Prop}(h:(T→G))(k:T):G:=h k
theorem RefRep.setOrd(h:RefRep F base w b e dv (sL g n cap))(i j:Nat)(x:Int)(f:Ord→Ord)(hf: ∀o,e.all[i]? =some o→(f o).cells=o.cells.set j x)(hj:j<15)(hi:i<e.all.length):RefRep F base (w.setCell (iA g (i*15+j)) (iV x)) b (e.upd i f) dv (sL g n cap):=by
 have hn:n=e.all.length:=by
  rcases h.al.2 with⟨h1,h2⟩|⟨g',cap',cur,hv,_⟩
  ·cases h1
  ·injection hv with _ hv _
 subst hn;obtain⟨hs,hg⟩:=h.al.stored (i*15+j) (iV x);have hgb:g≠b:=by
  rintro rfl;rcases h.al.2 with⟨h1,h2⟩|⟨g',cap',cur,hv,_,hh,_⟩
  ·cases h1
  ·injection hv with hv _ _;injection hv with hv;injection hv with hv;subst hv;rw[h.blk]at hh;injection hh with hh;injection hh with _ hh _;exact absurd hh (by decide)
 refine⟨?_,h.own,fun k hk=>h.up k (by simpa using hk),by simpa using h.low,?_,?_,h.alF⟩
 ·rw[Below.heap_setCell _ _ _ _ (fun e1=>hgb e1.symm)];exact h.blk
 ·refine⟨h.dr.1,?_⟩;rcases h.dr.2 with h2|⟨g',cap',cur,hv,hg',hh,r⟩
  ·exact .inl h2
  ·refine .inr ⟨g',cap',cur,hv,hg',?_,r⟩;rw[Below.heap_setCell _ _ _ _ (fun e1=>?_)]
   ·exact hh
   ·have e1:g'=g:=e1;subst e1;rcases h.al.2 with⟨h1,h2⟩|⟨g'',cap'',cur'',hv'',_,hh'',_⟩
    ·cases h1
    ·injection hv'' with hv'' _ _;injection hv'' with hv'';injection hv'' with hv'';subst hv'';rw[hh]at hh'';injection hh'' with hh'';injection hh'' with _ hh'' _;exact absurd hh'' (by decide)
 ·have e1:=Eng.upd_len e i f;rw[e1];have e2:rows (e.upd i f).all=(rows e.all).set (i*15+j) (iV x):=by
   rw[Nat.mul_comm i 15];exact(zGq e.all i j f x hf hj hi).symm
  rw[e2];exact hs
theorem RefRep.ords(h:RefRep F base w b e dv (sL g n cap)):OrdsAt w g e.all∧F g∧g≠b∧n=e.all.length:=by
 rcases h.shape with⟨h1,_⟩|⟨g',cap',h1,h2,h3,h4,h5⟩
 ·cases h1
 ·injection h1 with h1 h6 _;injection h1 with h1;injection h1 with h1;subst h1;exact⟨h3,h2,h4,h6⟩
theorem zC4(i:Nat)(n:Int)(o:Ord)(h:RefRep F base w b e dv (sL g e.all.length cap))(ho:e.all[i]? =some o)(hm:e.all.length≤1000000000)(hs:e.seq<4611686018427387904)(hst:e.stamp<4611686018427387904)(hout:e.out.length≤70368744177664)(h3:nat63 o.id)(h5:nat63 o.price)(h6:nat63 n):
 Cl 194 #[iP b,iV i,iV n] w fun en w'=>en=rV #[]∧RefRep F base w' b (e.lay i n) dv (sL g e.all.length cap)∧Touch F w w':=by
 have hi:i<e.all.length:=(List.getElem?_eq_some_iff.1 ho).1;have hiI:(i:Int)<(e.all.length:Int):=by omega
 obtain⟨hO,hF,hgb,_⟩:=h.ords;have HR1:Hid (RefRep F base (w.setCell (iA b 9) (iV ((e.stamp:Int)+1))) b { e with stamp:=e.stamp+1 } dv (sL g e.all.length cap)):=h.set 9 _ _ rfl rfl rfl;have HT:Hid (Touch F w (w.setCell (iA b 9) (iV ((e.stamp:Int)+1)))):=(Touch.refl F w).set b 9 _ h.own;have c9:cI w b 9 (e.stamp:Int):=h.cell 9;have f9:=h.froz 9;go_enter Tryz.func194,Tryz.ntmps194;go_wp2_with fail;generalize w.setCell (iA b 9) (iV ((e.stamp:Int)+1))=W1 at *;have c5:W1.cell? (iA b 5)=some (sL g e.all.length cap):=HR1.cell 5;have c9:cI W1 b 9 ((e.stamp:Int)+1):=HR1.cell 9;have o14:=HR1.ords.1.cell i 14 o o.stamp ho rfl;have f14:=HR1.ords.1.froz (i*15+14);apply merge
 ·intro hh;go_region_law(fail);all_goals exact hh
 have HR2:Hid (RefRep F base (W1.setCell (iA g (i*15+14)) (iV ((e.stamp:Int)+1))).drew b ({ e with stamp:=e.stamp+1 }.upd i fun o=>{ o with stamp:=((e.stamp:Int)+1) }) dv (sL g e.all.length cap)):=(HR1.setOrd i 14 _ _ (fun _ _=>rfl) (by omega) hi).drew;replace HT:Hid (Touch F w (W1.setCell (iA g (i*15+14)) (iV ((e.stamp:Int)+1))).drew):=(HT.set g _ _ hF).drew;generalize (W1.setCell (iA g (i*15+14)) (iV ((e.stamp:Int)+1))).drew=W2 at *;have ho2:Hid (({ e with stamp:=e.stamp+1 }.upd i fun o=>{ o with stamp:=((e.stamp:Int)+1) }).all[i]? =some { o with stamp:=((e.stamp:Int)+1) }):=Eng.upd_same _ _ _ _ ho;have c5:W2.cell? (iA b 5)=some (sL g e.all.length cap):=HR2.cell 5;have o13:cI W2 g (i*15+13) o.shown:=HR2.ords.1.cell i 13 _ o.shown ho2.out rfl;have f13:=HR2.ords.1.froz (i*15+13);go_wp2_with fail
 have HR3:Hid (RefRep F base (W2.setCell (iA g (i*15+13)) (iV n)) b ({ e with stamp:=e.stamp+1 }.upd i fun o=>{ o with stamp:=((e.stamp:Int)+1),shown:=n }) dv (sL g e.all.length cap)):=by
  have h1:=HR2.setOrd i 13 n (fun o=>{ o with shown:=n }) (fun _ _=>rfl) (by omega) (by rw[Eng.upd_len];exact hi);rw[Eng.upd_upd]at h1;exact h1
 replace HT:Hid (Touch F w (W2.setCell (iA g (i*15+13)) (iV n))):=HT.set g _ _ hF;generalize W2.setCell (iA g (i*15+13)) (iV n)=W3 at *;have ho3:Hid (({ e with stamp:=e.stamp+1 }.upd i fun o=>{ o with stamp:=((e.stamp:Int)+1),shown:=n }).all[i]? =some { o with stamp:=((e.stamp:Int)+1),shown:=n }):=Eng.upd_same _ _ _ _ ho;have c5:W3.cell? (iA b 5)=some (sL g e.all.length cap):=HR3.cell 5;have o0:cI W3 g (i*15) o.id:=by have q:=HR3.ords.1.cell0 i _ ho3.out;exact q
 have o9:cI W3 g (i*15+9) o.price:=HR3.ords.1.cell i 9 _ o.price ho3.out rfl;have HC:Hid (∀W:World,W.heap=W3.heap→W.os=W3.os→W.tape=W3.tape→W.output=W3.output→Cl 138 #[iP b,.agg (recCells 6 0 o.id 0 o.price n 0)] W fun en w'=>en=rV #[]∧RefRep F base w' b (e.lay i n) dv (sL g e.all.length cap)∧Touch F w w'):=fun W a1 a2 a3 a4=>by
  have hW:RefRep F base W b ({ e with stamp:=e.stamp+1 }.upd i fun o=>{ o with stamp:=((e.stamp:Int)+1),shown:=n }) dv (sL g e.all.length cap):=HR3.keep (by rw[a1];exact Nat.le_refl _) (fun k _=>by rw[a1]);refine(zGr hW 6 0 o.id 0 o.price n 0 hs hout ⟨by omega,by omega⟩ h3 ⟨by omega,by omega⟩ h5 h6 ⟨by omega,by omega⟩).mono ?_;rintro en w' ⟨e1,h1,h2⟩;have hl:e.lay i n=({ e with stamp:=e.stamp+1 }.upd i fun o=>{ o with stamp:=((e.stamp:Int)+1),shown:=n }).tell 6 o.id 0 o.price n 0:=by
   unfold Eng.lay;rw[ho];rfl
  refine⟨e1,hl▸h1,HT.trans (Touch.trans ⟨a2,a3,a4,by rw[a1];exact Nat.le_refl _,fun k _ _=>by rw[a1]⟩ h2)⟩
 have HK:Hid (∀W:World,RefRep F base W b (e.lay i n) dv (sL g e.all.length cap)→W.cell? (iA b 5)=some (sL g e.all.length cap)∧cI W g (i*15) o.id∧cI W g (i*15+9) o.price):=fun W hW=>by
  have ha:(e.lay i n).all[i]? =some { o with stamp:=(e.stamp+1:Nat),shown:=n }:=by
   rw[Eng.lay_at,if_pos rfl,ho];rfl
  have q0:=hW.ords.1.cell0 i _ ha;have q9:=hW.ords.1.cell i 9 _ o.price ha rfl;exact⟨hW.cell 5,q0,q9⟩
 go_region_held3(fun X=>X.cell? (iA b 5)=some (sL g e.all.length cap)∧X.cell? (iA g (i*15))=sI o.id∧X.cell? (iA g (i*15+9))=sI o.price) (first|exact⟨c5,o0,o9⟩|exact HK _ hr') ((go_at_call 138;refine(HC W3.drew rfl rfl rfl rfl).mono ?_;rintro en w' ⟨rfl,hr',ht'⟩));go_end0;exact⟨rfl,hr',ht'⟩
structure Room(n:Nat)(e:Eng):Prop where
 seq:e.seq+n≤4611686018427387904
 stm:e.stamp+n≤4611686018427387904
 out:e.out.length+22*n≤70368744177664
 len:e.all.length≤1000000000
 drw:e.drawn+n≤4611686018427387904
theorem Room.mono{m:Nat}(h:Room n e)(hm:m≤n):Room m e:=⟨by have:=h.seq;omega,by have:=h.stm;omega,by have:=h.out;omega,h.len,by have:=h.drw;omega⟩
theorem Room.grew{m:Nat}{k:Int}{e':Eng}(h:Room n e)(hg:Eng.Grew m k e e')(hl:e'.all.length=e.all.length)(hm:m≤n):Room (n - m) e':=by
 have h1:=h.seq;have h2:=h.stm;have h3:=h.out;have h4:=h.drw;have h5:=h.len;have g1:=hg.seq1;have g2:=hg.stm1;have g3:=hg.out;have g4:=hg.drw1;have g5:=hg.seq0;exact⟨by omega,by omega,by omega,by omega,by omega⟩
theorem zCt{W:World}(h:RefRep F base W b e dv av)(hT:Touch F w W)(k i o p q r:Int)(hr:Room 1 e)(h1:nat63 k)(h3:nat63 i)(h4:nat63 o)(h5:nat63 p)(h6:nat63 q)(h7:nat63 r)(W':World)(a1:W'.heap=W.heap)(a2:W'.os=W.os)(a3:W'.tape=W.tape)(a4:W'.output=W.output):
 Cl 138 #[iP b,.agg (recCells k 0 i o p q r)] W' fun en w'=>en=rV #[]∧RefRep F base w' b (e.tell k i o p q r) dv av∧Touch F w w':=by
 have hW:=h.keep (by rw[a1];exact Nat.le_refl _) (fun k _=>by rw[a1]);refine(zGr hW k 0 i o p q r (by have:=hr.seq;omega) (by have:=hr.out;omega) h1 h3 h4 h5 h6 h7).mono ?_;rintro en w' ⟨e1,h1,h2⟩;exact⟨e1,h1,hT.trans (Touch.trans ⟨a2,a3,a4,by rw[a1];exact Nat.le_refl _,fun k _ _=>by rw[a1]⟩ h2)⟩
theorem n63(x:Int)(h0:0≤x)(h1:x≤4294967296):nat63 x:=⟨h0,by omega⟩
theorem zT(h:RefRep F base w b e dv av)(id reason:Int)(hr:Room 1 e)(h3:nat63 id)(h7:nat63 reason):
 Cl 100 #[iP b,iV id,iV reason] w fun en w'=>en=rV #[]∧RefRep F base w' b (e.reject id reason) dv av∧Touch F w w':=by
 have HC:=hid (zCt h (Touch.refl F w) 2 id 0 0 0 reason hr (n63 2 (by omega) (by omega)) h3 (n63 0 (by omega) (by omega)) (n63 0 (by omega) (by omega)) (n63 0 (by omega) (by omega)) h7);go_enter Tryz.func100,Tryz.ntmps100;go_wp2_with fail;refine(HC _ rfl rfl rfl rfl).mono ?_;rintro en w' ⟨rfl,hr',ht'⟩;go_wp2;go_end0;exact⟨rfl,hr',ht'⟩
theorem zAb(n a c:Int)(w:World):
 Cl 193 #[iV n,iV a,iV c] w fun en w'=>en=.returned (.bool (Eng.inn n a c))∧w'=w:=by
 go_enter Tryz.func193,Tryz.ntmps193;by_cases h1:a≤n
 ·go_wp2;go_ret;exact⟨by simp[Eng.inn,h1],rfl⟩
 ·go_wp2;go_ret;exact⟨by simp[Eng.inn,h1];omega,rfl⟩
structure TX(F:Nat→Prop)(base:Nat)(w:World)(v:Value)(l:List UInt8):Prop where
 row:w.ownsRow base 5 1 v l.length (l.map bcell)
 own: ∀q,v.ownBlock=some q→F q
theorem Touch.grown'{o:Obj}{row:Option Nat}(h:Touch F a w)(hg:(w.alloc o).grownBy w' row)(hr: ∀k,row=some k→F k):Touch F a w':=(h.alloc o).grown hg hr
theorem zM0(base:Nat)(v:Value)(l:List UInt8)(x:Int)(width:Nat)(w:World)(hw:width≤4)(hn:l.length≤70368744177664)(hB:base≤w.heap.size)(hup: ∀k,w.heap.size≤k→F k)(h:TX F base w v l)
 (h1: -9223372036854775808≤x) (h2:x≤9223372036854775807):
 Cl 113 #[v,iV x,iV width] w fun e w'=> ∃v',e=.returned v'∧TX F base w' v' (l++be width x)∧Touch F w w':=by
 obtain⟨i0,hi,hz0,hz1,hz2⟩:=zB1 Tryz.infoU8 Tryz.zeroU8;have HT0:=hid h;have HUP:=hid hup;go_enter Tryz.func113,Tryz.ntmps113;go_wp2;go_loopw [0,2] (fun t j wr=> ∃(k:Nat) (ys:List UInt8),k≤width∧j=iV k∧ys++be k x=be width x∧TX F base wr t (l++ys)∧Touch F w wr) (fun _ j _=>(intOf j).toNat)
 case atStart=>exact⟨width,[],Nat.le_refl _,rfl,rfl,by simpa using HT0.out,Touch.refl _ _⟩
 case round=>
  obtain⟨k,ys,hk,rfl,hys,hT,hb⟩:=hrel;have hyl:ys.length+k=width:=by
   have:=congrArg List.length hys;simpa [zA2] using this
  have HYS:=hid hys;have hbs:=hb.size;by_cases hk0:k=0
  ·subst hk0;go_wp2;go_ret;have e:ys=be width x:=by simpa [be] using HYS.out
   refine⟨_,rfl,?_,hb⟩;rw[←e];exact hT
  ·obtain⟨j,rfl⟩: ∃j,k=j+1:=⟨k - 1,by omega⟩;have hjp:(0:Int)<(j:Int)+1:=by omega
   have hown':=hT.row;have HTT:=hid hT;have HBB:=hid hb;go_wp2_with(at_builtin;refine wpList_append_lies _ rfl _ _ 107 rfl base 5 i0 (.int .u8 0) 1 1 Tryz.underlying107 hi hz0 hz1 hz2 rfl (by decide) _ _ _ rfl (hown'.alloc _) (iA wr.heap.size 0) 1 1 [.int .u8 (x / 2 ^ (8*j) % 256)] rfl rfl ?c1 ?c2 (by decide) ?c3 ?c4 ?c5 (wr.heap.size+1) ?c6 ?_)
   case c1=>
    intro j u hj
    match j,hj with
    |0,hj=>simp at hj;subst hj;simp[Addr.add]
   case c2=>intro u hu;simp at hu;subst hu;rfl
   case c3=>rw[List.length_append];unfold maxLen;omega
   case c4=>rw[List.length_append];omega
   case c5=>simp;omega
   case c6=>simp
   intro g cap w1 hown2 hgrow hat hgl;have HB1:=hid (HBB.grown' hgrow HTT.own);have HO:Hid (TX F base w1 (sL g (l.length+ys.length+1) cap) (l++(ys++ [byteOf (x / 256 ^ j)]))):=by
    have e:bcell (byteOf (x / 256 ^ j))=.int .u8 (x / 2 ^ (8*j) % 256):=by
     rw[bcell,zDi,pow28 j]
    refine⟨?_,fun q hq=>?_⟩
    ·have e2:(l++(ys++ [byteOf (x / 256 ^ j)])).length=l.length+ys.length+1:=by simp[Nat.add_assoc]
     rw[e2,List.map_append,List.map_append,List.map_singleton,e];exact hown2
    ·have:g=q:=by simpa [Value.ownBlock] using hq
     subst this;rcases hat with h3|h3
     ·exact HTT.own g h3
     ·exact HUP g (by omega)
   have HY:Hid ((ys++ [byteOf (x / 256 ^ j)])++be j x=be width x):=by
    show _=_;rw[←HYS.out,zCd,List.append_assoc];rfl
   go_wp2;go_roundw
   case rel=>exact⟨j,_,by omega,rfl,HY,HO,HB1⟩
   case measure=>simp[intOf]
def recV(k s i o p q r:Int):Value:=.agg #[iV k,iV s,iV i,iV o,iV p,iV q,iV r]
def r63(x:Int):Prop:= -9223372036854775808≤x∧x≤9223372036854775807
theorem TX.lt{v:Value}(h:TX F base w v l): ∀q,v.ownBlock=some q→q<w.heap.size:=by
 intro q hq;rcases h.row.2 with h2|⟨g,cap,cur,hv,hg,hh,r⟩
 ·rw[h2.1]at hq;exact absurd hq (by simp[Value.ownBlock])
 ·rw[hv]at hq;have:g=q:=by simpa [Value.ownBlock] using hq
  subst this;exact(Array.getElem?_eq_some_iff.1 hh).1
theorem TX.alloc{v:Value}(h:TX F base w v l)(o:Obj):TX F base (w.alloc o) v l:=⟨h.row.alloc o,h.own⟩
theorem TX.shrink{v:Value}(h:TX F base w v l)(vb:Nat)(hv:w.heap.size≤vb):TX (fun k=>F k∧k≠vb) base w v l:=⟨h.row,fun q hq=>⟨h.own q hq,by have:=h.lt q hq;omega⟩⟩
theorem TX.widen{v:Value}(h:TX (fun k=>F k∧k≠vb) base w v l):TX F base w v l:=⟨h.row,fun q hq=>(h.own q hq).1⟩
theorem Touch.wide(h:Touch (fun k=>F k∧k≠vb) w w'):Touch F w w':=⟨h.os,h.tape,h.output,h.size,fun k hk hf=>h.block k hk (fun hc=>hf hc.1)⟩
theorem zM1(base:Nat)(v:Value)(l:List UInt8)(k s i o p q r:Int)(w:World)(hn:l.length≤70368744177642)(hB:base≤w.heap.size)(hup: ∀k,w.heap.size≤k→F k)(h:TX F base w v l)
 (hr:r63 k∧r63 s∧r63 i∧r63 o∧r63 p∧r63 q∧r63 r):
 Cl 149 #[v,recV k s i o p q r] w fun e w'=> ∃v',e=.returned v'∧TX F base w' v' (l++Eng.recB k s i o p q r)∧Touch F w w':=by
 have HT0:=hid h;have HUP:=hid hup;have HRR:=hid hr;have HC1:Hid (∀(W:World) (v1:Value) (l1:List UInt8) (x:Int) (width:Nat),width≤4→l1.length≤70368744177664→w.heap.size<W.heap.size→r63 x→TX (fun k=>F k∧k≠w.heap.size) base W v1 l1→Cl 113 #[v1,iV x,iV width] W fun e w'=> ∃v',e=.returned v'∧TX (fun k=>F k∧k≠w.heap.size) base w' v' (l1++be width x)∧Touch (fun k=>F k∧k≠w.heap.size) W w'):=fun W v1 l1 x width h1 h2 h3 h4 h5=>zM0 base v1 l1 x width W h1 h2 (by omega) (fun k hk=>⟨hup k (by omega),by omega⟩) h5 h4.1 h4.2
 clear h hup hr;unfold recV;go_enter Tryz.func149,Tryz.ntmps149;go_wp2_with fail;have HT1:Hid (TX (fun k=>F k∧k≠w.heap.size) base (w.alloc (.cells #[iV k,iV s,iV i,iV o,iV p,iV q,iV r] 73)) v l):=(HT0.shrink w.heap.size (Nat.le_refl _)).alloc _;have HU1:Hid (Touch F w (w.alloc (.cells #[iV k,iV s,iV i,iV o,iV p,iV q,iV r] 73))):=(Touch.refl F w).alloc _;have HS1:Hid ((w.alloc (.cells #[iV k,iV s,iV i,iV o,iV p,iV q,iV r] 73)).heap.size=w.heap.size+1):=by show _=_;simp
 have HN1:Hid ((w.alloc (.cells #[iV k,iV s,iV i,iV o,iV p,iV q,iV r] 73)).heap[w.heap.size]? =some (.cells #[iV k,iV s,iV i,iV o,iV p,iV q,iV r] 73)):=heap_alloc_new _ _;generalize w.alloc (.cells #[iV k,iV s,iV i,iV o,iV p,iV q,iV r] 73)=W at *;have hSW:w.heap.size<W.heap.size:=by rw[HS1.out];omega
 refine(HC1.out W v l k 1 (by omega) (by omega) hSW HRR.1 HT1.out).mono ?_;rintro e w1 ⟨v1,rfl,ht1,hu1⟩;have HT2:=hid ht1;have HU2:=hid hu1;clear ht1 hu1;have hb1:w1.heap[w.heap.size]? =some (.cells #[iV k,iV s,iV i,iV o,iV p,iV q,iV r] 73):=(HU2.block _ hSW (fun hc=>hc.2 rfl)).trans HN1.out;have c1:w1.cell? (iA w.heap.size 1)=sI s:=by simp[World.cell?,hb1]
 have c2:w1.cell? (iA w.heap.size 2)=sI i:=by simp[World.cell?,hb1]
 have c3:w1.cell? (iA w.heap.size 3)=sI o:=by simp[World.cell?,hb1]
 have c4:w1.cell? (iA w.heap.size 4)=sI p:=by simp[World.cell?,hb1]
 have c5:w1.cell? (iA w.heap.size 5)=sI q:=by simp[World.cell?,hb1]
 clear hb1;go_wp2_with fail;go_loopw [0,22] (fun t j wr=> ∃(n:Nat),n≤5∧j=iV n∧TX (fun k=>F k∧k≠w.heap.size) base wr t (l++be 1 k++([s,i,o,p,q].take n).flatMap (be 4))∧Touch (fun k=>F k∧k≠w.heap.size) W wr) (fun _ j _=>5 - (intOf j).toNat)
 case atStart=>exact⟨0,by omega,rfl,by simpa using HT2.out,HU2.out⟩
 case round=>
  obtain⟨n,hn5,rfl,ht,hu⟩:=hrel;have HT3:=hid ht;have HU3:=hid hu;clear ht hu;have hlen:(l++be 1 k++([s,i,o,p,q].take n).flatMap (be 4)).length≤70368744177664:=by
   rcases(by omega:n=0∨n=1∨n=2∨n=3∨n=4∨n=5) with rfl|rfl|rfl|rfl|rfl|rfl<;>simp[zA2]<;>omega
  have hszr:w.heap.size<wr.heap.size:=Nat.lt_of_lt_of_le hSW HU3.size;rcases(by omega:n=5∨n=0∨n=1∨n=2∨n=3∨n=4) with rfl|rfl|rfl|rfl|rfl|rfl
  ·have c6:wr.cell? (iA w.heap.size 6)=sI r:=by
    have:=(HU3.block _ hSW (fun hc=>hc.2 rfl)).trans HN1.out;simp[World.cell?,this]
   go_wp2_with fail;refine(HC1.out wr _ _ r 1 (by omega) hlen hszr HRR.2.2.2.2.2.2 HT3.out).mono ?_;rintro e w4 ⟨v4,rfl,ht4,hu4⟩;have HT4:Hid (TX F base w4 v4 (l++Eng.recB k s i o p q r)):=by
    have hq:=ht4.widen;have e1:l++be 1 k++([s,i,o,p,q].take 5).flatMap (be 4)++be 1 r=l++Eng.recB k s i o p q r:=by simp[Eng.recB]
    show TX _ _ _ _ _;rw[←e1];exact hq
   have HU4:=hid (HU1.trans (HU3.trans hu4).wide);clear ht4 hu4;go_wp2;go_ret;exact⟨_,rfl,HT4.out,HU4.out⟩
  ·have ix: ∀w:World,(Instr.index 301 (.agg #[iV s,iV i,iV o,iV p,iV q]) (iV 0)).run Tryz.prog w=.ok (iV s) w:=fun _=>by kernel_rfl
   go_wp2_with fail;refine(HC1.out wr _ _ s 4 (by omega) hlen hszr HRR.2.1 HT3.out).mono ?_;rintro e w4 ⟨v4,rfl,ht4,hu4⟩;have HT4:Hid (TX (fun k=>F k∧k≠w.heap.size) base w4 v4 (l++be 1 k++([s,i,o,p,q].take 1).flatMap (be 4))):=by
    have e1:l++be 1 k++([s,i,o,p,q].take 0).flatMap (be 4)++be 4 s=l++be 1 k++([s,i,o,p,q].take 1).flatMap (be 4):=by simp
    show TX _ _ _ _ _;rw[←e1];exact ht4
   have HU4:=hid (HU3.trans hu4);clear ht4 hu4;go_wp2;go_roundw
   case rel=>exact⟨1,by omega,rfl,HT4.out,HU4.out⟩
   case measure=>simp[intOf]
  ·have ix: ∀w:World,(Instr.index 301 (.agg #[iV s,iV i,iV o,iV p,iV q]) (iV 1)).run Tryz.prog w=.ok (iV i) w:=fun _=>by kernel_rfl
   go_wp2_with fail;refine(HC1.out wr _ _ i 4 (by omega) hlen hszr HRR.2.2.1 HT3.out).mono ?_;rintro e w4 ⟨v4,rfl,ht4,hu4⟩;have HT4:Hid (TX (fun k=>F k∧k≠w.heap.size) base w4 v4 (l++be 1 k++([s,i,o,p,q].take 2).flatMap (be 4))):=by
    have e1:l++be 1 k++([s,i,o,p,q].take 1).flatMap (be 4)++be 4 i=l++be 1 k++([s,i,o,p,q].take 2).flatMap (be 4):=by simp
    show TX _ _ _ _ _;rw[←e1];exact ht4
   have HU4:=hid (HU3.trans hu4);clear ht4 hu4;go_wp2;go_roundw
   case rel=>exact⟨2,by omega,rfl,HT4.out,HU4.out⟩
   case measure=>simp[intOf]
  ·have ix: ∀w:World,(Instr.index 301 (.agg #[iV s,iV i,iV o,iV p,iV q]) (iV 2)).run Tryz.prog w=.ok (iV o) w:=fun _=>by kernel_rfl
   go_wp2_with fail;refine(HC1.out wr _ _ o 4 (by omega) hlen hszr HRR.2.2.2.1 HT3.out).mono ?_;rintro e w4 ⟨v4,rfl,ht4,hu4⟩;have HT4:Hid (TX (fun k=>F k∧k≠w.heap.size) base w4 v4 (l++be 1 k++([s,i,o,p,q].take 3).flatMap (be 4))):=by
    have e1:l++be 1 k++([s,i,o,p,q].take 2).flatMap (be 4)++be 4 o=l++be 1 k++([s,i,o,p,q].take 3).flatMap (be 4):=by simp
    show TX _ _ _ _ _;rw[←e1];exact ht4
   have HU4:=hid (HU3.trans hu4);clear ht4 hu4;go_wp2;go_roundw
   case rel=>exact⟨3,by omega,rfl,HT4.out,HU4.out⟩
   case measure=>simp[intOf]
  ·have ix: ∀w:World,(Instr.index 301 (.agg #[iV s,iV i,iV o,iV p,iV q]) (iV 3)).run Tryz.prog w=.ok (iV p) w:=fun _=>by kernel_rfl
   go_wp2_with fail;refine(HC1.out wr _ _ p 4 (by omega) hlen hszr HRR.2.2.2.2.1 HT3.out).mono ?_;rintro e w4 ⟨v4,rfl,ht4,hu4⟩;have HT4:Hid (TX (fun k=>F k∧k≠w.heap.size) base w4 v4 (l++be 1 k++([s,i,o,p,q].take 4).flatMap (be 4))):=by
    have e1:l++be 1 k++([s,i,o,p,q].take 3).flatMap (be 4)++be 4 p=l++be 1 k++([s,i,o,p,q].take 4).flatMap (be 4):=by simp
    show TX _ _ _ _ _;rw[←e1];exact ht4
   have HU4:=hid (HU3.trans hu4);clear ht4 hu4;go_wp2;go_roundw
   case rel=>exact⟨4,by omega,rfl,HT4.out,HU4.out⟩
   case measure=>simp[intOf]
  ·have ix: ∀w:World,(Instr.index 301 (.agg #[iV s,iV i,iV o,iV p,iV q]) (iV 4)).run Tryz.prog w=.ok (iV q) w:=fun _=>by kernel_rfl
   go_wp2_with fail;refine(HC1.out wr _ _ q 4 (by omega) hlen hszr HRR.2.2.2.2.2.1 HT3.out).mono ?_;rintro e w4 ⟨v4,rfl,ht4,hu4⟩;have HT4:Hid (TX (fun k=>F k∧k≠w.heap.size) base w4 v4 (l++be 1 k++([s,i,o,p,q].take 5).flatMap (be 4))):=by
    have e1:l++be 1 k++([s,i,o,p,q].take 4).flatMap (be 4)++be 4 q=l++be 1 k++([s,i,o,p,q].take 5).flatMap (be 4):=by simp
    show TX _ _ _ _ _;rw[←e1];exact ht4
   have HU4:=hid (HU3.trans hu4);clear ht4 hu4;go_wp2;go_roundw
   case rel=>exact⟨5,by omega,rfl,HT4.out,HU4.out⟩
   case measure=>simp[intOf]
structure VAt(w:World)(vb:Nat)(v:Nat→Int):Prop where
 c0:w.cell? (iA vb 1)=sI (v 0)
 c1:w.cell? (iA vb 2)=sI (v 1)
 c2:w.cell? (iA vb 3)=sI (v 2)
 c3:w.cell? (iA vb 4)=sI (v 3)
 c4:w.cell? (iA vb 5)=sI (v 4)
 c5:w.cell? (iA vb 6)=sI (v 5)
 c6:w.cell? (iA vb 7)=sI (v 6)
 c7:w.cell? (iA vb 8)=sI (v 7)
 c8:w.cell? (iA vb 9)=sI (v 8)
theorem VAt.drewN(h:VAt w vb v)(n:Nat):VAt (w.drewN n) vb v:=⟨h.c0,h.c1,h.c2,h.c3,h.c4,h.c5,h.c6,h.c7,h.c8⟩
theorem VAt.block(h:VAt w vb v)(hb:w'.heap[vb]? =w.heap[vb]?):VAt w' vb v:=
 have q: ∀j,w'.cell? (iA vb j)=w.cell? (iA vb j):=fun j=>World.cell?_of_block (a:=(iA vb j)) hb
 ⟨(q 1).trans h.c0,(q 2).trans h.c1,(q 3).trans h.c2,(q 4).trans h.c3,(q 5).trans h.c4,(q 6).trans h.c5,(q 7).trans h.c6,(q 8).trans h.c7,(q 9).trans h.c8⟩
structure Same(w w':World):Prop where
 heap:w'.heap=w.heap
 os:w'.os=w.os
 tape:w'.tape=w.tape
 output:w'.output=w.output
theorem Same.refl(w:World):Same w w:=⟨rfl,rfl,rfl,rfl⟩
theorem Same.drewN(h:Same a w)(n:Nat):Same a (w.drewN n):=⟨h.heap,h.os,h.tape,h.output⟩
theorem Same.drew(h:Same a w):Same a w.drew:=⟨h.heap,h.os,h.tape,h.output⟩
theorem Same.trans{b c:World}(h:Same a b)(k:Same b c):Same a c:=⟨k.heap.trans h.heap,k.os.trans h.os,k.tape.trans h.tape,k.output.trans h.output⟩
theorem Same.touch{b:World}(h:Same a b):Touch F a b:=⟨h.os,h.tape,h.output,by rw[h.heap];exact Nat.le_refl _,fun k _ _=>by rw[h.heap]⟩
theorem RefRep.same(h:RefRep F base w b e dv av)(hs:Same w w'):RefRep F base w' b e dv av:=h.keep (by rw[hs.heap];exact Nat.le_refl _) (fun k _=>by rw[hs.heap])
theorem VAt.same(h:VAt w vb v)(hs:Same w w'):VAt w' vb v:=h.block (by rw[hs.heap])
theorem zM2(x:Int)(h0: -9223372036854775808≤x)(h1:x≤9223372036854775807):IntKind.i64.wrap x=x:=by
 rw[IntKind.wrap_i64];omega
namespace Eng
abbrev W4(v:Nat→Int):Prop:=v 0=0∨inn (v 1) 1 2=false∨inn (v 2) 1 3=false∨inn (v 7) 1 3=false
abbrev W5(e:Eng)(v:Nat→Int):Prop:=(if v 2=3 then v 3 == 0 else inn (v 3) 1 e.mp)=false
abbrev W6(e:Eng)(v:Nat→Int):Prop:=inn (v 4) 1 e.mq=false∨(if v 2=2 then inn (v 5) 1 (v 4) else v 5 == 0)=false
abbrev W7(e:Eng)(v:Nat→Int):Prop:=(if v 2=3 then(if v 1=1 then inn (v 6) (-e.mp) 0 else inn (v 6) 0 e.mp) else v 6 == 0)=false
abbrev W8(e:Eng)(v:Nat→Int):Prop:=(if v 7=3 then decide (e.now<v 8) else v 8 == 0)=false
theorem why_4(h:W4 v):e.why v=4:=by unfold why;rw[if_pos h]
theorem why_2(h4: ¬W4 v)(h:(e.find (v 0)).isSome):e.why v=2:=by unfold why;rw[if_neg h4,if_pos h]
theorem why_5(h4: ¬W4 v)(h2:e.find (v 0)=none)(h:W5 e v):e.why v=5:=by unfold why;rw[if_neg h4,h2,if_neg (by simp),if_pos h]
theorem why_6(h4: ¬W4 v)(h2:e.find (v 0)=none)(h5: ¬W5 e v)(h:W6 e v):e.why v=6:=by unfold why;rw[if_neg h4,h2,if_neg (by simp),if_neg h5,if_pos h]
theorem why_7(h4: ¬W4 v)(h2:e.find (v 0)=none)(h5: ¬W5 e v)(h6: ¬W6 e v)(h:W7 e v):e.why v=7:=by unfold why;rw[if_neg h4,h2,if_neg (by simp),if_neg h5,if_neg h6,if_pos h]
theorem why_8(h4: ¬W4 v)(h2:e.find (v 0)=none)(h5: ¬W5 e v)(h6: ¬W6 e v)(h7: ¬W7 e v)(h:W8 e v):e.why v=8:=by unfold why;rw[if_neg h4,h2,if_neg (by simp),if_neg h5,if_neg h6,if_neg h7,if_pos h]
theorem why_9(h4: ¬W4 v)(h2:e.find (v 0)=none)(h5: ¬W5 e v)(h6: ¬W6 e v)(h7: ¬W7 e v)(h8: ¬W8 e v):e.why v=if e.mo≤e.alive then 9 else 0:=by unfold why;rw[if_neg h4,h2,if_neg (by simp),if_neg h5,if_neg h6,if_neg h7,if_neg h8]
end Eng
theorem zT0(h:RefRep F base w b e dv av)(hv:VAt w vb v)(hI:Eng.EInv e)(hr:Room 0 e):
 Cl 191 #[iP b,.pointer (some (iA vb 1))] w fun en w'=>en=.returned (iV (e.why v))∧Same w w':=by
 have HR:=hid h;have HV:=hid hv;have HSm:=hid (Same.refl w);have hmp0:=hI.mp0;have hmp1:=hI.mp1;have hlv:=hI.live;have hle:=hr.len;obtain⟨v0,v1,v2,v3,v4,v5,v6,v7,v8⟩:=hv;go_enter Tryz.func191,Tryz.ntmps191;cases q1:Eng.inn (v 1) 1 2
 ·have HW:=hid (Eng.why_4 (e:=e) (v:=v) (.inr (.inl q1)));cases q0:(v 0 == 0)
  ·go_wp2_with(go_at_call 193;refine(zAb _ _ _ _).mono ?_;rintro en w' ⟨rfl,hw'⟩;cases hw');go_ret;exact⟨by rw[HW.out];rfl,HSm.out⟩
  ·go_wp2_with(go_at_call 193;refine(zAb _ _ _ _).mono ?_;rintro en w' ⟨rfl,hw'⟩;cases hw');go_ret;exact⟨by rw[HW.out];rfl,HSm.out⟩
 cases q2:Eng.inn (v 2) 1 3
 ·have HW:=hid (Eng.why_4 (e:=e) (v:=v) (.inr (.inr (.inl q2))));cases q0:(v 0 == 0)
  ·go_wp2_with(go_at_call 193;refine(zAb _ _ _ _).mono ?_;rintro en w' ⟨rfl,hw'⟩;cases hw');go_ret;exact⟨by rw[HW.out];rfl,HSm.out⟩
  ·go_wp2_with(go_at_call 193;refine(zAb _ _ _ _).mono ?_;rintro en w' ⟨rfl,hw'⟩;cases hw');go_ret;exact⟨by rw[HW.out];rfl,HSm.out⟩
 cases q3:Eng.inn (v 7) 1 3
 ·have HW:=hid (Eng.why_4 (e:=e) (v:=v) (.inr (.inr (.inr q3))));cases q0:(v 0 == 0)
  ·go_wp2_with(go_at_call 193;refine(zAb _ _ _ _).mono ?_;rintro en w' ⟨rfl,hw'⟩;cases hw');go_ret;exact⟨by rw[HW.out];rfl,HSm.out⟩
  ·go_wp2_with(go_at_call 193;refine(zAb _ _ _ _).mono ?_;rintro en w' ⟨rfl,hw'⟩;cases hw');go_ret;exact⟨by rw[HW.out];rfl,HSm.out⟩
 cases q0:(v 0 == 0);rotate_left
 ·have HW:=hid (Eng.why_4 (e:=e) (v:=v) (.inl (by simpa using q0)));go_wp2_with(go_at_call 193;refine(zAb _ _ _ _).mono ?_;rintro en w' ⟨rfl,hw'⟩;cases hw');go_ret;exact⟨by rw[HW.out];rfl,HSm.out⟩
 have N4:Hid (¬Eng.W4 v):=fun hc=>by
  rcases hc with hc|hc|hc|hc
  ·simp[hc]at q0
  ·rw[q1]at hc;cases hc
  ·rw[q2]at hc;cases hc
  ·rw[q3]at hc;cases hc
 go_wp2_with(go_at_call 193;refine(zAb _ _ _ _).mono ?_;rintro en w' ⟨rfl,hw'⟩;cases hw');refine(zLy HR.out (v 0) hr.len).mono ?_;rintro en w2 ⟨rfl,hw2⟩;cases hw2;rcases hf:e.find (v 0) with _|k;rotate_left
 ·have HW:=hid (Eng.why_2 N4.out (by rw[hf];rfl));have hix:idxV (some k)=(k:Int):=rfl;go_wp2;go_ret;exact⟨by rw[HW.out];rfl,HSm.out⟩
 have N2:=hid hf;have hix:idxV none= -1:=rfl;have c1:cI w b 1 e.mp:=HR.cell 1;cases q4:(v 2 == 3);go_wp2_with fail;go_quiet ((go_at_call 193;exact Calls.quiet_of_same (zAb _ _ _ _)));replace HR:=hid (HR.drewN nq);replace HV:=hid (HV.drewN nq);replace HSm:=hid (HSm.drewN nq);generalize w.drewN nq=W1 at *;obtain⟨v0,v1,v2,v3,v4,v5,v6,v7,v8⟩:=HV.out;have c1:cI W1 b 1 e.mp:=HR.cell 1;have ht3:Hid (¬v 2=3):=by show¬_=_;simpa using q4
 cases q5:Eng.inn (v 3) 1 e.mp
 ·have N5:Hid (Eng.W5 e v):=by
   show _=_;rw[if_neg ht3.out];exact q5
  have HW:=hid (Eng.why_5 N4.out N2.out N5.out);go_wp2;go_ret;exact⟨by rw[HW.out];rfl,HSm.out⟩
 have N5:Hid (¬Eng.W5 e v):=fun hc=>by
  rw[Eng.W5,if_neg ht3.out,q5]at hc;cases hc
 have c2:cI W1 b 2 e.mq:=HR.cell 2;go_wp2_with fail;go_quiet ((go_at_call 193;exact Calls.quiet_of_same (zAb _ _ _ _)));replace HR:=hid (HR.drewN nq);replace HV:=hid (HV.drewN nq);replace HSm:=hid (HSm.drewN nq);generalize W1.drewN nq=W2 at *;obtain⟨v0,v1,v2,v3,v4,v5,v6,v7,v8⟩:=HV.out;have c1:cI W2 b 1 e.mp:=HR.cell 1;cases q2b:(v 2 == 2);have ht2:Hid (¬v 2=2):=by show¬_=_;simpa using q2b
 cases q6:Eng.inn (v 4) 1 e.mq
 ·cases qp:(v 5 == 0)
  ·have HW:=hid (Eng.why_6 N4.out N2.out N5.out (.inl q6));go_wp2;go_ret;exact⟨by rw[HW.out];rfl,HSm.out⟩
  ·have HW:=hid (Eng.why_6 N4.out N2.out N5.out (.inl q6));go_wp2;go_ret;exact⟨by rw[HW.out];rfl,HSm.out⟩
 cases qp:(v 5 == 0)
 ·have HW:=hid (Eng.why_6 N4.out N2.out N5.out (.inr (by rw[if_neg ht2.out];exact qp)));go_wp2;go_ret;exact⟨by rw[HW.out];rfl,HSm.out⟩
 have N6:Hid (¬Eng.W6 e v):=fun hc=>by
  rcases hc with hc|hc
  ·rw[q6]at hc;cases hc
  ·rw[if_neg ht2.out,qp]at hc;cases hc
 cases q7:(v 6 == 0)
 ·have HW:=hid (Eng.why_7 N4.out N2.out N5.out N6.out (by show _=_;rw[if_neg ht3.out];exact q7));go_wp2;go_ret;exact⟨by rw[HW.out];rfl,HSm.out⟩
 have N7:Hid (¬Eng.W7 e v):=fun hc=>by
  rw[Eng.W7,if_neg ht3.out,q7]at hc;cases hc
 have c7:cI W2 b 7 e.now:=HR.cell 7;rotate_left;have ht2:Hid (v 2=2):=by show _=_;simpa using q2b
 go_wp2_with fail;go_quiet ((go_at_call 193;exact Calls.quiet_of_same (zAb _ _ _ _)));replace HR:=hid (HR.drewN nq);replace HV:=hid (HV.drewN nq);replace HSm:=hid (HSm.drewN nq);generalize W2.drewN nq=W2 at *;obtain⟨v0,v1,v2,v3,v4,v5,v6,v7,v8⟩:=HV.out;have c1:cI W2 b 1 e.mp:=HR.cell 1;cases q6:Eng.inn (v 4) 1 e.mq
 ·cases qp:Eng.inn (v 5) 1 (v 4)
  ·have HW:=hid (Eng.why_6 N4.out N2.out N5.out (.inl q6));go_wp2;go_ret;exact⟨by rw[HW.out];rfl,HSm.out⟩
  ·have HW:=hid (Eng.why_6 N4.out N2.out N5.out (.inl q6));go_wp2;go_ret;exact⟨by rw[HW.out];rfl,HSm.out⟩
 cases qp:Eng.inn (v 5) 1 (v 4)
 ·have HW:=hid (Eng.why_6 N4.out N2.out N5.out (.inr (by rw[if_pos ht2.out];exact qp)));go_wp2;go_ret;exact⟨by rw[HW.out];rfl,HSm.out⟩
 have N6:Hid (¬Eng.W6 e v):=fun hc=>by
  rcases hc with hc|hc
  ·rw[q6]at hc;cases hc
  ·rw[if_pos ht2.out,qp]at hc;cases hc
 cases q7:(v 6 == 0)
 ·have HW:=hid (Eng.why_7 N4.out N2.out N5.out N6.out (by show _=_;rw[if_neg ht3.out];exact q7));go_wp2;go_ret;exact⟨by rw[HW.out];rfl,HSm.out⟩
 have N7:Hid (¬Eng.W7 e v):=fun hc=>by
  rw[Eng.W7,if_neg ht3.out,q7]at hc;cases hc
 have c7:cI W2 b 7 e.now:=HR.cell 7;rotate_left;go_wp2_with fail;go_quiet ((go_at_call 193;exact Calls.quiet_of_same (zAb _ _ _ _)));replace HR:=hid (HR.drewN nq);replace HV:=hid (HV.drewN nq);replace HSm:=hid (HSm.drewN nq);generalize w.drewN nq=W8 at *;obtain⟨v0,v1,v2,v3,v4,v5,v6,v7,v8⟩:=HV.out;have c1:cI W8 b 1 e.mp:=HR.cell 1;have ht3:Hid (v 2=3):=by show _=_;simpa using q4
 cases q5:(v 3 != 0)
 case true=>
  have N5:Hid (Eng.W5 e v):=by
   show _=_;rw[if_pos ht3.out];simpa using q5
  have HW:=hid (Eng.why_5 N4.out N2.out N5.out);go_wp2;go_ret;exact⟨by rw[HW.out];rfl,HSm.out⟩
 have N5:Hid (¬Eng.W5 e v):=fun hc=>by
  rw[Eng.W5,if_pos ht3.out]at hc;have hc: ¬v 3=0:=by simpa using hc
  have q5:v 3=0:=by simpa using q5
  exact hc q5
 have c2:cI W8 b 2 e.mq:=HR.cell 2;go_wp2_with fail;go_quiet ((go_at_call 193;exact Calls.quiet_of_same (zAb _ _ _ _)));replace HR:=hid (HR.drewN nq);replace HV:=hid (HV.drewN nq);replace HSm:=hid (HSm.drewN nq);generalize W8.drewN nq=W9 at *;obtain⟨v0,v1,v2,v3,v4,v5,v6,v7,v8⟩:=HV.out;have c1:cI W9 b 1 e.mp:=HR.cell 1;have q2b:(v 2 == 2)=false:=by rw[ht3.out];rfl
 have ht2:Hid (¬v 2=2):=by show¬_=_;simpa using q2b
 cases q6:Eng.inn (v 4) 1 e.mq
 ·cases qp:(v 5 == 0)
  ·have HW:=hid (Eng.why_6 N4.out N2.out N5.out (.inl q6));go_wp2;go_ret;exact⟨by rw[HW.out];rfl,HSm.out⟩
  ·have HW:=hid (Eng.why_6 N4.out N2.out N5.out (.inl q6));go_wp2;go_ret;exact⟨by rw[HW.out];rfl,HSm.out⟩
 cases qp:(v 5 == 0)
 ·have HW:=hid (Eng.why_6 N4.out N2.out N5.out (.inr (by rw[if_neg ht2.out];exact qp)));go_wp2;go_ret;exact⟨by rw[HW.out];rfl,HSm.out⟩
 have N6:Hid (¬Eng.W6 e v):=fun hc=>by
  rcases hc with hc|hc
  ·rw[q6]at hc;cases hc
  ·rw[if_neg ht2.out,qp]at hc;cases hc
 have hw0:=zM2 (-e.mp) (by omega) (by omega);cases q1b:(v 1 == 1);have h1n: ¬v 1=1:=by simpa using q1b
 have h12:=(Eng.inn_iff _ _ _).1 q1;have hs1:Hid (v 1=2):=by show _=_;omega
 have q1c:(v 1 == 2)=true:=by rw[hs1.out];rfl
 go_wp2_with fail;go_quiet ((go_at_call 193;exact Calls.quiet_of_same (zAb _ _ _ _)));replace HR:=hid (HR.drewN nq);replace HV:=hid (HV.drewN nq);replace HSm:=hid (HSm.drewN nq);generalize W9.drewN nq=W2 at *;obtain⟨v0,v1,v2,v3,v4,v5,v6,v7,v8⟩:=HV.out;have c1:cI W2 b 1 e.mp:=HR.cell 1;cases q7:Eng.inn (v 6) 0 e.mp
 ·have HW:=hid (Eng.why_7 N4.out N2.out N5.out N6.out (by show _=_;rw[if_pos ht3.out,if_neg (by rw[hs1.out];decide)];exact q7));go_wp2;go_ret;exact⟨by rw[HW.out];rfl,HSm.out⟩
 have N7:Hid (¬Eng.W7 e v):=fun hc=>by
  rw[Eng.W7,if_pos ht3.out,if_neg (by rw[hs1.out];decide),q7]at hc;cases hc
 have c7:cI W2 b 7 e.now:=HR.cell 7;rotate_left;have hs1:Hid (v 1=1):=by show _=_;simpa using q1b
 have q1c:(v 1 == 2)=false:=by rw[hs1.out];rfl
 go_wp2_with fail;go_quiet ((go_at_call 193;exact Calls.quiet_of_same (zAb _ _ _ _)));replace HR:=hid (HR.drewN nq);replace HV:=hid (HV.drewN nq);replace HSm:=hid (HSm.drewN nq);generalize W9.drewN nq=W2 at *;obtain⟨v0,v1,v2,v3,v4,v5,v6,v7,v8⟩:=HV.out;have c1:cI W2 b 1 e.mp:=HR.cell 1;cases q7:Eng.inn (v 6) (-e.mp) 0
 ·have HW:=hid (Eng.why_7 N4.out N2.out N5.out N6.out (by show _=_;rw[if_pos ht3.out,if_pos hs1.out];exact q7));go_wp2;go_ret;exact⟨by rw[HW.out];rfl,HSm.out⟩
 have N7:Hid (¬Eng.W7 e v):=fun hc=>by
  rw[Eng.W7,if_pos ht3.out,if_pos hs1.out,q7]at hc;cases hc
 have c7:cI W2 b 7 e.now:=HR.cell 7;all_goals
  cases q8:(v 7 == 3)
  ·have hl3:Hid (¬v 7=3):=by show¬_=_;simpa using q8
   have q8n:(v 7 != 3)=true:=by simpa using q8
   cases q9:(v 8 != 0);rotate_left
   ·have HW:=hid (Eng.why_8 N4.out N2.out N5.out N6.out N7.out (by show _=_;rw[if_neg hl3.out];simpa using q9));go_wp2_with fail;go_quiet (fail);go_wp2;go_ret;exact⟨by rw[HW.out];rfl,HSm.drewN _⟩
   have N8:Hid (¬Eng.W8 e v):=fun hc=>by
    rw[Eng.W8,if_neg hl3.out]at hc;have q9:v 8=0:=by simpa using q9
    rw[q9]at hc;cases hc
   have HW:=hid (Eng.why_9 N4.out N2.out N5.out N6.out N7.out N8.out);go_wp2_with fail;go_quiet (fail);replace HR:=hid (HR.drewN nq);replace HSm:=hid (HSm.drewN nq);generalize W2.drewN nq=W3 at *;have c0:cI W3 b 0 e.mo:=HR.cell 0;go_wp2_with fail;refine(zGs HR.out hr.len).mono ?_;rintro en w9 ⟨rfl,hw9⟩;cases hw9;cases qa:((e.alive:Int) == e.mo)
   ·have hna: ¬(e.alive:Int)=e.mo:=by simpa using qa
    have hno: ¬e.mo≤(e.alive:Int):=by omega
    go_wp2;go_ret;exact⟨by rw[HW.out,if_neg (by omega)];rfl,HSm.out⟩
   ·have hna:(e.alive:Int)=e.mo:=by simpa using qa
    have hye:e.mo≤(e.alive:Int):=by omega
    go_wp2;go_ret;exact⟨by rw[HW.out,if_pos hye];rfl,HSm.out⟩
  ·have hl3:Hid (v 7=3):=by show _=_;simpa using q8
   have q8n:(v 7 != 3)=false:=by simpa using q8
   by_cases q9:v 8≤e.now
   ·have HW:=hid (Eng.why_8 N4.out N2.out N5.out N6.out N7.out (by show _=_;rw[if_pos hl3.out];simp;omega));have q9b:decide (v 8≤e.now)=true:=by simpa using q9
    go_wp2_with fail;go_quiet (fail);go_wp2;go_ret;exact⟨by rw[HW.out];rfl,HSm.drewN _⟩
   have N8:Hid (¬Eng.W8 e v):=fun hc=>by
    rw[Eng.W8,if_pos hl3.out]at hc;have hc: ¬e.now<v 8:=by simpa using hc
    omega
   have q9b:decide (v 8≤e.now)=false:=by simpa using q9
   have HW:=hid (Eng.why_9 N4.out N2.out N5.out N6.out N7.out N8.out);go_wp2_with fail;go_quiet (fail);replace HR:=hid (HR.drewN nq);replace HSm:=hid (HSm.drewN nq);generalize W2.drewN nq=W4 at *;have c0:cI W4 b 0 e.mo:=HR.cell 0;go_wp2_with fail;refine(zGs HR.out hr.len).mono ?_;rintro en w9 ⟨rfl,hw9⟩;cases hw9;cases qa:((e.alive:Int) == e.mo)
   ·have hna: ¬(e.alive:Int)=e.mo:=by simpa using qa
    have hno: ¬e.mo≤(e.alive:Int):=by omega
    go_wp2;go_ret;exact⟨by rw[HW.out,if_neg (by omega)];rfl,HSm.out⟩
   ·have hna:(e.alive:Int)=e.mo:=by simpa using qa
    have hye:e.mo≤(e.alive:Int):=by omega
    go_wp2;go_ret;exact⟨by rw[HW.out,if_pos hye];rfl,HSm.out⟩
theorem RefRep.dshape(h:RefRep F base w b e dv av):(dv=.slice none 0 0∧e.draws= [])∨∃g cap,dv=sL g e.draws.length cap∧g≠b∧g<w.heap.size∧∀(j:Nat) (x:Int),e.draws[j]? =some x→w.cell? (iA g j)=sI x:=by
 rcases h.dr.2 with⟨h1,h2⟩|⟨g,cap,cur,hv,hg,hh,h3⟩
 ·exact .inl ⟨h1,List.length_eq_zero_iff.1 h2⟩
 ·right;have hal:=h.dr;rw[hv]at hal;refine⟨g,cap,hv,fun e1=>?_,(Array.getElem?_eq_some_iff.1 hh).1,fun j x hx=>?_⟩
  ·rw[e1,h.blk]at hh;injection hh with hh;injection hh with _ hh _;exact absurd hh (by decide)
  ·have hj:j<e.draws.length:=(List.getElem?_eq_some_iff.1 hx).1;rw[hal.cellAt j (by omega),List.getElem?_map,hx];rfl
theorem zM3(x:Int):(if x.tmod 4294967296<0 then x.tmod 4294967296+4294967296 else x.tmod 4294967296)=x % 4294967296:=by
 rw[Int.tmod_eq_emod];split<;>split<;>simp_all<;>omega
theorem zGu(h:RefRep F base w b e dv av)(hr:Room 1 e)(hd:e.draws.length≤1000000000)(hx: ∀x∈e.draws,-9223372036854775808≤x∧x≤9223372036854775807):
 Cl 236 #[iP b] w fun en w'=>en=.returned (iV e.draw.1)∧RefRep F base w' b e.draw.2 dv av∧Touch F w w':=by
 have HR1:Hid (RefRep F base (w.setCell (iA b 4) (iV ((e.drawn:Int)+1))) b e.draw.2 dv av):=h.set 4 _ _ rfl rfl rfl;have hsh:(dv=.slice none 0 0∧e.draws= [])∨∃g cap,dv=sL g e.draws.length cap∧g≠b∧g<(w.setCell (iA b 4) (iV ((e.drawn:Int)+1))).heap.size∧∀(j:Nat) (x:Int),e.draws[j]? =some x→(w.setCell (iA b 4) (iV ((e.drawn:Int)+1))).cell? (iA g j)=sI x:=HR1.dshape;have HT:Hid (Touch F w (w.setCell (iA b 4) (iV ((e.drawn:Int)+1)))):=(Touch.refl F w).set b 4 _ h.own;have c4:cI w b 4 (e.drawn:Int):=h.cell 4;have f4:=h.froz 4;have hdr:=hr.drw;clear h;go_enter Tryz.func236,Tryz.ntmps236;have c3':(w.setCell (iA b 4) (iV ((e.drawn:Int)+1))).cell? (iA b 3)=some dv:=HR1.cell 3;have c4':(w.setCell (iA b 4) (iV ((e.drawn:Int)+1))).cell? (iA b 4)=sI ((e.drawn:Int)+1):=HR1.cell 4;rcases hsh with⟨rfl,he⟩|⟨g,cap,rfl,hgb,hgs,hcell⟩
 ·go_wp2;go_ret;refine⟨?_,HR1.out,HT.out⟩;have:e.draw.1=0:=by unfold Eng.draw;rw[he];rfl
  rw[this];rfl
 ·by_cases hn0:e.draws.length=0
  ·have hres:Hid (e.draw.1=0):=by
    show _=_;unfold Eng.draw;simp only;rw[if_pos hn0]
   rw[hn0]at c3';clear hcell;go_wp2;go_ret;exact⟨by rw[hres.out];rfl,HR1.out,HT.out⟩
  ·have hlt:e.drawn % e.draws.length<e.draws.length:=Nat.mod_lt _ (by omega);have hxe:e.draws[e.drawn % e.draws.length]? =some e.draws[e.drawn % e.draws.length]:=List.getElem?_eq_getElem hlt;have cx:=hcell _ _ hxe;have hres:Hid (e.draw.1=e.draws[e.drawn % e.draws.length] % 4294967296):=by
    show _=_;unfold Eng.draw;simp only;rw[if_neg hn0,List.getD_eq_getElem?_getD,hxe];rfl
   obtain⟨x0,x1⟩:=hx _ (List.getElem_mem hlt);generalize e.draws[e.drawn % e.draws.length]=x at *;clear hcell hxe hx;generalize hn:e.draws.length=n at *;have ht:Int.tmod (e.drawn:Int) (n:Int)=((e.drawn % n:Nat):Int):=(Int.ofNat_tmod _ _).symm;have hn1:((n:Int) == 0)=false:=by simp;omega
   have hlI:((e.drawn % n:Nat):Int)<(n:Int):=by omega
   generalize e.drawn % n=q at *;have HE:Hid ((if x.tmod 4294967296<0 then x.tmod 4294967296+4294967296 else x.tmod 4294967296)=x % 4294967296):=zM3 x;have ht0: -4294967296<x.tmod 4294967296:=by
    have:=Int.tmod_lt_of_pos x (b:=4294967296) (by omega);have:=Int.lt_tmod_of_pos x (b:=4294967296) (by omega);omega
   go_wp2_with fail;generalize w.setCell (iA b 4) (iV ((e.drawn:Int)+1))=W1 at *;generalize hm:x.tmod 4294967296=m at *;go_quiet (fail);by_cases hm0:m<0
   ·go_wp2;go_ret;refine⟨?_,HR1.drewN _,HT.drewN _⟩;rw[hres.out,←HE.out,if_pos hm0];rfl
   ·go_wp2;go_ret;refine⟨?_,HR1.drewN _,HT.drewN _⟩;rw[hres.out,←HE.out,if_neg (by omega)];rfl
theorem Eng.upd_some(e:Eng)(i:Nat)(f:Ord→Ord)(o:Ord)(h:e.all[i]? =some o):(e.upd i f).all[i]? =some (f o):=Eng.upd_same e i f o h
theorem RefRep.setO(h:RefRep F base w b e dv (sL g n cap))(i j:Nat)(x:Int)(o o':Ord)(ho:e.all[i]? =some o)(hf:o'.cells=o.cells.set j x)(hj:j<15):RefRep F base (w.setCell (iA g (i*15+j)) (iV x)) b (e.upd i fun _=>o') dv (sL g n cap):=
 h.setOrd i j x (fun _=>o') (fun o1 h1=>by obtain rfl:o=o1:=Option.some.inj (ho.symm.trans h1);exact hf) hj (List.getElem?_eq_some_iff.1 ho).1
theorem Eng.upd2(e:Eng)(i:Nat)(a c:Ord):(e.upd i fun _=>a).upd i (fun _=>c)=e.upd i fun _=>c:=Eng.upd_upd e i _ _
theorem Eng.updc_at(e:Eng)(i:Nat)(a o:Ord)(h:e.all[i]? =some o):(e.upd i fun _=>a).all[i]? =some a:=Eng.upd_same e i _ o h
def goneO(o:Ord):Ord:={ o with cancelled:=o.opn,opn:=0,shown:=0,status:=3 }
theorem Eng.gone_eq(e:Eng)(i:Nat)(reason:Int)(o:Ord)(ho:e.all[i]? =some o):e.gone i reason=(e.upd i fun _=>goneO o).tell 4 o.id 0 0 o.opn reason:=by
 unfold Eng.gone;rw[ho];simp only;rw[Eng.upd_congr e i (fun o=>{ o with cancelled:=o.opn,opn:=0,shown:=0,status:=3 }) (fun _=>goneO o) (fun x hx=>by obtain rfl:o=x:=Option.some.inj (ho.symm.trans hx);rfl)]
theorem zT1(i:Nat)(reason:Int)(o:Ord)(h:RefRep F base w b e dv (sL g e.all.length cap))(ho:e.all[i]? =some o)(hr:Room 1 e)(h3:nat63 o.id)(h6:nat63 o.opn)(h7:nat63 reason):
 Cl 141 #[iP b,iV i,iV reason] w fun en w'=>en=rV #[]∧RefRep F base w' b (e.gone i reason) dv (sL g e.all.length cap)∧Touch F w w':=by
 have hi:i<e.all.length:=(List.getElem?_eq_some_iff.1 ho).1;have hiI:(i:Int)<(e.all.length:Int):=by omega
 have hle:=hr.len;obtain⟨hO,hF,hgb,_⟩:=h.ords;have c5:w.cell? (iA b 5)=some (sL g e.all.length cap):=h.cell 5;have o0:=hO.cell0 i o ho;have o10:=hO.cell i 10 o _ ho rfl;have o12:=hO.cell i 12 o _ ho rfl;have o13:=hO.cell i 13 o _ ho rfl;have o8:=hO.cell i 8 o _ ho rfl;have f10:=hO.froz (i*15+10);have f12:=hO.froz (i*15+12);have f13:=hO.froz (i*15+13);have f8:=hO.froz (i*15+8);have HR:Hid (RefRep F base ((((w.setCell (iA g (i*15+12)) (iV o.opn)).setCell (iA g (i*15+10)) (iV 0)).setCell (iA g (i*15+13)) (iV 0)).setCell (iA g (i*15+8)) (iV 3)) b (e.upd i fun _=>goneO o) dv (sL g e.all.length cap)):=by
  have h1:=h.setO i 12 o.opn o { o with cancelled:=o.opn } ho rfl (by omega);have h2:=h1.setO i 10 0 _ { o with cancelled:=o.opn,opn:=0 } (Eng.updc_at _ _ _ _ ho) rfl (by omega);rw[Eng.upd2]at h2;have h3:=h2.setO i 13 0 _ { o with cancelled:=o.opn,opn:=0,shown:=0 } (Eng.updc_at _ _ _ _ ho) rfl (by omega);rw[Eng.upd2]at h3;have h4:=h3.setO i 8 3 _ (goneO o) (Eng.updc_at _ _ _ _ ho) rfl (by omega);rw[Eng.upd2]at h4;exact h4
 have HT:Hid (Touch F w ((((w.setCell (iA g (i*15+12)) (iV o.opn)).setCell (iA g (i*15+10)) (iV 0)).setCell (iA g (i*15+13)) (iV 0)).setCell (iA g (i*15+8)) (iV 3))):=((((Touch.refl F w).set g _ _ hF).set g _ _ hF).set g _ _ hF).set g _ _ hF;have hrm:Room 1 (e.upd i fun _=>goneO o):=⟨hr.seq,hr.stm,hr.out,by rw[Eng.upd_len];exact hr.len,hr.drw⟩;go_enter Tryz.func141,Tryz.ntmps141;go_wp2_with fail;refine(zCt HR.out HT 4 o.id 0 0 o.opn reason hrm (n63 4 (by omega) (by omega)) h3 (n63 0 (by omega) (by omega)) (n63 0 (by omega) (by omega)) h6 h7 _ rfl rfl rfl rfl).mono ?_;rintro en w' ⟨rfl,hr',ht'⟩;have HG:=hid (Eng.gone_eq e i reason o ho);go_wp2;go_end0;exact⟨rfl,HG.out▸hr',ht'⟩
end Go.Proofs.YtanfmhonjpjpoaaGreatDoor
