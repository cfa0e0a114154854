import Derived.Test.YtehmdohpmpbnnaaGreatDoorQ00
import Derived.Test.YtehmdohpmpbnnaaGreatDoorQ01
import Derived.Test.YtehmdohpmpbnnaaGreatDoorQ05
import Derived.Test.YtehmdohpmpbnnaaGreatDoorQ12
import Derived.Deep.RegionLaw
import Derived.Deep.RegionHeld3
import Derived.Deep.AppendLies
set_option linter.all false
set_option maxRecDepth 100000
set_option maxHeartbeats 8000000
namespace Go.Proofs.YtehmdohpmpbnnaaGreatDoor
variable{w a w':World}{F:Nat→Prop}{e:bf}{base b vb g n cap:Nat}{dv av:Value}{v:Nat→Int}{l:List UInt8}
open Go.Proofs.Tryz
open Go.Extern Go.RowKit
theorem merge{T G:Prop}(h:(T→G))(k:T):G:=h k
theorem dn.setOrd(h:dn F base w b e dv (sL g n cap))(i j:Nat)(x:Int)(f:Ord→Ord)(hf:∀o,e.all[i]? =some o→(f o).cells=o.cells.set j x)(hj:j<15)(hi:i<e.all.length):dn F base (w.setCell (iA g (i*15+j)) (iV x)) b (e.upd i f) dv (sL g n cap):=by
 have T:n=e.all.length:=by
  rcases h.al.2 with⟨I,K⟩|⟨J,D,G,C,_⟩
  ·cases I
  injection C with _ C _
 subst T;obtain⟨U,V⟩:=h.al.stored (i*15+j) (iV x);have O:g≠b:=by
  rintro rfl;rcases h.al.2 with⟨I,K⟩|⟨J,D,G,C,_,E,_⟩
  ·cases I
  injection C with C _ _;injection C with C;injection C with C;subst C;rw[h.blk]at E;injection E with E;injection E with _ E _;exact absurd E (by decide)
 refine⟨?_,h.own,fun k hk=>h.up k (by simpa using hk),by simpa using h.low,?_,?_,h.alF⟩
 ·rw[Below.heap_setCell _ _ _ _ (fun H=>O H.symm)];exact h.blk
 ·refine⟨h.dr.1,?_⟩;rcases h.dr.2 with K|⟨J,D,G,C,N,E,r⟩
  ·exact .inl K
  refine .inr ⟨J,D,G,C,N,?_,r⟩;rw[Below.heap_setCell _ _ _ _ (fun H=>?_)]
  ·exact E
  have H:J=g:=H;subst H;rcases h.al.2 with⟨I,K⟩|⟨S,L,M,A,_,B,_⟩
  ·cases I
  injection A with A _ _;injection A with A;injection A with A;subst A;rw[E]at B;injection B with B;injection B with _ B _;exact absurd B (by decide)
 have H:=bf.kz e i f;rw[H];have R:rows (e.upd i f).all=(rows e.all).set (i*15+j) (iV x):=by
  rw[Nat.mul_comm i 15];exact(zBy e.all i j f x hf hj hi).symm
 rw[R];exact U
theorem dn.jc(h:dn F base w b e dv (sL g n cap)):eD w g e.all∧F g∧g≠b∧n=e.all.length:=by
 rcases h.shape with⟨A,_⟩|⟨H,B,A,C,D,E,I⟩
 ·cases A
 injection A with A G _;injection A with A;injection A with A;subst A;exact⟨D,C,E,G⟩
theorem fC(i:Nat)(n:Int)(o:Ord)(h:dn F base w b e dv (sL g e.all.length cap))(ho:e.all[i]? =some o)(hm:e.all.length≤1000000000)(hs:e.seq<4611686018427387904)(hst:e.dh<4611686018427387904)(hout:e.out.length≤70368744177664)(h3:xx o.id)(h5:xx o.bn)(h6:xx n):
 Cl 152 #[iP b,iV i,iV n] w fun en w'=>en=rV #[]∧dn F base w' b (e.lay i n) dv (sL g e.all.length cap)∧Touch F w w':=by
 have O:i<e.all.length:=(List.getElem?_eq_some_iff.1 ho).1;have f:(i:Int)<(e.all.length:Int):=by omega
 obtain⟨x,M,c,_⟩:=h.jc;have A:Hd (dn F base (w.setCell (iA b 9) (iV ((e.dh:Int)+1))) b { e with dh:=e.dh+1 } dv (sL g e.all.length cap)):=h.set 9 _ _ rfl rfl rfl;have D:Hd (Touch F w (w.setCell (iA b 9) (iV ((e.dh:Int)+1)))):=(Touch.refl F w).set b 9 _ h.own;have T:cI w b 9 (e.dh:Int):=h.cell 9;have v:=h.dz 9;go_enter func152,ntmps152;go_wp2_with fail;generalize w.setCell (iA b 9) (iV ((e.dh:Int)+1))=W1 at *;have J:W1.cell? (iA b 5)=some (sL g e.all.length cap):=A.cell 5;have T:cI W1 b 9 ((e.dh:Int)+1):=A.cell 9;have p:=A.jc.1.cell i 14 o o.dh ho rfl;have Y:=A.jc.1.dz (i*15+14);apply merge
 ·intro d;go_region_law(fail);all_goals exact d
 have B:Hd (dn F base (W1.setCell (iA g (i*15+14)) (iV ((e.dh:Int)+1))).drew b ({ e with dh:=e.dh+1 }.upd i fun o=>{ o with dh:=((e.dh:Int)+1) }) dv (sL g e.all.length cap)):=(A.setOrd i 14 _ _ (fun _ _=>rfl) (by omega) O).drew;replace D:Hd (Touch F w (W1.setCell (iA g (i*15+14)) (iV ((e.dh:Int)+1))).drew):=(D.set g _ _ M).drew;generalize (W1.setCell (iA g (i*15+14)) (iV ((e.dh:Int)+1))).drew=W2 at *;have K:Hd (({ e with dh:=e.dh+1 }.upd i fun o=>{ o with dh:=((e.dh:Int)+1) }).all[i]? =some { o with dh:=((e.dh:Int)+1) }):=bf.upd_same _ _ _ _ ho;have J:W2.cell? (iA b 5)=some (sL g e.all.length cap):=B.cell 5;have m:cI W2 g (i*15+13) o.bg:=B.jc.1.cell i 13 _ o.bg K.out rfl;have V:=B.jc.1.dz (i*15+13);go_wp2_with fail;have C:Hd (dn F base (W2.setCell (iA g (i*15+13)) (iV n)) b ({ e with dh:=e.dh+1 }.upd i fun o=>{ o with dh:=((e.dh:Int)+1),bg:=n }) dv (sL g e.all.length cap)):=by
  have I:=B.setOrd i 13 n (fun o=>{ o with bg:=n }) (fun _ _=>rfl) (by omega) (by rw[bf.kz];exact O);rw[bf.aV]at I;exact I
 replace D:Hd (Touch F w (W2.setCell (iA g (i*15+13)) (iV n))):=D.set g _ _ M;generalize W2.setCell (iA g (i*15+13)) (iV n)=W3 at *;have G:Hd (({ e with dh:=e.dh+1 }.upd i fun o=>{ o with dh:=((e.dh:Int)+1),bg:=n }).all[i]? =some { o with dh:=((e.dh:Int)+1),bg:=n }):=bf.upd_same _ _ _ _ ho;have J:W3.cell? (iA b 5)=some (sL g e.all.length cap):=C.cell 5;have l:cI W3 g (i*15) o.id:=by have q:=C.jc.1.cell0 i _ G.out;exact q
 have s:cI W3 g (i*15+9) o.bn:=C.jc.1.cell i 9 _ o.bn G.out rfl;have R:Hd (∀W:World,W.heap=W3.heap→W.os=W3.os→W.tape=W3.tape→W.output=W3.output→Cl 106 #[iP b,.agg (lz 6 0 o.id 0 o.bn n 0)] W fun en w'=>en=rV #[]∧dn F base w' b (e.lay i n) dv (sL g e.all.length cap)∧Touch F w w'):=fun W a1 a2 a3 a4=>by
  have E:dn F base W b ({ e with dh:=e.dh+1 }.upd i fun o=>{ o with dh:=((e.dh:Int)+1),bg:=n }) dv (sL g e.all.length cap):=C.keep (by rw[a1];exact Nat.le_refl _) (fun k _=>by rw[a1]);refine(qV E 6 0 o.id 0 o.bn n 0 hs hout ⟨by omega,by omega⟩ h3 ⟨by omega,by omega⟩ h5 h6 ⟨by omega,by omega⟩).mono ?_;rintro en w' ⟨U,I,Z⟩;have j:e.lay i n=({ e with dh:=e.dh+1 }.upd i fun o=>{ o with dh:=((e.dh:Int)+1),bg:=n }).tell 6 o.id 0 o.bn n 0:=by
   unfold bf.lay;rw[ho];rfl
  refine⟨U,j▸I,D.trans (Touch.trans ⟨a2,a3,a4,by rw[a1];exact Nat.le_refl _,fun k _ _=>by rw[a1]⟩ Z)⟩
 have S:Hd (∀W:World,dn F base W b (e.lay i n) dv (sL g e.all.length cap)→W.cell? (iA b 5)=some (sL g e.all.length cap)∧cI W g (i*15) o.id∧cI W g (i*15+9) o.bn):=fun W E=>by
  have N:(e.lay i n).all[i]? =some { o with dh:=(e.dh+1:Nat),bg:=n }:=by
   rw[bf.lay_at,if_pos rfl,ho];rfl
  have t:=E.jc.1.cell0 i _ N;have u:=E.jc.1.cell i 9 _ o.bn N rfl;exact⟨E.cell 5,t,u⟩
 go_region_held3(fun X=>X.cell? (iA b 5)=some (sL g e.all.length cap)∧X.cell? (iA g (i*15))=sI o.id∧X.cell? (iA g (i*15+9))=sI o.bn) (first|exact⟨J,l,s⟩|exact S _ H) ((go_at_call 106;refine(R W3.drew rfl rfl rfl rfl).mono ?_;rintro en w' ⟨rfl,H,L⟩));go_end0;exact⟨rfl,H,L⟩
structure Room(n:Nat)(e:bf):Prop where
 seq:e.seq+n≤4611686018427387904
 qC:e.dh+n≤4611686018427387904
 out:e.out.length+22*n≤70368744177664
 len:e.all.length≤1000000000
 fD:e.drawn+n≤4611686018427387904
theorem Room.mono{m:Nat}(h:Room n e)(hm:m≤n):Room m e:=⟨by have:=h.seq;omega,by have:=h.qC;omega,by have:=h.out;omega,h.len,by have:=h.fD;omega⟩
theorem Room.qY{m:Nat}{k:Int}{e':bf}(h:Room n e)(hg:bf.jv m k e e')(hl:e'.all.length=e.all.length)(hm:m≤n):Room (n - m) e':=by
 have F:=h.seq;have G:=h.qC;have H:=h.out;have I:=h.fD;have J:=h.len;have A:=hg.seq1;have B:=hg.tL;have C:=hg.out;have D:=hg.drw1;have E:=hg.seq0;exact⟨by omega,by omega,by omega,by omega,by omega⟩
theorem vk{W:World}(h:dn F base W b e dv av)(hT:Touch F w W)(k i o p q r:Int)(hr:Room 1 e)(h1:xx k)(h3:xx i)(h4:xx o)(h5:xx p)(h6:xx q)(h7:xx r)(W':World)(a1:W'.heap=W.heap)(a2:W'.os=W.os)(a3:W'.tape=W.tape)(a4:W'.output=W.output):
 Cl 106 #[iP b,.agg (lz k 0 i o p q r)] W' fun en w'=>en=rV #[]∧dn F base w' b (e.tell k i o p q r) dv av∧Touch F w w':=by
 have C:=h.keep (by rw[a1];exact Nat.le_refl _) (fun k _=>by rw[a1]);refine(qV C k 0 i o p q r (by have:=hr.seq;omega) (by have:=hr.out;omega) h1 h3 h4 h5 h6 h7).mono ?_;rintro en w' ⟨A,h1,B⟩;exact⟨A,h1,hT.trans (Touch.trans ⟨a2,a3,a4,by rw[a1];exact Nat.le_refl _,fun k _ _=>by rw[a1]⟩ B)⟩
theorem n63(x:Int)(h0:0≤x)(h1:x≤4294967296):xx x:=⟨h0,by omega⟩
theorem cZ(h:dn F base w b e dv av)(id reason:Int)(hr:Room 1 e)(h3:xx id)(h7:xx reason):
 Cl 70 #[iP b,iV id,iV reason] w fun en w'=>en=rV #[]∧dn F base w' b (e.ny id reason) dv av∧Touch F w w':=by
 have C:=hid (vk h (Touch.refl F w) 2 id 0 0 0 reason hr (n63 2 (by omega) (by omega)) h3 (n63 0 (by omega) (by omega)) (n63 0 (by omega) (by omega)) (n63 0 (by omega) (by omega)) h7);go_enter func70,ntmps70;go_wp2_with fail;refine(C _ rfl rfl rfl rfl).mono ?_;rintro en w' ⟨rfl,A,B⟩;go_wp2;go_end0;exact⟨rfl,A,B⟩
theorem jq(n a c:Int)(w:World):
 Cl 151 #[iV n,iV a,iV c] w fun en w'=>en=.returned (.bool (bf.rf n a c))∧w'=w:=by
 go_enter func151,ntmps151;by_cases A:a≤n
 ·go_wp2;go_ret;exact⟨by simp[bf.rf,A],rfl⟩
 go_wp2;go_ret;exact⟨by simp[bf.rf,A];omega,rfl⟩
structure TX(F:Nat→Prop)(base:Nat)(w:World)(v:Value)(l:List UInt8):Prop where
 row:w.ownsRow base 5 1 v l.length (l.map eB)
 own:∀q,v.ownBlock=some q→F q
theorem Touch.grown'{o:Obj}{row:Option Nat}(h:Touch F a w)(hg:(w.alloc o).grownBy w' row)(hr:∀k,row=some k→F k):Touch F a w':=(h.alloc o).grown hg hr
theorem zF6(base:Nat)(v:Value)(l:List UInt8)(x:Int)(width:Nat)(w:World)(hw:width≤4)(hn:l.length≤70368744177664)(hB:base≤w.heap.size)(hup:∀k,w.heap.size≤k→F k)(h:TX F base w v l)
 (h1: -9223372036854775808≤x) (h2:x≤9223372036854775807):
 Cl 91 #[v,iV x,iV width] w fun e w'=> ∃v',e=.returned v'∧TX F base w' v' (l++be width x)∧Touch F w w':=by
 obtain⟨s,m,U,V,X⟩:=bF Tryz.infoU8 Tryz.zeroU8;have L:=hid h;have M:=hid hup;go_enter func91,ntmps91;go_wp2;go_loopw [0,2] (fun t j wr=> ∃(k:Nat) (A:List UInt8),k≤width∧j=iV k∧A++be k x=be width x∧TX F base wr t (l++A)∧Touch F w wr) (fun _ j _=>(intOf j).toNat)
 case atStart=>exact⟨width,[],Nat.le_refl _,rfl,rfl,by simpa using L.o,Touch.refl _ _⟩
 case round=>
  obtain⟨k,A,z,rfl,H,O,S⟩:=hrel;have p:A.length+k=width:=by
   have:=congrArg List.length H;simpa [zl] using this
  have G:=hid H;have f:=S.size;by_cases T:k=0
  ·subst T;go_wp2;go_ret;have e:A=be width x:=by simpa [be] using G.o
   refine⟨_,rfl,?_,S⟩;rw[←e];exact O
  obtain⟨j,rfl⟩:∃j,k=j+1:=⟨k - 1,by omega⟩;have n:(0:Int)<(j:Int)+1:=by omega
  have C:=O.row;have E:=hid O;have K:=hid S;go_wp2_with(at_builtin;refine wpList_append_lies _ rfl _ _ 86 rfl base 5 s (.int .u8 0) 1 1 underlying86 m U V X rfl (by decide) _ _ _ rfl (C.alloc _) (iA wr.heap.size 0) 1 1 [.int .u8 (x / 2 ^ (8*j) % 256)] rfl rfl ?c1 ?c2 (by decide) ?c3 ?c4 ?c5 (wr.heap.size+1) ?c6 ?_)
  case c1=>
   intro j u I
   match j,I with
   |0,I=>simp at I;subst I;simp[Addr.add]
  case c2=>intro u Z;simp at Z;subst Z;rfl
  case c3=>rw[List.length_append];unfold maxLen;omega
  case c4=>rw[List.length_append];omega
  case c5=>simp;omega
  case c6=>simp
  intro g N y D B R i;have J:=hid (K.grown' B E.own);have b:Hd (TX F base y (sL g (l.length+A.length+1) N) (l++(A++ [byteOf (x / 256 ^ j)]))):=by
   have e:eB (byteOf (x / 256 ^ j))=.int .u8 (x / 2 ^ (8*j) % 256):=by
    rw[eB,zAj,pow28 j]
   refine⟨?_,fun q hq=>?_⟩
   ·have d:(l++(A++ [byteOf (x / 256 ^ j)])).length=l.length+A.length+1:=by simp[Nat.add_assoc]
    rw[d,List.map_append,List.map_append,List.map_singleton,e];exact D
   have:g=q:=by simpa [Value.ownBlock] using hq
   subst this;rcases R with Y|Y
   ·exact E.own g Y
   exact M g (by omega)
  have c:Hd ((A++ [byteOf (x / 256 ^ j)])++be j x=be width x):=by
   show _=_;rw[←G.o,zA8,List.append_assoc];rfl
  go_wp2;go_roundw
  case rel=>exact⟨j,_,by omega,rfl,c,b,J⟩
  case measure=>simp[intOf]
def recV(k s i o p q r:Int):Value:=.agg #[iV k,iV s,iV i,iV o,iV p,iV q,iV r]
def aD(x:Int):Prop:= -9223372036854775808≤x∧x≤9223372036854775807
theorem TX.lt{v:Value}(h:TX F base w v l):∀q,v.ownBlock=some q→q<w.heap.size:=by
 intro q A;rcases h.row.2 with D|⟨g,B,C,G,H,E,r⟩
 ·rw[D.1]at A;exact absurd A (by simp[Value.ownBlock])
 rw[G]at A;have:g=q:=by simpa [Value.ownBlock] using A
 subst this;exact(Array.getElem?_eq_some_iff.1 E).1
theorem TX.alloc{v:Value}(h:TX F base w v l)(o:Obj):TX F base (w.alloc o) v l:=⟨h.row.alloc o,h.own⟩
theorem TX.shrink{v:Value}(h:TX F base w v l)(vb:Nat)(hv:w.heap.size≤vb):TX (fun k=>F k∧k≠vb) base w v l:=⟨h.row,fun q hq=>⟨h.own q hq,by have:=h.lt q hq;omega⟩⟩
theorem TX.qD{v:Value}(h:TX (fun k=>F k∧k≠vb) base w v l):TX F base w v l:=⟨h.row,fun q hq=>(h.own q hq).1⟩
theorem Touch.wide(h:Touch (fun k=>F k∧k≠vb) w w'):Touch F w w':=⟨h.os,h.tape,h.output,h.size,fun k hk hf=>h.block k hk (fun hc=>hf hc.1)⟩
theorem zF7(base:Nat)(v:Value)(l:List UInt8)(k s i o p q r:Int)(w:World)(hn:l.length≤70368744177642)(hB:base≤w.heap.size)(hup:∀k,w.heap.size≤k→F k)(h:TX F base w v l)
 (hr:aD k∧aD s∧aD i∧aD o∧aD p∧aD q∧aD r):
 Cl 124 #[v,recV k s i o p q r] w fun e w'=> ∃v',e=.returned v'∧TX F base w' v' (l++bf.wN k s i o p q r)∧Touch F w w':=by
 have c:=hid h;have y:=hid hup;have J:=hid hr;have I:Hd (∀(W:World) (Y:Value) (l1:List UInt8) (x:Int) (width:Nat),width≤4→l1.length≤70368744177664→w.heap.size<W.heap.size→aD x→TX (fun k=>F k∧k≠w.heap.size) base W Y l1→Cl 91 #[Y,iV x,iV width] W fun e w'=> ∃v',e=.returned v'∧TX (fun k=>F k∧k≠w.heap.size) base w' v' (l1++be width x)∧Touch (fun k=>F k∧k≠w.heap.size) W w'):=fun W Y l1 x width h1 h2 h3 h4 h5=>zF6 base Y l1 x width W h1 h2 (by omega) (fun k hk=>⟨hup k (by omega),by omega⟩) h5 h4.1 h4.2
 clear h hup hr;unfold recV;go_enter func124,ntmps124;go_wp2_with fail;have d:Hd (TX (fun k=>F k∧k≠w.heap.size) base (w.alloc (.cells #[iV k,iV s,iV i,iV o,iV p,iV q,iV r] 55)) v l):=(c.shrink w.heap.size (Nat.le_refl _)).alloc _;have g:Hd (Touch F w (w.alloc (.cells #[iV k,iV s,iV i,iV o,iV p,iV q,iV r] 55))):=(Touch.refl F w).alloc _;have b:Hd ((w.alloc (.cells #[iV k,iV s,iV i,iV o,iV p,iV q,iV r] 55)).heap.size=w.heap.size+1):=by show _=_;simp
 have T:Hd ((w.alloc (.cells #[iV k,iV s,iV i,iV o,iV p,iV q,iV r] 55)).heap[w.heap.size]? =some (.cells #[iV k,iV s,iV i,iV o,iV p,iV q,iV r] 55)):=heap_alloc_new _ _;generalize w.alloc (.cells #[iV k,iV s,iV i,iV o,iV p,iV q,iV r] 55)=W at *;have R:w.heap.size<W.heap.size:=by rw[b.o];omega
 refine(I.o W v l k 1 (by omega) (by omega) R J.1 d.o).mono ?_;rintro e S ⟨Y,rfl,V,X⟩;have f:=hid V;have U:=hid X;clear V X;have L:S.heap[w.heap.size]? =some (.cells #[iV k,iV s,iV i,iV o,iV p,iV q,iV r] 55):=(U.block _ R (fun hc=>hc.2 rfl)).trans T.o;have c1:S.cell? (iA w.heap.size 1)=sI s:=by simp[World.cell?,L]
 have c2:S.cell? (iA w.heap.size 2)=sI i:=by simp[World.cell?,L]
 have c3:S.cell? (iA w.heap.size 3)=sI o:=by simp[World.cell?,L]
 have c4:S.cell? (iA w.heap.size 4)=sI p:=by simp[World.cell?,L]
 have c5:S.cell? (iA w.heap.size 5)=sI q:=by simp[World.cell?,L]
 clear L;go_wp2_with fail;go_loopw [0,22] (fun t j wr=> ∃(n:Nat),n≤5∧j=iV n∧TX (fun k=>F k∧k≠w.heap.size) base wr t (l++be 1 k++([s,i,o,p,q].take n).flatMap (be 4))∧Touch (fun k=>F k∧k≠w.heap.size) W wr) (fun _ j _=>5 - (intOf j).toNat)
 case atStart=>exact⟨0,by omega,rfl,by simpa using f.o,U.o⟩
 case round=>
  obtain⟨n,z,rfl,m,u⟩:=hrel;have K:=hid m;have H:=hid u;clear m u;have E:(l++be 1 k++([s,i,o,p,q].take n).flatMap (be 4)).length≤70368744177664:=by
   rcases(by omega:n=0∨n=1∨n=2∨n=3∨n=4∨n=5) with rfl|rfl|rfl|rfl|rfl|rfl<;>simp[zl]<;>omega
  have G:w.heap.size<wr.heap.size:=Nat.lt_of_lt_of_le R H.size;rcases(by omega:n=5∨n=0∨n=1∨n=2∨n=3∨n=4) with rfl|rfl|rfl|rfl|rfl|rfl
  ·have c6:wr.cell? (iA w.heap.size 6)=sI r:=by
    have:=(H.block _ R (fun hc=>hc.2 rfl)).trans T.o;simp[World.cell?,this]
   go_wp2_with fail;refine(I.o wr _ _ r 1 (by omega) E G J.2.2.2.2.2.2 K.o).mono ?_;rintro e O ⟨N,rfl,A,B⟩;have C:Hd (TX F base O N (l++bf.wN k s i o p q r)):=by
    have hq:=A.qD;have M:l++be 1 k++([s,i,o,p,q].take 5).flatMap (be 4)++be 1 r=l++bf.wN k s i o p q r:=by simp[bf.wN]
    show TX _ _ _ _ _;rw[←M];exact hq
   have D:=hid (g.trans (H.trans B).wide);clear A B;go_wp2;go_ret;exact⟨_,rfl,C.o,D.o⟩
  ·have Z:∀w:World,(Instr.index 261 (.agg #[iV s,iV i,iV o,iV p,iV q]) (iV 0)).run prog w=.ok (iV s) w:=fun _=>by kernel_rfl
   go_wp2_with fail;refine(I.o wr _ _ s 4 (by omega) E G J.2.1 K.o).mono ?_;rintro e O ⟨N,rfl,A,B⟩;have C:Hd (TX (fun k=>F k∧k≠w.heap.size) base O N (l++be 1 k++([s,i,o,p,q].take 1).flatMap (be 4))):=by
    have M:l++be 1 k++([s,i,o,p,q].take 0).flatMap (be 4)++be 4 s=l++be 1 k++([s,i,o,p,q].take 1).flatMap (be 4):=by simp
    show TX _ _ _ _ _;rw[←M];exact A
   have D:=hid (H.trans B);clear A B;go_wp2;go_roundw
   case rel=>exact⟨1,by omega,rfl,C.o,D.o⟩
   case measure=>simp[intOf]
  ·have Z:∀w:World,(Instr.index 261 (.agg #[iV s,iV i,iV o,iV p,iV q]) (iV 1)).run prog w=.ok (iV i) w:=fun _=>by kernel_rfl
   go_wp2_with fail;refine(I.o wr _ _ i 4 (by omega) E G J.2.2.1 K.o).mono ?_;rintro e O ⟨N,rfl,A,B⟩;have C:Hd (TX (fun k=>F k∧k≠w.heap.size) base O N (l++be 1 k++([s,i,o,p,q].take 2).flatMap (be 4))):=by
    have M:l++be 1 k++([s,i,o,p,q].take 1).flatMap (be 4)++be 4 i=l++be 1 k++([s,i,o,p,q].take 2).flatMap (be 4):=by simp
    show TX _ _ _ _ _;rw[←M];exact A
   have D:=hid (H.trans B);clear A B;go_wp2;go_roundw
   case rel=>exact⟨2,by omega,rfl,C.o,D.o⟩
   case measure=>simp[intOf]
  ·have Z:∀w:World,(Instr.index 261 (.agg #[iV s,iV i,iV o,iV p,iV q]) (iV 2)).run prog w=.ok (iV o) w:=fun _=>by kernel_rfl
   go_wp2_with fail;refine(I.o wr _ _ o 4 (by omega) E G J.2.2.2.1 K.o).mono ?_;rintro e O ⟨N,rfl,A,B⟩;have C:Hd (TX (fun k=>F k∧k≠w.heap.size) base O N (l++be 1 k++([s,i,o,p,q].take 3).flatMap (be 4))):=by
    have M:l++be 1 k++([s,i,o,p,q].take 2).flatMap (be 4)++be 4 o=l++be 1 k++([s,i,o,p,q].take 3).flatMap (be 4):=by simp
    show TX _ _ _ _ _;rw[←M];exact A
   have D:=hid (H.trans B);clear A B;go_wp2;go_roundw
   case rel=>exact⟨3,by omega,rfl,C.o,D.o⟩
   case measure=>simp[intOf]
  ·have Z:∀w:World,(Instr.index 261 (.agg #[iV s,iV i,iV o,iV p,iV q]) (iV 3)).run prog w=.ok (iV p) w:=fun _=>by kernel_rfl
   go_wp2_with fail;refine(I.o wr _ _ p 4 (by omega) E G J.2.2.2.2.1 K.o).mono ?_;rintro e O ⟨N,rfl,A,B⟩;have C:Hd (TX (fun k=>F k∧k≠w.heap.size) base O N (l++be 1 k++([s,i,o,p,q].take 4).flatMap (be 4))):=by
    have M:l++be 1 k++([s,i,o,p,q].take 3).flatMap (be 4)++be 4 p=l++be 1 k++([s,i,o,p,q].take 4).flatMap (be 4):=by simp
    show TX _ _ _ _ _;rw[←M];exact A
   have D:=hid (H.trans B);clear A B;go_wp2;go_roundw
   case rel=>exact⟨4,by omega,rfl,C.o,D.o⟩
   case measure=>simp[intOf]
  have Z:∀w:World,(Instr.index 261 (.agg #[iV s,iV i,iV o,iV p,iV q]) (iV 4)).run prog w=.ok (iV q) w:=fun _=>by kernel_rfl
  go_wp2_with fail;refine(I.o wr _ _ q 4 (by omega) E G J.2.2.2.2.2.1 K.o).mono ?_;rintro e O ⟨N,rfl,A,B⟩;have C:Hd (TX (fun k=>F k∧k≠w.heap.size) base O N (l++be 1 k++([s,i,o,p,q].take 5).flatMap (be 4))):=by
   have M:l++be 1 k++([s,i,o,p,q].take 4).flatMap (be 4)++be 4 q=l++be 1 k++([s,i,o,p,q].take 5).flatMap (be 4):=by simp
   show TX _ _ _ _ _;rw[←M];exact A
  have D:=hid (H.trans B);clear A B;go_wp2;go_roundw
  case rel=>exact⟨5,by omega,rfl,C.o,D.o⟩
  case measure=>simp[intOf]
structure VAt(w:World)(vb:Nat)(v:Nat→Int):Prop where
 c0:w.cell? (iA vb 1)=sI (v 0)
 c1:w.cell? (iA vb 2)=sI (v 1)
 c2:w.cell? (iA vb 3)=sI (v 2)
 c3:w.cell? (iA vb 4)=sI (v 3)
 c4:w.cell? (iA vb 5)=sI (v 4)
 c5:w.cell? (iA vb 6)=sI (v 5)
 c6:w.cell? (iA vb 7)=sI (v 6)
 c7:w.cell? (iA vb 8)=sI (v 7)
 c8:w.cell? (iA vb 9)=sI (v 8)
theorem VAt.drewN(h:VAt w vb v)(n:Nat):VAt (w.drewN n) vb v:=⟨h.c0,h.c1,h.c2,h.c3,h.c4,h.c5,h.c6,h.c7,h.c8⟩
theorem VAt.block(h:VAt w vb v)(hb:w'.heap[vb]? =w.heap[vb]?):VAt w' vb v:=
 have q:∀j,w'.cell? (iA vb j)=w.cell? (iA vb j):=fun j=>World.cell?_of_block (a:=(iA vb j)) hb
 ⟨(q 1).trans h.c0,(q 2).trans h.c1,(q 3).trans h.c2,(q 4).trans h.c3,(q 5).trans h.c4,(q 6).trans h.c5,(q 7).trans h.c6,(q 8).trans h.c7,(q 9).trans h.c8⟩
structure Same(w w':World):Prop where
 heap:w'.heap=w.heap
 os:w'.os=w.os
 tape:w'.tape=w.tape
 output:w'.output=w.output
theorem Same.refl(w:World):Same w w:=⟨rfl,rfl,rfl,rfl⟩
theorem Same.drewN(h:Same a w)(n:Nat):Same a (w.drewN n):=⟨h.heap,h.os,h.tape,h.output⟩
theorem Same.drew(h:Same a w):Same a w.drew:=⟨h.heap,h.os,h.tape,h.output⟩
theorem Same.trans{b c:World}(h:Same a b)(k:Same b c):Same a c:=⟨k.heap.trans h.heap,k.os.trans h.os,k.tape.trans h.tape,k.output.trans h.output⟩
theorem Same.touch{b:World}(h:Same a b):Touch F a b:=⟨h.os,h.tape,h.output,by rw[h.heap];exact Nat.le_refl _,fun k _ _=>by rw[h.heap]⟩
theorem dn.same(h:dn F base w b e dv av)(hs:Same w w'):dn F base w' b e dv av:=h.keep (by rw[hs.heap];exact Nat.le_refl _) (fun k _=>by rw[hs.heap])
theorem VAt.same(h:VAt w vb v)(hs:Same w w'):VAt w' vb v:=h.block (by rw[hs.heap])
theorem nV(x:Int)(h0: -9223372036854775808≤x)(h1:x≤9223372036854775807):IntKind.i64.wrap x=x:=by
 rw[IntKind.wrap_i64];omega
namespace bf
abbrev W4(v:Nat→Int):Prop:=v 0=0∨rf (v 1) 1 2=false∨rf (v 2) 1 3=false∨rf (v 7) 1 3=false
abbrev W5(e:bf)(v:Nat→Int):Prop:=(if v 2=3 then v 3 == 0 else rf (v 3) 1 e.mp)=false
abbrev W6(e:bf)(v:Nat→Int):Prop:=rf (v 4) 1 e.mq=false∨(if v 2=2 then rf (v 5) 1 (v 4) else v 5 == 0)=false
abbrev W7(e:bf)(v:Nat→Int):Prop:=(if v 2=3 then(if v 1=1 then rf (v 6) (-e.mp) 0 else rf (v 6) 0 e.mp) else v 6 == 0)=false
abbrev W8(e:bf)(v:Nat→Int):Prop:=(if v 7=3 then decide (e.now<v 8) else v 8 == 0)=false
theorem why_4(h:W4 v):e.why v=4:=by unfold why;rw[if_pos h]
theorem why_2(h4:¬W4 v)(h:(e.find (v 0)).isSome):e.why v=2:=by unfold why;rw[if_neg h4,if_pos h]
theorem why_5(h4:¬W4 v)(h2:e.find (v 0)=none)(h:W5 e v):e.why v=5:=by unfold why;rw[if_neg h4,h2,if_neg (by simp),if_pos h]
theorem xJ(h4:¬W4 v)(h2:e.find (v 0)=none)(h5:¬W5 e v)(h:W6 e v):e.why v=6:=by unfold why;rw[if_neg h4,h2,if_neg (by simp),if_neg h5,if_pos h]
theorem why_7(h4:¬W4 v)(h2:e.find (v 0)=none)(h5:¬W5 e v)(h6:¬W6 e v)(h:W7 e v):e.why v=7:=by unfold why;rw[if_neg h4,h2,if_neg (by simp),if_neg h5,if_neg h6,if_pos h]
theorem why_8(h4:¬W4 v)(h2:e.find (v 0)=none)(h5:¬W5 e v)(h6:¬W6 e v)(h7:¬W7 e v)(h:W8 e v):e.why v=8:=by unfold why;rw[if_neg h4,h2,if_neg (by simp),if_neg h5,if_neg h6,if_neg h7,if_pos h]
theorem why_9(h4:¬W4 v)(h2:e.find (v 0)=none)(h5:¬W5 e v)(h6:¬W6 e v)(h7:¬W7 e v)(h8:¬W8 e v):e.why v=if e.mo≤e.alive then 9 else 0:=by unfold why;rw[if_neg h4,h2,if_neg (by simp),if_neg h5,if_neg h6,if_neg h7,if_neg h8]
end bf
theorem zF8(h:dn F base w b e dv av)(hv:VAt w vb v)(hI:bf.fe e)(hr:Room 0 e):
 Cl 149 #[iP b,.pointer (some (iA vb 1))] w fun en w'=>en=.returned (iV (e.why v))∧Same w w':=by
 have D:=hid h;have I:=hid hv;have A:=hid (Same.refl w);have A6:=hI.mp0;have A7:=hI.oN;have Ab:=hI.live;have Aa:=hr.len;obtain⟨f,g,i,j,l,m,n,p,q⟩:=hv;go_enter func149,ntmps149;cases q1:bf.rf (v 1) 1 2
 ·have C:=hid (bf.why_4 (e:=e) (v:=v) (.inr (.inl q1)));cases s:(v 0 == 0)
  ·go_wp2_with(go_at_call 151;refine(jq _ _ _ _).mono ?_;rintro en w' ⟨rfl,E⟩;cases E);go_ret;exact⟨by rw[C.o];rfl,A.o⟩
  go_wp2_with(go_at_call 151;refine(jq _ _ _ _).mono ?_;rintro en w' ⟨rfl,E⟩;cases E);go_ret;exact⟨by rw[C.o];rfl,A.o⟩
 cases q2:bf.rf (v 2) 1 3
 ·have C:=hid (bf.why_4 (e:=e) (v:=v) (.inr (.inr (.inl q2))));cases s:(v 0 == 0)
  ·go_wp2_with(go_at_call 151;refine(jq _ _ _ _).mono ?_;rintro en w' ⟨rfl,E⟩;cases E);go_ret;exact⟨by rw[C.o];rfl,A.o⟩
  go_wp2_with(go_at_call 151;refine(jq _ _ _ _).mono ?_;rintro en w' ⟨rfl,E⟩;cases E);go_ret;exact⟨by rw[C.o];rfl,A.o⟩
 cases q3:bf.rf (v 7) 1 3
 ·have C:=hid (bf.why_4 (e:=e) (v:=v) (.inr (.inr (.inr q3))));cases s:(v 0 == 0)
  ·go_wp2_with(go_at_call 151;refine(jq _ _ _ _).mono ?_;rintro en w' ⟨rfl,E⟩;cases E);go_ret;exact⟨by rw[C.o];rfl,A.o⟩
  go_wp2_with(go_at_call 151;refine(jq _ _ _ _).mono ?_;rintro en w' ⟨rfl,E⟩;cases E);go_ret;exact⟨by rw[C.o];rfl,A.o⟩
 cases s:(v 0 == 0);rotate_left
 ·have C:=hid (bf.why_4 (e:=e) (v:=v) (.inl (by simpa using s)));go_wp2_with(go_at_call 151;refine(jq _ _ _ _).mono ?_;rintro en w' ⟨rfl,E⟩;cases E);go_ret;exact⟨by rw[C.o];rfl,A.o⟩
 have J:Hd (¬bf.W4 v):=fun B=>by
  rcases B with B|B|B|B
  ·simp[B]at s
  ·rw[q1]at B;cases B
  ·rw[q2]at B;cases B
  rw[q3]at B;cases B
 go_wp2_with(go_at_call 151;refine(jq _ _ _ _).mono ?_;rintro en w' ⟨rfl,E⟩;cases E);refine(qX D.o (v 0) hr.len).mono ?_;rintro en w2 ⟨rfl,A2⟩;cases A2;rcases hf:e.find (v 0) with _|k;rotate_left
 ·have C:=hid (bf.why_2 J.o (by rw[hf];rfl));have A0:lN (some k)=(k:Int):=rfl;go_wp2;go_ret;exact⟨by rw[C.o];rfl,A.o⟩
 have K:=hid hf;have A0:lN none= -1:=rfl;have c1:cI w b 1 e.mp:=D.cell 1;cases q4:(v 2 == 3);go_wp2_with fail;go_quiet ((go_at_call 151;exact Calls.quiet_of_same (jq _ _ _ _)));replace D:=hid (D.drewN nq);replace I:=hid (I.drewN nq);replace A:=hid (A.drewN nq);generalize w.drewN nq=W1 at *;obtain⟨f,g,i,j,l,m,n,p,q⟩:=I.o;have c1:cI W1 b 1 e.mp:=D.cell 1;have G:Hd (¬v 2=3):=by show¬_=_;simpa using q4
 cases c:bf.rf (v 3) 1 e.mp
 ·have H:Hd (bf.W5 e v):=by
   show _=_;rw[if_neg G.out];exact c
  have C:=hid (bf.why_5 J.o K.o H.o);go_wp2;go_ret;exact⟨by rw[C.o];rfl,A.o⟩
 have H:Hd (¬bf.W5 e v):=fun B=>by
  rw[bf.W5,if_neg G.out,c]at B;cases B
 have c2:cI W1 b 2 e.mq:=D.cell 2;go_wp2_with fail;go_quiet ((go_at_call 151;exact Calls.quiet_of_same (jq _ _ _ _)));replace D:=hid (D.drewN nq);replace I:=hid (I.drewN nq);replace A:=hid (A.drewN nq);generalize W1.drewN nq=W2 at *;obtain⟨f,g,i,j,l,m,n,p,q⟩:=I.o;have c1:cI W2 b 1 e.mp:=D.cell 1;cases U:(v 2 == 2);have L:Hd (¬v 2=2):=by show¬_=_;simpa using U
 cases O:bf.rf (v 4) 1 e.mq
 ·cases S:(v 5 == 0)
  ·have C:=hid (bf.xJ J.o K.o H.o (.inl O));go_wp2;go_ret;exact⟨by rw[C.o];rfl,A.o⟩
  have C:=hid (bf.xJ J.o K.o H.o (.inl O));go_wp2;go_ret;exact⟨by rw[C.o];rfl,A.o⟩
 cases S:(v 5 == 0)
 ·have C:=hid (bf.xJ J.o K.o H.o (.inr (by rw[if_neg L.out];exact S)));go_wp2;go_ret;exact⟨by rw[C.o];rfl,A.o⟩
 have T:Hd (¬bf.W6 e v):=fun B=>by
  rcases B with B|B
  ·rw[O]at B;cases B
  rw[if_neg L.out,S]at B;cases B
 cases R:(v 6 == 0)
 ·have C:=hid (bf.why_7 J.o K.o H.o T.o (by show _=_;rw[if_neg G.out];exact R));go_wp2;go_ret;exact⟨by rw[C.o];rfl,A.o⟩
 have V:Hd (¬bf.W7 e v):=fun B=>by
  rw[bf.W7,if_neg G.out,R]at B;cases B
 have z:cI W2 b 7 e.now:=D.cell 7;rotate_left;have L:Hd (v 2=2):=by show _=_;simpa using U
 go_wp2_with fail;go_quiet ((go_at_call 151;exact Calls.quiet_of_same (jq _ _ _ _)));replace D:=hid (D.drewN nq);replace I:=hid (I.drewN nq);replace A:=hid (A.drewN nq);generalize W2.drewN nq=W2 at *;obtain⟨f,g,i,j,l,m,n,p,q⟩:=I.o;have c1:cI W2 b 1 e.mp:=D.cell 1;cases O:bf.rf (v 4) 1 e.mq
 ·cases S:bf.rf (v 5) 1 (v 4)
  ·have C:=hid (bf.xJ J.o K.o H.o (.inl O));go_wp2;go_ret;exact⟨by rw[C.o];rfl,A.o⟩
  have C:=hid (bf.xJ J.o K.o H.o (.inl O));go_wp2;go_ret;exact⟨by rw[C.o];rfl,A.o⟩
 cases S:bf.rf (v 5) 1 (v 4)
 ·have C:=hid (bf.xJ J.o K.o H.o (.inr (by rw[if_pos L.out];exact S)));go_wp2;go_ret;exact⟨by rw[C.o];rfl,A.o⟩
 have T:Hd (¬bf.W6 e v):=fun B=>by
  rcases B with B|B
  ·rw[O]at B;cases B
  rw[if_pos L.out,S]at B;cases B
 cases R:(v 6 == 0)
 ·have C:=hid (bf.why_7 J.o K.o H.o T.o (by show _=_;rw[if_neg G.out];exact R));go_wp2;go_ret;exact⟨by rw[C.o];rfl,A.o⟩
 have V:Hd (¬bf.W7 e v):=fun B=>by
  rw[bf.W7,if_neg G.out,R]at B;cases B
 have z:cI W2 b 7 e.now:=D.cell 7;rotate_left;go_wp2_with fail;go_quiet ((go_at_call 151;exact Calls.quiet_of_same (jq _ _ _ _)));replace D:=hid (D.drewN nq);replace I:=hid (I.drewN nq);replace A:=hid (A.drewN nq);generalize w.drewN nq=W8 at *;obtain⟨f,g,i,j,l,m,n,p,q⟩:=I.o;have c1:cI W8 b 1 e.mp:=D.cell 1;have G:Hd (v 2=3):=by show _=_;simpa using q4
 cases c:(v 3 != 0)
 case true=>
  have H:Hd (bf.W5 e v):=by
   show _=_;rw[if_pos G.out];simpa using c
  have C:=hid (bf.why_5 J.o K.o H.o);go_wp2;go_ret;exact⟨by rw[C.o];rfl,A.o⟩
 have H:Hd (¬bf.W5 e v):=fun B=>by
  rw[bf.W5,if_pos G.out]at B;have B:¬v 3=0:=by simpa using B
  have c:v 3=0:=by simpa using c
  exact B c
 have c2:cI W8 b 2 e.mq:=D.cell 2;go_wp2_with fail;go_quiet ((go_at_call 151;exact Calls.quiet_of_same (jq _ _ _ _)));replace D:=hid (D.drewN nq);replace I:=hid (I.drewN nq);replace A:=hid (A.drewN nq);generalize W8.drewN nq=W9 at *;obtain⟨f,g,i,j,l,m,n,p,q⟩:=I.o;have c1:cI W9 b 1 e.mp:=D.cell 1;have U:(v 2 == 2)=false:=by rw[G.out];rfl
 have L:Hd (¬v 2=2):=by show¬_=_;simpa using U
 cases O:bf.rf (v 4) 1 e.mq
 ·cases S:(v 5 == 0)
  ·have C:=hid (bf.xJ J.o K.o H.o (.inl O));go_wp2;go_ret;exact⟨by rw[C.o];rfl,A.o⟩
  have C:=hid (bf.xJ J.o K.o H.o (.inl O));go_wp2;go_ret;exact⟨by rw[C.o];rfl,A.o⟩
 cases S:(v 5 == 0)
 ·have C:=hid (bf.xJ J.o K.o H.o (.inr (by rw[if_neg L.out];exact S)));go_wp2;go_ret;exact⟨by rw[C.o];rfl,A.o⟩
 have T:Hd (¬bf.W6 e v):=fun B=>by
  rcases B with B|B
  ·rw[O]at B;cases B
  rw[if_neg L.out,S]at B;cases B
 have Ac:=nV (-e.mp) (by omega) (by omega);cases t:(v 1 == 1);have A9:¬v 1=1:=by simpa using t
 have A8:=(bf.dH _ _ _).1 q1;have M:Hd (v 1=2):=by show _=_;omega
 have A3:(v 1 == 2)=true:=by rw[M.out];rfl
 go_wp2_with fail;go_quiet ((go_at_call 151;exact Calls.quiet_of_same (jq _ _ _ _)));replace D:=hid (D.drewN nq);replace I:=hid (I.drewN nq);replace A:=hid (A.drewN nq);generalize W9.drewN nq=W2 at *;obtain⟨f,g,i,j,l,m,n,p,q⟩:=I.o;have c1:cI W2 b 1 e.mp:=D.cell 1;cases R:bf.rf (v 6) 0 e.mp
 ·have C:=hid (bf.why_7 J.o K.o H.o T.o (by show _=_;rw[if_pos G.out,if_neg (by rw[M.out];decide)];exact R));go_wp2;go_ret;exact⟨by rw[C.o];rfl,A.o⟩
 have V:Hd (¬bf.W7 e v):=fun B=>by
  rw[bf.W7,if_pos G.out,if_neg (by rw[M.out];decide),R]at B;cases B
 have z:cI W2 b 7 e.now:=D.cell 7;rotate_left;have M:Hd (v 1=1):=by show _=_;simpa using t
 have A3:(v 1 == 2)=false:=by rw[M.out];rfl
 go_wp2_with fail;go_quiet ((go_at_call 151;exact Calls.quiet_of_same (jq _ _ _ _)));replace D:=hid (D.drewN nq);replace I:=hid (I.drewN nq);replace A:=hid (A.drewN nq);generalize W9.drewN nq=W2 at *;obtain⟨f,g,i,j,l,m,n,p,q⟩:=I.o;have c1:cI W2 b 1 e.mp:=D.cell 1;cases R:bf.rf (v 6) (-e.mp) 0
 ·have C:=hid (bf.why_7 J.o K.o H.o T.o (by show _=_;rw[if_pos G.out,if_pos M.out];exact R));go_wp2;go_ret;exact⟨by rw[C.o];rfl,A.o⟩
 have V:Hd (¬bf.W7 e v):=fun B=>by
  rw[bf.W7,if_pos G.out,if_pos M.out,R]at B;cases B
 have z:cI W2 b 7 e.now:=D.cell 7;all_goals
  cases x:(v 7 == 3)
  ·have N:Hd (¬v 7=3):=by show¬_=_;simpa using x
   have A4:(v 7 != 3)=true:=by simpa using x
   cases d:(v 8 != 0);rotate_left
   ·have C:=hid (bf.why_8 J.o K.o H.o T.o V.o (by show _=_;rw[if_neg N.out];simpa using d));go_wp2_with fail;go_quiet (fail);go_wp2;go_ret;exact⟨by rw[C.o];rfl,A.drewN _⟩
   have y:Hd (¬bf.W8 e v):=fun B=>by
    rw[bf.W8,if_neg N.out]at B;have d:v 8=0:=by simpa using d
    rw[d]at B;cases B
   have C:=hid (bf.why_9 J.o K.o H.o T.o V.o y.o);go_wp2_with fail;go_quiet (fail);replace D:=hid (D.drewN nq);replace A:=hid (A.drewN nq);generalize W2.drewN nq=W3 at *;have c0:cI W3 b 0 e.mo:=D.cell 0;go_wp2_with fail;refine(xE D.o hr.len).mono ?_;rintro en w9 ⟨rfl,Y⟩;cases Y;cases u:((e.alive:Int) == e.mo)
   ·have X:¬(e.alive:Int)=e.mo:=by simpa using u
    have A1:¬e.mo≤(e.alive:Int):=by omega
    go_wp2;go_ret;exact⟨by rw[C.o,if_neg (by omega)];rfl,A.o⟩
   have X:(e.alive:Int)=e.mo:=by simpa using u
   have Z:e.mo≤(e.alive:Int):=by omega
   go_wp2;go_ret;exact⟨by rw[C.o,if_pos Z];rfl,A.o⟩
  have N:Hd (v 7=3):=by show _=_;simpa using x
  have A4:(v 7 != 3)=false:=by simpa using x
  by_cases d:v 8≤e.now
  ·have C:=hid (bf.why_8 J.o K.o H.o T.o V.o (by show _=_;rw[if_pos N.out];simp;omega));have A5:decide (v 8≤e.now)=true:=by simpa using d
   go_wp2_with fail;go_quiet (fail);go_wp2;go_ret;exact⟨by rw[C.o];rfl,A.drewN _⟩
  have y:Hd (¬bf.W8 e v):=fun B=>by
   rw[bf.W8,if_pos N.out]at B;have B:¬e.now<v 8:=by simpa using B
   omega
  have A5:decide (v 8≤e.now)=false:=by simpa using d
  have C:=hid (bf.why_9 J.o K.o H.o T.o V.o y.o);go_wp2_with fail;go_quiet (fail);replace D:=hid (D.drewN nq);replace A:=hid (A.drewN nq);generalize W2.drewN nq=W4 at *;have c0:cI W4 b 0 e.mo:=D.cell 0;go_wp2_with fail;refine(xE D.o hr.len).mono ?_;rintro en w9 ⟨rfl,Y⟩;cases Y;cases u:((e.alive:Int) == e.mo)
  ·have X:¬(e.alive:Int)=e.mo:=by simpa using u
   have A1:¬e.mo≤(e.alive:Int):=by omega
   go_wp2;go_ret;exact⟨by rw[C.o,if_neg (by omega)];rfl,A.o⟩
  have X:(e.alive:Int)=e.mo:=by simpa using u
  have Z:e.mo≤(e.alive:Int):=by omega
  go_wp2;go_ret;exact⟨by rw[C.o,if_pos Z];rfl,A.o⟩
theorem dn.dshape(h:dn F base w b e dv av):(dv=.slice none 0 0∧e.gz= [])∨∃g cap,dv=sL g e.gz.length cap∧g≠b∧g<w.heap.size∧∀(j:Nat) (x:Int),e.gz[j]? =some x→w.cell? (iA g j)=sI x:=by
 rcases h.dr.2 with⟨E,G⟩|⟨g,cap,D,C,I,A,H⟩
 ·exact .inl ⟨E,List.length_eq_zero_iff.1 G⟩
 right;have B:=h.dr;rw[C]at B;refine⟨g,cap,C,fun e1=>?_,(Array.getElem?_eq_some_iff.1 A).1,fun j x hx=>?_⟩
 ·rw[e1,h.blk]at A;injection A with A;injection A with _ A _;exact absurd A (by decide)
 have J:j<e.gz.length:=(List.getElem?_eq_some_iff.1 hx).1;rw[B.cellAt j (by omega),List.getElem?_map,hx];rfl
theorem zF9(x:Int):(if x.tmod 4294967296<0 then x.tmod 4294967296+4294967296 else x.tmod 4294967296)=x % 4294967296:=by
 rw[Int.tmod_eq_emod];split<;>split<;>simp_all<;>omega
theorem zC0(h:dn F base w b e dv av)(hr:Room 1 e)(hd:e.gz.length≤1000000000)(hx:∀x∈e.gz,-9223372036854775808≤x∧x≤9223372036854775807):
 Cl 196 #[iP b] w fun en w'=>en=.returned (iV e.draw.1)∧dn F base w' b e.draw.2 dv av∧Touch F w w':=by
 have A:Hd (dn F base (w.setCell (iA b 4) (iV ((e.drawn:Int)+1))) b e.draw.2 dv av):=h.set 4 _ _ rfl rfl rfl;have L:(dv=.slice none 0 0∧e.gz= [])∨∃g G,dv=sL g e.gz.length G∧g≠b∧g<(w.setCell (iA b 4) (iV ((e.drawn:Int)+1))).heap.size∧∀(j:Nat) (x:Int),e.gz[j]? =some x→(w.setCell (iA b 4) (iV ((e.drawn:Int)+1))).cell? (iA g j)=sI x:=A.dshape;have I:Hd (Touch F w (w.setCell (iA b 4) (iV ((e.drawn:Int)+1)))):=(Touch.refl F w).set b 4 _ h.own;have Y:cI w b 4 (e.drawn:Int):=h.cell 4;have c:=h.dz 4;have O:=hr.fD;clear h;go_enter func196,ntmps196;have J:(w.setCell (iA b 4) (iV ((e.drawn:Int)+1))).cell? (iA b 3)=some dv:=A.cell 3;have N:(w.setCell (iA b 4) (iV ((e.drawn:Int)+1))).cell? (iA b 4)=sI ((e.drawn:Int)+1):=A.cell 4;rcases L with⟨rfl,R⟩|⟨g,G,rfl,S,T,B⟩
 ·go_wp2;go_ret;refine⟨?_,A.o,I.o⟩;have:e.draw.1=0:=by unfold bf.draw;rw[R];rfl
  rw[this];rfl
 by_cases D:e.gz.length=0
 ·have C:Hd (e.draw.1=0):=by
   show _=_;unfold bf.draw;simp only;rw[if_pos D]
  rw[D]at J;clear B;go_wp2;go_ret;exact⟨by rw[C.out];rfl,A.o,I.o⟩
 have H:e.drawn % e.gz.length<e.gz.length:=Nat.mod_lt _ (by omega);have E:e.gz[e.drawn % e.gz.length]? =some e.gz[e.drawn % e.gz.length]:=List.getElem?_eq_getElem H;have Z:=B _ _ E;have C:Hd (e.draw.1=e.gz[e.drawn % e.gz.length] % 4294967296):=by
  show _=_;unfold bf.draw;simp only;rw[if_neg D,List.getD_eq_getElem?_getD,E];rfl
 obtain⟨f,i⟩:=hx _ (List.getElem_mem H);generalize e.gz[e.drawn % e.gz.length]=x at *;clear B E hx;generalize hn:e.gz.length=n at *;have d:Int.tmod (e.drawn:Int) (n:Int)=((e.drawn % n:Nat):Int):=(Int.ofNat_tmod _ _).symm;have V:((n:Int) == 0)=false:=by simp;omega
 have U:((e.drawn % n:Nat):Int)<(n:Int):=by omega
 generalize e.drawn % n=q at *;have M:Hd ((if x.tmod 4294967296<0 then x.tmod 4294967296+4294967296 else x.tmod 4294967296)=x % 4294967296):=zF9 x;have X: -4294967296<x.tmod 4294967296:=by
  have:=Int.tmod_lt_of_pos x (b:=4294967296) (by omega);have:=Int.lt_tmod_of_pos x (b:=4294967296) (by omega);omega
 go_wp2_with fail;generalize w.setCell (iA b 4) (iV ((e.drawn:Int)+1))=W1 at *;generalize hm:x.tmod 4294967296=m at *;go_quiet (fail);by_cases K:m<0
 ·go_wp2;go_ret;refine⟨?_,A.drewN _,I.drewN _⟩;rw[C.out,←M.o,if_pos K];rfl
 go_wp2;go_ret;refine⟨?_,A.drewN _,I.drewN _⟩;rw[C.out,←M.o,if_neg (by omega)];rfl
theorem bf.upd_some(e:bf)(i:Nat)(f:Ord→Ord)(o:Ord)(h:e.all[i]? =some o):(e.upd i f).all[i]? =some (f o):=bf.upd_same e i f o h
theorem dn.bB(h:dn F base w b e dv (sL g n cap))(i j:Nat)(x:Int)(o o':Ord)(ho:e.all[i]? =some o)(hf:o'.cells=o.cells.set j x)(hj:j<15):dn F base (w.setCell (iA g (i*15+j)) (iV x)) b (e.upd i fun _=>o') dv (sL g n cap):=
 h.setOrd i j x (fun _=>o') (fun o1 h1=>by obtain rfl:o=o1:=Option.some.inj (ho.symm.trans h1);exact hf) hj (List.getElem?_eq_some_iff.1 ho).1
theorem bf.jD(e:bf)(i:Nat)(a c:Ord):(e.upd i fun _=>a).upd i (fun _=>c)=e.upd i fun _=>c:=bf.aV e i _ _
theorem bf.nu(e:bf)(i:Nat)(a o:Ord)(h:e.all[i]? =some o):(e.upd i fun _=>a).all[i]? =some a:=bf.upd_same e i _ o h
def goneO(o:Ord):Ord:={ o with cancelled:=o.opn,opn:=0,bg:=0,dm:=3 }
theorem bf.gone_eq(e:bf)(i:Nat)(reason:Int)(o:Ord)(ho:e.all[i]? =some o):e.gone i reason=(e.upd i fun _=>goneO o).tell 4 o.id 0 0 o.opn reason:=by
 unfold bf.gone;rw[ho];simp only;rw[bf.nk e i (fun o=>{ o with cancelled:=o.opn,opn:=0,bg:=0,dm:=3 }) (fun _=>goneO o) (fun x hx=>by obtain rfl:o=x:=Option.some.inj (ho.symm.trans hx);rfl)]
theorem qZ(i:Nat)(reason:Int)(o:Ord)(h:dn F base w b e dv (sL g e.all.length cap))(ho:e.all[i]? =some o)(hr:Room 1 e)(h3:xx o.id)(h6:xx o.opn)(h7:xx reason):
 Cl 109 #[iP b,iV i,iV reason] w fun en w'=>en=rV #[]∧dn F base w' b (e.gone i reason) dv (sL g e.all.length cap)∧Touch F w w':=by
 have c:i<e.all.length:=(List.getElem?_eq_some_iff.1 ho).1;have S:(i:Int)<(e.all.length:Int):=by omega
 have T:=hr.len;obtain⟨A,B,R,_⟩:=h.jc;have Y:w.cell? (iA b 5)=some (sL g e.all.length cap):=h.cell 5;have d:=A.cell0 i o ho;have U:=A.cell i 10 o _ ho rfl;have V:=A.cell i 12 o _ ho rfl;have X:=A.cell i 13 o _ ho rfl;have f:=A.cell i 8 o _ ho rfl;have L:=A.dz (i*15+10);have M:=A.dz (i*15+12);have N:=A.dz (i*15+13);have Z:=A.dz (i*15+8);have J:Hd (dn F base ((((w.setCell (iA g (i*15+12)) (iV o.opn)).setCell (iA g (i*15+10)) (iV 0)).setCell (iA g (i*15+13)) (iV 0)).setCell (iA g (i*15+8)) (iV 3)) b (e.upd i fun _=>goneO o) dv (sL g e.all.length cap)):=by
  have O:=h.bB i 12 o.opn o { o with cancelled:=o.opn } ho rfl (by omega);have G:=O.bB i 10 0 _ { o with cancelled:=o.opn,opn:=0 } (bf.nu _ _ _ _ ho) rfl (by omega);rw[bf.jD]at G;have h3:=G.bB i 13 0 _ { o with cancelled:=o.opn,opn:=0,bg:=0 } (bf.nu _ _ _ _ ho) rfl (by omega);rw[bf.jD]at h3;have H:=h3.bB i 8 3 _ (goneO o) (bf.nu _ _ _ _ ho) rfl (by omega);rw[bf.jD]at H;exact H
 have K:Hd (Touch F w ((((w.setCell (iA g (i*15+12)) (iV o.opn)).setCell (iA g (i*15+10)) (iV 0)).setCell (iA g (i*15+13)) (iV 0)).setCell (iA g (i*15+8)) (iV 3))):=((((Touch.refl F w).set g _ _ B).set g _ _ B).set g _ _ B).set g _ _ B;have D:Room 1 (e.upd i fun _=>goneO o):=⟨hr.seq,hr.qC,hr.out,by rw[bf.kz];exact hr.len,hr.fD⟩;go_enter func109,ntmps109;go_wp2_with fail;refine(vk J.o K 4 o.id 0 0 o.opn reason D (n63 4 (by omega) (by omega)) h3 (n63 0 (by omega) (by omega)) (n63 0 (by omega) (by omega)) h6 h7 _ rfl rfl rfl rfl).mono ?_;rintro en w' ⟨rfl,C,E⟩;have I:=hid (bf.gone_eq e i reason o ho);go_wp2;go_end0;exact⟨rfl,I.o▸C,E⟩
end Go.Proofs.YtehmdohpmpbnnaaGreatDoor
