import Derived.Test.YtehmdohpmpbnnaaGreatDoorQ00
import Derived.Test.YtehmdohpmpbnnaaGreatDoorQ10
import Derived.Test.YtehmdohpmpbnnaaGreatDoorQ23
import Derived.Deep.RegionHeld3
set_option linter.all false
set_option maxRecDepth 100000
set_option maxHeartbeats 8000000
namespace Go.Proofs.YtehmdohpmpbnnaaGreatDoor
variable{w a w':World}{q b i rb:Nat}{k:Nat→Int}{L:List (Int×Option Nat)}{E:List (Int×List Int)}
open Go.Proofs.Tryz
open Go.Extern Go.Maps Go.RowKit
structure nG(q:Nat)(w w':World):Prop where
 os:w'.os=w.os
 tape:w'.tape=w.tape
 output:w'.output=w.output
 size:w.heap.size≤w'.heap.size
 block:∀k,k<w.heap.size→k≠q→w'.heap[k]? =w.heap[k]?
theorem nG.refl(q:Nat)(w:World):nG q w w:=⟨rfl,rfl,rfl,Nat.le_refl _,fun _ _ _=>rfl⟩
theorem nG.below{b:World}(h:nG q w a)(hb:Below a.heap.size a b):nG q w b:=⟨hb.os.trans h.os,hb.tape.trans h.tape,hb.output.trans h.output,Nat.le_trans h.size hb.size,fun k hk hq=>(hb.block k (Nat.lt_of_lt_of_le hk h.size)).trans (h.block k hk hq)⟩
theorem nG.same{b:World}(h:nG q w a)(hs:Same a b):nG q w b:=⟨hs.os.trans h.os,hs.tape.trans h.tape,hs.output.trans h.output,by rw[hs.heap];exact h.size,fun k hk hq=>by rw[hs.heap];exact h.block k hk hq⟩
theorem nG.set(h:nG q w a)(j:Nat)(u:Value):nG q w (a.setCell (iA q j) u):=by
 have A:Below q a (a.setCell (iA q j) u):=(Below.refl q a).setCell (Nat.le_refl q) u;exact⟨A.os.trans h.os,A.tape.trans h.tape,A.output.trans h.output,Nat.le_trans h.size A.size,fun k hk hq=>by rw[Below.heap_setCell _ _ _ _ hq];exact h.block k hk hq⟩
theorem nG.low{base:Nat}(h:nG q w w')(hq:base≤q)(hw:base≤w.heap.size):Below base w w':=⟨h.os,h.tape,h.output,h.size,fun k hk=>h.block k (by omega) (by omega)⟩
theorem OA.below{o:Ord}(h:OA w q i o)(hb:Below w.heap.size w w'):OA w' q i o:=⟨by rw[hb.block q h.lt];exact h.blk⟩
theorem OA.wr{o:Ord}(h:OA w q i o)(j:Nat)(u:Value)(o':Ord)(hc:(o.code i).setIfInBounds j u=o'.code i):OA (w.setCell (iA q j) u) q i o':=⟨by rw[ja w q j u _ _ _ h.blk,hc]⟩
structure RB(w:World)(b:Nat)(k:Nat→Int):Prop where
 blk:w.heap[b]? =some (.cells #[iV (k 0),iV (k 1),iV (k 2),iV (k 3),iV (k 4),iV (k 5),iV (k 6)] 55 (0,0))
theorem RB.lt(h:RB w b k):b<w.heap.size:=(Array.getElem?_eq_some_iff.1 h.blk).1
theorem RB.cell(h:RB w b k)(j:Nat):w.cell? (iA b j)=#[iV (k 0),iV (k 1),iV (k 2),iV (k 3),iV (k 4),iV (k 5),iV (k 6)][j]? :=by simp[World.cell?,h.blk]
theorem RB.below(h:RB w b k)(hb:Below w.heap.size w w'):RB w' b k:=⟨by rw[hb.block b h.lt];exact h.blk⟩
theorem RB.same(h:RB w b k)(hs:Same w w'):RB w' b k:=⟨by rw[hs.heap];exact h.blk⟩
section
variable {pr:Nat→Option (Array Value×TypeId)} {base:Nat} {w w':World} {ab lm em n:Nat} {q:Nat} {o o':Ord}
theorem AG.lw(h:AG pr base w ab lm em n):base≤w.heap.size:=by obtain⟨L,E,h⟩:=h;have:=h.lo;have:=h.lt;omega
theorem AG.chg(h:AG pr base w ab lm em n)(ho:OA w q 0 o)(hc:nG q w w')(hO:OA w' q 0 o')(hk:qK o'):AG pr base w' ab lm em n:=by
 obtain⟨L,E,h⟩:=h;have D:=ho.blk;have J:∀{V:Type} {E:Elem V} {x:Nat} {l:List (Int×V)},PM E prog 3 w x l→PM E prog 3 w' x l:=by
  intro V E x l B;obtain⟨M,c,I⟩:=B.is_map;exact B.of_block (hc.block x B.lt (fun A=>by rw[A,D]at I;cases I))
 refine⟨L,E,?_,J h.live,J h.ended,fun p B=>?_,h.ents,h.ne,h.lo,h.ll,h.el,fun b c t hpb=>⟨(h.rows b c t hpb).1,by rw[hc.block b (Array.getElem?_eq_some_iff.1 (h.rows b c t hpb).2).1 (fun A=>by have:=(h.rows b c t hpb).2;rw[A,D]at this;injection this with this;injection this with _ this _;exact(h.rows b c t hpb).1 this.symm)];exact(h.rows b c t hpb).2⟩⟩
 ·rw[hc.block ab h.lt.1 (fun A=>by have:=h.blk;rw[A,D]at this;injection this with this;injection this with _ this _;exact absurd this (by decide))];exact h.blk
 obtain⟨C,x,F,G,H,K⟩:=h.jc p B;by_cases A:C=q
 ·subst A;exact⟨C,o',F,G,hO,hk⟩
 exact⟨C,x,F,G,⟨by rw[hc.block C H.lt A];exact H.blk⟩,K⟩
theorem zCq(x:Int)(h:AG pr base w ab lm em n)(hn:n≤1000000000)(hO:OA w q 0 o)(hq:base≤q)(hk:qK o)(hx:0≤x)(hx2:x≤o.mg - o.bu - o.bg):
 Cl 224 #[iP ab,iP q,iV x] w fun en w'=>en=rV #[]∧AG pr base w' ab lm em (n+1)∧Below base w w'∧(∀(b:Nat) (c:Array Value) (t:TypeId) (f:Nat×Nat),b≠q→w.heap[b]? =some (.cells c t f)→w'.heap[b]? =some (.cells c t f)):=by
 have O:cI w q 10 o.bu:=hO.cell 10;have R:=hO.dz 10;have j:wrap64 (o.bu+x)=o.bu+x:=by obtain⟨D,S,H⟩:=hk.fil;have:=hk.sh.1;unfold wrap64;omega
 have B:qK { o with bu:=o.bu+x }:=⟨hk.id,by obtain⟨D,S,H⟩:=hk.fil;have:=hk.sh.1;exact⟨by show 0≤o.bu+x;omega,by show o.bu+x≤o.mg;omega,H⟩,⟨hk.sh.1,by show o.bg≤o.mg - (o.bu+x);omega⟩,hk.peg⟩;obtain⟨D,V⟩:=h.wr hO hq 10 (iV (o.bu+x)) { o with bu:=o.bu+x } (by simp[Ord.code]) B;have N:Below base w (w.setCell (iA q 10) (iV (o.bu+x))):=(Below.refl base w).setCell hq _;have X:(∀(b:Nat) (c:Array Value) (t:TypeId) (f:Nat×Nat),b≠q→w.heap[b]? =some (.cells c t f)→(w.setCell (iA q 10) (iV (o.bu+x))).heap[b]? =some (.cells c t f)):=fun b c t f hq' h'=>by rw[Below.heap_setCell _ _ _ _ hq'];exact h'
 have C:Hd (AG pr base (w.setCell (iA q 10) (iV (o.bu+x))) ab lm em n∧OA (w.setCell (iA q 10) (iV (o.bu+x))) q 0 { o with bu:=o.bu+x }∧Below base w (w.setCell (iA q 10) (iV (o.bu+x)))∧(∀(b:Nat) (c:Array Value) (t:TypeId) (f:Nat×Nat),b≠q→w.heap[b]? =some (.cells c t f)→(w.setCell (iA q 10) (iV (o.bu+x))).heap[b]? =some (.cells c t f))∧qK { o with bu:=o.bu+x }∧n≤1000000000):=⟨D,V,N,X,B,hn⟩;go_enter func224,ntmps224;go_wp2_with fail;generalize w.setCell (iA q 10) (iV (o.bu+x))=W at *;refine(gL C.2.1 C.2.2.2.2.1.opn).mono ?_;rintro en Y ⟨rfl,U⟩;have A:=hid U;simp only;cases i:(o.mg - (o.bu+x) == 0)
 ·go_wp2;go_end0;obtain⟨E,I,F,G,J,K⟩:=C;exact⟨rfl,(E.same A).more (by omega),F.trans A.low,fun b c t f hq' h'=>by rw[A.heap];exact G b c t f hq' h'⟩
 go_wp2_with fail;have L:Hd (Cl 225 #[iP ab,iP q,iV 2] Y fun en w'=>en=rV #[]∧Hd (AG pr base w' ab lm em (n+1)∧Below base w w'∧(∀(b:Nat) (c:Array Value) (t:TypeId) (f:Nat×Nat),b≠q→w.heap[b]? =some (.cells c t f)→w'.heap[b]? =some (.cells c t f)))):=by
  obtain⟨E,I,F,G,J,K⟩:=C;refine(zCp 2 { o with bu:=o.bu+x,dm:=2,opn:=0,cancelled:=0,bg:=0 } (E.same A) K (I.same A) J rfl (fun W hW=>by have T:=zC6 hW;exact T)).mono ?_;rintro en w' ⟨rfl,Z,d,g⟩;exact⟨rfl,Z,(F.trans A.low).trans d,fun b c t f hq' h'=>g b c t f (by rw[A.heap];exact G b c t f hq' h')⟩
 refine L.mono ?_;rintro en k ⟨rfl,M⟩;go_wp2;go_end0;exact⟨rfl,M⟩
end
def FB(q:Nat)(w:World)(en:Ending)(w':World):Prop:= ∃(rb:Bool) (o':Ord),en=rB rb∧qK o'∧OA w' q 0 o'∧nG q w w'
section
variable {base:Nat} {w w':World} {q:Nat} {o o':Ord}
theorem nG.alloc(h:nG q w a)(x:Obj):nG q w (a.alloc x):=h.below ((Below.refl a.heap.size a).alloc (Nat.le_refl _) x)
theorem zA5(h:OA w q i o)(hr:aD (o.mg - o.bu)):
 Cl 153 #[iP q] w fun en w'=>en=.returned (iV (o.mg - o.bu))∧∃m,w'=w.drewN m:=by
 have C:cI w q 4 o.mg:=h.cell 4;have A:cI w q 10 o.bu:=h.cell 10;have F:=aM _ hr.1 hr.2;have B:wrap64 (o.mg - o.bu)=o.mg - o.bu:=by unfold wrap64;obtain⟨D,E⟩:=hr;omega
 go_enter func153,ntmps153;go_wp2_with fail;go_quiet (fail);go_wp2;go_ret;exact⟨rfl,nq,rfl⟩
theorem oF(n a c:Int):
 Cl 118 #[iV n,iV a,iV c] w fun en w'=>en=.returned (.bool (bf.rf n a c))∧w'=w:=by
 unfold bf.rf;by_cases A:a≤n
 ·go_enter func118,ntmps118;have B:decide (a≤n)=true:=by simpa using A
  go_wp2;go_ret;exact⟨by simp[A],rfl⟩
 go_enter func118,ntmps118;have B:decide (a≤n)=false:=by simpa using A
 go_wp2;go_ret;exact⟨by simp[A],rfl⟩
theorem OA.wr2(hO:OA w q 0 o)(j:Nat)(u:Value)(o1:Ord)(h1:(o.code 0).setIfInBounds j u=o1.code 0)(j2:Nat)(u2:Value)(o2:Ord)(h2:(o1.code 0).setIfInBounds j2 u2=o2.code 0):OA ((w.setCell (iA q j) u).setCell (iA q j2) u2) q 0 o2:=(hO.wr j u o1 h1).wr j2 u2 o2 h2
def dueF(a0 a1 a2 a3 a4 a5 a6:Int):Nat→Int
 |0=>a0|1=>a1|2=>a2|3=>a3|4=>a4|5=>a5|_=>a6
structure DueR(q rb db:Nat)(o:Ord)(k d:Nat→Int)(w X:World):Prop where
 oa:OA X q 0 o
 rb:RB X rb k
 db:RB X db d
 chg:nG q w X
theorem nG.news{z:Nat}{b:World}(h:nG q w a)(hn:nG z a b)(hz:w.heap.size≤z):nG q w b:=⟨hn.os.trans h.os,hn.tape.trans h.tape,hn.output.trans h.output,Nat.le_trans h.size hn.size,fun k hk hq=>(hn.block k (Nat.lt_of_lt_of_le hk h.size) (by omega)).trans (h.block k hk hq)⟩
theorem rJ{W:World}(a0 a1 a2 a3 a4 a5 a6:Int)(ho:OA W q 0 o)(hr:RB W rb k)(hc:nG q w W):DueR q rb W.heap.size o k (dueF a0 a1 a2 a3 a4 a5 a6) w (W.alloc (.cells #[iV a0,iV a1,iV a2,iV a3,iV a4,iV a5,iV a6] 55)):=
 ⟨ho.alloc _,hr.below ((Below.refl W.heap.size W).alloc (Nat.le_refl _) _),⟨heap_alloc_new W _⟩,hc.alloc _⟩
theorem zCr{W:World}(a0 a1 a2 a3 a4 a5 a6:Int)(m:Nat)(ho:OA W q 0 o)(hr:RB W rb k)(hc:nG q w W):DueR q rb W.heap.size o k (dueF a0 a1 a2 a3 a4 a5 a6) w (((((((((W.alloc (.cells #[iV 0,iV 0,iV 0,iV 0,iV 0,iV 0,iV 0] 55)).drewN m).setCell (iA W.heap.size 0) (iV a0)).setCell (iA W.heap.size 1) (iV a1)).setCell (iA W.heap.size 2) (iV a2)).setCell (iA W.heap.size 3) (iV a3)).setCell (iA W.heap.size 4) (iV a4)).setCell (iA W.heap.size 5) (iV a5)).setCell (iA W.heap.size 6) (iV a6)):=by
 have A:Bw W ((W.alloc (.cells #[iV 0,iV 0,iV 0,iV 0,iV 0,iV 0,iV 0] 55)).drewN m):=by
  have:=(Below.refl W.heap.size W).alloc (Nat.le_refl _) (.cells #[iV 0,iV 0,iV 0,iV 0,iV 0,iV 0,iV 0] 55);exact⟨this.os,this.tape,this.output,this.size,this.block⟩
 have D:((W.alloc (.cells #[iV 0,iV 0,iV 0,iV 0,iV 0,iV 0,iV 0] 55)).drewN m).heap[W.heap.size]? =some (.cells #[iV 0,iV 0,iV 0,iV 0,iV 0,iV 0,iV 0] 55 (0,0)):=heap_alloc_new W _;have L:=ho.lt;have M:=hr.lt;generalize (W.alloc (.cells #[iV 0,iV 0,iV 0,iV 0,iV 0,iV 0,iV 0] 55)).drewN m=Y at *;have N:w.heap.size≤W.heap.size:=hc.size;have O:=ho.below A;have R:=hr.below A;have c0:=hc.below A;generalize W.heap.size=z at *;have B:q≠z:=by omega
 have C:rb≠z:=by omega
 have E:=ja _ z 0 (iV a0) _ _ _ D;have F:=ja _ z 1 (iV a1) _ _ _ E;have G:=ja _ z 2 (iV a2) _ _ _ F;have H:=ja _ z 3 (iV a3) _ _ _ G;have I:=ja _ z 4 (iV a4) _ _ _ H;have J:=ja _ z 5 (iV a5) _ _ _ I;have K:=ja _ z 6 (iV a6) _ _ _ J;refine⟨⟨?_⟩,⟨?_⟩,⟨?_⟩,?_⟩
 ·iterate 7 rw[Below.heap_setCell _ _ _ _ B]
  exact O.blk
 ·iterate 7 rw[Below.heap_setCell _ _ _ _ C]
  exact R.blk
 ·rw[K];simp[dueF]
 exact c0.news ((((((((nG.refl z Y).set _ _).set _ _).set _ _).set _ _).set _ _).set _ _).set _ _) N
theorem zHa(k:Nat→Int)(hO:OA w q 0 o)(hk:qK o):
 Cl 217 #[iP q,bM (k 0) (k 1) (k 2) (k 3) (k 4) (k 5) (k 6)] w fun en w'=>FB q w en w':=by
 have B:=fun W=>qT (k 0) (k 1) (k 2) (k 3) (k 4) (k 5) (k 6) 8 0 o.id 0 0 0 0 W
 have H:=Tryz.jB;generalize (k 0 == 8 && k 1 == 0 && k 2 == o.id && k 3 == 0 && k 4 == 0 && k 5 == 0 && k 6 == 0)=c at B;have C:=hO.lt;have I:=Nat.ne_of_lt C;have D:q≠w.heap.size+1:=by omega
 have c0:cI w q 0 o.id:=hO.cell 0;have c2:cI w q 2 o.typ:=hO.cell 2;have J:cI w q 3 o.bn:=hO.cell 3;have F:cI w q 11 o.bg:=hO.cell 11;have M:=hO.dz 3;have G:=hO.dz 11;have A:Hd (OA w q 0 o∧qK o):=⟨hO,hk⟩;have E:Hd (qK { o with bn:=0,bg:=0 }):=⟨hk.id,hk.fil,⟨Int.le_refl _,by have:=hk.fil.2.1;show(0:Int)≤o.mg - o.bu;omega⟩,fun _ _=>rfl⟩;cases c
 ·go_enter func217,ntmps217;go_wp2;go_ret;exact⟨_,o,rfl,A.2,(A.1.alloc _).alloc _,((nG.refl q w).alloc _).alloc _⟩
 by_cases K:o.typ=3
 ·by_cases L:o.bn=0
  ·go_enter func217,ntmps217;go_wp2;go_ret;exact⟨_,o,rfl,A.2,(A.1.alloc _).alloc _,((nG.refl q w).alloc _).alloc _⟩
  go_enter func217,ntmps217;go_wp2;go_ret;exact⟨_,_,rfl,E,((A.1.wr2 3 (iV 0) { o with bn:=0 } (by simp[Ord.code]) 11 (iV 0) { o with bn:=0,bg:=0 } (by simp[Ord.code])).alloc _).alloc _,((((nG.refl q w).set _ _).set _ _).alloc _).alloc _⟩
 go_enter func217,ntmps217;go_wp2;go_ret;exact⟨_,o,rfl,A.2,(A.1.alloc _).alloc _,((nG.refl q w).alloc _).alloc _⟩
end
section
variable {pr:Nat→Option (Array Value×TypeId)} {base:Nat} {w w':World} {ab lm em n:Nat} {q:Nat} {o o':Ord}
theorem AW.lookL(h:AW pr base w ab lm em n L E)(id:Int)(h63:aD id):
 (∃q o,base≤q∧OA w q 0 o∧qK o∧(Instr.lookup 89 (.map (some lm)) (iV id) true).run prog w=.ok (.tuple #[iP q,.bool true]) w)∨
  (Instr.lookup 89 (.map (some lm)) (iV id) true).run prog w=.ok (.tuple #[.pointer none,.bool false]) w:=by
 by_cases B:∃p∈L,p.1=id
 ·obtain⟨p,A,rfl⟩:=B;obtain⟨q,o,C,D,F,G⟩:=h.jc p A;have:=h.live.hit (v:=p.2) je underlying3 underlying89 (pJ w) A (lC h63);rw[C]at this;exact .inl ⟨q,o,D,F,G,this⟩
 exact .inr (h.live.miss je underlying3 underlying89 (pJ w) (fun p A e=>B ⟨p,A,e⟩) (lC h63))
theorem AW.lookE(h:AW pr base w ab lm em n L E)(id:Int)(h63:aD id):
 ∃(x:Ord) (r:Bool),(Instr.lookup 92 (.map (some em)) (iV id) true).run prog w=.ok (.tuple #[.agg #[iV x.id,iV x.dm,iV x.bn,iV x.opn,iV x.bu,iV x.cancelled,iV x.bg],.bool r]) w:=by
 by_cases B:∃p∈E,p.1=id
 ·obtain⟨p,A,rfl⟩:=B;obtain⟨x,rfl⟩:=h.ents p A;exact⟨x,true,h.ended.hit (v:=x.state) je underlying3 underlying92 (zeroStC w) A (lC h63)⟩
 exact⟨⟨0,0,0,0,0,0,0,0,0,0,0,0,0,0,0⟩,false,h.ended.miss je underlying3 underlying92 (zeroStC w) (fun p A e=>B ⟨p,A,e⟩) (lC h63)⟩
theorem zHb(id:Int)(h63:aD id)(h:AG pr base w ab lm em n):
 Cl 222 #[iP ab,iV id] w fun en w'=> ∃rb,en=rB rb∧Below w.heap.size w w':=by
 have D:=h.c0;have F:=h.c1;obtain⟨L,E,h⟩:=h;obtain⟨x,r,G⟩:=h.lookE id h63;have B:∃v C,(Instr.lookup 89 (.map (some lm)) (iV id) true).run prog w=.ok (.tuple #[.pointer v,.bool C]) w:=by
  rcases h.lookL id h63 with⟨q,o,_,_,_,A⟩|A
  ·exact⟨_,_,A⟩
  exact⟨_,_,A⟩
 obtain⟨v,C,B⟩:=B;go_enter func222,ntmps222;go_wp2
 trace_state
 all_goals(
  go_ret;exact⟨_,rfl,(Below.refl _ _).alloc (Nat.le_refl _) _⟩)
theorem pP(a b:Int):Cl 223 #[iV a,iV b] w fun en w'=>(∃rb,en=rB rb)∧w'=w:=by
 go_enter func223,ntmps223;go_wp2;go_ret;exact⟨⟨_,rfl⟩,rfl⟩
end
section
variable {pr:Nat→Option (Array Value×TypeId)} {base:Nat} {w w':World} {ab lm em n:Nat} {q:Nat} {o o':Ord}
def KOk(k:Nat→Int):Prop:= ∀j,0≤k j∧k j≤4294967295
theorem AG.enter{X:World}(k:Nat→Int)(hr:RB X rb k)(hk:KOk k)(h:AG pr base X ab lm em n)(hn:n≤1000000000):
 ∃w2,(Instr.mapUpdate 89 (.map (some lm)) (iV (k 2)) (iP X.heap.size)).run prog (X.alloc (.cells #[iV (k 2),iV (k 3),iV (k 6),iV (k 4),iV (k 5),iV 0,iV 0,iV 0,iV 0,iV 0,iV 0,iV 0,iV 0] 202)).drew=.ok () w2∧Hd (AG pr base w2 ab lm em (n+1)∧Below base X w2)∧Hd (RB w2 rb k):=by
 have D:aD (k 2):=by obtain⟨M,N⟩:=hk 2;exact⟨by omega,by omega⟩
 obtain⟨L,E,h⟩:=h;have C:Bw X (X.alloc (.cells #[iV (k 2),iV (k 3),iV (k 6),iV (k 4),iV (k 5),iV 0,iV 0,iV 0,iV 0,iV 0,iV 0,iV 0,iV 0] 202)).drew:=by
  have:=(Below.refl X.heap.size X).alloc (Nat.le_refl _) (.cells #[iV (k 2),iV (k 3),iV (k 6),iV (k 4),iV (k 5),iV 0,iV 0,iV 0,iV 0,iV 0,iV 0,iV 0,iV 0] 202);exact⟨this.os,this.tape,this.output,this.size,this.block⟩
 have A:base≤X.heap.size:=by have:=h.lo;have:=h.lt;omega
 have H:OA (X.alloc (.cells #[iV (k 2),iV (k 3),iV (k 6),iV (k 4),iV (k 5),iV 0,iV 0,iV 0,iV 0,iV 0,iV 0,iV 0,iV 0] 202)).drew X.heap.size 0 ⟨k 2,k 3,k 6,k 5,0,0,0,0,1,k 4,0,0,0,0,0⟩:=⟨heap_alloc_new X _⟩;have F:=h.below C;obtain⟨w2,I,J,K⟩:=F.live.put je underlying3 underlying89 (by have:=h.ll;unfold maxLen;omega) (lC D) (some X.heap.size);have G:=qb.of K;refine⟨w2,I,⟨⟨_,_,F.turn_live (m:=n+1) G J (fun p B=>?_) ?_ (by omega)⟩,?_⟩,⟨G.cells (hr.below C).blk⟩⟩
 ·rcases List.mem_append.1 B with B|B
  ·exact F.jc p (wH B)
  rw[List.mem_singleton]at B;exact⟨X.heap.size,_,by rw[B],A,H,⟨hk 2,⟨Int.le_refl _,(hk 5).1,(hk 5).2⟩,⟨Int.le_refl _,by show(0:Int)≤k 5 - 0;have:=(hk 5).1;omega⟩,fun _ _=>rfl⟩⟩
 ·rw[List.length_append];have:=wG L (k 2);have:=h.ll;simp;omega
 exact(C.mono A).trans (G.low h.lo.2.1 (Nat.le_trans A C.size))
theorem zHc(k:Nat→Int)(hk:KOk k)(h:AG pr base w ab lm em n)(hn:n≤1000000000):
 Cl 210 #[iP ab,bM (k 0) (k 1) (k 2) (k 3) (k 4) (k 5) (k 6)] w fun en w'=> ∃rb,en=rB rb∧AG pr base w' ab lm em (n+1)∧Below base w w':=by
 have H:Bw w (w.alloc (o7 k)):=(Below.refl w.heap.size w).alloc (Nat.le_refl _) _;have M:RB (w.alloc (o7 k)) w.heap.size k:=⟨heap_alloc_new w _⟩;have G:Hd (AG pr base (w.alloc (o7 k)) ab lm em n∧Below base w (w.alloc (o7 k))∧KOk k∧n≤1000000000):=⟨h.below H,H.mono h.lw,hk,hn⟩;have L:Hd (aD (k 2)):=⟨by have:=(hk 2).1;omega,by have:=(hk 2).2;omega⟩;have J:=hid M;go_enter func210,ntmps210;go_wp2_with fail;generalize w.alloc (o7 k)=W at *;generalize w.heap.size=rb at *;refine(zHb (k 2) L.out G.1).mono ?_;rintro en E ⟨S,rfl,F⟩;have A:=hid (J.below F);have B:Hd (AG pr base E ab lm em n∧Below base w E∧KOk k∧n≤1000000000):=⟨G.1.below F,G.2.1.trans (F.mono G.1.lw),G.2.2⟩;have U:cI E rb 2 (k 2):=A.cell 2;have m:cI E rb 3 (k 3):=A.cell 3;have p:cI E rb 4 (k 4):=A.cell 4;have s:cI E rb 5 (k 5):=A.cell 5;have t:cI E rb 6 (k 6):=A.cell 6;have O:=B.1.c0;have c:=World.new_ne E _ (hid U).out
 have d:=World.new_ne E _ (hid O).out;have C:Hd (∃rb,Ending.returned (.bool false)=rB rb∧AG pr base E ab lm em (n+1)∧Below base w E):=⟨_,rfl,B.1.more (by omega),B.2.1⟩;cases S
 ·go_wp2;go_ret;exact C
 go_wp2_with fail;refine(oF _ _ _).mono ?_;rintro en N ⟨rfl,rfl⟩;cases Y:bf.rf (k 3) 1 2
 ·go_wp2;go_ret;exact C
 go_wp2_with fail;refine(oF _ _ _).mono ?_;rintro en N ⟨rfl,rfl⟩;cases Z:bf.rf (k 6) 1 3
 ·go_wp2;go_ret;exact C
 by_cases b:k 5=0
 ·go_wp2;go_ret;exact C
 go_wp2_with fail;refine(pP _ _).mono ?_;rintro en N ⟨⟨T,rfl⟩,rfl⟩;cases T
 ·go_wp2;go_ret;exact C
 obtain⟨I,R,K,D⟩:=AG.enter k A B.o.2.2.1 B.o.1 B.o.2.2.2;have V:=K.1.c0;have f:cI I rb 2 (k 2):=D.cell 2;have g:cI I rb 3 (k 3):=D.cell 3;have i:cI I rb 4 (k 4):=D.cell 4;have j:cI I rb 5 (k 5):=D.cell 5;have l:cI I rb 6 (k 6):=D.cell 6;go_wp2_with fail;go_region_held3(fun X=>X.cell? (iA ab 0)=some (.map (some lm))∧X.cell? (iA rb 2)=sI (k 2)∧X.cell? (iA rb 3)=sI (k 3)∧X.cell? (iA rb 4)=sI (k 4)∧X.cell? (iA rb 5)=sI (k 5)∧X.cell? (iA rb 6)=sI (k 6)) (go_keep) (fail);all_goals(
  go_wp2;go_ret;exact⟨_,rfl,K.1,B.2.1.trans K.2⟩)
end
section
variable {base:Nat} {w w':World} {q:Nat} {o o':Ord}
theorem qK.turn(h:qK o){n:Int}(h1:¬n≤o.bu)(h2:n≤4294967295)(h3:n≤o.mg):qK { o with mg:=n,bg:=Ord.left { o with mg:=n } }:=by
 have F:=h.fil;have H:=h.sh;have G:=h.peg;have B:0≤Ord.left { o with mg:=n }∧Ord.left { o with mg:=n }≤n - o.bu∧(o.typ=3→o.bn=0→Ord.left { o with mg:=n }=0):=by
  unfold Ord.left Ord.eU;simp only;by_cases E:o.typ=2
  ·rw[if_pos E];split
   ·exact⟨by omega,by omega,fun h3=>absurd h3 (by omega)⟩
   exact⟨by omega,by omega,fun h3=>absurd h3 (by omega)⟩
  rw[if_neg E];by_cases A:o.typ=3
  ·rw[if_pos A];by_cases C:o.bn=0
   ·have:=G A C;simp[C];omega
   simp[C];omega
  rw[if_neg A];by_cases D:0<o.bg
  ·simp[D];exact⟨by omega,fun h3=>absurd h3 A⟩
  simp[D];exact⟨by omega,by omega,fun h3=>absurd h3 A⟩
 exact⟨h.id,⟨F.1,by show o.bu≤n;omega,h2⟩,⟨B.1,B.2.1⟩,B.2.2⟩
def repT(a b:Int):Nat→Int
 |3=>a|4=>b|_=>0
theorem zHd(k:Nat→Int)(hO:OA w q 0 o)(hk:qK o)(hb4:0≤k 4∧k 4≤4294967295)(hb5:0≤k 5∧k 5≤4294967295):
 Cl 214 #[iP q,bM (k 0) (k 1) (k 2) (k 3) (k 4) (k 5) (k 6)] w fun en w'=>FB q w en w':=by
 have H:=fun W=>qT (k 0) (k 1) (k 2) (k 3) (k 4) (k 5) (k 6) 5 0 o.id 0 (k 4) (k 5) 0 W
 have I:=fun W=>qT (k 0) (k 1) (k 2) (k 3) (k 4) (k 5) (k 6) 5 0 o.id 0 (k 4) (k 5) 1 W
 have A2:=Tryz.jB;generalize (!(k 0 == 5 && k 1 == 0 && k 2 == o.id && k 3 == 0 && k 4 == k 4 && k 5 == k 5 && k 6 == 0))=ca at H;generalize (!(k 0 == 5 && k 1 == 0 && k 2 == o.id && k 3 == 0 && k 4 == k 4 && k 5 == k 5 && k 6 == 1))=cb at I;have M:=hid hb5;have B:=hid hk;have R:=hO.alloc (o7 k);have m:RB (w.alloc (o7 k)) w.heap.size k:=⟨heap_alloc_new w _⟩;have g:=(nG.refl q w).alloc (o7 k);have c:Hd (q≠w.heap.size):=Nat.ne_of_lt hO.lt;clear hO hk hb4 hb5;go_enter func214,ntmps214;go_wp2_with fail;generalize w.alloc (o7 k)=W at *;generalize w.heap.size=rb at *;refine(xL (repT (k 4) (k 5)) R).mono ?_;rintro en X ⟨rfl,N⟩;have F:=hid (R.below N);have E:=hid (m.below N);have J:=hid (g.below N);obtain⟨u,K⟩:∃u,u=(decide (repT (k 4) (k 5) 4≤o.mg) && (o.typ == 3 || repT (k 4) (k 5) 3 == o.bn)):=⟨_,rfl⟩;have b:Hd (u=(decide (k 5≤o.mg) && (o.typ == 3 || k 4 == o.bn))):=K;rw[←K];clear K
 clear R m g N;have c0:cI X q 0 o.id:=F.cell 0;have r4:cI X rb 4 (k 4):=E.cell 4;have y:cI X rb 5 (k 5):=E.cell 5;have n1:=World.new_ne X _ (hid c0).out;have n2:=World.new_ne X _ (hid y).out;cases u
 ·clear I;go_wp2_with fail;go_region_held3(fun X=>X.cell? (iA q 0)=sI o.id∧X.cell? (iA rb 4)=sI (k 4)∧X.cell? (iA rb 5)=sI (k 5)) (go_keep) (fail);have A:=hid (rJ (w:=w) 5 0 o.id 0 (k 4) (k 5) 0 F.o E.o J.o);have A:Hd (DueR q rb X.heap.size o k (dueF 5 0 o.id 0 (k 4) (k 5) 0) w (X.alloc (.cells #[iV 5,iV 0,iV o.id,iV 0,iV (k 4),iV (k 5),iV 0] 55)).drew):=⟨A.oa.drew,A.rb.same (Same.refl _).drew,A.db.same (Same.refl _).drew,A.chg.same (Same.refl _).drew⟩;have O:w.heap.size≤X.heap.size:=J.size;have S:q<X.heap.size:=F.lt;have T:rb<X.heap.size:=E.lt;generalize (X.alloc (.cells #[iV 5,iV 0,iV o.id,iV 0,iV (k 4),iV (k 5),iV 0] 55)).drew=Y at *;generalize X.heap.size=db at *;clear F E J c0 r4 y n1 n2;clear O S T;have y0:cI Y rb 0 (k 0):=A.rb.cell 0;have y1:cI Y rb 1 (k 1):=A.rb.cell 1;have y2:cI Y rb 2 (k 2):=A.rb.cell 2;have y3:cI Y rb 3 (k 3):=A.rb.cell 3;have n:cI Y rb 4 (k 4):=A.rb.cell 4
  have s:cI Y rb 5 (k 5):=A.rb.cell 5;have y6:cI Y rb 6 (k 6):=A.rb.cell 6;have z0:cI Y db 0 5:=A.db.cell 0;have z1:cI Y db 1 0:=A.db.cell 1;have z2:cI Y db 2 o.id:=A.db.cell 2;have z3:cI Y db 3 0:=A.db.cell 3;have z4:cI Y db 4 (k 4):=A.db.cell 4;have z5:cI Y db 5 (k 5):=A.db.cell 5;have z6:cI Y db 6 0:=A.db.cell 6;have x2:cI Y q 2 o.typ:=A.oa.cell 2;have U:cI Y q 10 o.bu:=A.oa.cell 10;have bad:∀j,FB q w (rB false) (Y.drewN j):=fun j=>⟨_,o,rfl,B.o,A.oa.same ((Same.refl Y).drewN j),A.chg.same ((Same.refl Y).drewN j)⟩
  have D:=hid bad;clear bad;cases ca with
  |true=>
   go_wp2_with fail;go_quiet (fail);go_wp2;go_ret;exact D.o nq
  |false=>
   cases d:decide (k 5≤o.bu)
   ·have V:Hd (¬k 5≤o.bu):=by show¬k 5≤o.bu;simpa using d
    go_wp2_with fail;go_region_held3(fun X=>X.cell? (iA rb 0)=sI (k 0)∧X.cell? (iA rb 1)=sI (k 1)∧X.cell? (iA rb 2)=sI (k 2)∧X.cell? (iA rb 3)=sI (k 3)∧X.cell? (iA rb 4)=sI (k 4)∧X.cell? (iA rb 5)=sI (k 5)∧X.cell? (iA rb 6)=sI (k 6)∧X.cell? (iA db 0)=sI 5∧X.cell? (iA db 1)=sI 0∧X.cell? (iA db 2)=sI o.id∧X.cell? (iA db 3)=sI 0∧X.cell? (iA db 4)=sI (k 4)∧X.cell? (iA db 5)=sI (k 5)∧X.cell? (iA db 6)=sI 0∧X.cell? (iA q 2)=sI o.typ∧X.cell? (iA q 10)=sI o.bu) (go_keep) (first|(go_at_call 223;refine(pP _ _).mono ?_;rintro en w8 ⟨⟨z,rfl⟩,rfl⟩));cases z
    ·go_wp2;go_ret;exact D.o 1
    have G:Hd (OA Y.drew q 0 o∧nG q w Y.drew):=⟨A.oa.drew,A.chg.same (Same.refl Y).drew⟩;have p:Y.drew.cell? (iA rb 4)=sI (k 4):=n;have t:Y.drew.cell? (iA rb 5)=sI (k 5):=s;have l:q≠rb:=c.o;clear D H d x2 U y0 y1 y2 y3 n s y6 z0 z1 z2 z3 z4 z5 z6 A;generalize Y.drew=Z at *;have x4:cI Z q 4 o.mg:=G.1.cell 4;have f4:=G.1.dz 4;have C:Hd (OA (Z.setCell (iA q 4) (iV (k 5))) q 0 { o with mg:=k 5 }∧nG q w (Z.setCell (iA q 4) (iV (k 5)))):=⟨G.1.wr 4 _ _ (by simp[Ord.code]),G.2.set _ _⟩;have A4:cI Z q 2 o.typ:=G.1.cell 2;have A5:cI Z q 3 o.bn:=G.1.cell 3;have A0:cI Z q 11 o.bg:=G.1.cell 11;have f3:=G.1.dz 3;have A1:=G.1.dz 11;by_cases e9:o.typ=3
    ·go_wp2;go_ret;have A3:¬k 5≤o.mg:=by
      have f:=b.symm;simp only[e9,beq_self_eq_true,Bool.true_or,Bool.and_true,decide_eq_false_iff_not]at f;exact f
     exact⟨_,{ o with mg:=k 5 },rfl,⟨B.id,⟨B.fil.1,by have:=V.o;show o.bu≤k 5;omega,M.2⟩,⟨B.sh.1,by have:=B.sh.2;show o.bg≤k 5 - o.bu;omega⟩,B.peg⟩,C.1,C.2⟩
    go_wp2;go_ret;exact⟨_,{ o with mg:=k 5,bn:=k 4,bg:=0 },rfl,⟨B.id,⟨B.fil.1,by have:=V.o;show o.bu≤k 5;omega,M.2⟩,⟨Int.le_refl _,by have:=V.o;show(0:Int)≤k 5 - o.bu;omega⟩,fun h3=>absurd h3 e9⟩,C.1.wr2 3 (iV (k 4)) { o with mg:=k 5,bn:=k 4 } (by simp[Ord.code]) 11 (iV 0) _ (by simp[Ord.code]),(C.2.set _ _).set _ _⟩
   go_wp2_with fail;go_quiet (fail);go_wp2;go_ret;exact D.o nq
 clear H;go_wp2_with fail;go_region_held3(fun X=>X.cell? (iA q 0)=sI o.id∧X.cell? (iA rb 4)=sI (k 4)∧X.cell? (iA rb 5)=sI (k 5)) (go_keep) (fail);have A:=hid (rJ (w:=w) 5 0 o.id 0 (k 4) (k 5) 0 F.o E.o J.o);have A:Hd (DueR q rb X.heap.size o k (dueF 5 0 o.id 0 (k 4) (k 5) 0) w (X.alloc (.cells #[iV 5,iV 0,iV o.id,iV 0,iV (k 4),iV (k 5),iV 0] 55)).drew):=⟨A.oa.drew,A.rb.same (Same.refl _).drew,A.db.same (Same.refl _).drew,A.chg.same (Same.refl _).drew⟩;have O:w.heap.size≤X.heap.size:=J.size;have S:q<X.heap.size:=F.lt;have T:rb<X.heap.size:=E.lt;generalize (X.alloc (.cells #[iV 5,iV 0,iV o.id,iV 0,iV (k 4),iV (k 5),iV 0] 55)).drew=Y at *;generalize X.heap.size=db at *;clear F E J c0 r4 y n1 n2;have u6:cI Y db 6 0:=A.db.cell 6;have v6:Y.frozen? (iA db 6)=false:=by simp[World.frozen?,A.db.blk]
 have A:Hd (DueR q rb db o k (dueF 5 0 o.id 0 (k 4) (k 5) 1) w (Y.setCell (iA db 6) (iV 1))):=⟨A.oa.set _ _ (by show q≠db;omega),⟨by rw[Below.heap_setCell _ _ _ _ (by show rb≠db;omega)];exact A.rb.blk⟩,⟨by rw[ja _ db 6 _ _ _ _ A.db.blk];simp[dueF]⟩,A.chg.news ((nG.refl db Y).set 6 _) O⟩;clear O S T;go_wp2_with fail;clear u6 v6;generalize Y.setCell (iA db 6) (iV 1)=Y at *;have y0:cI Y rb 0 (k 0):=A.rb.cell 0;have y1:cI Y rb 1 (k 1):=A.rb.cell 1;have y2:cI Y rb 2 (k 2):=A.rb.cell 2;have y3:cI Y rb 3 (k 3):=A.rb.cell 3;have n:cI Y rb 4 (k 4):=A.rb.cell 4;have s:cI Y rb 5 (k 5):=A.rb.cell 5;have y6:cI Y rb 6 (k 6):=A.rb.cell 6;have z0:cI Y db 0 5:=A.db.cell 0;have z1:cI Y db 1 0:=A.db.cell 1;have z2:cI Y db 2 o.id:=A.db.cell 2;have z3:cI Y db 3 0:=A.db.cell 3;have z4:cI Y db 4 (k 4):=A.db.cell 4;have z5:cI Y db 5 (k 5):=A.db.cell 5;have z6:cI Y db 6 1:=A.db.cell 6
 have x2:cI Y q 2 o.typ:=A.oa.cell 2;have U:cI Y q 10 o.bu:=A.oa.cell 10;have bad:∀j,FB q w (rB false) (Y.drewN j):=fun j=>⟨_,o,rfl,B.o,A.oa.same ((Same.refl Y).drewN j),A.chg.same ((Same.refl Y).drewN j)⟩
 have D:=hid bad;clear bad;cases cb with
 |true=>
  go_wp2_with fail;go_quiet (fail);go_wp2;go_ret;exact D.o nq
 |false=>
  cases d:decide (k 5≤o.bu)
  ·have V:Hd (¬k 5≤o.bu):=by show¬k 5≤o.bu;simpa using d
   go_wp2_with fail;go_region_held3(fun X=>X.cell? (iA rb 0)=sI (k 0)∧X.cell? (iA rb 1)=sI (k 1)∧X.cell? (iA rb 2)=sI (k 2)∧X.cell? (iA rb 3)=sI (k 3)∧X.cell? (iA rb 4)=sI (k 4)∧X.cell? (iA rb 5)=sI (k 5)∧X.cell? (iA rb 6)=sI (k 6)∧X.cell? (iA db 0)=sI 5∧X.cell? (iA db 1)=sI 0∧X.cell? (iA db 2)=sI o.id∧X.cell? (iA db 3)=sI 0∧X.cell? (iA db 4)=sI (k 4)∧X.cell? (iA db 5)=sI (k 5)∧X.cell? (iA db 6)=sI 1∧X.cell? (iA q 2)=sI o.typ∧X.cell? (iA q 10)=sI o.bu) (go_keep) (first|(go_at_call 223;refine(pP _ _).mono ?_;rintro en w8 ⟨⟨z,rfl⟩,rfl⟩));cases z
   ·go_wp2;go_ret;exact D.o 1
   have G:Hd (OA Y.drew q 0 o∧nG q w Y.drew):=⟨A.oa.drew,A.chg.same (Same.refl Y).drew⟩;have p:Y.drew.cell? (iA rb 4)=sI (k 4):=n;have t:Y.drew.cell? (iA rb 5)=sI (k 5):=s;have l:q≠rb:=c.o;clear D I d x2 U y0 y1 y2 y3 n s y6 z0 z1 z2 z3 z4 z5 z6 A;generalize Y.drew=Z at *;have x4:cI Z q 4 o.mg:=G.1.cell 4;have f4:=G.1.dz 4;have C:Hd (OA (Z.setCell (iA q 4) (iV (k 5))) q 0 { o with mg:=k 5 }∧nG q w (Z.setCell (iA q 4) (iV (k 5)))):=⟨G.1.wr 4 _ _ (by simp[Ord.code]),G.2.set _ _⟩;go_wp2_with fail;generalize Z.setCell (iA q 4) (iV (k 5))=Z5 at *;have i:aD (k 5 - o.bu):=by
    have u1:=B.fil;have u2:=M.o;exact⟨by omega,by omega⟩
   refine(nX C.1 i).mono ?_;rintro en w9 ⟨rfl,W9,L,h9⟩;have HZ:Hd (FB q w (rB true) w9):=by
    have x:k 5≤o.mg:=by
     have f:=b.symm;simp only[Bool.and_eq_true,decide_eq_true_eq]at f;exact f.1
    have v:=B.turn (by have:=V.o;omega) M.2 x;rcases h9 with rfl|⟨h,rfl⟩
    ·exact⟨_,_,rfl,v,(C.1.same L).wr 11 _ _ (by simp[Ord.code]),(C.2.same L).set _ _⟩
    rw[h]at v;exact⟨_,_,rfl,v,C.1.same L,C.2.same L⟩
   clear h9 L C V G x4 f4 p t i;go_wp2;go_ret;exact HZ.o
  go_wp2_with fail;go_quiet (fail);go_wp2;go_ret;exact D.o nq
end
section
variable {base:Nat} {w w':World} {ab lm em n:Nat} {q:Nat} {o o':Ord}
theorem zHe(k:Nat→Int)(hO:OA w q 0 o)(hk:qK o)(hb5:0≤k 5∧k 5≤4294967295):
 Cl 215 #[iP q,bM (k 0) (k 1) (k 2) (k 3) (k 4) (k 5) (k 6)] w fun en w'=>FB q w en w':=by
 have I:=fun W=>qT (k 0) (k 1) (k 2) (k 3) (k 4) (k 5) (k 6) 6 0 o.id 0 o.bn (k 5) 0 W
 have d:=Tryz.jB;have E:Hd ((!(k 0 == 6 && k 1 == 0 && k 2 == o.id && k 3 == 0 && k 4 == o.bn && k 5 == k 5 && k 6 == 0))=false→k 4=o.bn):=fun h=>by simp only[Bool.not_eq_false',Bool.and_eq_true,beq_iff_eq]at h;exact h.1.1.2
 have K:=hid hb5;generalize (!(k 0 == 6 && k 1 == 0 && k 2 == o.id && k 3 == 0 && k 4 == o.bn && k 5 == k 5 && k 6 == 0))=c at I E;have B:=hid hk;have J:=hO.alloc (o7 k);have N:RB (w.alloc (o7 k)) w.heap.size k:=⟨heap_alloc_new w _⟩;have M:=(nG.refl q w).alloc (o7 k);have f:=Nat.ne_of_lt hO.lt;go_enter func215,ntmps215;go_wp2_with fail;generalize w.alloc (o7 k)=W at *;generalize w.heap.size=rb at *;refine(zA5 J B.opn).mono ?_;rintro en S ⟨rfl,m,rfl⟩;have O:=(Same.refl W).drewN m;have C:=hid (J.same O);have G:=hid (N.same O);have L:=hid (M.same O);generalize W.drewN m=X at *;have c0:cI X q 0 o.id:=C.cell 0;have c2:cI X q 2 o.typ:=C.cell 2;have l:cI X q 3 o.bn:=C.cell 3;have g:cI X rb 5 (k 5):=G.cell 5;have s:=World.new_ne X _ (hid c0).out;have t:=World.new_ne X _ (hid g).out
 have F:Hd (∀X,OA X q 0 o→Cl 153 #[iP q] X fun en S=>en=.returned (iV (o.mg - o.bu))∧∃m,S=X.drewN m):=fun X hX=>zA5 hX B.opn
 by_cases p:o.typ=2;all_goals(
  go_wp2_with fail;go_region_held3(fun X=>X.cell? (iA q 0)=sI o.id∧X.cell? (iA q 3)=sI o.bn∧X.cell? (iA rb 5)=sI (k 5)) (go_keep) (fail);have A:=hid (rJ (w:=w) 6 0 o.id 0 o.bn (k 5) 0 C G L);have A:Hd (DueR q rb X.heap.size o k (dueF 6 0 o.id 0 o.bn (k 5) 0) w (X.alloc (.cells #[iV 6,iV 0,iV o.id,iV 0,iV o.bn,iV (k 5),iV 0] 55)).drew):=⟨A.oa.drew,A.rb.same (Same.refl _).drew,A.db.same (Same.refl _).drew,A.chg.same (Same.refl _).drew⟩;generalize (X.alloc (.cells #[iV 6,iV 0,iV o.id,iV 0,iV o.bn,iV (k 5),iV 0] 55)).drew=Y at *;generalize X.heap.size=db at *;have x:cI Y rb 0 (k 0):=A.rb.cell 0;have y:cI Y rb 1 (k 1):=A.rb.cell 1;have z:cI Y rb 2 (k 2):=A.rb.cell 2;have y3:cI Y rb 3 (k 3):=A.rb.cell 3;have y4:cI Y rb 4 (k 4):=A.rb.cell 4;have y5:cI Y rb 5 (k 5):=A.rb.cell 5;have y6:cI Y rb 6 (k 6):=A.rb.cell 6;have z0:cI Y db 0 6:=A.db.cell 0;have z1:cI Y db 1 0:=A.db.cell 1
  have z2:cI Y db 2 o.id:=A.db.cell 2;have z3:cI Y db 3 0:=A.db.cell 3;have z4:cI Y db 4 o.bn:=A.db.cell 4;have z5:cI Y db 5 (k 5):=A.db.cell 5;have z6:cI Y db 6 0:=A.db.cell 6;have i:cI Y q 11 o.bg:=A.oa.cell 11;have b:=A.oa.dz 11;have bad:∀j,FB q w (rB false) (Y.drewN j):=fun j=>⟨_,o,rfl,B,A.oa.same ((Same.refl Y).drewN j),A.chg.same ((Same.refl Y).drewN j)⟩
  have D:=hid bad;cases c with
  |true=>
   go_wp2_with fail;go_quiet (fail);go_wp2;go_ret;exact D nq
  |false=>
   cases U:(k 4 == 0)
   ·have T:Hd (k 5≤o.mg - o.bu→qK { o with bg:=k 5 }):=fun h5=>⟨B.id,B.fil,⟨K.1,h5⟩,fun _ h4=>absurd ((E rfl).trans h4) (by simpa using U)⟩
    go_wp2_with fail;go_region_held3(fun X=>X.cell? (iA rb 0)=sI (k 0)∧X.cell? (iA rb 1)=sI (k 1)∧X.cell? (iA rb 2)=sI (k 2)∧X.cell? (iA rb 3)=sI (k 3)∧X.cell? (iA rb 4)=sI (k 4)∧X.cell? (iA rb 5)=sI (k 5)∧X.cell? (iA rb 6)=sI (k 6)∧X.cell? (iA db 0)=sI 6∧X.cell? (iA db 1)=sI 0∧X.cell? (iA db 2)=sI o.id∧X.cell? (iA db 3)=sI 0∧X.cell? (iA db 4)=sI o.bn∧X.cell? (iA db 5)=sI (k 5)∧X.cell? (iA db 6)=sI 0) (go_keep) (first|(go_at_call 153;refine(F _ (by exact A.oa.drew)).mono ?_;rintro en u ⟨rfl,R,rfl⟩)|(go_at_call 118;refine(oF _ _ _).mono ?_;rintro en v ⟨rfl,rfl⟩));all_goals(
     cases V:bf.rf (k 5) 1 (o.mg - o.bu)<;>cases Z:bf.rf (k 5) (o.mg - o.bu) (o.mg - o.bu);all_goals(
      go_wp2;go_ret
      first
      |exact D _
      |exact⟨_,_,rfl,T (by first|(have H:=V;unfold bf.rf at H;simp at H;omega)|(have H:=Z;unfold bf.rf at H;simp at H;omega)),(A.oa.same ((Same.refl Y).drewN (1+R))).wr 11 (iV (k 5)) { o with bg:=k 5 } (by simp[Ord.code]),(A.chg.same ((Same.refl Y).drewN (1+R))).set _ _⟩))
   go_wp2_with fail;go_quiet (fail);go_wp2;go_ret;exact D nq)
end
section
variable {base:Nat} {w w':World} {q:Nat} {o o':Ord}
theorem zHf(k:Nat→Int)(hO:OA w q 0 o)(hk:qK o)(hb5:0≤k 5∧k 5≤4294967295):
 Cl 216 #[iP q,bM (k 0) (k 1) (k 2) (k 3) (k 4) (k 5) (k 6)] w fun en w'=>FB q w en w':=by
 have N:=fun W=>qT (k 0) (k 1) (k 2) (k 3) (k 4) (k 5) (k 6) 7 0 o.id 0 (k 4) (o.mg - o.bu) 0 W
 have p:=Tryz.jB;have G:Hd ((!(k 0 == 7 && k 1 == 0 && k 2 == o.id && k 3 == 0 && k 4 == k 4 && k 5 == o.mg - o.bu && k 6 == 0))=false→k 5=o.mg - o.bu):=fun h=>by simp only[Bool.not_eq_false',Bool.and_eq_true,beq_iff_eq]at h;exact h.1.2
 generalize (!(k 0 == 7 && k 1 == 0 && k 2 == o.id && k 3 == 0 && k 4 == k 4 && k 5 == o.mg - o.bu && k 6 == 0))=c at N G;have B:=hid hk;have C:=hO.alloc (o7 k);have F:RB (w.alloc (o7 k)) w.heap.size k:=⟨heap_alloc_new w _⟩;have M:=(nG.refl q w).alloc (o7 k);have t:=Nat.ne_of_lt hO.lt;go_enter func216,ntmps216;go_wp2_with fail;generalize w.alloc (o7 k)=W at *;generalize w.heap.size=rb at *;have c0:cI W q 0 o.id:=C.cell 0;have y:cI W rb 4 (k 4):=F.cell 4;have V:=C.lt;have b:=F.lt;have s:=Nat.ne_of_lt V;have u:=Nat.ne_of_lt b;have K:=hid C;have T:=hid F;have R:=hid M;have S:Hd (∀X,Same W X→Cl 153 #[iP q] X fun en E=>en=.returned (iV (o.mg - o.bu))∧cI E q 0 o.id∧cI E rb 4 (k 4)∧E.heap.size≠q∧E.heap.size≠rb∧Hd (OA E q 0 o∧RB E rb k∧nG q w E)):=by
  intro X O;refine(gL (C.same O) B.opn).mono ?_;rintro en E ⟨rfl,d⟩;have D:=O.trans d;exact⟨rfl,(C.same D).cell 0,(F.same D).cell 4,(Nat.ne_of_lt (C.same D).lt).symm,(Nat.ne_of_lt (F.same D).lt).symm,C.same D,F.same D,M.same D⟩
 have L:Hd (∀X,OA X q 0 o→Cl 153 #[iP q] X fun en E=>en=.returned (iV (o.mg - o.bu))∧∃m,E=X.drewN m):=fun X O=>zA5 O B.opn
 have n1:=World.new_ne W _ (hid c0).out;have n2:=World.new_ne W _ (hid y).out;go_region_held3(fun X=>X.cell? (iA q 0)=sI o.id∧X.cell? (iA rb 4)=sI (k 4)) (go_keep) (first|(go_at_call 153;refine(S W.drew (Same.refl W).drew).mono ?_;rintro en E ⟨rfl,i,z,v,x,H⟩)|(go_at_call 153;refine(L _ (K.alloc _).drew).mono ?_;rintro en E ⟨rfl,m,rfl⟩));all_goals(
  first
  |(have A:=hid (rJ (w:=w) 7 0 o.id 0 (k 4) (o.mg - o.bu) 0 H.1 H.2.1 H.2.2)
    generalize E.alloc (.cells #[iV 7,iV 0,iV o.id,iV 0,iV (k 4),iV (o.mg - o.bu),iV 0] 55)=Y at *;generalize E.heap.size=db at *)
  |(have A:=hid (zCr (w:=w) 7 0 o.id 0 (k 4) (o.mg - o.bu) 0 (1+m) K T R)
    generalize (((((((((W.alloc (.cells #[iV 0,iV 0,iV 0,iV 0,iV 0,iV 0,iV 0] 55)).drewN (1+m)).setCell (iA W.heap.size 0) (iV 7)).setCell (iA W.heap.size 1) (iV 0)).setCell (iA W.heap.size 2) (iV o.id)).setCell (iA W.heap.size 3) (iV 0)).setCell (iA W.heap.size 4) (iV (k 4))).setCell (iA W.heap.size 5) (iV (o.mg - o.bu))).setCell (iA W.heap.size 6) (iV 0))=Y at *;generalize W.heap.size=db at *)
  have y0:cI Y rb 0 (k 0):=A.rb.cell 0;have y1:cI Y rb 1 (k 1):=A.rb.cell 1;have y2:cI Y rb 2 (k 2):=A.rb.cell 2;have y3:cI Y rb 3 (k 3):=A.rb.cell 3;have y4:cI Y rb 4 (k 4):=A.rb.cell 4;have y5:cI Y rb 5 (k 5):=A.rb.cell 5;have y6:cI Y rb 6 (k 6):=A.rb.cell 6;have z0:cI Y db 0 7:=A.db.cell 0;have z1:cI Y db 1 0:=A.db.cell 1;have z2:cI Y db 2 o.id:=A.db.cell 2;have z3:cI Y db 3 0:=A.db.cell 3;have z4:cI Y db 4 (k 4):=A.db.cell 4;have z5:cI Y db 5 (o.mg - o.bu):=A.db.cell 5;have z6:cI Y db 6 0:=A.db.cell 6;have x2:cI Y q 2 o.typ:=A.oa.cell 2;have x3:cI Y q 3 o.bn:=A.oa.cell 3;have f:cI Y q 11 o.bg:=A.oa.cell 11;have n:=A.oa.dz 3;have U:=A.oa.dz 11;try clear i z v x H
  cases c with
  |true=>
   go_wp2_with fail;go_quiet (fail);go_wp2;go_ret;exact⟨_,o,rfl,B,A.oa.same ((Same.refl Y).drewN nq),A.chg.same ((Same.refl Y).drewN nq)⟩
  |false=>
   have bad:∀j,FB q w (rB false) (Y.drewN j):=fun j=>⟨_,o,rfl,B,A.oa.same ((Same.refl Y).drewN j),A.chg.same ((Same.refl Y).drewN j)⟩
   have J:=hid bad;cases e2:(o.typ != 3)
   ·cases l:(k 4 == 0)
    ·cases e4:(k 4 == o.bn)
     ·go_wp2_with fail;go_quiet (fail);go_wp2_with fail;have I:Hd (DueR q rb db o k (dueF 7 0 o.id 0 (k 4) (o.mg - o.bu) 0) w (Y.drewN nq)):=⟨A.oa.same ((Same.refl Y).drewN nq),A.rb.same ((Same.refl Y).drewN nq),A.db.same ((Same.refl Y).drewN nq),A.chg.same ((Same.refl Y).drewN nq)⟩;have g:Hd (qK { o with bn:=k 4,bg:=k 5 }):=⟨B.id,B.fil,by have h5:k 5=o.mg - o.bu:=(by first|exact G rfl|exact G trivial|simpa using G.o);have:=B.fil.2.1;exact⟨by show 0≤k 5;omega,by show k 5≤o.mg - o.bu;omega⟩,fun _ h4=>absurd h4 (by simpa using l)⟩;generalize Y.drewN nq=Z at *;have y4:cI Z rb 4 (k 4):=I.rb.cell 4;have y5:cI Z rb 5 (k 5):=I.rb.cell 5;have x3:cI Z q 3 o.bn:=I.oa.cell 3;have f:cI Z q 11 o.bg:=I.oa.cell 11;have n:=I.oa.dz 3;have U:=I.oa.dz 11;go_region_law(fail);all_goals(
       go_wp2;go_ret;exact⟨_,_,rfl,g,I.oa.drew.wr2 3 (iV (k 4)) { o with bn:=k 4 } (by simp[Ord.code]) 11 (iV (k 5)) { o with bn:=k 4,bg:=k 5 } (by simp[Ord.code]),((I.chg.same (Same.refl Z).drew).set _ _).set _ _⟩)
     go_wp2_with fail;go_quiet (fail);go_wp2;go_ret;exact J nq
    go_wp2_with fail;go_quiet (fail);go_wp2;go_ret;exact J nq
   go_wp2_with fail;go_quiet (fail);go_wp2;go_ret;exact J nq)
end
section
variable {pr:Nat→Option (Array Value×TypeId)} {base:Nat} {w w':World} {ab lm em n:Nat} {q:Nat} {o o':Ord}
theorem xR(k:Nat→Int)(h:AG pr base w ab lm em n)(hn:n≤1000000000)(hO:OA w q 0 o)(hq:base≤q)(hk:qK o):
 Cl 213 #[iP ab,iP q,bM (k 0) (k 1) (k 2) (k 3) (k 4) (k 5) (k 6)] w fun en w'=> ∃rb,en=rB rb∧AG pr base w' ab lm em (n+1)∧Below base w w':=by
 have M:=fun W=>qT (k 0) (k 1) (k 2) (k 3) (k 4) (k 5) (k 6) 4 0 o.id 0 0 (o.mg - o.bu) (k 6) W
 have p:=Tryz.jB;generalize (!(k 0 == 4 && k 1 == 0 && k 2 == o.id && k 3 == 0 && k 4 == 0 && k 5 == o.mg - o.bu && k 6 == k 6))=c at M;have F:=hid hk;have O:Hd (∀Y,OA Y q 0 o→nG q w Y→AG pr base Y ab lm em n∧Below base w Y):=fun Y h1 h2=>⟨h.chg hO h2 h1 hk,h2.low hq h.lw⟩
 have d:=hid hn;have D:=hO.alloc (o7 k);have E:RB (w.alloc (o7 k)) w.heap.size k:=⟨heap_alloc_new w _⟩;have L:=(nG.refl q w).alloc (o7 k);have s:=Nat.ne_of_lt hO.lt;go_enter func213,ntmps213;go_wp2_with fail;generalize w.alloc (o7 k)=W at *;generalize w.heap.size=rb at *;have c0:cI W q 0 o.id:=D.cell 0;have v:cI W rb 6 (k 6):=E.cell 6;have J:=hid D;have T:=hid E;have R:=hid L;have S:Hd (∀X,Same W X→Cl 153 #[iP q] X fun en C=>en=.returned (iV (o.mg - o.bu))∧cI C q 0 o.id∧cI C rb 6 (k 6)∧C.heap.size≠q∧C.heap.size≠rb∧Hd (OA C q 0 o∧RB C rb k∧nG q w C)):=by
  intro X N;refine(gL (D.same N) F.opn).mono ?_;rintro en C ⟨rfl,U⟩;have B:=N.trans U;exact⟨rfl,(D.same B).cell 0,(E.same B).cell 6,(Nat.ne_of_lt (D.same B).lt).symm,(Nat.ne_of_lt (E.same B).lt).symm,D.same B,E.same B,L.same B⟩
 have K:Hd (∀X,OA X q 0 o→Cl 153 #[iP q] X fun en C=>en=.returned (iV (o.mg - o.bu))∧∃m,C=X.drewN m):=fun X N=>zA5 N F.opn
 have n1:=World.new_ne W _ (hid c0).out;have n2:=World.new_ne W _ (hid v).out;go_region_held3(fun X=>X.cell? (iA q 0)=sI o.id∧X.cell? (iA rb 6)=sI (k 6)) (go_keep) (first|(go_at_call 153;refine(S W.drew (Same.refl W).drew).mono ?_;rintro en C ⟨rfl,j,x,t,u,G⟩)|(go_at_call 153;refine(K _ (J.alloc _).drew).mono ?_;rintro en C ⟨rfl,m,rfl⟩));all_goals(
  first
  |(have A:=hid (rJ (w:=w) 4 0 o.id 0 0 (o.mg - o.bu) (k 6) G.1 G.2.1 G.2.2)
    generalize C.alloc (.cells #[iV 4,iV 0,iV o.id,iV 0,iV 0,iV (o.mg - o.bu),iV (k 6)] 55)=Y at *;generalize C.heap.size=db at *)
  |(have A:=hid (zCr (w:=w) 4 0 o.id 0 0 (o.mg - o.bu) (k 6) (1+m) J T R)
    generalize (((((((((W.alloc (.cells #[iV 0,iV 0,iV 0,iV 0,iV 0,iV 0,iV 0] 55)).drewN (1+m)).setCell (iA W.heap.size 0) (iV 4)).setCell (iA W.heap.size 1) (iV 0)).setCell (iA W.heap.size 2) (iV o.id)).setCell (iA W.heap.size 3) (iV 0)).setCell (iA W.heap.size 4) (iV 0)).setCell (iA W.heap.size 5) (iV (o.mg - o.bu))).setCell (iA W.heap.size 6) (iV (k 6)))=Y at *;generalize W.heap.size=db at *)
  have y0:cI Y rb 0 (k 0):=A.rb.cell 0;have V:cI Y rb 1 (k 1):=A.rb.cell 1;have Z:cI Y rb 2 (k 2):=A.rb.cell 2;have z:cI Y rb 3 (k 3):=A.rb.cell 3;have y4:cI Y rb 4 (k 4):=A.rb.cell 4;have y5:cI Y rb 5 (k 5):=A.rb.cell 5;have y6:cI Y rb 6 (k 6):=A.rb.cell 6;have z0:cI Y db 0 4:=A.db.cell 0;have z1:cI Y db 1 0:=A.db.cell 1;have z2:cI Y db 2 o.id:=A.db.cell 2;have z3:cI Y db 3 0:=A.db.cell 3;have z4:cI Y db 4 0:=A.db.cell 4;have z5:cI Y db 5 (o.mg - o.bu):=A.db.cell 5;have z6:cI Y db 6 (k 6):=A.db.cell 6;try clear j x t u G
  obtain⟨g,i⟩:=O Y A.o.oa A.o.chg;have H:=hid g;have I:=hid i;cases c with
  |true=>
   go_wp2;go_ret;exact⟨_,rfl,H.more (by omega),I⟩
  |false=>
   go_wp2_with fail;refine(oF _ _ _).mono ?_;rintro en y ⟨rfl,rfl⟩;cases e1:bf.rf (k 6) 1 3
   ·go_wp2;go_ret;exact⟨_,rfl,H.more (by omega),I⟩
   go_wp2_with fail;have b:Hd (Cl 225 #[iP ab,iP q,iV 3] y fun en w'=>en=rV #[]∧Hd (AG pr base w' ab lm em (n+1)∧Below base w w')):=by
    refine(zCp 3 { o with dm:=3,opn:=0,cancelled:=o.mg - o.bu,bg:=0 } H d A.oa F rfl (fun W hW=>by have l:=zCf hW F.opn;exact l)).mono ?_;rintro en w' ⟨rfl,V,Z,z⟩;exact⟨rfl,V,I.trans Z⟩
   refine b.mono ?_;rintro en w6 ⟨rfl,f⟩;go_wp2;go_ret;exact⟨_,rfl,f⟩)
end
section
variable {w:World}
theorem zHg(k:Nat→Int):
 Cl 211 #[bM (k 0) (k 1) (k 2) (k 3) (k 4) (k 5) (k 6)] w fun en w'=> ∃rb,en=rB rb∧Below w.heap.size w w':=by
 have A:=Tryz.jB;go_enter func211,ntmps211;go_wp2_with fail;all_goals first
  |(go_ret
    exact⟨_,rfl,zA3 ((Below.refl w.heap.size w).alloc (Nat.le_refl _) _) _⟩)
  |(refine(oF _ _ _).mono ?_
    rintro en B ⟨rfl,rfl⟩;go_wp2;go_ret;exact⟨_,rfl,zA3 ((Below.refl w.heap.size w).alloc (Nat.le_refl _) _) _⟩)
end
end Go.Proofs.YtehmdohpmpbnnaaGreatDoor
