import Derived.Test.YtilbfpnpkkkpgaaGreatDoorQ00
import Derived.Test.YtilbfpnpkkkpgaaGreatDoorQ04
import Derived.Test.YtilbfpnpkkkpgaaGreatDoorQ15
import Derived.Test.YtilbfpnpkkkpgaaGreatDoorQ17
import Derived.Test.YtilbfpnpkkkpgaaGreatDoorQ27
import Derived.Deep.LoopGhost
set_option linter.all false
set_option maxRecDepth 100000
set_option maxHeartbeats 8000000
namespace Go.Proofs.YtilbfpnpkkkpgaaGreatDoor
variable{base:Nat}{w:World}{l B A:List Ord}{v:Value}{x:Ord}
open Go.Extern Go.RowKit
def OR(base:Nat)(w:World)(v:Value)(l:List Ord):Prop:=w.ownsRow base 229 15 v l.length (rows l)
def Sorted(l:List Ord):Prop:=l.Pairwise fun a b=>a.id≤b.id
theorem zGb(a b:List Ord):rows (a++b)=rows a++rows b:=by simp[rows]
theorem put15(P S:List Value)(o o':Ord):((((((((((((((((P++(o.cells.map (iV)++S)).set P.length (iV o'.id)).set (P.length+1) (iV o'.side)).set (P.length+2) (iV o'.typ)).set (P.length+3) (iV o'.qty)).set (P.length+4) (iV o'.peak)).set (P.length+5) (iV o'.off)).set (P.length+6) (iV o'.life)).set (P.length+7) (iV o'.time)).set (P.length+8) (iV o'.status)).set (P.length+9) (iV o'.price)).set (P.length+10) (iV o'.opn)).set (P.length+11) (iV o'.filled)).set (P.length+12) (iV o'.cancelled)).set (P.length+13) (iV o'.shown)).set (P.length+14) (iV o'.stamp))=P++(o'.cells.map (iV)++S):=by
 simp[Ord.cells,List.set_append]
theorem zMj(A B:List Ord)(o o':Ord)(q:Nat)(hq:A.length=q):((((((((((((((((rows (A++o::B)).set (q*15) (iV o'.id)).set ((q*15)+1) (iV o'.side)).set ((q*15)+2) (iV o'.typ)).set ((q*15)+3) (iV o'.qty)).set ((q*15)+4) (iV o'.peak)).set ((q*15)+5) (iV o'.off)).set ((q*15)+6) (iV o'.life)).set ((q*15)+7) (iV o'.time)).set ((q*15)+8) (iV o'.status)).set ((q*15)+9) (iV o'.price)).set ((q*15)+10) (iV o'.opn)).set ((q*15)+11) (iV o'.filled)).set ((q*15)+12) (iV o'.cancelled)).set ((q*15)+13) (iV o'.shown)).set ((q*15)+14) (iV o'.stamp))=rows (A++o'::B):=by
 have e1: ∀x:Ord,rows (A++x::B)=rows A++(x.cells.map (iV)++rows B):=fun x=>by rw[zGb];rfl
 have e2:q*15=(rows A).length:=by rw[zFh,hq,Nat.mul_comm]
 rw[e1,e1,e2];exact put15 _ _ _ _
theorem OR.put{g cap n:Nat}(A B:List Ord)(o o':Ord)(q:Nat)(hq:A.length=q)(h:OR base w (sL g n cap) (A++o::B)):OR base (((((((((((((((w.setCell (iA g (q*15)) (iV o'.id)).setCell (iA g (q*15+1)) (iV o'.side)).setCell (iA g (q*15+2)) (iV o'.typ)).setCell (iA g (q*15+3)) (iV o'.qty)).setCell (iA g (q*15+4)) (iV o'.peak)).setCell (iA g (q*15+5)) (iV o'.off)).setCell (iA g (q*15+6)) (iV o'.life)).setCell (iA g (q*15+7)) (iV o'.time)).setCell (iA g (q*15+8)) (iV o'.status)).setCell (iA g (q*15+9)) (iV o'.price)).setCell (iA g (q*15+10)) (iV o'.opn)).setCell (iA g (q*15+11)) (iV o'.filled)).setCell (iA g (q*15+12)) (iV o'.cancelled)).setCell (iA g (q*15+13)) (iV o'.shown)).setCell (iA g (q*15+14)) (iV o'.stamp)) (sL g n cap) (A++o'::B):=by
 have hn:n=(A++o::B).length:=by
  rcases h.2 with⟨h1,h2⟩|⟨g',cap',cur,hv,_⟩
  ·cases h1
  ·injection hv with _ hv _
 have hl:(A++o::B).length=(A++o'::B).length:=by simp
 subst hn;unfold OR;rw[←zMj A B o o' q hq,←hl];unfold OR at h;exact(((((((((((((((h.stored (q*15) _).1.stored (q*15+1) _).1.stored (q*15+2) _).1.stored (q*15+3) _).1.stored (q*15+4) _).1.stored (q*15+5) _).1.stored (q*15+6) _).1.stored (q*15+7) _).1.stored (q*15+8) _).1.stored (q*15+9) _).1.stored (q*15+10) _).1.stored (q*15+11) _).1.stored (q*15+12) _).1.stored (q*15+13) _).1.stored (q*15+14) _).1
theorem cellNew(w:World)(cs:Array Value)(ty:TypeId)(j:Nat)(u:Value)(h:cs[j]? =some u):(w.alloc (.cells cs ty)).cell? (iA w.heap.size j)=some u:=by
 rw[World.cell?_alloc_at _ _ _ _ rfl];exact h
theorem OR.block{w':World}(h:OR base w v l)(hb: ∀q,v.ownBlock=some q→w'.heap[q]? =w.heap[q]?):OR base w' v l:=by
 refine⟨h.1,?_⟩;rcases h.2 with h2|⟨g,cap,cur,hv,hg,hh,r⟩
 ·exact .inl h2
 ·exact .inr ⟨g,cap,cur,hv,hg,by rw[hb g (by rw[hv];rfl)];exact hh,r⟩
theorem OR.lt(h:OR base w v l): ∀q,v.ownBlock=some q→base≤q∧q<w.heap.size:=by
 intro q hq;rcases h.2 with h2|⟨g,cap,cur,hv,hg,hh,r⟩
 ·rw[h2.1]at hq;exact absurd hq (by simp[Value.ownBlock])
 ·rw[hv]at hq;have:g=q:=by simpa [Value.ownBlock] using hq
  subst this;exact⟨hg,(Array.getElem?_eq_some_iff.1 hh).1⟩
theorem OR.alloc(h:OR base w v l)(o:Obj):OR base (w.alloc o) v l:=h.block fun q hq=>Below.heap_alloc _ _ _ (h.lt q hq).2
theorem OR.drewN(h:OR base w v l)(n:Nat):OR base (w.drewN n) v l:=h
theorem OR.nil(base:Nat)(w:World):OR base w (.slice none 0 0) []:=World.ownsRow_nil _ _ _ _
theorem OR.ords{g n cap:Nat}(h:OR base w (sL g n cap) l):OrdsAt w g l∧n=l.length:=by
 have hn:n=l.length:=by
  rcases h.2 with⟨h1,_⟩|⟨g',cap',cur,hv,hg,hh,hc,_,hz,ht⟩
  ·cases h1
  ·injection hv with h1 h6 _
 subst hn;refine⟨⟨fun i j o x ho hx=>?_,fun j=>World.ownsRow.frozenAt h j⟩,rfl⟩;have hi:i<l.length:=(List.getElem?_eq_some_iff.1 ho).1;have hj:j<15:=by have:=(List.getElem?_eq_some_iff.1 hx).1;simpa [Ord.cells] using this
 rw[World.ownsRow.cellAt h (i*15+j) (by omega),Nat.mul_comm i 15];exact zCr l i j o x ho hx
theorem zMk(h:Sorted ([] ++B))(hx: ∀o∈B,x.id≤o.id):Sorted ([] ++x::B):=List.pairwise_cons.2 ⟨hx,h⟩
theorem zMl{b:Ord}(h:Sorted ((A++ [b])++B))(hx: ∀o∈B,x.id≤o.id)(hb:b.id≤x.id):Sorted ((A++ [b])++x::B):=by
 unfold Sorted at *;rw[List.pairwise_append]at h⊢;obtain⟨h1,h2,h3⟩:=h;refine⟨h1,List.pairwise_cons.2 ⟨hx,h2⟩,fun a ha y hy=>?_⟩;rcases List.mem_cons.1 hy with rfl|hy
 ·rcases List.mem_append.1 ha with ha|ha
  ·have:=(List.pairwise_append.1 h1).2.2 a ha b (by simp);omega
  ·simp at ha;subst ha;exact hb
 ·exact h3 a ha y hy
structure Moving(T:List Ord)(q:Nat)(A B:List Ord)(x:Ord):Prop where
 len:A.length=q
 srt:Sorted (A++B)
 top: ∀o∈B,x.id≤o.id
 prm:(A++x::B).Perm T
theorem Moving.down{T:List Ord}{q:Nat}{b:Ord}(h:Moving T (q+1) (A++ [b]) B x)(hlt:x.id<b.id):Moving T q A (b::B) x:=by
 refine⟨by have:=h.len;simpa using this,by have:=h.srt;simpa using this,fun o ho=>?_,?_⟩
 ·rcases List.mem_cons.1 ho with rfl|ho
  ·omega
  ·exact h.top o ho
 ·refine List.Perm.trans ?_ h.prm;simp only[List.append_assoc,List.singleton_append];exact List.Perm.append_left A (List.Perm.swap b x B)
theorem zMm(w:World)(cs:Array Value)(ty:TypeId)(j:Nat)(u:Value)(h:cs[j]? =some u):(w.alloc (.cells cs ty)).drew.cell? (iA w.heap.size j)=some u:=by
 show(w.alloc (.cells cs ty)).cell? _=_;rw[World.cell?_alloc_at _ _ _ _ rfl];exact h
theorem zMn{F:Nat→Prop}{b vb:Nat}{e:Eng}{dv av:Value}{v:Nat→Int}(h:RefRep F base w b e dv av)(hv:VAt w vb v)(hvF: ¬F vb)(hvl:vb<w.heap.size)(hI:Eng.EInv e)(hv0:Eng.VOk v)(hr:Room 2100 e)(hsu:Sums 1000 e)(hd:Dr e)(hl1:e.all.length<1000000000):
 Cl 149 #[iP b,.pointer (some (iA vb 1))] w fun en w'=>en=rV #[]∧(∃av',RefRep F base w' b (e.fresh v) dv av')∧Touch F w w':=by
 have HR:=hid h;have HV:=hid hv;have HWY:=hid (zK1 h hv hI (hr.mono (by omega)));have HVw:=hid hv;clear h hv;go_enter Tryz.func149,Tryz.ntmps149;go_wp2_with fail;refine HWY.mono ?_;rintro en w1 ⟨rfl,hs1⟩;replace HR:=hid (HR.same hs1);replace HV:=hid (HV.same hs1);have HT:=hid (hs1.touch (F:=F));have hvl1:vb<w1.heap.size:=by rw[hs1.heap];exact hvl
 clear hs1 HWY;have hw0:0≤e.why v∧e.why v≤9:=by
  unfold Eng.why;repeat(first|(split<;>try omega))
 have v0:=HV.c0;by_cases hz:0<e.why v
 ·have HF:Hid (e.fresh v=e.reject (v 0) (e.why v)):=by
   show _=_;rw[Eng.fresh_eq,if_pos (by omega)]
  have HRJ:=hid (zBu HR.out (v 0) (e.why v) (hr.mono (by omega)) (n63 _ hv0.id0 (by have:=hv0.id1;omega)) (n63 _ hw0.1 (by omega)));generalize e.why v=y at *;go_wp2_with fail;refine HRJ.mono ?_;rintro en w2 ⟨rfl,hr2,ht2⟩;have HR2:=hid hr2;have HT2:=hid (HT.trans ht2);clear hr2 ht2 v0;go_wp2;refine bodyPost_ret (v:=.tuple #[]) (by simp[results,Tryz.results149,go_sem]) rfl ⟨rfl,⟨av,?_⟩,HT2.out⟩;rw[HF.out];exact HR2.out
 ·have hz0:Hid (e.why v=0):=by show _=_;omega
  have hzz:e.why v=0:=hz0.out;clear hz hw0;obtain⟨_,v1,v2,v3,v4,v5,v6,v7,v8⟩:=HV.out;have c5:w1.cell? (iA b 5)=some av:=HR.cell 5;have hlt1:=HR.lt;obtain⟨i0,hi,hz0,hz1,hz2⟩:=zAa Tryz.infoSt Tryz.zeroSt;have HINF:=hid (And.intro hi (And.intro hz0 (And.intro hz1 hz2)));clear hi hz0 hz1 hz2;have HC1:Hid (∀(j:Nat) (u:Value),[iV (v 0),iV (v 1),iV (v 2),iV (v 4),iV (v 5),iV (v 6),iV (v 7),iV (v 8),iV 1,iV (v 3),iV (v 4),iV 0,iV 0,iV 0,iV 0][j]? =some u→(w1.alloc (.cells #[iV (v 0),iV (v 1),iV (v 2),iV (v 4),iV (v 5),iV (v 6),iV (v 7),iV (v 8),iV 1,iV (v 3),iV (v 4),iV 0,iV 0,iV 0,iV 0] 229)).drew.cell? (Addr.add (iA w1.heap.size 0) j)=some u):=fun j u hj=>by
   rw[Addr.add_lit,Nat.zero_add];exact zMm w1 #[iV (v 0),iV (v 1),iV (v 2),iV (v 4),iV (v 5),iV (v 6),iV (v 7),iV (v 8),iV 1,iV (v 3),iV (v 4),iV 0,iV 0,iV 0,iV 0] 229 j u (by simp;exact hj)
  have HC2:Hid (∀u∈([iV (v 0),iV (v 1),iV (v 2),iV (v 4),iV (v 5),iV (v 6),iV (v 7),iV (v 8),iV 1,iV (v 3),iV (v 4),iV 0,iV 0,iV 0,iV 0]:List Value),u.oneCell'=true):=fun u hu=>by
   simp at hu;rcases hu with rfl|rfl|rfl|rfl|rfl|rfl|rfl|rfl|rfl|rfl|rfl|rfl<;>rfl
  have HC3:Hid (e.all.length+1≤maxLen∧(e.all.length+1)* 120≤140737488355328∧base≤(w1.alloc (.cells #[iV (v 0),iV (v 1),iV (v 2),iV (v 4),iV (v 5),iV (v 6),iV (v 7),iV (v 8),iV 1,iV (v 3),iV (v 4),iV 0,iV 0,iV 0,iV 0] 229)).drew.heap.size∧(w1.alloc (.cells #[iV (v 0),iV (v 1),iV (v 2),iV (v 4),iV (v 5),iV (v 6),iV (v 7),iV (v 8),iV 1,iV (v 3),iV (v 4),iV 0,iV 0,iV 0,iV 0] 229)).drew.heap.size=w1.heap.size+1):=⟨by unfold maxLen;omega,by omega,by have:=HR.low;show base≤(w1.alloc _).heap.size;simp;omega,by show(w1.alloc _).heap.size=_;simp⟩;have HW2:Hid ((w1.alloc (.cells #[iV (v 0),iV (v 1),iV (v 2),iV (v 4),iV (v 5),iV (v 6),iV (v 7),iV (v 8),iV 1,iV (v 3),iV (v 4),iV 0,iV 0,iV 0,iV 0] 229)).drew.ownsRow base 229 15 av e.all.length (rows e.all)):=World.ownsRow.alloc HR.al _
  have HNX:Hid (∀(g cap':Nat) (w2:World),w2.ownsRow base 229 15 (sL g (e.all.length+1) cap') (e.all.length+1) (rows e.all++ [iV (v 0),iV (v 1),iV (v 2),iV (v 4),iV (v 5),iV (v 6),iV (v 7),iV (v 8),iV 1,iV (v 3),iV (v 4),iV 0,iV 0,iV 0,iV 0])→(w1.alloc (.cells #[iV (v 0),iV (v 1),iV (v 2),iV (v 4),iV (v 5),iV (v 6),iV (v 7),iV (v 8),iV 1,iV (v 3),iV (v 4),iV 0,iV 0,iV 0,iV 0] 229)).drew.grownBy w2 av.ownBlock→(av.ownBlock=some g∨g=w1.heap.size+1)→g<w2.heap.size→RefRep F base (w2.setCell (iA b 5) (sL g (e.all.length+1) cap')) b { e with all:=e.all++ [Eng.newOrd v] } dv (sL g (e.all.length+1) cap')∧Touch F w1 (w2.setCell (iA b 5) (sL g (e.all.length+1) cap'))∧w2.cell? (iA b 5)=some av∧w2.frozen? (iA b 5)=false∧∀k,k<w1.heap.size→some k≠av.ownBlock→w2.heap[k]? =w1.heap[k]?):=fun g cap' w2 hown hgr hat hlt=>HR.appended (Eng.newOrd v) _ hown hgr hat hlt
  have hvav:Hid (some vb≠av.ownBlock):=fun e1=>hvF (HR.alF vb e1.symm)
  have HVK:Hid (∀W:World,W.heap[vb]? =w1.heap[vb]? →(cI W vb 1 (v 0)∧cI W vb 2 (v 1)∧cI W vb 3 (v 2)∧cI W vb 4 (v 3)∧cI W vb 5 (v 4)∧cI W vb 6 (v 5)∧cI W vb 7 (v 6)∧cI W vb 8 (v 7)∧cI W vb 9 (v 8))):=fun W hW=>by
   have q:=HV.block hW;exact⟨q.c0,q.c1,q.c2,q.c3,q.c4,q.c5,q.c6,q.c7,q.c8⟩
  have hnb:Hid (vb≠b):=fun e1=>hvF (e1▸HR.own)
  go_wp2_with fail;have hS0:Hid ((fun X=>cI X vb 1 (v 0)∧cI X vb 2 (v 1)∧cI X vb 3 (v 2)∧cI X vb 4 (v 3)∧cI X vb 5 (v 4)∧cI X vb 6 (v 5)∧cI X vb 7 (v 6)∧cI X vb 8 (v 7)∧cI X vb 9 (v 8)∧X.cell? (iA b 5)=some av) w1.drew):=by
   have q:=HVK.out w1.drew rfl;exact⟨q.1,q.2.1,q.2.2.1,q.2.2.2.1,q.2.2.2.2.1,q.2.2.2.2.2.1,q.2.2.2.2.2.2.1,q.2.2.2.2.2.2.2.1,q.2.2.2.2.2.2.2.2,c5⟩
  refine zHp 50 (fun X=>cI X vb 1 (v 0)∧cI X vb 2 (v 1)∧cI X vb 3 (v 2)∧cI X vb 4 (v 3)∧cI X vb 5 (v 4)∧cI X vb 6 (v 5)∧cI X vb 7 (v 6)∧cI X vb 8 (v 7)∧cI X vb 9 (v 8)∧X.cell? (iA b 5)=some av) (by kernel_rfl) ?_;refine zA1 (i:=0) (v:=iP b) (by rfl) (by kernel_rfl) (by kernel_rfl) (by kernel_rfl) (by kernel_rfl) (by exact fun _ _ _ h=>h) (Or.inl ⟨by rfl,?_⟩) hS0.out ?_
  ·intro W _;go_simp
  simp only[Act.put,List.setIfInBounds_toArray,List.set_cons_zero,List.set_cons_succ];refine zA1 (i:=1) (v:=iP b) (by rfl) (by kernel_rfl) (by kernel_rfl) (by kernel_rfl) (by kernel_rfl) (by exact fun _ _ _ h=>h) (Or.inl ⟨by rfl,?_⟩) hS0.out ?_
  ·intro W _;go_simp
  simp only[Act.put,List.setIfInBounds_toArray,List.set_cons_zero,List.set_cons_succ];refine zA1 (i:=2) (v:=iP b) (by rfl) (by kernel_rfl) (by kernel_rfl) (by kernel_rfl) (by kernel_rfl) (by exact fun _ _ _ h=>h) (Or.inl ⟨by rfl,?_⟩) hS0.out ?_
  ·intro W _;go_simp
  simp only[Act.put,List.setIfInBounds_toArray,List.set_cons_zero,List.set_cons_succ];refine zA1 (i:=3) (v:=.pointer (some (iA b 5))) (by rfl) (by kernel_rfl) (by kernel_rfl) (by kernel_rfl) (by kernel_rfl) (by exact fun _ _ _ h=>h) (Or.inl ⟨by rfl,?_⟩) hS0.out ?_
  ·intro W _;go_simp
  simp only[Act.put,List.setIfInBounds_toArray,List.set_cons_zero,List.set_cons_succ];refine zA1 (i:=4) (v:=av) (by rfl) (by kernel_rfl) (by kernel_rfl) (by kernel_rfl) (by kernel_rfl) (by exact fun _ _ _ h=>h) (Or.inl ⟨by rfl,?_⟩) hS0.out ?_
  ·intro W hW;obtain⟨y0,y1,y2,y3,y4,y5,y6,y7,y8,y9⟩:=hW;go_simp
  simp only[Act.put,List.setIfInBounds_toArray,List.set_cons_zero,List.set_cons_succ];refine zA1 (i:=5) (v:=.pointer (some (iA vb 1))) (by rfl) (by kernel_rfl) (by kernel_rfl) (by kernel_rfl) (by kernel_rfl) (by exact fun _ _ _ h=>h) (Or.inl ⟨by rfl,?_⟩) hS0.out ?_
  ·intro W _;go_simp
  simp only[Act.put,List.setIfInBounds_toArray,List.set_cons_zero,List.set_cons_succ];refine zA1 (i:=6) (v:=.pointer (some (iA vb 1))) (by rfl) (by kernel_rfl) (by kernel_rfl) (by kernel_rfl) (by kernel_rfl) (by exact fun _ _ _ h=>h) (Or.inl ⟨by rfl,?_⟩) hS0.out ?_
  ·intro W _;go_simp
  simp only[Act.put,List.setIfInBounds_toArray,List.set_cons_zero,List.set_cons_succ];refine zA1 (i:=7) (v:=.pointer (some (iA vb 1))) (by rfl) (by kernel_rfl) (by kernel_rfl) (by kernel_rfl) (by kernel_rfl) (by exact fun _ _ _ h=>h) (Or.inl ⟨by rfl,?_⟩) hS0.out ?_
  ·intro W _;go_simp
  simp only[Act.put,List.setIfInBounds_toArray,List.set_cons_zero,List.set_cons_succ];refine zA1 (i:=8) (v:=iV (v 0)) (by rfl) (by kernel_rfl) (by kernel_rfl) (by kernel_rfl) (by kernel_rfl) (by exact fun _ _ _ h=>h) (Or.inl ⟨by rfl,?_⟩) hS0.out ?_
  ·intro W hW;obtain⟨y0,y1,y2,y3,y4,y5,y6,y7,y8,y9⟩:=hW;go_simp
  simp only[Act.put,List.setIfInBounds_toArray,List.set_cons_zero,List.set_cons_succ];refine zA1 (i:=9) (v:=.pointer (some (iA vb 1))) (by rfl) (by kernel_rfl) (by kernel_rfl) (by kernel_rfl) (by kernel_rfl) (by exact fun _ _ _ h=>h) (Or.inl ⟨by rfl,?_⟩) hS0.out ?_
  ·intro W _;go_simp
  simp only[Act.put,List.setIfInBounds_toArray,List.set_cons_zero,List.set_cons_succ];refine zA1 (i:=10) (v:=.pointer (some (iA vb 1))) (by rfl) (by kernel_rfl) (by kernel_rfl) (by kernel_rfl) (by kernel_rfl) (by exact fun _ _ _ h=>h) (Or.inl ⟨by rfl,?_⟩) hS0.out ?_
  ·intro W _;go_simp
  simp only[Act.put,List.setIfInBounds_toArray,List.set_cons_zero,List.set_cons_succ];refine zA1 (i:=11) (v:=.pointer (some (iA vb 2))) (by rfl) (by kernel_rfl) (by kernel_rfl) (by kernel_rfl) (by kernel_rfl) (by exact fun _ _ _ h=>h) (Or.inl ⟨by rfl,?_⟩) hS0.out ?_
  ·intro W _;go_simp
  simp only[Act.put,List.setIfInBounds_toArray,List.set_cons_zero,List.set_cons_succ];refine zA1 (i:=12) (v:=iV (v 1)) (by rfl) (by kernel_rfl) (by kernel_rfl) (by kernel_rfl) (by kernel_rfl) (by exact fun _ _ _ h=>h) (Or.inl ⟨by rfl,?_⟩) hS0.out ?_
  ·intro W hW;obtain⟨y0,y1,y2,y3,y4,y5,y6,y7,y8,y9⟩:=hW;go_simp
  simp only[Act.put,List.setIfInBounds_toArray,List.set_cons_zero,List.set_cons_succ];refine zA1 (i:=13) (v:=.pointer (some (iA vb 1))) (by rfl) (by kernel_rfl) (by kernel_rfl) (by kernel_rfl) (by kernel_rfl) (by exact fun _ _ _ h=>h) (Or.inl ⟨by rfl,?_⟩) hS0.out ?_
  ·intro W _;go_simp
  simp only[Act.put,List.setIfInBounds_toArray,List.set_cons_zero,List.set_cons_succ];refine zA1 (i:=14) (v:=.pointer (some (iA vb 1))) (by rfl) (by kernel_rfl) (by kernel_rfl) (by kernel_rfl) (by kernel_rfl) (by exact fun _ _ _ h=>h) (Or.inl ⟨by rfl,?_⟩) hS0.out ?_
  ·intro W _;go_simp
  simp only[Act.put,List.setIfInBounds_toArray,List.set_cons_zero,List.set_cons_succ];refine zA1 (i:=15) (v:=.pointer (some (iA vb 3))) (by rfl) (by kernel_rfl) (by kernel_rfl) (by kernel_rfl) (by kernel_rfl) (by exact fun _ _ _ h=>h) (Or.inl ⟨by rfl,?_⟩) hS0.out ?_
  ·intro W _;go_simp
  simp only[Act.put,List.setIfInBounds_toArray,List.set_cons_zero,List.set_cons_succ];refine zA1 (i:=16) (v:=iV (v 2)) (by rfl) (by kernel_rfl) (by kernel_rfl) (by kernel_rfl) (by kernel_rfl) (by exact fun _ _ _ h=>h) (Or.inl ⟨by rfl,?_⟩) hS0.out ?_
  ·intro W hW;obtain⟨y0,y1,y2,y3,y4,y5,y6,y7,y8,y9⟩:=hW;go_simp
  simp only[Act.put,List.setIfInBounds_toArray,List.set_cons_zero,List.set_cons_succ];refine zA1 (i:=17) (v:=.pointer (some (iA vb 1))) (by rfl) (by kernel_rfl) (by kernel_rfl) (by kernel_rfl) (by kernel_rfl) (by exact fun _ _ _ h=>h) (Or.inl ⟨by rfl,?_⟩) hS0.out ?_
  ·intro W _;go_simp
  simp only[Act.put,List.setIfInBounds_toArray,List.set_cons_zero,List.set_cons_succ];refine zA1 (i:=18) (v:=.pointer (some (iA vb 1))) (by rfl) (by kernel_rfl) (by kernel_rfl) (by kernel_rfl) (by kernel_rfl) (by exact fun _ _ _ h=>h) (Or.inl ⟨by rfl,?_⟩) hS0.out ?_
  ·intro W _;go_simp
  simp only[Act.put,List.setIfInBounds_toArray,List.set_cons_zero,List.set_cons_succ];refine zA1 (i:=19) (v:=.pointer (some (iA vb 5))) (by rfl) (by kernel_rfl) (by kernel_rfl) (by kernel_rfl) (by kernel_rfl) (by exact fun _ _ _ h=>h) (Or.inl ⟨by rfl,?_⟩) hS0.out ?_
  ·intro W _;go_simp
  simp only[Act.put,List.setIfInBounds_toArray,List.set_cons_zero,List.set_cons_succ];refine zA1 (i:=20) (v:=iV (v 4)) (by rfl) (by kernel_rfl) (by kernel_rfl) (by kernel_rfl) (by kernel_rfl) (by exact fun _ _ _ h=>h) (Or.inl ⟨by rfl,?_⟩) hS0.out ?_
  ·intro W hW;obtain⟨y0,y1,y2,y3,y4,y5,y6,y7,y8,y9⟩:=hW;go_simp
  simp only[Act.put,List.setIfInBounds_toArray,List.set_cons_zero,List.set_cons_succ];refine zA1 (i:=21) (v:=.pointer (some (iA vb 1))) (by rfl) (by kernel_rfl) (by kernel_rfl) (by kernel_rfl) (by kernel_rfl) (by exact fun _ _ _ h=>h) (Or.inl ⟨by rfl,?_⟩) hS0.out ?_
  ·intro W _;go_simp
  simp only[Act.put,List.setIfInBounds_toArray,List.set_cons_zero,List.set_cons_succ];refine zA1 (i:=22) (v:=.pointer (some (iA vb 1))) (by rfl) (by kernel_rfl) (by kernel_rfl) (by kernel_rfl) (by kernel_rfl) (by exact fun _ _ _ h=>h) (Or.inl ⟨by rfl,?_⟩) hS0.out ?_
  ·intro W _;go_simp
  simp only[Act.put,List.setIfInBounds_toArray,List.set_cons_zero,List.set_cons_succ];refine zA1 (i:=23) (v:=.pointer (some (iA vb 6))) (by rfl) (by kernel_rfl) (by kernel_rfl) (by kernel_rfl) (by kernel_rfl) (by exact fun _ _ _ h=>h) (Or.inl ⟨by rfl,?_⟩) hS0.out ?_
  ·intro W _;go_simp
  simp only[Act.put,List.setIfInBounds_toArray,List.set_cons_zero,List.set_cons_succ];refine zA1 (i:=24) (v:=iV (v 5)) (by rfl) (by kernel_rfl) (by kernel_rfl) (by kernel_rfl) (by kernel_rfl) (by exact fun _ _ _ h=>h) (Or.inl ⟨by rfl,?_⟩) hS0.out ?_
  ·intro W hW;obtain⟨y0,y1,y2,y3,y4,y5,y6,y7,y8,y9⟩:=hW;go_simp
  simp only[Act.put,List.setIfInBounds_toArray,List.set_cons_zero,List.set_cons_succ];refine zA1 (i:=25) (v:=.pointer (some (iA vb 1))) (by rfl) (by kernel_rfl) (by kernel_rfl) (by kernel_rfl) (by kernel_rfl) (by exact fun _ _ _ h=>h) (Or.inl ⟨by rfl,?_⟩) hS0.out ?_
  ·intro W _;go_simp
  simp only[Act.put,List.setIfInBounds_toArray,List.set_cons_zero,List.set_cons_succ];refine zA1 (i:=26) (v:=.pointer (some (iA vb 1))) (by rfl) (by kernel_rfl) (by kernel_rfl) (by kernel_rfl) (by kernel_rfl) (by exact fun _ _ _ h=>h) (Or.inl ⟨by rfl,?_⟩) hS0.out ?_
  ·intro W _;go_simp
  simp only[Act.put,List.setIfInBounds_toArray,List.set_cons_zero,List.set_cons_succ];refine zA1 (i:=27) (v:=.pointer (some (iA vb 7))) (by rfl) (by kernel_rfl) (by kernel_rfl) (by kernel_rfl) (by kernel_rfl) (by exact fun _ _ _ h=>h) (Or.inl ⟨by rfl,?_⟩) hS0.out ?_
  ·intro W _;go_simp
  simp only[Act.put,List.setIfInBounds_toArray,List.set_cons_zero,List.set_cons_succ];refine zA1 (i:=28) (v:=iV (v 6)) (by rfl) (by kernel_rfl) (by kernel_rfl) (by kernel_rfl) (by kernel_rfl) (by exact fun _ _ _ h=>h) (Or.inl ⟨by rfl,?_⟩) hS0.out ?_
  ·intro W hW;obtain⟨y0,y1,y2,y3,y4,y5,y6,y7,y8,y9⟩:=hW;go_simp
  simp only[Act.put,List.setIfInBounds_toArray,List.set_cons_zero,List.set_cons_succ];refine zA1 (i:=29) (v:=.pointer (some (iA vb 1))) (by rfl) (by kernel_rfl) (by kernel_rfl) (by kernel_rfl) (by kernel_rfl) (by exact fun _ _ _ h=>h) (Or.inl ⟨by rfl,?_⟩) hS0.out ?_
  ·intro W _;go_simp
  simp only[Act.put,List.setIfInBounds_toArray,List.set_cons_zero,List.set_cons_succ];refine zA1 (i:=30) (v:=.pointer (some (iA vb 1))) (by rfl) (by kernel_rfl) (by kernel_rfl) (by kernel_rfl) (by kernel_rfl) (by exact fun _ _ _ h=>h) (Or.inl ⟨by rfl,?_⟩) hS0.out ?_
  ·intro W _;go_simp
  simp only[Act.put,List.setIfInBounds_toArray,List.set_cons_zero,List.set_cons_succ];refine zA1 (i:=31) (v:=.pointer (some (iA vb 8))) (by rfl) (by kernel_rfl) (by kernel_rfl) (by kernel_rfl) (by kernel_rfl) (by exact fun _ _ _ h=>h) (Or.inl ⟨by rfl,?_⟩) hS0.out ?_
  ·intro W _;go_simp
  simp only[Act.put,List.setIfInBounds_toArray,List.set_cons_zero,List.set_cons_succ];refine zA1 (i:=32) (v:=iV (v 7)) (by rfl) (by kernel_rfl) (by kernel_rfl) (by kernel_rfl) (by kernel_rfl) (by exact fun _ _ _ h=>h) (Or.inl ⟨by rfl,?_⟩) hS0.out ?_
  ·intro W hW;obtain⟨y0,y1,y2,y3,y4,y5,y6,y7,y8,y9⟩:=hW;go_simp
  simp only[Act.put,List.setIfInBounds_toArray,List.set_cons_zero,List.set_cons_succ];refine zA1 (i:=33) (v:=.pointer (some (iA vb 1))) (by rfl) (by kernel_rfl) (by kernel_rfl) (by kernel_rfl) (by kernel_rfl) (by exact fun _ _ _ h=>h) (Or.inl ⟨by rfl,?_⟩) hS0.out ?_
  ·intro W _;go_simp
  simp only[Act.put,List.setIfInBounds_toArray,List.set_cons_zero,List.set_cons_succ];refine zA1 (i:=34) (v:=.pointer (some (iA vb 1))) (by rfl) (by kernel_rfl) (by kernel_rfl) (by kernel_rfl) (by kernel_rfl) (by exact fun _ _ _ h=>h) (Or.inl ⟨by rfl,?_⟩) hS0.out ?_
  ·intro W _;go_simp
  simp only[Act.put,List.setIfInBounds_toArray,List.set_cons_zero,List.set_cons_succ];refine zA1 (i:=35) (v:=.pointer (some (iA vb 9))) (by rfl) (by kernel_rfl) (by kernel_rfl) (by kernel_rfl) (by kernel_rfl) (by exact fun _ _ _ h=>h) (Or.inl ⟨by rfl,?_⟩) hS0.out ?_
  ·intro W _;go_simp
  simp only[Act.put,List.setIfInBounds_toArray,List.set_cons_zero,List.set_cons_succ];refine zA1 (i:=36) (v:=iV (v 8)) (by rfl) (by kernel_rfl) (by kernel_rfl) (by kernel_rfl) (by kernel_rfl) (by exact fun _ _ _ h=>h) (Or.inl ⟨by rfl,?_⟩) hS0.out ?_
  ·intro W hW;obtain⟨y0,y1,y2,y3,y4,y5,y6,y7,y8,y9⟩:=hW;go_simp
  simp only[Act.put,List.setIfInBounds_toArray,List.set_cons_zero,List.set_cons_succ];refine zA1 (i:=37) (v:=.pointer (some (iA vb 1))) (by rfl) (by kernel_rfl) (by kernel_rfl) (by kernel_rfl) (by kernel_rfl) (by exact fun _ _ _ h=>h) (Or.inl ⟨by rfl,?_⟩) hS0.out ?_
  ·intro W _;go_simp
  simp only[Act.put,List.setIfInBounds_toArray,List.set_cons_zero,List.set_cons_succ];refine zA1 (i:=38) (v:=.pointer (some (iA vb 1))) (by rfl) (by kernel_rfl) (by kernel_rfl) (by kernel_rfl) (by kernel_rfl) (by exact fun _ _ _ h=>h) (Or.inl ⟨by rfl,?_⟩) hS0.out ?_
  ·intro W _;go_simp
  simp only[Act.put,List.setIfInBounds_toArray,List.set_cons_zero,List.set_cons_succ];refine zA1 (i:=39) (v:=.pointer (some (iA vb 4))) (by rfl) (by kernel_rfl) (by kernel_rfl) (by kernel_rfl) (by kernel_rfl) (by exact fun _ _ _ h=>h) (Or.inl ⟨by rfl,?_⟩) hS0.out ?_
  ·intro W _;go_simp
  simp only[Act.put,List.setIfInBounds_toArray,List.set_cons_zero,List.set_cons_succ];refine zA1 (i:=40) (v:=iV (v 3)) (by rfl) (by kernel_rfl) (by kernel_rfl) (by kernel_rfl) (by kernel_rfl) (by exact fun _ _ _ h=>h) (Or.inl ⟨by rfl,?_⟩) hS0.out ?_
  ·intro W hW;obtain⟨y0,y1,y2,y3,y4,y5,y6,y7,y8,y9⟩:=hW;go_simp
  simp only[Act.put,List.setIfInBounds_toArray,List.set_cons_zero,List.set_cons_succ];refine zA1 (i:=41) (v:=.pointer (some (iA vb 1))) (by rfl) (by kernel_rfl) (by kernel_rfl) (by kernel_rfl) (by kernel_rfl) (by exact fun _ _ _ h=>h) (Or.inl ⟨by rfl,?_⟩) hS0.out ?_
  ·intro W _;go_simp
  simp only[Act.put,List.setIfInBounds_toArray,List.set_cons_zero,List.set_cons_succ];refine zA1 (i:=42) (v:=.pointer (some (iA vb 1))) (by rfl) (by kernel_rfl) (by kernel_rfl) (by kernel_rfl) (by kernel_rfl) (by exact fun _ _ _ h=>h) (Or.inl ⟨by rfl,?_⟩) hS0.out ?_
  ·intro W _;go_simp
  simp only[Act.put,List.setIfInBounds_toArray,List.set_cons_zero,List.set_cons_succ];refine zA1 (i:=43) (v:=.pointer (some (iA vb 5))) (by rfl) (by kernel_rfl) (by kernel_rfl) (by kernel_rfl) (by kernel_rfl) (by exact fun _ _ _ h=>h) (Or.inl ⟨by rfl,?_⟩) hS0.out ?_
  ·intro W _;go_simp
  simp only[Act.put,List.setIfInBounds_toArray,List.set_cons_zero,List.set_cons_succ];refine zA1 (i:=44) (v:=iV (v 4)) (by rfl) (by kernel_rfl) (by kernel_rfl) (by kernel_rfl) (by kernel_rfl) (by exact fun _ _ _ h=>h) (Or.inl ⟨by rfl,?_⟩) hS0.out ?_
  ·intro W hW;obtain⟨y0,y1,y2,y3,y4,y5,y6,y7,y8,y9⟩:=hW;go_simp
  simp only[Act.put,List.setIfInBounds_toArray,List.set_cons_zero,List.set_cons_succ];refine zA1 (i:=45) (v:=.agg #[iV (v 0),iV (v 1),iV (v 2),iV (v 4),iV (v 5),iV (v 6),iV (v 7),iV (v 8),iV 1,iV (v 3),iV (v 4),iV 0,iV 0,iV 0,iV 0]) (by rfl) (by kernel_rfl) (by kernel_rfl) (by kernel_rfl) (by kernel_rfl) (by exact fun _ _ _ h=>h) (Or.inl ⟨by rfl,?_⟩) hS0.out ?_
  ·intro W _;go_simp
  simp only[Act.put,List.setIfInBounds_toArray,List.set_cons_zero,List.set_cons_succ];have HVC:Hid (∀W:World,W.heap[vb]? =w1.heap[vb]? →W.cell? (iA b 5)=some av→(fun X=>cI X vb 1 (v 0)∧cI X vb 2 (v 1)∧cI X vb 3 (v 2)∧cI X vb 4 (v 3)∧cI X vb 5 (v 4)∧cI X vb 6 (v 5)∧cI X vb 7 (v 6)∧cI X vb 8 (v 7)∧cI X vb 9 (v 8)∧X.cell? (iA b 5)=some av) W):=fun W hW h5=>by
   have q:=HVK.out W hW;exact⟨q.1,q.2.1,q.2.2.1,q.2.2.2.1,q.2.2.2.2.1,q.2.2.2.2.2.1,q.2.2.2.2.2.2.1,q.2.2.2.2.2.2.2.1,q.2.2.2.2.2.2.2.2,h5⟩
  refine zC2 (i:=46) (by kernel_rfl) (by rfl) (fun K hK=>?_);go_simp;refine hK.out _ _ (.inr (HVC.out _ (Below.heap_alloc _ _ _ hvl1) ((World.cell?_alloc_lt _ _ (iA b 5) hlt1).trans c5))) ?_;clear hK K;try simp only[Act.put,List.setIfInBounds_toArray,List.set_cons_zero,List.set_cons_succ]
  refine zC2 (i:=47) (by kernel_rfl) (by rfl) (fun K hK=>?_);refine step_append_lies _ (by rfl) _ _ 169 (by rfl) base 229 i0 _ 15 120 Tryz.underlying169 HINF.1 HINF.2.1 HINF.2.2.1 HINF.2.2.2 rfl (by decide) av e.all.length (rows e.all) (by rfl) HW2.out (iA w1.heap.size 0) 1 1 [iV (v 0),iV (v 1),iV (v 2),iV (v 4),iV (v 5),iV (v 6),iV (v 7),iV (v 8),iV 1,iV (v 3),iV (v 4),iV 0,iV 0,iV 0,iV 0] (by rfl) rfl HC1.out HC2.out (by decide) HC3.1 HC3.2.1 HC3.2.2.1 (w1.heap.size+1) HC3.2.2.2 ?_;intro g cap' w2 hown2 hgrow2 hat2 hltg2;have HX:=hid (HNX.out g cap' w2 hown2 hgrow2 hat2 hltg2);have hc5':=HX.2.2.1;have hf5':=HX.2.2.2.1;have HK2:=hid HX.2.2.2.2;clear hown2 hgrow2 hat2 hltg2;refine hK.out _ _ (.inr (HVC.out _ (HK2.out vb hvl1 hvav.out) hc5')) ?_;clear hK K;try simp only[Act.put,List.setIfInBounds_toArray,List.set_cons_zero,List.set_cons_succ]
  refine zC2 (i:=48) (by kernel_rfl) (by rfl) (fun K hK=>?_);go_simp;refine hK.out _ _ (.inr (HVC.out _ (HK2.out vb hvl1 hvav.out) hc5')) ?_;clear hK K;try simp only[Act.put,List.setIfInBounds_toArray,List.set_cons_zero,List.set_cons_succ]
  refine zC2 (i:=49) (by kernel_rfl) (by rfl) (fun K hK=>?_);go_simp;refine hK.out _ _ (.inr (HVC.out _ (HK2.out vb hvl1 hvav.out) hc5')) ?_;clear hK K;try simp only[Act.put,List.setIfInBounds_toArray,List.set_cons_zero,List.set_cons_succ]
  refine zC2 (i:=50) (by kernel_rfl) (by rfl) (fun K hK=>?_);go_simp;refine hK.out _ _ (.inl rfl) ?_;clear hK K;refine zHo (by kernel_rfl) ?_ _;have HR3:=hid HX.1;have HT3:=hid (HT.trans HX.2.1);have HV3:=hid (HV.block ((Below.heap_setCell w2 (iA b 5) (sL g (e.all.length+1) cap') vb hnb.out).trans (HK2.out vb hvl1 hvav.out)));clear HX hc5' hf5' HK2 c5 v0 v1 v2 v3 v4 v5 v6 v7 v8 HR HT HV HC1 HC2 HC3 HW2 HNX HVK HVC hS0 HINF;generalize w2.setCell (iA b 5) (sL g (e.all.length+1) cap')=W3 at *;obtain⟨hIe,hAt⟩:=Eng.enter_inv hI hv0 hz0.out;have kn:=hIe.ok _ _ hAt;have k0:=kn.id0;have k1:=kn.id1;have k2:=kn.side;have k3:=kn.typ;have k4:=kn.prc0;have k5:=kn.prc1;have k6:=kn.opn0;have k7:=kn.qty1;have k8:=kn.sum;have m1:=hI.mp1;have e0:(Eng.newOrd v).id=v 0:=rfl;have e1:(Eng.newOrd v).side=v 1:=rfl;have e2:(Eng.newOrd v).typ=v 2:=rfl;have e3:(Eng.newOrd v).price=v 3:=rfl
  have e4:(Eng.newOrd v).opn=v 4:=rfl;have e5:(Eng.newOrd v).qty=v 4:=rfl;have e6:(e.enter v).mp=e.mp:=rfl;rw[e0]at k0 k1;rw[e1]at k2;rw[e2]at k3;rw[e3]at k4 k5;rw[e6]at k5;rw[e4]at k6;rw[e5]at k7;have HTL:=hid (zAd HR3.out HT3.out 1 (v 0) (v 1) (v 3) (v 4) (v 2) ⟨by have:=hr.seq;show e.seq+1≤_;omega,by have:=hr.stm;show e.stamp+1≤_;omega,by have:=hr.out;show e.out.length+22*1≤_;omega,by show(e.all++ [Eng.newOrd v]).length≤_;simp;omega,by have:=hr.drw;show e.drawn+1≤_;omega⟩ (n63 1 (by omega) (by omega)) (n63 _ (by omega) (by omega)) (n63 _ (by omega) (by omega)) (n63 _ (by omega) (by omega)) (n63 _ (by omega) (by omega)) (n63 _ (by omega) (by omega)));have HIE:=hid (And.intro hIe hAt);have HW3:Hid (vb<W3.heap.size):=Nat.lt_of_lt_of_le hvl HT3.size;have HVT:Hid (∀W:World,Touch F w W→VAt W vb v):=fun W hT=>HVw.block (hT.block vb hvl hvF)
  clear hIe hAt kn k0 k1 k2 k3 k4 k5 k6 k7 k8 m1 e0 e1 e2 e3 e4 e5 e6;have v0:=HV3.c0;have v1:=HV3.c1;have v2:=HV3.c2;have v3:=HV3.c3;have v4:=HV3.c4;go_wp2_with fail;have HVS:Hid (∀W:World,VAt W vb v→cI W vb 1 (v 0)∧cI W vb 2 (v 1)∧cI W vb 3 (v 2)∧cI W vb 4 (v 3)∧cI W vb 5 (v 4)):=fun W q=>⟨q.c0,q.c1,q.c2,q.c3,q.c4⟩
  go_region_held3(fun X=>X.cell? (iA vb 1)=sI (v 0)∧X.cell? (iA vb 2)=sI (v 1)∧X.cell? (iA vb 3)=sI (v 2)∧X.cell? (iA vb 4)=sI (v 3)∧X.cell? (iA vb 5)=sI (v 4)) (first|exact⟨v0,v1,v2,v3,v4⟩|exact HVS.out _ (HVT.out _ ht4)) ((go_at_call 148;refine(HTL.out W3.drew rfl rfl rfl rfl).mono ?_;rintro en w4 ⟨rfl,hr4,ht4⟩));have HR4:Hid (RefRep F base w4 b (e.enter v) dv (sL g (e.all.length+1) cap')):=hr4;have HT4:=hid ht4;have HV4:=hid (HVT.out w4 ht4);clear hr4 ht4 HR3 HT3 HV3 HTL HVS HVT v0 v1 v2 v3 v4;have v2:=HV4.c2;have c5:w4.cell? (iA b 5)=some (sL g (e.all.length+1) cap'):=HR4.cell 5;cases q2:(v 2 != 3)
  ·have ht:Hid (v 2=3):=by show _=_;simpa using q2
   have HF:Hid (e.fresh v=e.enter v):=by
    show _=_;rw[Eng.fresh_eq,if_neg (by rw[hz0.out];simp),if_pos ht.out]
   go_wp2;go_end0;exact⟨rfl,⟨_,HF.out▸HR4.out⟩,HT4.out⟩
  ·have ht:Hid (¬v 2=3):=by show¬_=_;simpa using q2
   have HF:Hid (e.fresh v=(e.enter v).sweep e.all.length):=by
    show _=_;rw[Eng.fresh_eq,if_neg (by rw[hz0.out];simp),if_neg ht.out]
   have hln:Hid ((e.enter v).all.length=e.all.length+1):=by show(e.all++ [Eng.newOrd v]).length=_;simp
   have hgr:=Eng.enter_grew e v;have HSW:=hid (zGa (F:=F) (base:=base) (w:=w4) (b:=b) (e:=e.enter v) (dv:=dv) (g:=g) (cap:=cap') e.all.length (Eng.newOrd v) (by rw[hln.out];exact HR4.out) HIE.1 HIE.2 rfl rfl ht.out ⟨by have:=hr.seq;have:=hgr.seq1;omega,by have:=hr.stm;have:=hgr.stm1;omega,by have:=hr.out;have:=hgr.out;have:=hgr.seq1;omega,by rw[hln.out];omega,by have:=hr.drw;have:=hgr.drw1;omega⟩ ⟨hsu.v0,hsu.v1,hsu.w0,hsu.w1⟩ ⟨hd.len,hd.bd⟩);have hw1:wrap64 ((e.all.length:Int)+1 - 1)=(e.all.length:Int):=by unfold wrap64;omega
   clear hgr;go_wp2_with fail;refine HSW.mono ?_;rintro en w5 ⟨rfl,hr5,ht5⟩;have HR5:=hid hr5;have HT5:=hid (HT4.trans ht5);clear hr5 ht5 c5 v2;go_wp2;go_end0;exact⟨rfl,⟨_,HF.out▸HR5.out⟩,HT5.out⟩
end Go.Proofs.YtilbfpnpkkkpgaaGreatDoor
