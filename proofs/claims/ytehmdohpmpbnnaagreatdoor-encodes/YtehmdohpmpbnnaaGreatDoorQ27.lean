import Derived.Test.YtehmdohpmpbnnaaGreatDoorQ00
import Derived.Test.YtehmdohpmpbnnaaGreatDoorQ03
import Derived.Test.YtehmdohpmpbnnaaGreatDoorQ12
import Derived.Test.YtehmdohpmpbnnaaGreatDoorQ14
import Derived.Test.YtehmdohpmpbnnaaGreatDoorQ25
import Derived.Deep.LoopGhost
set_option linter.all false
set_option maxRecDepth 100000
set_option maxHeartbeats 8000000
namespace Go.Proofs.YtehmdohpmpbnnaaGreatDoor
variable{base:Nat}{w:World}{l B A:List Ord}{v:Value}{x:Ord}
open Go.Proofs.Tryz
open Go.Extern Go.RowKit
def OR(base:Nat)(w:World)(v:Value)(l:List Ord):Prop:=w.ownsRow base 155 15 v l.length (rows l)
def Sorted(l:List Ord):Prop:=l.Pairwise fun a b=>a.id≤b.id
theorem zCs(a b:List Ord):rows (a++b)=rows a++rows b:=by simp[rows]
theorem put15(P S:List Value)(o o':Ord):((((((((((((((((P++(o.cells.map (iV)++S)).set P.length (iV o'.id)).set (P.length+1) (iV o'.side)).set (P.length+2) (iV o'.typ)).set (P.length+3) (iV o'.mg)).set (P.length+4) (iV o'.jw)).set (P.length+5) (iV o'.off)).set (P.length+6) (iV o'.jr)).set (P.length+7) (iV o'.time)).set (P.length+8) (iV o'.dm)).set (P.length+9) (iV o'.bn)).set (P.length+10) (iV o'.opn)).set (P.length+11) (iV o'.bu)).set (P.length+12) (iV o'.cancelled)).set (P.length+13) (iV o'.bg)).set (P.length+14) (iV o'.dh))=P++(o'.cells.map (iV)++S):=by
 simp[Ord.cells,List.set_append]
theorem zHl(A B:List Ord)(o o':Ord)(q:Nat)(hq:A.length=q):((((((((((((((((rows (A++o::B)).set (q*15) (iV o'.id)).set ((q*15)+1) (iV o'.side)).set ((q*15)+2) (iV o'.typ)).set ((q*15)+3) (iV o'.mg)).set ((q*15)+4) (iV o'.jw)).set ((q*15)+5) (iV o'.off)).set ((q*15)+6) (iV o'.jr)).set ((q*15)+7) (iV o'.time)).set ((q*15)+8) (iV o'.dm)).set ((q*15)+9) (iV o'.bn)).set ((q*15)+10) (iV o'.opn)).set ((q*15)+11) (iV o'.bu)).set ((q*15)+12) (iV o'.cancelled)).set ((q*15)+13) (iV o'.bg)).set ((q*15)+14) (iV o'.dh))=rows (A++o'::B):=by
 have C:∀x:Ord,rows (A++x::B)=rows A++(x.cells.map (iV)++rows B):=fun x=>by rw[zCs];rfl
 have D:q*15=(rows A).length:=by rw[zBx,hq,Nat.mul_comm]
 rw[C,C,D];exact put15 _ _ _ _
theorem OR.put{g cap n:Nat}(A B:List Ord)(o o':Ord)(q:Nat)(hq:A.length=q)(h:OR base w (sL g n cap) (A++o::B)):OR base (((((((((((((((w.setCell (iA g (q*15)) (iV o'.id)).setCell (iA g (q*15+1)) (iV o'.side)).setCell (iA g (q*15+2)) (iV o'.typ)).setCell (iA g (q*15+3)) (iV o'.mg)).setCell (iA g (q*15+4)) (iV o'.jw)).setCell (iA g (q*15+5)) (iV o'.off)).setCell (iA g (q*15+6)) (iV o'.jr)).setCell (iA g (q*15+7)) (iV o'.time)).setCell (iA g (q*15+8)) (iV o'.dm)).setCell (iA g (q*15+9)) (iV o'.bn)).setCell (iA g (q*15+10)) (iV o'.opn)).setCell (iA g (q*15+11)) (iV o'.bu)).setCell (iA g (q*15+12)) (iV o'.cancelled)).setCell (iA g (q*15+13)) (iV o'.bg)).setCell (iA g (q*15+14)) (iV o'.dh)) (sL g n cap) (A++o'::B):=by
 have H:n=(A++o::B).length:=by
  rcases h.2 with⟨F,J⟩|⟨I,C,E,D,_⟩
  ·cases F
  injection D with _ D _
 have G:(A++o::B).length=(A++o'::B).length:=by simp
 subst H;unfold OR;rw[←zHl A B o o' q hq,←G];unfold OR at h;exact(((((((((((((((h.stored (q*15) _).1.stored (q*15+1) _).1.stored (q*15+2) _).1.stored (q*15+3) _).1.stored (q*15+4) _).1.stored (q*15+5) _).1.stored (q*15+6) _).1.stored (q*15+7) _).1.stored (q*15+8) _).1.stored (q*15+9) _).1.stored (q*15+10) _).1.stored (q*15+11) _).1.stored (q*15+12) _).1.stored (q*15+13) _).1.stored (q*15+14) _).1
theorem cellNew(w:World)(cs:Array Value)(ty:TypeId)(j:Nat)(u:Value)(h:cs[j]? =some u):(w.alloc (.cells cs ty)).cell? (iA w.heap.size j)=some u:=by
 rw[World.cell?_alloc_at _ _ _ _ rfl];exact h
theorem OR.block{w':World}(h:OR base w v l)(hb:∀q,v.ownBlock=some q→w'.heap[q]? =w.heap[q]?):OR base w' v l:=by
 refine⟨h.1,?_⟩;rcases h.2 with D|⟨g,A,B,C,E,F,r⟩
 ·exact .inl D
 exact .inr ⟨g,A,B,C,E,by rw[hb g (by rw[C];rfl)];exact F,r⟩
theorem OR.lt(h:OR base w v l):∀q,v.ownBlock=some q→base≤q∧q<w.heap.size:=by
 intro q A;rcases h.2 with D|⟨g,B,C,G,E,F,r⟩
 ·rw[D.1]at A;exact absurd A (by simp[Value.ownBlock])
 rw[G]at A;have:g=q:=by simpa [Value.ownBlock] using A
 subst this;exact⟨E,(Array.getElem?_eq_some_iff.1 F).1⟩
theorem OR.alloc(h:OR base w v l)(o:Obj):OR base (w.alloc o) v l:=h.block fun q hq=>Below.heap_alloc _ _ _ (h.lt q hq).2
theorem OR.drewN(h:OR base w v l)(n:Nat):OR base (w.drewN n) v l:=h
theorem OR.nil(base:Nat)(w:World):OR base w (.slice none 0 0) []:=World.ownsRow_nil _ _ _ _
theorem OR.jc{g n cap:Nat}(h:OR base w (sL g n cap) l):eD w g l∧n=l.length:=by
 have D:n=l.length:=by
  rcases h.2 with⟨B,_⟩|⟨F,A,C,E,I,J,H,_,N,M⟩
  ·cases B
  injection E with B G _
 subst D;refine⟨⟨fun i j o x ho hx=>?_,fun j=>World.ownsRow.frozenAt h j⟩,rfl⟩;have K:i<l.length:=(List.getElem?_eq_some_iff.1 ho).1;have L:j<15:=by have:=(List.getElem?_eq_some_iff.1 hx).1;simpa [Ord.cells] using this
 rw[World.ownsRow.cellAt h (i*15+j) (by omega),Nat.mul_comm i 15];exact zAa l i j o x ho hx
theorem zHm(h:Sorted ([] ++B))(hx:∀o∈B,x.id≤o.id):Sorted ([] ++x::B):=List.pairwise_cons.2 ⟨hx,h⟩
theorem zHn{b:Ord}(h:Sorted ((A++ [b])++B))(hx:∀o∈B,x.id≤o.id)(hb:b.id≤x.id):Sorted ((A++ [b])++x::B):=by
 unfold Sorted at *;rw[List.pairwise_append]at h⊢;obtain⟨E,F,G⟩:=h;refine⟨E,List.pairwise_cons.2 ⟨hx,F⟩,fun a C y D=>?_⟩;rcases List.mem_cons.1 D with rfl|D
 ·rcases List.mem_append.1 C with C|C
  ·have:=(List.pairwise_append.1 E).2.2 a C b (by simp);omega
  simp at C;subst C;exact hb
 exact G a C y D
structure Moving(T:List Ord)(q:Nat)(A B:List Ord)(x:Ord):Prop where
 len:A.length=q
 srt:Sorted (A++B)
 top:∀o∈B,x.id≤o.id
 prm:(A++x::B).Perm T
theorem Moving.down{T:List Ord}{q:Nat}{b:Ord}(h:Moving T (q+1) (A++ [b]) B x)(hlt:x.id<b.id):Moving T q A (b::B) x:=by
 refine⟨by have:=h.len;simpa using this,by have:=h.srt;simpa using this,fun o C=>?_,?_⟩
 ·rcases List.mem_cons.1 C with rfl|C
  ·omega
  exact h.top o C
 refine List.Perm.trans ?_ h.prm;simp only[List.append_assoc,List.singleton_append];exact List.Perm.append_left A (List.Perm.swap b x B)
theorem zHo(w:World)(cs:Array Value)(ty:TypeId)(j:Nat)(u:Value)(h:cs[j]? =some u):(w.alloc (.cells cs ty)).drew.cell? (iA w.heap.size j)=some u:=by
 show(w.alloc (.cells cs ty)).cell? _=_;rw[World.cell?_alloc_at _ _ _ _ rfl];exact h
theorem zHp{F:Nat→Prop}{b vb:Nat}{e:bf}{dv av:Value}{v:Nat→Int}(h:dn F base w b e dv av)(hv:VAt w vb v)(hvF:¬F vb)(hvl:vb<w.heap.size)(hI:bf.fe e)(hv0:bf.VOk v)(hr:Room 2100 e)(hsu:jR 1000 e)(hd:Dr e)(hl1:e.all.length<1000000000):
 Cl 107 #[iP b,.pointer (some (iA vb 1))] w fun en w'=>en=rV #[]∧(∃av',dn F base w' b (e.fresh v) dv av')∧Touch F w w':=by
 have T:=hid h;have HV:=hid hv;have Ah:=hid (zF8 h hv hI (hr.mono (by omega)));have B0:=hid hv;clear h hv;go_enter func107,ntmps107;go_wp2_with fail;refine Ah.mono ?_;rintro en D ⟨rfl,Z⟩;replace T:=hid (T.same Z);replace HV:=hid (HV.same Z);have HT:=hid (Z.touch (F:=F));have H:vb<D.heap.size:=by rw[Z.heap];exact hvl
 clear Z Ah;have Aq:0≤e.why v∧e.why v≤9:=by
  unfold bf.why;repeat(first|(split<;>try omega))
 have v0:=HV.c0;by_cases hz:0<e.why v
 ·have HF:Hd (e.fresh v=e.ny (v 0) (e.why v)):=by
   show _=_;rw[bf.bV,if_pos (by omega)]
  have Av:=hid (cZ T.o (v 0) (e.why v) (hr.mono (by omega)) (n63 _ hv0.nC (by have:=hv0.nD;omega)) (n63 _ Aq.1 (by omega)));generalize e.why v=y at *;go_wp2_with fail;refine Av.mono ?_;rintro en N ⟨rfl,Al,Ao⟩;have At:=hid Al;have Ax:=hid (HT.trans Ao);clear Al Ao v0;go_wp2;refine bodyPost_ret (v:=.tuple #[]) (by simp[results,Tryz.results107,go_sem]) rfl ⟨rfl,⟨av,?_⟩,Ax.o⟩;rw[HF.o];exact At.o
 have I:Hd (e.why v=0):=by show _=_;omega
 have B4:e.why v=0:=I.out;clear hz Aq;obtain⟨_,v1,v2,v3,v4,v5,v6,v7,v8⟩:=HV.o;have c5:D.cell? (iA b 5)=some av:=T.cell 5;have Ak:=T.lt;obtain⟨i0,hi,I,Ar,As⟩:=qh Tryz.infoSt Tryz.zeroSt;have E:=hid (And.intro hi (And.intro I (And.intro Ar As)));clear hi I Ar As;have A8:Hd (∀(j:Nat) (u:Value),[iV (v 0),iV (v 1),iV (v 2),iV (v 4),iV (v 5),iV (v 6),iV (v 7),iV (v 8),iV 1,iV (v 3),iV (v 4),iV 0,iV 0,iV 0,iV 0][j]? =some u→(D.alloc (.cells #[iV (v 0),iV (v 1),iV (v 2),iV (v 4),iV (v 5),iV (v 6),iV (v 7),iV (v 8),iV 1,iV (v 3),iV (v 4),iV 0,iV 0,iV 0,iV 0] 155)).drew.cell? (Addr.add (iA D.heap.size 0) j)=some u):=fun j u hj=>by
  rw[Addr.add_lit,Nat.zero_add];exact zHo D #[iV (v 0),iV (v 1),iV (v 2),iV (v 4),iV (v 5),iV (v 6),iV (v 7),iV (v 8),iV 1,iV (v 3),iV (v 4),iV 0,iV 0,iV 0,iV 0] 155 j u (by simp;exact hj)
 have A9:Hd (∀u∈([iV (v 0),iV (v 1),iV (v 2),iV (v 4),iV (v 5),iV (v 6),iV (v 7),iV (v 8),iV 1,iV (v 3),iV (v 4),iV 0,iV 0,iV 0,iV 0]:List Value),u.oneCell'=true):=fun u hu=>by
  simp at hu;rcases hu with rfl|rfl|rfl|rfl|rfl|rfl|rfl|rfl|rfl|rfl|rfl|rfl<;>rfl
 have R:Hd (e.all.length+1≤maxLen∧(e.all.length+1)* 120≤140737488355328∧base≤(D.alloc (.cells #[iV (v 0),iV (v 1),iV (v 2),iV (v 4),iV (v 5),iV (v 6),iV (v 7),iV (v 8),iV 1,iV (v 3),iV (v 4),iV 0,iV 0,iV 0,iV 0] 155)).drew.heap.size∧(D.alloc (.cells #[iV (v 0),iV (v 1),iV (v 2),iV (v 4),iV (v 5),iV (v 6),iV (v 7),iV (v 8),iV 1,iV (v 3),iV (v 4),iV 0,iV 0,iV 0,iV 0] 155)).drew.heap.size=D.heap.size+1):=⟨by unfold maxLen;omega,by omega,by have:=T.low;show base≤(D.alloc _).heap.size;simp;omega,by show(D.alloc _).heap.size=_;simp⟩;have Ag:Hd ((D.alloc (.cells #[iV (v 0),iV (v 1),iV (v 2),iV (v 4),iV (v 5),iV (v 6),iV (v 7),iV (v 8),iV 1,iV (v 3),iV (v 4),iV 0,iV 0,iV 0,iV 0] 155)).drew.ownsRow base 155 15 av e.all.length (rows e.all)):=World.ownsRow.alloc T.al _
 have Ab:Hd (∀(g B:Nat) (N:World),N.ownsRow base 155 15 (sL g (e.all.length+1) B) (e.all.length+1) (rows e.all++ [iV (v 0),iV (v 1),iV (v 2),iV (v 4),iV (v 5),iV (v 6),iV (v 7),iV (v 8),iV 1,iV (v 3),iV (v 4),iV 0,iV 0,iV 0,iV 0])→(D.alloc (.cells #[iV (v 0),iV (v 1),iV (v 2),iV (v 4),iV (v 5),iV (v 6),iV (v 7),iV (v 8),iV 1,iV (v 3),iV (v 4),iV 0,iV 0,iV 0,iV 0] 155)).drew.grownBy N av.ownBlock→(av.ownBlock=some g∨g=D.heap.size+1)→g<N.heap.size→dn F base (N.setCell (iA b 5) (sL g (e.all.length+1) B)) b { e with all:=e.all++ [bf.vg v] } dv (sL g (e.all.length+1) B)∧Touch F D (N.setCell (iA b 5) (sL g (e.all.length+1) B))∧N.cell? (iA b 5)=some av∧N.frozen? (iA b 5)=false∧∀k,k<D.heap.size→some k≠av.ownBlock→N.heap[k]? =D.heap[k]?):=fun g B N hown G hat hlt=>T.appended (bf.vg v) _ hown G hat hlt
 have M:Hd (some vb≠av.ownBlock):=fun e1=>hvF (T.alF vb e1.symm)
 have A4:Hd (∀W:World,W.heap[vb]? =D.heap[vb]? →(cI W vb 1 (v 0)∧cI W vb 2 (v 1)∧cI W vb 3 (v 2)∧cI W vb 4 (v 3)∧cI W vb 5 (v 4)∧cI W vb 6 (v 5)∧cI W vb 7 (v 6)∧cI W vb 8 (v 7)∧cI W vb 9 (v 8))):=fun W C=>by
  have q:=HV.block C;exact⟨q.c0,q.c1,q.c2,q.c3,q.c4,q.c5,q.c6,q.c7,q.c8⟩
 have B1:Hd (vb≠b):=fun e1=>hvF (e1▸T.own)
 go_wp2_with fail;have A:Hd ((fun X=>cI X vb 1 (v 0)∧cI X vb 2 (v 1)∧cI X vb 3 (v 2)∧cI X vb 4 (v 3)∧cI X vb 5 (v 4)∧cI X vb 6 (v 5)∧cI X vb 7 (v 6)∧cI X vb 8 (v 7)∧cI X vb 9 (v 8)∧X.cell? (iA b 5)=some av) D.drew):=by
  have q:=A4.o D.drew rfl;exact⟨q.1,q.2.1,q.2.2.1,q.2.2.2.1,q.2.2.2.2.1,q.2.2.2.2.2.1,q.2.2.2.2.2.2.1,q.2.2.2.2.2.2.2.1,q.2.2.2.2.2.2.2.2,c5⟩
 refine zE0 50 (fun X=>cI X vb 1 (v 0)∧cI X vb 2 (v 1)∧cI X vb 3 (v 2)∧cI X vb 4 (v 3)∧cI X vb 5 (v 4)∧cI X vb 6 (v 5)∧cI X vb 7 (v 6)∧cI X vb 8 (v 7)∧cI X vb 9 (v 8)∧X.cell? (iA b 5)=some av) (by kernel_rfl) ?_;refine fq (i:=0) (v:=iP b) (by rfl) (by kernel_rfl) (by kernel_rfl) (by kernel_rfl) (by kernel_rfl) (by exact fun _ _ _ h=>h) (Or.inl ⟨by rfl,?_⟩) A.out ?_
 ·intro W _;go_simp
 simp only[Act.put,sT,sZ,sS];refine fq (i:=1) (v:=iP b) (by rfl) (by kernel_rfl) (by kernel_rfl) (by kernel_rfl) (by kernel_rfl) (by exact fun _ _ _ h=>h) (Or.inl ⟨by rfl,?_⟩) A.out ?_
 ·intro W _;go_simp
 simp only[Act.put,sT,sZ,sS];refine fq (i:=2) (v:=iP b) (by rfl) (by kernel_rfl) (by kernel_rfl) (by kernel_rfl) (by kernel_rfl) (by exact fun _ _ _ h=>h) (Or.inl ⟨by rfl,?_⟩) A.out ?_
 ·intro W _;go_simp
 simp only[Act.put,sT,sZ,sS];refine fq (i:=3) (v:=.pointer (some (iA b 5))) (by rfl) (by kernel_rfl) (by kernel_rfl) (by kernel_rfl) (by kernel_rfl) (by exact fun _ _ _ h=>h) (Or.inl ⟨by rfl,?_⟩) A.out ?_
 ·intro W _;go_simp
 simp only[Act.put,sT,sZ,sS];refine fq (i:=4) (v:=av) (by rfl) (by kernel_rfl) (by kernel_rfl) (by kernel_rfl) (by kernel_rfl) (by exact fun _ _ _ h=>h) (Or.inl ⟨by rfl,?_⟩) A.out ?_
 ·intro W C;obtain⟨d,f,l,m,n,p,s,t,x,z⟩:=C;go_simp
 simp only[Act.put,sT,sZ,sS];refine fq (i:=5) (v:=.pointer (some (iA vb 1))) (by rfl) (by kernel_rfl) (by kernel_rfl) (by kernel_rfl) (by kernel_rfl) (by exact fun _ _ _ h=>h) (Or.inl ⟨by rfl,?_⟩) A.out ?_
 ·intro W _;go_simp
 simp only[Act.put,sT,sZ,sS];refine fq (i:=6) (v:=.pointer (some (iA vb 1))) (by rfl) (by kernel_rfl) (by kernel_rfl) (by kernel_rfl) (by kernel_rfl) (by exact fun _ _ _ h=>h) (Or.inl ⟨by rfl,?_⟩) A.out ?_
 ·intro W _;go_simp
 simp only[Act.put,sT,sZ,sS];refine fq (i:=7) (v:=.pointer (some (iA vb 1))) (by rfl) (by kernel_rfl) (by kernel_rfl) (by kernel_rfl) (by kernel_rfl) (by exact fun _ _ _ h=>h) (Or.inl ⟨by rfl,?_⟩) A.out ?_
 ·intro W _;go_simp
 simp only[Act.put,sT,sZ,sS];refine fq (i:=8) (v:=iV (v 0)) (by rfl) (by kernel_rfl) (by kernel_rfl) (by kernel_rfl) (by kernel_rfl) (by exact fun _ _ _ h=>h) (Or.inl ⟨by rfl,?_⟩) A.out ?_
 ·intro W C;obtain⟨d,f,l,m,n,p,s,t,x,z⟩:=C;go_simp
 simp only[Act.put,sT,sZ,sS];refine fq (i:=9) (v:=.pointer (some (iA vb 1))) (by rfl) (by kernel_rfl) (by kernel_rfl) (by kernel_rfl) (by kernel_rfl) (by exact fun _ _ _ h=>h) (Or.inl ⟨by rfl,?_⟩) A.out ?_
 ·intro W _;go_simp
 simp only[Act.put,sT,sZ,sS];refine fq (i:=10) (v:=.pointer (some (iA vb 1))) (by rfl) (by kernel_rfl) (by kernel_rfl) (by kernel_rfl) (by kernel_rfl) (by exact fun _ _ _ h=>h) (Or.inl ⟨by rfl,?_⟩) A.out ?_
 ·intro W _;go_simp
 simp only[Act.put,sT,sZ,sS];refine fq (i:=11) (v:=.pointer (some (iA vb 2))) (by rfl) (by kernel_rfl) (by kernel_rfl) (by kernel_rfl) (by kernel_rfl) (by exact fun _ _ _ h=>h) (Or.inl ⟨by rfl,?_⟩) A.out ?_
 ·intro W _;go_simp
 simp only[Act.put,sT,sZ,sS];refine fq (i:=12) (v:=iV (v 1)) (by rfl) (by kernel_rfl) (by kernel_rfl) (by kernel_rfl) (by kernel_rfl) (by exact fun _ _ _ h=>h) (Or.inl ⟨by rfl,?_⟩) A.out ?_
 ·intro W C;obtain⟨d,f,l,m,n,p,s,t,x,z⟩:=C;go_simp
 simp only[Act.put,sT,sZ,sS];refine fq (i:=13) (v:=.pointer (some (iA vb 1))) (by rfl) (by kernel_rfl) (by kernel_rfl) (by kernel_rfl) (by kernel_rfl) (by exact fun _ _ _ h=>h) (Or.inl ⟨by rfl,?_⟩) A.out ?_
 ·intro W _;go_simp
 simp only[Act.put,sT,sZ,sS];refine fq (i:=14) (v:=.pointer (some (iA vb 1))) (by rfl) (by kernel_rfl) (by kernel_rfl) (by kernel_rfl) (by kernel_rfl) (by exact fun _ _ _ h=>h) (Or.inl ⟨by rfl,?_⟩) A.out ?_
 ·intro W _;go_simp
 simp only[Act.put,sT,sZ,sS];refine fq (i:=15) (v:=.pointer (some (iA vb 3))) (by rfl) (by kernel_rfl) (by kernel_rfl) (by kernel_rfl) (by kernel_rfl) (by exact fun _ _ _ h=>h) (Or.inl ⟨by rfl,?_⟩) A.out ?_
 ·intro W _;go_simp
 simp only[Act.put,sT,sZ,sS];refine fq (i:=16) (v:=iV (v 2)) (by rfl) (by kernel_rfl) (by kernel_rfl) (by kernel_rfl) (by kernel_rfl) (by exact fun _ _ _ h=>h) (Or.inl ⟨by rfl,?_⟩) A.out ?_
 ·intro W C;obtain⟨d,f,l,m,n,p,s,t,x,z⟩:=C;go_simp
 simp only[Act.put,sT,sZ,sS];refine fq (i:=17) (v:=.pointer (some (iA vb 1))) (by rfl) (by kernel_rfl) (by kernel_rfl) (by kernel_rfl) (by kernel_rfl) (by exact fun _ _ _ h=>h) (Or.inl ⟨by rfl,?_⟩) A.out ?_
 ·intro W _;go_simp
 simp only[Act.put,sT,sZ,sS];refine fq (i:=18) (v:=.pointer (some (iA vb 1))) (by rfl) (by kernel_rfl) (by kernel_rfl) (by kernel_rfl) (by kernel_rfl) (by exact fun _ _ _ h=>h) (Or.inl ⟨by rfl,?_⟩) A.out ?_
 ·intro W _;go_simp
 simp only[Act.put,sT,sZ,sS];refine fq (i:=19) (v:=.pointer (some (iA vb 5))) (by rfl) (by kernel_rfl) (by kernel_rfl) (by kernel_rfl) (by kernel_rfl) (by exact fun _ _ _ h=>h) (Or.inl ⟨by rfl,?_⟩) A.out ?_
 ·intro W _;go_simp
 simp only[Act.put,sT,sZ,sS];refine fq (i:=20) (v:=iV (v 4)) (by rfl) (by kernel_rfl) (by kernel_rfl) (by kernel_rfl) (by kernel_rfl) (by exact fun _ _ _ h=>h) (Or.inl ⟨by rfl,?_⟩) A.out ?_
 ·intro W C;obtain⟨d,f,l,m,n,p,s,t,x,z⟩:=C;go_simp
 simp only[Act.put,sT,sZ,sS];refine fq (i:=21) (v:=.pointer (some (iA vb 1))) (by rfl) (by kernel_rfl) (by kernel_rfl) (by kernel_rfl) (by kernel_rfl) (by exact fun _ _ _ h=>h) (Or.inl ⟨by rfl,?_⟩) A.out ?_
 ·intro W _;go_simp
 simp only[Act.put,sT,sZ,sS];refine fq (i:=22) (v:=.pointer (some (iA vb 1))) (by rfl) (by kernel_rfl) (by kernel_rfl) (by kernel_rfl) (by kernel_rfl) (by exact fun _ _ _ h=>h) (Or.inl ⟨by rfl,?_⟩) A.out ?_
 ·intro W _;go_simp
 simp only[Act.put,sT,sZ,sS];refine fq (i:=23) (v:=.pointer (some (iA vb 6))) (by rfl) (by kernel_rfl) (by kernel_rfl) (by kernel_rfl) (by kernel_rfl) (by exact fun _ _ _ h=>h) (Or.inl ⟨by rfl,?_⟩) A.out ?_
 ·intro W _;go_simp
 simp only[Act.put,sT,sZ,sS];refine fq (i:=24) (v:=iV (v 5)) (by rfl) (by kernel_rfl) (by kernel_rfl) (by kernel_rfl) (by kernel_rfl) (by exact fun _ _ _ h=>h) (Or.inl ⟨by rfl,?_⟩) A.out ?_
 ·intro W C;obtain⟨d,f,l,m,n,p,s,t,x,z⟩:=C;go_simp
 simp only[Act.put,sT,sZ,sS];refine fq (i:=25) (v:=.pointer (some (iA vb 1))) (by rfl) (by kernel_rfl) (by kernel_rfl) (by kernel_rfl) (by kernel_rfl) (by exact fun _ _ _ h=>h) (Or.inl ⟨by rfl,?_⟩) A.out ?_
 ·intro W _;go_simp
 simp only[Act.put,sT,sZ,sS];refine fq (i:=26) (v:=.pointer (some (iA vb 1))) (by rfl) (by kernel_rfl) (by kernel_rfl) (by kernel_rfl) (by kernel_rfl) (by exact fun _ _ _ h=>h) (Or.inl ⟨by rfl,?_⟩) A.out ?_
 ·intro W _;go_simp
 simp only[Act.put,sT,sZ,sS];refine fq (i:=27) (v:=.pointer (some (iA vb 7))) (by rfl) (by kernel_rfl) (by kernel_rfl) (by kernel_rfl) (by kernel_rfl) (by exact fun _ _ _ h=>h) (Or.inl ⟨by rfl,?_⟩) A.out ?_
 ·intro W _;go_simp
 simp only[Act.put,sT,sZ,sS];refine fq (i:=28) (v:=iV (v 6)) (by rfl) (by kernel_rfl) (by kernel_rfl) (by kernel_rfl) (by kernel_rfl) (by exact fun _ _ _ h=>h) (Or.inl ⟨by rfl,?_⟩) A.out ?_
 ·intro W C;obtain⟨d,f,l,m,n,p,s,t,x,z⟩:=C;go_simp
 simp only[Act.put,sT,sZ,sS];refine fq (i:=29) (v:=.pointer (some (iA vb 1))) (by rfl) (by kernel_rfl) (by kernel_rfl) (by kernel_rfl) (by kernel_rfl) (by exact fun _ _ _ h=>h) (Or.inl ⟨by rfl,?_⟩) A.out ?_
 ·intro W _;go_simp
 simp only[Act.put,sT,sZ,sS];refine fq (i:=30) (v:=.pointer (some (iA vb 1))) (by rfl) (by kernel_rfl) (by kernel_rfl) (by kernel_rfl) (by kernel_rfl) (by exact fun _ _ _ h=>h) (Or.inl ⟨by rfl,?_⟩) A.out ?_
 ·intro W _;go_simp
 simp only[Act.put,sT,sZ,sS];refine fq (i:=31) (v:=.pointer (some (iA vb 8))) (by rfl) (by kernel_rfl) (by kernel_rfl) (by kernel_rfl) (by kernel_rfl) (by exact fun _ _ _ h=>h) (Or.inl ⟨by rfl,?_⟩) A.out ?_
 ·intro W _;go_simp
 simp only[Act.put,sT,sZ,sS];refine fq (i:=32) (v:=iV (v 7)) (by rfl) (by kernel_rfl) (by kernel_rfl) (by kernel_rfl) (by kernel_rfl) (by exact fun _ _ _ h=>h) (Or.inl ⟨by rfl,?_⟩) A.out ?_
 ·intro W C;obtain⟨d,f,l,m,n,p,s,t,x,z⟩:=C;go_simp
 simp only[Act.put,sT,sZ,sS];refine fq (i:=33) (v:=.pointer (some (iA vb 1))) (by rfl) (by kernel_rfl) (by kernel_rfl) (by kernel_rfl) (by kernel_rfl) (by exact fun _ _ _ h=>h) (Or.inl ⟨by rfl,?_⟩) A.out ?_
 ·intro W _;go_simp
 simp only[Act.put,sT,sZ,sS];refine fq (i:=34) (v:=.pointer (some (iA vb 1))) (by rfl) (by kernel_rfl) (by kernel_rfl) (by kernel_rfl) (by kernel_rfl) (by exact fun _ _ _ h=>h) (Or.inl ⟨by rfl,?_⟩) A.out ?_
 ·intro W _;go_simp
 simp only[Act.put,sT,sZ,sS];refine fq (i:=35) (v:=.pointer (some (iA vb 9))) (by rfl) (by kernel_rfl) (by kernel_rfl) (by kernel_rfl) (by kernel_rfl) (by exact fun _ _ _ h=>h) (Or.inl ⟨by rfl,?_⟩) A.out ?_
 ·intro W _;go_simp
 simp only[Act.put,sT,sZ,sS];refine fq (i:=36) (v:=iV (v 8)) (by rfl) (by kernel_rfl) (by kernel_rfl) (by kernel_rfl) (by kernel_rfl) (by exact fun _ _ _ h=>h) (Or.inl ⟨by rfl,?_⟩) A.out ?_
 ·intro W C;obtain⟨d,f,l,m,n,p,s,t,x,z⟩:=C;go_simp
 simp only[Act.put,sT,sZ,sS];refine fq (i:=37) (v:=.pointer (some (iA vb 1))) (by rfl) (by kernel_rfl) (by kernel_rfl) (by kernel_rfl) (by kernel_rfl) (by exact fun _ _ _ h=>h) (Or.inl ⟨by rfl,?_⟩) A.out ?_
 ·intro W _;go_simp
 simp only[Act.put,sT,sZ,sS];refine fq (i:=38) (v:=.pointer (some (iA vb 1))) (by rfl) (by kernel_rfl) (by kernel_rfl) (by kernel_rfl) (by kernel_rfl) (by exact fun _ _ _ h=>h) (Or.inl ⟨by rfl,?_⟩) A.out ?_
 ·intro W _;go_simp
 simp only[Act.put,sT,sZ,sS];refine fq (i:=39) (v:=.pointer (some (iA vb 4))) (by rfl) (by kernel_rfl) (by kernel_rfl) (by kernel_rfl) (by kernel_rfl) (by exact fun _ _ _ h=>h) (Or.inl ⟨by rfl,?_⟩) A.out ?_
 ·intro W _;go_simp
 simp only[Act.put,sT,sZ,sS];refine fq (i:=40) (v:=iV (v 3)) (by rfl) (by kernel_rfl) (by kernel_rfl) (by kernel_rfl) (by kernel_rfl) (by exact fun _ _ _ h=>h) (Or.inl ⟨by rfl,?_⟩) A.out ?_
 ·intro W C;obtain⟨d,f,l,m,n,p,s,t,x,z⟩:=C;go_simp
 simp only[Act.put,sT,sZ,sS];refine fq (i:=41) (v:=.pointer (some (iA vb 1))) (by rfl) (by kernel_rfl) (by kernel_rfl) (by kernel_rfl) (by kernel_rfl) (by exact fun _ _ _ h=>h) (Or.inl ⟨by rfl,?_⟩) A.out ?_
 ·intro W _;go_simp
 simp only[Act.put,sT,sZ,sS];refine fq (i:=42) (v:=.pointer (some (iA vb 1))) (by rfl) (by kernel_rfl) (by kernel_rfl) (by kernel_rfl) (by kernel_rfl) (by exact fun _ _ _ h=>h) (Or.inl ⟨by rfl,?_⟩) A.out ?_
 ·intro W _;go_simp
 simp only[Act.put,sT,sZ,sS];refine fq (i:=43) (v:=.pointer (some (iA vb 5))) (by rfl) (by kernel_rfl) (by kernel_rfl) (by kernel_rfl) (by kernel_rfl) (by exact fun _ _ _ h=>h) (Or.inl ⟨by rfl,?_⟩) A.out ?_
 ·intro W _;go_simp
 simp only[Act.put,sT,sZ,sS];refine fq (i:=44) (v:=iV (v 4)) (by rfl) (by kernel_rfl) (by kernel_rfl) (by kernel_rfl) (by kernel_rfl) (by exact fun _ _ _ h=>h) (Or.inl ⟨by rfl,?_⟩) A.out ?_
 ·intro W C;obtain⟨d,f,l,m,n,p,s,t,x,z⟩:=C;go_simp
 simp only[Act.put,sT,sZ,sS];refine fq (i:=45) (v:=.agg #[iV (v 0),iV (v 1),iV (v 2),iV (v 4),iV (v 5),iV (v 6),iV (v 7),iV (v 8),iV 1,iV (v 3),iV (v 4),iV 0,iV 0,iV 0,iV 0]) (by rfl) (by kernel_rfl) (by kernel_rfl) (by kernel_rfl) (by kernel_rfl) (by exact fun _ _ _ h=>h) (Or.inl ⟨by rfl,?_⟩) A.out ?_
 ·intro W _;go_simp
 simp only[Act.put,sT,sZ,sS];have U:Hd (∀W:World,W.heap[vb]? =D.heap[vb]? →W.cell? (iA b 5)=some av→(fun X=>cI X vb 1 (v 0)∧cI X vb 2 (v 1)∧cI X vb 3 (v 2)∧cI X vb 4 (v 3)∧cI X vb 5 (v 4)∧cI X vb 6 (v 5)∧cI X vb 7 (v 6)∧cI X vb 8 (v 7)∧cI X vb 9 (v 8)∧X.cell? (iA b 5)=some av) W):=fun W C h5=>by
  have q:=A4.o W C;exact⟨q.1,q.2.1,q.2.2.1,q.2.2.2.1,q.2.2.2.2.1,q.2.2.2.2.2.1,q.2.2.2.2.2.2.1,q.2.2.2.2.2.2.2.1,q.2.2.2.2.2.2.2.2,h5⟩
 refine kM (i:=46) (by kernel_rfl) (by rfl) (fun K hK=>?_);go_simp;refine hK.out _ _ (.inr (U.o _ (Below.heap_alloc _ _ _ H) ((World.cell?_alloc_lt _ _ (iA b 5) Ak).trans c5))) ?_;clear hK K;try simp only[Act.put,sT,sZ,sS]
 refine kM (i:=47) (by kernel_rfl) (by rfl) (fun K hK=>?_);refine step_append_lies _ (by rfl) _ _ 112 (by rfl) base 155 i0 _ 15 120 underlying112 E.1 E.2.1 E.2.2.1 E.2.2.2 rfl (by decide) av e.all.length (rows e.all) (by rfl) Ag.o (iA D.heap.size 0) 1 1 [iV (v 0),iV (v 1),iV (v 2),iV (v 4),iV (v 5),iV (v 6),iV (v 7),iV (v 8),iV 1,iV (v 3),iV (v 4),iV 0,iV 0,iV 0,iV 0] (by rfl) rfl A8.o A9.o (by decide) R.1 R.2.1 R.2.2.1 (D.heap.size+1) R.2.2.2 ?_;intro g B N Y L A1 V;have HX:=hid (Ab.o g B N Y L A1 V);have J:=HX.2.2.1;have Ai:=HX.2.2.2.1;have S:=hid HX.2.2.2.2;clear Y L A1 V;refine hK.out _ _ (.inr (U.o _ (S.o vb H M.out) J)) ?_;clear hK K;try simp only[Act.put,sT,sZ,sS]
 refine kM (i:=48) (by kernel_rfl) (by rfl) (fun K hK=>?_);go_simp;refine hK.out _ _ (.inr (U.o _ (S.o vb H M.out) J)) ?_;clear hK K;try simp only[Act.put,sT,sZ,sS]
 refine kM (i:=49) (by kernel_rfl) (by rfl) (fun K hK=>?_);go_simp;refine hK.out _ _ (.inr (U.o _ (S.o vb H M.out) J)) ?_;clear hK K;try simp only[Act.put,sT,sZ,sS]
 refine kM (i:=50) (by kernel_rfl) (by rfl) (fun K hK=>?_);go_simp;refine hK.out _ _ (.inl rfl) ?_;clear hK K;refine zE (by kernel_rfl) ?_ _;have Ac:=hid HX.1;have A3:=hid (HT.trans HX.2.1);have O:=hid (HV.block ((Below.heap_setCell N (iA b 5) (sL g (e.all.length+1) B) vb B1.out).trans (S.o vb H M.out)));clear HX J Ai S c5 v0 v1 v2 v3 v4 v5 v6 v7 v8 T HT HV A8 A9 R Ag Ab A4 U A E;generalize N.setCell (iA b 5) (sL g (e.all.length+1) B)=W3 at *;obtain⟨A7,A6⟩:=bf.jY hI hv0 I.out;have c:=A7.ok _ _ A6;have k0:=c.nC;have k1:=c.nD;have k2:=c.side;have k3:=c.typ;have k4:=c.lM;have k5:=c.gY;have k6:=c.dN;have k7:=c.fH;have k8:=c.sum;have m1:=hI.oN;have e0:(bf.vg v).id=v 0:=rfl;have e1:(bf.vg v).side=v 1:=rfl;have e2:(bf.vg v).typ=v 2:=rfl;have e3:(bf.vg v).bn=v 3:=rfl;have e4:(bf.vg v).opn=v 4:=rfl;have e5:(bf.vg v).mg=v 4:=rfl;have e6:(e.enter v).mp=e.mp:=rfl;rw[e0]at k0 k1;rw[e1]at k2
 rw[e2]at k3;rw[e3]at k4 k5;rw[e6]at k5;rw[e4]at k6;rw[e5]at k7;have Ae:=hid (vk Ac.o A3.o 1 (v 0) (v 1) (v 3) (v 4) (v 2) ⟨by have:=hr.seq;show e.seq+1≤_;omega,by have:=hr.qC;show e.dh+1≤_;omega,by have:=hr.out;show e.out.length+22*1≤_;omega,by show(e.all++ [bf.vg v]).length≤_;simp;omega,by have:=hr.fD;show e.drawn+1≤_;omega⟩ (n63 1 (by omega) (by omega)) (n63 _ (by omega) (by omega)) (n63 _ (by omega) (by omega)) (n63 _ (by omega) (by omega)) (n63 _ (by omega) (by omega)) (n63 _ (by omega) (by omega)));have Aa:=hid (And.intro A7 A6);have B2:Hd (vb<W3.heap.size):=Nat.lt_of_lt_of_le hvl A3.size;have A5:Hd (∀W:World,Touch F w W→VAt W vb v):=fun W hT=>B0.block (hT.block vb hvl hvF)
 clear A7 A6 c k0 k1 k2 k3 k4 k5 k6 k7 k8 m1 e0 e1 e2 e3 e4 e5 e6;have v0:=O.c0;have v1:=O.c1;have v2:=O.c2;have v3:=O.c3;have v4:=O.c4;go_wp2_with fail;have Af:Hd (∀W:World,VAt W vb v→cI W vb 1 (v 0)∧cI W vb 2 (v 1)∧cI W vb 3 (v 2)∧cI W vb 4 (v 3)∧cI W vb 5 (v 4)):=fun W q=>⟨q.c0,q.c1,q.c2,q.c3,q.c4⟩
 go_region_held3(fun X=>X.cell? (iA vb 1)=sI (v 0)∧X.cell? (iA vb 2)=sI (v 1)∧X.cell? (iA vb 3)=sI (v 2)∧X.cell? (iA vb 4)=sI (v 3)∧X.cell? (iA vb 5)=sI (v 4)) (first|exact⟨v0,v1,v2,v3,v4⟩|exact Af.o _ (A5.o _ A0)) ((go_at_call 106;refine(Ae.o W3.drew rfl rfl rfl rfl).mono ?_;rintro en w4 ⟨rfl,Am,A0⟩));have A2:Hd (dn F base w4 b (e.enter v) dv (sL g (e.all.length+1) B)):=Am;have Ad:=hid A0;have Az:=hid (A5.o w4 A0);clear Am A0 Ac A3 O Ae Af A5 v0 v1 v2 v3 v4;have v2:=Az.c2;have c5:w4.cell? (iA b 5)=some (sL g (e.all.length+1) B):=A2.cell 5;cases q2:(v 2 != 3)
 ·have ht:Hd (v 2=3):=by show _=_;simpa using q2
  have HF:Hd (e.fresh v=e.enter v):=by
   show _=_;rw[bf.bV,if_neg (by rw[I.out];simp),if_pos ht.out]
  go_wp2;go_end0;exact⟨rfl,⟨_,HF.o▸A2.o⟩,Ad.o⟩
 have ht:Hd (¬v 2=3):=by show¬_=_;simpa using q2
 have HF:Hd (e.fresh v=(e.enter v).zy e.all.length):=by
  show _=_;rw[bf.bV,if_neg (by rw[I.out];simp),if_neg ht.out]
 have Aj:Hd ((e.enter v).all.length=e.all.length+1):=by show(e.all++ [bf.vg v]).length=_;simp
 have G:=bf.oZ e v;have Aw:=hid (xS (F:=F) (base:=base) (w:=w4) (b:=b) (e:=e.enter v) (dv:=dv) (g:=g) (cap:=B) e.all.length (bf.vg v) (by rw[Aj.out];exact A2.o) Aa.1 Aa.2 rfl rfl ht.out ⟨by have:=hr.seq;have:=G.seq1;omega,by have:=hr.qC;have:=G.tL;omega,by have:=hr.out;have:=G.out;have:=G.seq1;omega,by rw[Aj.out];omega,by have:=hr.fD;have:=G.drw1;omega⟩ ⟨hsu.v0,hsu.v1,hsu.w0,hsu.w1⟩ ⟨hd.len,hd.bd⟩);have B3:wrap64 ((e.all.length:Int)+1 - 1)=(e.all.length:Int):=by unfold wrap64;omega
 clear G;go_wp2_with fail;refine Aw.mono ?_;rintro en w5 ⟨rfl,An,Ap⟩;have Au:=hid An;have Ay:=hid (Ad.trans Ap);clear An Ap c5 v2;go_wp2;go_end0;exact⟨rfl,⟨_,HF.o▸Au.o⟩,Ay.o⟩
end Go.Proofs.YtehmdohpmpbnnaaGreatDoor
