import Derived.Test.YtehmdohpmpbnnaaGreatDoorQ00
import Derived.Test.YtehmdohpmpbnnaaGreatDoorQ14
import Derived.Test.YtehmdohpmpbnnaaGreatDoorQ16
import Derived.Test.YtehmdohpmpbnnaaGreatDoorQ17
import Derived.Deep.RegionHeld
set_option linter.all false
set_option maxRecDepth 100000
set_option maxHeartbeats 8000000
namespace Go.Proofs.YtehmdohpmpbnnaaGreatDoor
variable{i j:Nat}{o x:Ord}{w w':World}{al:List Ord}{l out odd:List Nat}
open Go.Proofs.Tryz
open Go.Extern Go.Maps Go.RowKit
theorem OA.alloc{q:Nat}(h:OA w q i o)(x:Obj):OA (w.alloc x) q i o:=⟨by rw[Below.heap_alloc _ _ _ h.lt];exact h.blk⟩
theorem zA3(h:Below w.heap.size w w')(o:Obj):Below w.heap.size w (w'.alloc o):=h.alloc h.size o
theorem dX{B:Nat}{a:World}(h:Below B a w):Below B a w.drew:=⟨h.os,h.tape,h.output,h.size,h.block⟩
def stV(a b c d e f g:Int):Value:=.agg #[iV a,iV b,iV c,iV d,iV e,iV f,iV g]
theorem zC6{q:Nat}(h:OA w q i o):
 Cl 112 #[iP q,iV 2] w fun en w'=>en=.returned (stV o.id 2 o.bn 0 o.bu 0 0)∧Below w.heap.size w w':=by
 have c0:w.cell? (iA q 0)=sI o.id:=h.cell 0;have K:w.cell? (iA q 3)=sI o.bn:=h.cell 3;have F:w.cell? (iA q 10)=sI o.bu:=h.cell 10;have C:=h.lt;have H:q≠w.heap.size:=Nat.ne_of_lt C;unfold stV;go_enter func112,ntmps112;go_wp2_with fail;have B:=h.alloc (.cells #[iV 0,iV 0,iV 0,iV 0,iV 0,iV 0,iV 0] 121);have E:=hid ((Below.refl w.heap.size w).alloc (Nat.le_refl _) (.cells #[iV 0,iV 0,iV 0,iV 0,iV 0,iV 0,iV 0] 121));have A:=heap_alloc_new w (.cells #[iV 0,iV 0,iV 0,iV 0,iV 0,iV 0,iV 0] 121);have I:(w.alloc (.cells #[iV 0,iV 0,iV 0,iV 0,iV 0,iV 0,iV 0] 121)).heap.size=w.heap.size+1:=by simp
 generalize w.alloc (.cells #[iV 0,iV 0,iV 0,iV 0,iV 0,iV 0,iV 0] 121)=W at *;have L:W.cell? (iA w.heap.size 0)=sI 0:=by simp[World.cell?,A]
 have U:W.frozen? (iA w.heap.size 0)=false:=by simp[World.frozen?,A]
 have M:W.cell? (iA w.heap.size 1)=sI 0:=by simp[World.cell?,A]
 have V:W.frozen? (iA w.heap.size 1)=false:=by simp[World.frozen?,A]
 have N:W.cell? (iA w.heap.size 2)=sI 0:=by simp[World.cell?,A]
 have Y:W.frozen? (iA w.heap.size 2)=false:=by simp[World.frozen?,A]
 have O:W.cell? (iA w.heap.size 3)=sI 0:=by simp[World.cell?,A]
 have Z:W.frozen? (iA w.heap.size 3)=false:=by simp[World.frozen?,A]
 have R:W.cell? (iA w.heap.size 4)=sI 0:=by simp[World.cell?,A]
 have b:W.frozen? (iA w.heap.size 4)=false:=by simp[World.frozen?,A]
 have S:W.cell? (iA w.heap.size 5)=sI 0:=by simp[World.cell?,A]
 have c:W.frozen? (iA w.heap.size 5)=false:=by simp[World.frozen?,A]
 have T:W.cell? (iA w.heap.size 6)=sI 0:=by simp[World.cell?,A]
 have d:W.frozen? (iA w.heap.size 6)=false:=by simp[World.frozen?,A]
 have D:w.heap.size<W.heap.size:=by omega
 have J:w.heap.size≠W.heap.size:=Nat.ne_of_lt D;clear A I;have c0:W.cell? (iA q 0)=sI o.id:=B.cell 0;have K:W.cell? (iA q 3)=sI o.bn:=B.cell 3;have F:W.cell? (iA q 10)=sI o.bu:=B.cell 10;have C:q<W.heap.size:=B.lt;have H:q≠W.heap.size:=Nat.ne_of_lt C;clear h B
 go_region_held (fun X=>X.cell? (iA q 0)=sI o.id∧X.cell? (iA q 3)=sI o.bn∧X.cell? (iA q 10)=sI o.bu) (go_keep) (fail)
 go_wp2;refine bodyPost_ret (v:=.agg #[iV o.id,iV 2,iV o.bn,iV 0,iV o.bu,iV 0,iV 0]) (by simp[results,Tryz.results112,go_sem,L,M,N,O,R,S,T,D,J]) rfl ⟨rfl,?_⟩;refine dX (zA3 ?_ _);have G:w.heap.size≤w.heap.size:=Nat.le_refl _;iterate 7 (refine Below.setCell ?_ G _)
 exact E.o
theorem zC7(e:bf)(i:Nat)(f:Ord→Ord)(hid:∀o,e.all[i]? =some o→(f o).id=o.id)(j:Nat):ru (e.upd i f).all j=ru e.all j:=by
 unfold ru;rw[bf.dL];by_cases h:i=j
 ·subst h;rw[if_pos rfl];rcases ho:e.all[i]? with _|o
  ·rfl
  exact hid o ho
 rw[if_neg h]
theorem zFs(e:bf)(i:Nat)(f:Ord→Ord)(j:Nat)(h:i≠j):kZ (e.upd i f).all j=kZ e.all j:=by
 unfold kZ;rw[bf.upd_ne _ _ _ _ h]
structure Alike(S:jk)(al al':List Ord):Prop where
 len:al'.length=al.length
 ids:∀j,ru al' j=ru al j
 st:∀j,j∈S.ended→kZ al' j=kZ al j
theorem Alike.upd{S:jk}(e:bf)(i:Nat)(f:Ord→Ord)(hid:∀o,e.all[i]? =some o→(f o).id=o.id)(hn:i∉S.ended):Alike S e.all (e.upd i f).all:=
 ⟨bf.kz _ _ _,zC7 e i f hid,fun j hj=>zFs e i f j (fun h=>hn (h▸hj))⟩
section
variable {F:Nat→Prop} {base:Nat} {w w':World} {b i:Nat} {e e':bf} {g:Gh} {S:jk} {o:Ord}
theorem xK.recast{al':List Ord}{gz:List Int}{drawn:Nat}(h:xK F base w al gz drawn g S)(ha:Alike S al al')(ho:∀(j:Nat) (x:Ord),al'[j]? =some x→x.dm=1→w.heap[g.blk j]? =some (.cells (x.code j) 202 (0,0))):xK F base w al' gz drawn g S:=by
 have A:(fun i=>(ru al' i,some (g.blk i)))=fun i=>(ru al i,some (g.blk i)):=by funext j;rw[ha.ids]
 have B:S.ended.map (fun i=>(ru al' i,kZ al' i))=S.ended.map fun i=>(ru al i,kZ al i):=List.map_congr_left fun j hj=>by rw[ha.ids,ha.st j hj]
 exact⟨A▸h.day,A▸h.qf,B▸h.ended,h.wz,h.xg,A▸h.aP,A▸h.sel,h.maps,ho,fun i j hi hj=>h.inj i j (ha.len▸hi) (ha.len▸hj),h.fD,h.jL,h.fd,fun i hi=>h.fo i (ha.len▸hi)⟩
theorem dw.recast(h:dw F base w b e g S)(hc:aF e' g=aF e g)(hx:e'.out=e.out)(hd:e'.gz=e.gz)(hn:e'.drawn=e.drawn)(ha:Alike S e.all e'.all)(ho:∀(j:Nat) (x:Ord),e'.all[j]? =some x→x.dm=1→∃y,e.all[j]? =some y∧y.dm=1∧x.code j=y.code j):dw F base w b e' g S:=by
 refine⟨hc▸h.blk,h.own,h.up,h.low,hx▸h.txt,?_,fun i hi=>h.old i (ha.len▸hi),h.fb⟩;rw[hd,hn];exact h.body.recast ha fun j x hj hs=>by
  obtain⟨y,A,B,C⟩:=ho j x hj hs;rw[C];exact h.body.ord j y A B
theorem dw.as(h:dw F base w b e g S)(ho:e.all[i]? =some o)(hs:o.dm=1)(hn:i∉S.ended)(f:Ord→Ord)(hid:(f o).id=o.id)(hc:(f o).dm=1→(f o).code i=o.code i):dw F base w b (e.upd i f) g S:=by
 refine h.recast rfl rfl rfl rfl (Alike.upd e i f (fun o' ho'=>?_) hn) fun j x hj hx=>?_
 ·obtain rfl:o=o':=Option.some.inj (ho.symm.trans ho');exact hid
 rw[bf.dL]at hj;by_cases A:i=j
 ·subst A;rw[if_pos rfl,ho]at hj;obtain rfl:f o=x:=Option.some.inj hj;exact⟨o,ho,hs,hc hx⟩
 rw[if_neg A]at hj;exact⟨x,hj,hx,rfl⟩
theorem dw.wr(h:dw F base w b e g S)(ho:e.all[i]? =some o)(hs:o.dm=1)(hn:i∉S.ended)(j:Nat)(u:Value)(f:Ord→Ord)(hid:(f o).id=o.id)(hc:(o.code i).setIfInBounds j u=(f o).code i):dw F base (w.setCell (iA (g.blk i) j) u) b (e.upd i f) g S∧Touch F w (w.setCell (iA (g.blk i) j) u):=by
 have M:=h.body.ord i o ho hs;have G:i<e.all.length:=(List.getElem?_eq_some_iff.1 ho).1;have m:=ja w (g.blk i) j u _ _ _ M;have R:∀k,k≠g.blk i→(w.setCell (iA (g.blk i) j) u).heap[k]? =w.heap[k]? :=fun k A=>Below.heap_setCell _ _ _ _ A
 have ne:∀{k:Nat} {c:Array Value} {t:TypeId} {f:Nat×Nat},w.heap[k]? =some (.cells c t f)→t≠202→(w.setCell (iA (g.blk i) j) u).heap[k]? =some (.cells c t f):=by
  intro k c t f A O;rw[R k (fun C=>by rw[C,M]at A;injection A with A;injection A with _ A _;exact O A.symm)];exact A
 have row:∀{B:Nat} {t:TypeId} {s:Nat} {v:Value} {n:Nat} {xs:List Value},w.ownsRow B t s v n xs→t≠202→(w.setCell (iA (g.blk i) j) u).ownsRow B t s v n xs:=by
  intro B t s v n xs X O;refine⟨X.1,?_⟩;rcases X.2 with L|⟨Y,J,K,p,Z,d,r⟩
  ·exact .inl L
  exact .inr ⟨Y,J,K,p,Z,ne d O,r⟩
 have H:∀{V:Type} {E:Elem V} {x:Nat} {l:List (Int×V)},PM E prog 3 w x l→PM E prog 3 (w.setCell (iA (g.blk i) j) u) x l:=by
  intro V E x l U;obtain⟨q,c,T⟩:=U.is_map;exact U.of_block (R x (fun C=>by rw[C,M]at T;cases T))
 refine⟨⟨ne h.blk (by decide),h.own,fun k A=>h.up k (by simpa using A),by simpa using h.low,⟨row h.txt.row (by decide),h.txt.own⟩,?_,fun j hj=>by rw[bf.kz]at hj;simpa using h.old j hj,h.fb⟩,(Touch.refl F w).set _ _ _ (h.body.fo i G)⟩;have D:Alike S e.all (e.upd i f).all:=Alike.upd e i f (fun o' ho'=>by
  obtain rfl:o=o':=Option.some.inj (ho.symm.trans ho');exact hid) hn
 have I:(fun k=>(ru (e.upd i f).all k,some (g.blk k)))=fun k=>(ru e.all k,some (g.blk k)):=by funext k;rw[D.ids]
 have L:S.ended.map (fun k=>(ru (e.upd i f).all k,kZ (e.upd i f).all k))=S.ended.map fun k=>(ru e.all k,kZ e.all k):=List.map_congr_left fun k A=>by rw[D.ids,D.st k A]
 have B:=h.body;refine⟨I▸H B.day,I▸H B.qf,L▸H B.ended,ne B.wz (by decide),ne B.xg (by decide),I▸H B.aP,I▸H B.sel,B.maps,fun k x A hx=>?_,fun k l A hl=>B.inj k l (D.len▸A) (D.len▸hl),ne B.fD (by decide),row B.jL (by decide),B.fd,fun k A=>B.fo k (D.len▸A)⟩;rw[bf.dL]at A;by_cases C:i=k
 ·subst C;rw[if_pos rfl,ho]at A;obtain rfl:f o=x:=Option.some.inj A;rw[m,hc]
 rw[if_neg C]at A;have N:k<e.all.length:=(List.getElem?_eq_some_iff.1 A).1;rw[R _ (fun e2=>C (B.inj i k G N e2.symm))];exact B.ord k x A hx
theorem dw.touch_same(hs:Same w w'):Touch F w w':=hs.touch
end
structure Holds(e:bf)(S:jk)(out odd:List Nat):Prop where
 day:∀j,j∈S.day↔∃o,e.all[j]? =some o∧o.dm=1∧o.jr=1∧j∉out
 qf:∀j,j∈S.qf↔∃o,e.all[j]? =some o∧o.dm=1∧¬o.jr=1∧j∉out
 ended:∀j,j∈S.ended↔∃o,e.all[j]? =some o∧¬o.dm=1
 lS:∀j,j∈S.aP→∃o,e.all[j]? =some o∧o.side=1∧(¬o.bg=0∨j∈odd)
 vZ:∀j o,e.all[j]? =some o→o.side=1→¬o.bg=0→j∉odd→j∈S.aP
 lT:∀j,j∈S.sel→∃o,e.all[j]? =some o∧¬o.side=1∧(¬o.bg=0∨j∈odd)
 wB:∀j o,e.all[j]? =some o→¬o.side=1→¬o.bg=0→j∉odd→j∈S.sel
theorem Holds.live{e:bf}{S:jk}(h:Holds e S out odd)(ho:e.all[i]? =some o)(hs:o.dm=1):i∉S.ended:=by
 intro C;obtain⟨D,A,B⟩:=(h.ended i).1 C;obtain rfl:o=D:=Option.some.inj (ho.symm.trans A);exact B hs
theorem zFt{id:Int}:j∈less al l id↔j∈l∧ru al j≠id:=by simp[less]
theorem eP(e:bf)(i:Nat)(f:Ord→Ord)(hid:∀o,e.all[i]? =some o→(f o).id=o.id)(l:List Nat)(id:Int):less (e.upd i f).all l id=less e.all l id:=by
 unfold less
 congr 1
 funext j
 rw[zC7 e i f hid]
theorem zn(h:al[i]? =some o):ru al i=o.id:=by unfold ru;rw[h]
theorem bf.fe.id_ne{e:bf}(h:bf.fe e){y:Ord}(hx:e.all[i]? =some x)(hy:e.all[j]? =some y):ru e.all j≠x.id↔j≠i:=by
 rw[zn hy];constructor
 ·rintro A rfl;obtain rfl:x=y:=Option.some.inj (hx.symm.trans hy);exact A rfl
 intro A B;exact A (h.ids j i y x hy hx B)
def jk.lay(S:jk)(al:List Ord)(o:Ord)(i:Nat):jk:=if o.side=1 then{ S with aP:=less al S.aP o.id++ [i] } else{ S with sel:=less al S.sel o.id++ [i] }
def jk.off(S:jk)(al:List Ord)(o:Ord):jk:=if o.side=1 then{ S with aP:=less al S.aP o.id } else{ S with sel:=less al S.sel o.id }
def jk.leave(S:jk)(al:List Ord)(o:Ord):jk:=if o.jr=1 then{ S with day:=less al S.day o.id } else{ S with qf:=less al S.qf o.id }
def jk.join(S:jk)(al:List Ord)(o:Ord)(i:Nat):jk:=if o.jr=1 then{ S with day:=less al S.day o.id++ [i] } else{ S with qf:=less al S.qf o.id++ [i] }
def jk.fin(S:jk)(al:List Ord)(o:Ord)(i:Nat):jk:={ S with ended:=less al S.ended o.id++ [i] }
structure jk.Small(S:jk)(n:Nat):Prop where
 day:S.day.length≤n
 qf:S.qf.length≤n
 ended:S.ended.length≤n
 aP:S.aP.length≤n
 sel:S.sel.length≤n
section
variable {e:bf} {S:jk} {out odd out' odd':List Nat} {i:Nat} {o:Ord} {f:Ord→Ord}
theorem nY(ho:e.all[i]? =some o)(h:(e.upd i f).all[j]? =some x):(j=i∧x=f o)∨(j≠i∧e.all[j]? =some x):=by
 rw[bf.dL]at h;by_cases A:i=j
 ·subst A;rw[if_pos rfl,ho]at h;exact .inl ⟨rfl,(Option.some.inj h).symm⟩
 rw[if_neg A]at h;exact .inr ⟨fun e2=>A e2.symm,h⟩
theorem rC(ho:e.all[i]? =some o)(P:Ord→Prop)(j:Nat):(∃x,(e.upd i f).all[j]? =some x∧P x)↔(j=i∧P (f o))∨(j≠i∧∃x,e.all[j]? =some x∧P x):=by
 constructor
 ·rintro⟨x,C,A⟩;rcases nY ho C with⟨B,rfl⟩|⟨B,D⟩
  ·exact .inl ⟨B,A⟩
  exact .inr ⟨B,x,D,A⟩
 rintro(⟨rfl,A⟩|⟨B,x,C,A⟩)
 ·exact⟨f o,bf.upd_same e j f o ho,A⟩
 exact⟨x,(bf.upd_ne e i j f (fun e2=>B e2.symm)).trans C,A⟩
theorem pK(ho:e.all[i]? =some o)(P:Ord→Prop):(∃x,e.all[i]? =some x∧P x)↔P o:=
 ⟨fun⟨x,hx,hp⟩=>by obtain rfl:o=x:=Option.some.inj (ho.symm.trans hx);exact hp,fun hp=>⟨o,ho,hp⟩⟩
theorem zAr(ho:e.all[i]? =some o)(P:Ord→Prop)(hp:P (f o)↔P o)(j:Nat):(∃x,(e.upd i f).all[j]? =some x∧P x)↔∃x,e.all[j]? =some x∧P x:=by
 rw[rC ho];by_cases h:j=i
 ·subst h;rw[pK ho];simp[hp]
 simp[h]
theorem Holds.upd(h:Holds e S out odd)(ho:e.all[i]? =some o)(h1:(f o).dm=o.dm)(h2:(f o).jr=o.jr)(h3:(f o).side=o.side)(hodd:∀j,j≠i→(j∈odd'↔j∈odd))(hi:i∈odd'∨(i∉odd∧((f o).bg=0↔o.bg=0))):Holds (e.upd i f) S out odd':=by
 refine⟨fun j=>?_,fun j=>?_,fun j=>?_,fun j hj=>?_,fun j x hx hs hn hq=>?_,fun j hj=>?_,fun j x hx hs hn hq=>?_⟩
 ·rw[h.day,zAr ho (fun x=>x.dm=1∧x.jr=1∧j∉out) (by rw[h1,h2])]
 ·rw[h.qf,zAr ho (fun x=>x.dm=1∧¬x.jr=1∧j∉out) (by rw[h1,h2])]
 ·rw[h.ended,zAr ho (fun x=> ¬x.dm=1) (by rw[h1])]
 ·rw[rC ho (fun x=>x.side=1∧(¬x.bg=0∨j∈odd'))];by_cases A:j=i
  ·subst A;have:=(pK ho _).1 (h.lS j hj);rcases hi with hi|⟨hi,B⟩
   ·exact .inl ⟨rfl,h3▸this.1,.inr hi⟩
   exact .inl ⟨rfl,h3▸this.1,.inl (by rw[B];exact this.2.resolve_right hi)⟩
  refine .inr ⟨A,?_⟩;rw[hodd j A];exact h.lS j hj
 ·rcases nY ho hx with⟨rfl,rfl⟩|⟨A,C⟩
  ·rcases hi with hi|⟨hi,B⟩
   ·exact absurd hi hq
   exact h.vZ j o ho (h3▸hs) (by rw[←B];exact hn) hi
  exact h.vZ j x C hs hn (by rw[←hodd j A];exact hq)
 ·rw[rC ho (fun x=> ¬x.side=1∧(¬x.bg=0∨j∈odd'))];by_cases A:j=i
  ·subst A;have:=(pK ho _).1 (h.lT j hj);rcases hi with hi|⟨hi,B⟩
   ·exact .inl ⟨rfl,h3▸this.1,.inr hi⟩
   exact .inl ⟨rfl,h3▸this.1,.inl (by rw[B];exact this.2.resolve_right hi)⟩
  refine .inr ⟨A,?_⟩;rw[hodd j A];exact h.lT j hj
 rcases nY ho hx with⟨rfl,rfl⟩|⟨A,C⟩
 ·rcases hi with hi|⟨hi,B⟩
  ·exact absurd hi hq
  exact h.wB j o ho (h3▸hs) (by rw[←B];exact hn) hi
 exact h.wB j x C hs hn (by rw[←hodd j A];exact hq)
theorem jS(inv:bf.fe e)(ho:e.all[i]? =some o)(hl:∀j∈l,∃x,e.all[j]? =some x)(j:Nat):j∈less e.all l o.id↔j∈l∧j≠i:=by
 rw[zFt];constructor
 ·rintro⟨A,B⟩;obtain⟨x,C⟩:=hl j A;exact⟨A,(inv.id_ne ho C).1 B⟩
 rintro⟨A,B⟩;obtain⟨x,C⟩:=hl j A;exact⟨A,(inv.id_ne ho C).2 B⟩
theorem Holds.lay(h:Holds e S out odd)(inv:bf.fe e)(ho:e.all[i]? =some o)(h1:(f o).dm=o.dm)(h2:(f o).jr=o.jr)(h3:(f o).side=o.side)(hodd:∀j∈odd,j=i)(hn:¬(f o).bg=0):Holds (e.upd i f) (S.lay e.all o i) out []:=by
 have B:=h.upd (f:=f) (odd':=[i]) ho h1 h2 h3 (fun j A=>⟨fun hc=>absurd (by simpa using hc) A,fun hc=>absurd (hodd j hc) A⟩) (.inl (by simp));have J:=bf.upd_same e i f o ho;unfold jk.lay;by_cases F:o.side=1
 ·rw[if_pos F];have K:=jS inv ho (l:=S.aP) (fun j A=>by obtain⟨x,C,_⟩:=h.lS j A;exact⟨x,C⟩);refine⟨B.day,B.qf,B.ended,fun j A=>?_,fun j x C hs' hn' _=>?_,fun j A=>?_,fun j x C hs' hn' _=>?_⟩
  ·rcases List.mem_append.1 A with A|A
   ·obtain⟨A,H⟩:=(K j).1 A;obtain⟨x,D,E,I⟩:=B.lS j A;exact⟨x,D,E,.inl (I.resolve_right (by simpa using H))⟩
   obtain rfl:j=i:=by simpa using A
   exact⟨f o,J,h3▸F,.inl hn⟩
  ·by_cases G:j=i
   ·exact List.mem_append_right _ (by simp[G])
   exact List.mem_append_left _ ((K j).2 ⟨B.vZ j x C hs' hn' (by simpa using G),G⟩)
  ·obtain⟨x,D,E,I⟩:=B.lT j A;refine⟨x,D,E,.inl (I.resolve_right (fun hc=>E ?_))⟩;obtain rfl:j=i:=by simpa using hc
   obtain rfl:f o=x:=Option.some.inj (J.symm.trans D);rw[h3];exact F
  refine B.wB j x C hs' hn' (fun hc=>hs' ?_);obtain rfl:j=i:=by simpa using hc
  obtain rfl:f o=x:=Option.some.inj (J.symm.trans C);rw[h3];exact F
 rw[if_neg F];have K:=jS inv ho (l:=S.sel) (fun j A=>by obtain⟨x,C,_⟩:=h.lT j A;exact⟨x,C⟩);refine⟨B.day,B.qf,B.ended,fun j A=>?_,fun j x C hs' hn' _=>?_,fun j A=>?_,fun j x C hs' hn' _=>?_⟩
 ·obtain⟨x,D,E,I⟩:=B.lS j A;refine⟨x,D,E,.inl (I.resolve_right (fun hc=>F ?_))⟩;obtain rfl:j=i:=by simpa using hc
  obtain rfl:f o=x:=Option.some.inj (J.symm.trans D);rw[←h3];exact E
 ·refine B.vZ j x C hs' hn' (fun hc=>F ?_);obtain rfl:j=i:=by simpa using hc
  obtain rfl:f o=x:=Option.some.inj (J.symm.trans C);rw[←h3];exact hs'
 ·rcases List.mem_append.1 A with A|A
  ·obtain⟨A,H⟩:=(K j).1 A;obtain⟨x,D,E,I⟩:=B.lT j A;exact⟨x,D,E,.inl (I.resolve_right (by simpa using H))⟩
  obtain rfl:j=i:=by simpa using A
  exact⟨f o,J,h3▸F,.inl hn⟩
 by_cases G:j=i
 ·exact List.mem_append_right _ (by simp[G])
 exact List.mem_append_left _ ((K j).2 ⟨B.wB j x C hs' hn' (by simpa using G),G⟩)
theorem Holds.off(h:Holds e S out odd)(inv:bf.fe e)(ho:e.all[i]? =some o)(h1:(f o).dm=o.dm)(h2:(f o).jr=o.jr)(h3:(f o).side=o.side)(hodd:∀j∈odd,j=i)(hn:(f o).bg=0):Holds (e.upd i f) (S.off e.all o) out []:=by
 have C:=h.upd (f:=f) (odd':=[i]) ho h1 h2 h3 (fun j A=>⟨fun hc=>absurd (by simpa using hc) A,fun hc=>absurd (hodd j hc) A⟩) (.inl (by simp));have L:=bf.upd_same e i f o ho;have D:∀j x,(e.upd i f).all[j]? =some x→¬x.bg=0→j∉[i]:=fun j x B hn' hc=>hn' (by
  obtain rfl:j=i:=by simpa using hc
  obtain rfl:f o=x:=Option.some.inj (L.symm.trans B);exact hn)
 unfold jk.off;by_cases K:o.side=1
 ·rw[if_pos K];have I:=jS inv ho (l:=S.aP) (fun j A=>by obtain⟨x,B,_⟩:=h.lS j A;exact⟨x,B⟩);refine⟨C.day,C.qf,C.ended,fun j A=>?_,fun j x B hs' hn' _=>?_,fun j A=>?_,fun j x B hs' hn' _=>C.wB j x B hs' hn' (D j x B hn')⟩
  ·obtain⟨A,G⟩:=(I j).1 A;obtain⟨x,E,F,H⟩:=C.lS j A;exact⟨x,E,F,.inl (H.resolve_right (by simpa using G))⟩
  ·have J:=D j x B hn';exact(I j).2 ⟨C.vZ j x B hs' hn' J,by simpa using J⟩
  obtain⟨x,E,F,H⟩:=C.lT j A;refine⟨x,E,F,.inl (H.resolve_right (fun hc=>F ?_))⟩;obtain rfl:j=i:=by simpa using hc
  obtain rfl:f o=x:=Option.some.inj (L.symm.trans E);rw[h3];exact K
 rw[if_neg K];have I:=jS inv ho (l:=S.sel) (fun j A=>by obtain⟨x,B,_⟩:=h.lT j A;exact⟨x,B⟩);refine⟨C.day,C.qf,C.ended,fun j A=>?_,fun j x B hs' hn' _=>C.vZ j x B hs' hn' (D j x B hn'),fun j A=>?_,fun j x B hs' hn' _=>?_⟩
 ·obtain⟨x,E,F,H⟩:=C.lS j A;refine⟨x,E,F,.inl (H.resolve_right (fun hc=>K ?_))⟩;obtain rfl:j=i:=by simpa using hc
  obtain rfl:f o=x:=Option.some.inj (L.symm.trans E);rw[←h3];exact F
 ·obtain⟨A,G⟩:=(I j).1 A;obtain⟨x,E,F,H⟩:=C.lT j A;exact⟨x,E,F,.inl (H.resolve_right (by simpa using G))⟩
 have J:=D j x B hn';exact(I j).2 ⟨C.wB j x B hs' hn' J,by simpa using J⟩
theorem Holds.leave(h:Holds e S out odd)(inv:bf.fe e)(ho:e.all[i]? =some o):Holds e (S.leave e.all o) (i::out) odd:=by
 unfold jk.leave;have C:=jS inv ho (l:=S.day) (fun j hj=>by obtain⟨x,B,_⟩:=(h.day j).1 hj;exact⟨x,B⟩);have D:=jS inv ho (l:=S.qf) (fun j hj=>by obtain⟨x,B,_⟩:=(h.qf j).1 hj;exact⟨x,B⟩);by_cases A:o.jr=1
 ·rw[if_pos A];refine⟨fun j=>?_,fun j=>?_,h.ended,h.lS,h.vZ,h.lT,h.wB⟩
  ·show j∈less e.all S.day o.id↔_;rw[C,h.day];simp only[List.mem_cons,not_or];exact⟨fun⟨⟨x,a,b,c,d⟩,q⟩=>⟨x,a,b,c,q,d⟩,fun⟨x,a,b,c,q,d⟩=>⟨⟨x,a,b,c,d⟩,q⟩⟩
  show j∈S.qf↔_;rw[h.qf];simp only[List.mem_cons,not_or];refine⟨fun⟨x,a,b,c,d⟩=>⟨x,a,b,c,?_,d⟩,fun⟨x,a,b,c,q,d⟩=>⟨x,a,b,c,d⟩⟩;rintro rfl;obtain rfl:o=x:=Option.some.inj (ho.symm.trans a);exact c A
 rw[if_neg A];refine⟨fun j=>?_,fun j=>?_,h.ended,h.lS,h.vZ,h.lT,h.wB⟩
 ·show j∈S.day↔_;rw[h.day];simp only[List.mem_cons,not_or];refine⟨fun⟨x,a,b,c,d⟩=>⟨x,a,b,c,?_,d⟩,fun⟨x,a,b,c,q,d⟩=>⟨x,a,b,c,d⟩⟩;rintro rfl;obtain rfl:o=x:=Option.some.inj (ho.symm.trans a);exact A c
 show j∈less e.all S.qf o.id↔_;rw[D,h.qf];simp only[List.mem_cons,not_or];exact⟨fun⟨⟨x,a,b,c,d⟩,q⟩=>⟨x,a,b,c,q,d⟩,fun⟨x,a,b,c,q,d⟩=>⟨⟨x,a,b,c,d⟩,q⟩⟩
theorem Holds.fin(h:Holds e S out odd)(inv:bf.fe e)(ho:e.all[i]? =some o)(hs:o.dm=1)(hi:i∈out)(h1:¬(f o).dm=1)(h3:(f o).side=o.side)(h4:(f o).bg=0)(h5:o.bg=0)(hodd:i∉odd)(hout:∀j,j≠i→(j∈out'↔j∈out)):Holds (e.upd i f) (S.fin e.all o i) out' odd:=by
 have D:=jS inv ho (l:=S.ended) (fun j hj=>by obtain⟨x,B,_⟩:=(h.ended j).1 hj;exact⟨x,B⟩);refine⟨fun j=>?_,fun j=>?_,fun j=>?_,fun j hj=>?_,fun j x B hs' hn hq=>?_,fun j hj=>?_,fun j x B hs' hn hq=>?_⟩
 ·show j∈S.day↔_;rw[h.day,rC ho (fun x=>x.dm=1∧x.jr=1∧j∉out')];by_cases A:j=i
  ·subst A;rw[pK ho (fun x=>x.dm=1∧x.jr=1∧j∉out)];simp[hi,h1]
  simp[A,hout j A]
 ·show j∈S.qf↔_;rw[h.qf,rC ho (fun x=>x.dm=1∧¬x.jr=1∧j∉out')];by_cases A:j=i
  ·subst A;rw[pK ho (fun x=>x.dm=1∧¬x.jr=1∧j∉out)];simp[hi,h1]
  simp[A,hout j A]
 ·show j∈less e.all S.ended o.id++ [i]↔_;rw[List.mem_append,D,h.ended,rC ho (fun x=> ¬x.dm=1)];by_cases A:j=i
  ·subst A;simp[h1]
  simp[A]
 ·rw[rC ho (fun x=>x.side=1∧(¬x.bg=0∨j∈odd))];by_cases A:j=i
  ·subst A;have:=(pK ho _).1 (h.lS j hj);exact absurd this.2 (by simp[h5,hodd])
  exact .inr ⟨A,h.lS j hj⟩
 ·rcases nY ho B with⟨rfl,rfl⟩|⟨A,C⟩
  ·exact absurd h4 hn
  exact h.vZ j x C hs' hn hq
 ·rw[rC ho (fun x=> ¬x.side=1∧(¬x.bg=0∨j∈odd))];by_cases A:j=i
  ·subst A;have:=(pK ho _).1 (h.lT j hj);exact absurd this.2 (by simp[h5,hodd])
  exact .inr ⟨A,h.lT j hj⟩
 rcases nY ho B with⟨rfl,rfl⟩|⟨A,C⟩
 ·exact absurd h4 hn
 exact h.wB j x C hs' hn hq
theorem Holds.vz{e':bf}(h:Holds e S out odd)(ha:e'.all=e.all):Holds e' S out odd:=by
 obtain⟨a,b,c,d,A,B,C⟩:=h;constructor<;>rw[ha]<;>assumption
end
section
variable {F:Nat→Prop} {base:Nat} {w:World} {b q i:Nat} {e:bf} {g:Gh} {S:jk} {o:Ord}
theorem gT(h:dw F base w b e g S)(ho:OA w q i o)(hs:o.side=1):
 Cl 166 #[iP b,iP q] w fun en w'=>en=rV #[.iface 167 (iP g.wz),.iface 173 (iP g.xg)]∧Same w w':=by
 have A:w.cell? (iA b 11)=some (.iface 167 (iP g.wz)):=h.cell 11;have B:w.cell? (iA b 12)=some (.iface 173 (iP g.xg)):=h.cell 12;have c1:cI w q 1 o.side:=ho.cell 1;have C:(o.side == 1)=true:=by simpa using hs
 go_enter func166,ntmps166;go_wp2_with fail;go_quiet (fail);go_wp2_with fail;exact bodyPost_ret (v:=.tuple #[.iface 167 (iP g.wz),.iface 173 (iP g.xg)]) (by simp[results,Tryz.results166,go_sem]) rfl ⟨rfl,(Same.refl w).drewN nq⟩
theorem gU(h:dw F base w b e g S)(ho:OA w q i o)(hs:¬o.side=1):
 Cl 166 #[iP b,iP q] w fun en w'=>en=rV #[.iface 173 (iP g.xg),.iface 167 (iP g.wz)]∧Same w w':=by
 have A:w.cell? (iA b 11)=some (.iface 167 (iP g.wz)):=h.cell 11;have B:w.cell? (iA b 12)=some (.iface 173 (iP g.xg)):=h.cell 12;have c1:cI w q 1 o.side:=ho.cell 1;have C:(o.side == 1)=false:=by simpa using hs
 go_enter func166,ntmps166;go_wp2_with fail;go_quiet (fail);go_wp2_with fail;exact bodyPost_ret (v:=.tuple #[.iface 173 (iP g.xg),.iface 167 (iP g.wz)]) (by simp[results,Tryz.results166,go_sem]) rfl ⟨rfl,(Same.refl w).drewN nq⟩
theorem zFu(n:Int)(h:dw F base w b e g S)(ho:e.all[i]? =some o)(hst:o.dm=1)(hne:i∉S.ended)(hid63:aD o.id)(hq:e.dh<4611686018427387904)(hl:S.aP.length≤1000000000)(hs:o.side=1):
 Cl 174 #[iP b,iP (g.blk i),iV n] w fun en w'=>en=rV #[]∧dw F base w' b ({ e with dh:=e.dh+1 }.upd i fun o=>{ o with dh:=(e.dh+1:Nat),bg:=n }) g (S.lay e.all o i)∧Touch F w w':=by
 have B:=h.oa ho hst;have V:cI w b 13 (e.dh:Int):=h.cell 13;have d:=h.dz 13;have X:cI w (g.blk i) 11 o.bg:=B.cell 11;have Z:=B.dz 11;have Y:cI w (g.blk i) 12 o.dh:=B.cell 12;have c:=B.dz 12;have O:b≠g.blk i:=fun e1=>by
  have:=h.blk;rw[e1,B.blk]at this;injection this with this;injection this with _ this _;exact absurd this (by decide)
 have T:g.blk i≠b:=fun e1=>O e1.symm
 have m:wrap64 ((e.dh:Int)+1)=(e.dh:Int)+1:=by unfold wrap64;omega
 have I:dw F base (w.setCell (iA b 13) (iV ((e.dh:Int)+1))) b { e with dh:=e.dh+1 } g S:=h.set 13 _ { e with dh:=e.dh+1 } (by simp[aF]) rfl rfl rfl rfl;have K:Touch F w (w.setCell (iA b 13) (iV ((e.dh:Int)+1))):=(Touch.refl F w).set b _ _ h.own;obtain⟨J,L⟩:=I.wr ho hst hne 12 (iV ((e.dh:Int)+1)) (fun o=>{ o with dh:=(e.dh+1:Nat) }) rfl (by simp[Ord.code]);obtain⟨A,M⟩:=J.wr (o:={ o with dh:=(e.dh+1:Nat) }) (bf.upd_same _ i _ o ho) hst hne 11 (iV n) (fun o=>{ o with bg:=n }) rfl (by simp[Ord.code]);rw[bf.aV]at A;have l:=(K.trans L).trans M;have D:({ e with dh:=e.dh+1 }.upd i fun o=>{ o with dh:=(e.dh+1:Nat),bg:=n }).all[i]? =some { o with dh:=(e.dh+1:Nat),bg:=n }:=bf.upd_same { e with dh:=e.dh+1 } i _ o ho;have C:=A.oa D hst;have G:=hid (gT A C hs)
 have E:Hd (∀W,Same (((w.setCell (iA b 13) (iV ((e.dh:Int)+1))).setCell (iA (g.blk i) 12) (iV ((e.dh:Int)+1))).setCell (iA (g.blk i) 11) (iV n)) W→Cl 248 #[iP g.wz,iP (g.blk i)] W fun en w'=>en=rV #[]∧Hd (dw F base w' b ({ e with dh:=e.dh+1 }.upd i fun o=>{ o with dh:=(e.dh+1:Nat),bg:=n }) g (S.lay e.all o i)∧Touch F w w')):=by
  intro W N;refine(zFn (o:={ o with dh:=(e.dh+1:Nat),bg:=n }) (A.same N) (C.same N) hid63 (zn D) hl).mono ?_;rintro en w' ⟨rfl,f,j,_⟩;refine⟨rfl,?_,l.trans (N.touch.trans j)⟩;have k:S.lay e.all o i={ S with aP:=less e.all S.aP o.id++ [i] }:=if_pos hs;rw[k,←eP { e with dh:=e.dh+1 } i (fun o=>{ o with dh:=(e.dh+1:Nat),bg:=n }) (fun _ _=>rfl)];exact f
 go_enter func174,ntmps174;go_wp2_with fail;refine G.mono ?_;rintro en p ⟨rfl,R⟩;have H:=hid R;go_wp2_with fail;refine(E p H).mono ?_;rintro en s ⟨rfl,U⟩;go_wp2;go_end0;exact⟨rfl,U⟩
theorem zFv(n:Int)(h:dw F base w b e g S)(ho:e.all[i]? =some o)(hst:o.dm=1)(hne:i∉S.ended)(hid63:aD o.id)(hq:e.dh<4611686018427387904)(hl:S.sel.length≤1000000000)(hs:¬o.side=1):
 Cl 174 #[iP b,iP (g.blk i),iV n] w fun en w'=>en=rV #[]∧dw F base w' b ({ e with dh:=e.dh+1 }.upd i fun o=>{ o with dh:=(e.dh+1:Nat),bg:=n }) g (S.lay e.all o i)∧Touch F w w':=by
 have B:=h.oa ho hst;have V:cI w b 13 (e.dh:Int):=h.cell 13;have d:=h.dz 13;have X:cI w (g.blk i) 11 o.bg:=B.cell 11;have Z:=B.dz 11;have Y:cI w (g.blk i) 12 o.dh:=B.cell 12;have c:=B.dz 12;have O:b≠g.blk i:=fun e1=>by
  have:=h.blk;rw[e1,B.blk]at this;injection this with this;injection this with _ this _;exact absurd this (by decide)
 have T:g.blk i≠b:=fun e1=>O e1.symm
 have m:wrap64 ((e.dh:Int)+1)=(e.dh:Int)+1:=by unfold wrap64;omega
 have I:dw F base (w.setCell (iA b 13) (iV ((e.dh:Int)+1))) b { e with dh:=e.dh+1 } g S:=h.set 13 _ { e with dh:=e.dh+1 } (by simp[aF]) rfl rfl rfl rfl;have K:Touch F w (w.setCell (iA b 13) (iV ((e.dh:Int)+1))):=(Touch.refl F w).set b _ _ h.own;obtain⟨J,L⟩:=I.wr ho hst hne 12 (iV ((e.dh:Int)+1)) (fun o=>{ o with dh:=(e.dh+1:Nat) }) rfl (by simp[Ord.code]);obtain⟨A,M⟩:=J.wr (o:={ o with dh:=(e.dh+1:Nat) }) (bf.upd_same _ i _ o ho) hst hne 11 (iV n) (fun o=>{ o with bg:=n }) rfl (by simp[Ord.code]);rw[bf.aV]at A;have l:=(K.trans L).trans M;have D:({ e with dh:=e.dh+1 }.upd i fun o=>{ o with dh:=(e.dh+1:Nat),bg:=n }).all[i]? =some { o with dh:=(e.dh+1:Nat),bg:=n }:=bf.upd_same { e with dh:=e.dh+1 } i _ o ho;have C:=A.oa D hst;have G:=hid (gU A C hs)
 have E:Hd (∀W,Same (((w.setCell (iA b 13) (iV ((e.dh:Int)+1))).setCell (iA (g.blk i) 12) (iV ((e.dh:Int)+1))).setCell (iA (g.blk i) 11) (iV n)) W→Cl 248 #[iP g.xg,iP (g.blk i)] W fun en w'=>en=rV #[]∧Hd (dw F base w' b ({ e with dh:=e.dh+1 }.upd i fun o=>{ o with dh:=(e.dh+1:Nat),bg:=n }) g (S.lay e.all o i)∧Touch F w w')):=by
  intro W N;refine(zFp (o:={ o with dh:=(e.dh+1:Nat),bg:=n }) (A.same N) (C.same N) hid63 (zn D) hl).mono ?_;rintro en w' ⟨rfl,f,j,_⟩;refine⟨rfl,?_,l.trans (N.touch.trans j)⟩;have k:S.lay e.all o i={ S with sel:=less e.all S.sel o.id++ [i] }:=if_neg hs;rw[k,←eP { e with dh:=e.dh+1 } i (fun o=>{ o with dh:=(e.dh+1:Nat),bg:=n }) (fun _ _=>rfl)];exact f
 go_enter func174,ntmps174;go_wp2_with fail;refine G.mono ?_;rintro en p ⟨rfl,R⟩;have H:=hid R;go_wp2_with fail;refine(E p H).mono ?_;rintro en s ⟨rfl,U⟩;go_wp2;go_end0;exact⟨rfl,U⟩
theorem wC(h:dw F base w b e g S)(ho:e.all[i]? =some o)(hst:o.dm=1)(hne:i∉S.ended)(hid63:aD o.id)(hs:o.side=1):
 Cl 173 #[iP b,iP (g.blk i)] w fun en w'=>en=rV #[]∧dw F base w' b (e.upd i fun o=>{ o with bg:=0 }) g (S.off e.all o)∧Touch F w w':=by
 have H:=h.oa ho hst;have B:=hid (gT h H hs);have A:Hd (∀W,Same w W→Cl 251 #[iP g.wz,iP (g.blk i)] W fun en w'=>en=rV #[]∧cI w' (g.blk i) 11 o.bg∧w'.frozen? (iA (g.blk i) 11)=false∧Hd (dw F base (w'.setCell (iA (g.blk i) 11) (iV 0)) b (e.upd i fun o=>{ o with bg:=0 }) g (S.off e.all o)∧Touch F w (w'.setCell (iA (g.blk i) 11) (iV 0)))):=by
  intro W D;refine(zFm (h.same D) (H.same D) hid63).mono ?_;rintro en w' ⟨rfl,L,M,G⟩;have N:S.off e.all o={ S with aP:=less e.all S.aP o.id }:=if_pos hs;obtain⟨O,R⟩:=L.wr ho hst hne 11 (iV 0) (fun o=>{ o with bg:=0 }) rfl (by simp[Ord.code]);rw[N];exact⟨rfl,G.cell 11,G.dz 11,O,(D.touch.trans M).trans R⟩
 go_enter func173,ntmps173;go_wp2_with fail;refine B.mono ?_;rintro en T ⟨rfl,E⟩;have C:=hid E;go_wp2_with fail;refine(A T C).mono ?_;rintro en U ⟨rfl,J,K,I⟩;go_wp2;go_end0;exact⟨rfl,I⟩
theorem wD(h:dw F base w b e g S)(ho:e.all[i]? =some o)(hst:o.dm=1)(hne:i∉S.ended)(hid63:aD o.id)(hs:¬o.side=1):
 Cl 173 #[iP b,iP (g.blk i)] w fun en w'=>en=rV #[]∧dw F base w' b (e.upd i fun o=>{ o with bg:=0 }) g (S.off e.all o)∧Touch F w w':=by
 have H:=h.oa ho hst;have B:=hid (gU h H hs);have A:Hd (∀W,Same w W→Cl 251 #[iP g.xg,iP (g.blk i)] W fun en w'=>en=rV #[]∧cI w' (g.blk i) 11 o.bg∧w'.frozen? (iA (g.blk i) 11)=false∧Hd (dw F base (w'.setCell (iA (g.blk i) 11) (iV 0)) b (e.upd i fun o=>{ o with bg:=0 }) g (S.off e.all o)∧Touch F w (w'.setCell (iA (g.blk i) 11) (iV 0)))):=by
  intro W D;refine(zFo (h.same D) (H.same D) hid63).mono ?_;rintro en w' ⟨rfl,L,M,G⟩;have N:S.off e.all o={ S with sel:=less e.all S.sel o.id }:=if_neg hs;obtain⟨O,R⟩:=L.wr ho hst hne 11 (iV 0) (fun o=>{ o with bg:=0 }) rfl (by simp[Ord.code]);rw[N];exact⟨rfl,G.cell 11,G.dz 11,O,(D.touch.trans M).trans R⟩
 go_enter func173,ntmps173;go_wp2_with fail;refine B.mono ?_;rintro en T ⟨rfl,E⟩;have C:=hid E;go_wp2_with fail;refine(A T C).mono ?_;rintro en U ⟨rfl,J,K,I⟩;go_wp2;go_end0;exact⟨rfl,I⟩
theorem zC8(n:Int)(h:dw F base w b e g S)(ho:e.all[i]? =some o)(hst:o.dm=1)(hne:i∉S.ended)(hid63:aD o.id)(hq:e.dh<4611686018427387904)(hl:S.Small 1000000000):
 Cl 174 #[iP b,iP (g.blk i),iV n] w fun en w'=>en=rV #[]∧dw F base w' b ({ e with dh:=e.dh+1 }.upd i fun o=>{ o with dh:=(e.dh+1:Nat),bg:=n }) g (S.lay e.all o i)∧Touch F w w':=by
 by_cases A:o.side=1
 ·exact zFu n h ho hst hne hid63 hq hl.aP A
 exact zFv n h ho hst hne hid63 hq hl.sel A
theorem lD(h:dw F base w b e g S)(ho:e.all[i]? =some o)(hst:o.dm=1)(hne:i∉S.ended)(hid63:aD o.id):
 Cl 173 #[iP b,iP (g.blk i)] w fun en w'=>en=rV #[]∧dw F base w' b (e.upd i fun o=>{ o with bg:=0 }) g (S.off e.all o)∧Touch F w w':=by
 by_cases A:o.side=1
 ·exact wC h ho hst hne hid63 A
 exact wD h ho hst hne hid63 A
end
section
variable {F:Nat→Prop} {base:Nat} {w:World} {b q i:Nat} {e:bf} {g:Gh} {S:jk} {o:Ord}
theorem lF(h:dw F base w b e g S)(ho:OA w q i o)(hr:aD o.id):
 Cl 130 #[.pointer (some (iA b 8)),iP q] w fun en w'=>en=rV #[]∧dw F base w' b e g (S.leave e.all o)∧Touch F w w'∧OA w' q i o:=by
 by_cases A:o.jr=1
 ·have:=vX h ho hr A;rw[show S.leave e.all o=_ from if_pos A];exact this
 have:=vY h ho hr A;rw[show S.leave e.all o=_ from if_neg A];exact this
theorem zFw(h:dw F base w b e g S)(ho:OA w (g.blk i) i o)(hr:aD o.id)(hi:ru e.all i=o.id)(hl:S.Small 1000000000):
 Cl 127 #[.pointer (some (iA b 8)),iP (g.blk i)] w fun en w'=>en=rV #[]∧dw F base w' b e g (S.join e.all o i)∧Touch F w w'∧OA w' (g.blk i) i o:=by
 by_cases A:o.jr=1
 ·have:=zFq h ho hr hi hl.day A;rw[show S.join e.all o i=_ from if_pos A];exact this
 have:=zFr h ho hr hi hl.qf A;rw[show S.join e.all o i=_ from if_neg A];exact this
theorem dw.below(h:dw F base w b e g S)(hb:Below w.heap.size w w'):dw F base w' b e g S:=h.keep hb.size (fun k hk=>hb.block k hk)
theorem zk(hF:∀k,w.heap.size≤k→F k)(hb:Below w.heap.size w w'):Touch F w w':=⟨hb.os,hb.tape,hb.output,hb.size,fun k hk _=>hb.block k hk⟩
theorem zC9(st:Int)(l:List Int)(f:Ord→Ord)(h:dw F base w b e g S)(ho:e.all[i]? =some o)(hst:o.dm=1)(hne:i∉S.ended)(hid63:aD o.id)(hl:S.Small 1000000000)
 (hS:∀W,OA W (g.blk i) i { o with bg:=0 }→Cl 112 #[iP (g.blk i),iV st] W fun en w'=>en=.returned (dJ.val l)∧Below W.heap.size W w') (hf:(f o).state=l) (hfi:(f o).id=o.id) (hfs:¬(f o).dm=1):
 Cl 171 #[iP b,iP (g.blk i),iV st] w fun en w'=>en=rV #[]∧dw F base w' b (e.upd i f) g ((S.off e.all o).fin e.all o i)∧Touch F w w':=by
 have R:∀S:jk,(S.off e.all o).ended=S.ended:=fun S=>by unfold jk.off;split<;>rfl
 have K:Hd (Cl 173 #[iP b,iP (g.blk i)] w fun en C=>en=rV #[]∧C.cell? (iA b 10)=some (.map (some g.zb))∧cI C (g.blk i) 0 o.id∧
  Hd (∀W,Same C W→Cl 112 #[iP (g.blk i),iV st] W fun en w'=>en=.returned (.agg (l.map (iV)).toArray)∧w'.cell? (iA b 10)=some (.map (some g.zb))∧cI w' (g.blk i) 0 o.id∧∃D,(Instr.mapUpdate 92 (.map (some g.zb)) (iV o.id) (.agg (l.map (iV)).toArray)).run prog w'=.ok () D∧Hd (dw F base D b (e.upd i f) g ((S.off e.all o).fin e.all o i)∧Touch F w D))):=by
  refine(lD h ho hst hne hid63).mono ?_;rintro en C ⟨rfl,H,c⟩;have B:(e.upd i fun o=>{ o with bg:=0 }).all[i]? =some { o with bg:=0 }:=bf.upd_same e i _ o ho;have G:=H.oa B hst;refine⟨rfl,H.cell 10,G.cell 0,?_⟩;intro W I;refine(hS W (G.same I)).mono ?_;rintro en w' ⟨rfl,T⟩;have L:dw F base w' b (e.upd i fun o=>{ o with bg:=0 }) g (S.off e.all o):=(H.same I).below T;have d:Touch F w w':=(c.trans I.touch).trans (zk (fun k hk=>H.up k (by rw[←I.heap];exact hk)) T);have A:=L.as (i:=i) B hst (by rw[R];exact hne) (fun _=>f o) hfi (fun hc=>absurd hc hfs);rw[bf.aV,bf.nk e i _ f (fun x E=>by obtain rfl:o=x:=Option.some.inj (ho.symm.trans E);rfl)]at A;have E:(e.upd i f).all[i]? =some (f o):=bf.upd_same e i f o ho;obtain⟨D,n,U,p⟩:=A.body.ended.put je underlying3 underlying92 (by rw[List.length_map,R];have:=hl.ended;unfold maxLen;omega) (lC hid63) l;rw[bP]at U
  have M:less (e.upd i f).all (S.off e.all o).ended o.id=less e.all (S.off e.all o).ended o.id:=eP e i f (fun x E=>by obtain rfl:o=x:=Option.some.inj (ho.symm.trans E);exact hfi) _ _;have N:PM dJ prog 3 D g.zb ((less (e.upd i f).all (S.off e.all o).ended o.id++ [i]).map fun j=>(ru (e.upd i f).all j,kZ (e.upd i f).all j)):=by
   rw[List.map_append,List.map_singleton,zn E,hfi,show kZ (e.upd i f).all i=l by unfold kZ;rw[E];exact hf];exact U
  obtain⟨V,s⟩:=A.vV (qb.of p) _ N;rw[M]at V;exact⟨rfl,L.cell 10,(L.oa B hst).cell 0,D,n,V,d.trans s⟩
 go_enter func171,ntmps171;go_wp2_with fail;refine K.mono ?_;rintro en C ⟨rfl,Z,c0,J⟩;go_wp2_with fail;go_region_with(first|(go_at_call 112;refine(J C.drew ((Same.refl C).drew)).mono ?_;rintro en D ⟨rfl,O,Y,t,m,X⟩));all_goals(go_end0;exact⟨rfl,X⟩)
end
theorem zCa(al:List Ord)(l:List Nat)(id:Int):(less al l id).length≤l.length:=List.length_filter_le _ _
section
variable {F:Nat→Prop} {base:Nat} {w:World} {b q i:Nat} {e:bf} {g:Gh} {S:jk} {o:Ord} {n:Nat}
theorem jk.Small.leave(h:S.Small n)(al:List Ord)(o:Ord):(S.leave al o).Small n:=by
 unfold jk.leave;split
 ·exact⟨Nat.le_trans (zCa _ _ _) h.day,h.qf,h.ended,h.aP,h.sel⟩
 exact⟨h.day,Nat.le_trans (zCa _ _ _) h.qf,h.ended,h.aP,h.sel⟩
theorem jk.leave_ended(S:jk)(al:List Ord)(o:Ord):(S.leave al o).ended=S.ended:=by unfold jk.leave;split<;>rfl
theorem jk.off_ended(S:jk)(al:List Ord)(o:Ord):(S.off al o).ended=S.ended:=by unfold jk.off;split<;>rfl
theorem jk.lay_ended(S:jk)(al:List Ord)(o:Ord)(i:Nat):(S.lay al o i).ended=S.ended:=by unfold jk.lay;split<;>rfl
def jk.gone(S:jk)(al:List Ord)(o:Ord)(i:Nat):jk:=(S.off al o).fin al o i
theorem zCb(f:Ord→Ord)(h:dw F base w b e g S)(ho:e.all[i]? =some o)(hst:o.dm=1)(hne:i∉S.ended)(hid63:aD o.id)(hl:S.Small 1000000000)(hf:(f o).state= [o.id,2,o.bn,0,o.bu,0,0]):
 Cl 170 #[iP b,iP (g.blk i)] w fun en w'=>en=rV #[]∧dw F base w' b (e.upd i f) g ((S.leave e.all o).gone e.all o i)∧Touch F w w':=by
 have A:=hf;simp only[Ord.state,List.cons.injEq,and_true]at A;have B:Hd (Cl 130 #[.pointer (some (iA b 8)),iP (g.blk i)] w fun en C=>en=rV #[]∧Hd (Cl 171 #[iP b,iP (g.blk i),iV 2] C fun en w'=>en=rV #[]∧Hd (dw F base w' b (e.upd i f) g ((S.leave e.all o).gone e.all o i)∧Touch F w w'))):=by
  refine(lF h (h.oa ho hst) hid63).mono ?_;rintro en C ⟨rfl,G,H,L⟩;refine⟨rfl,?_⟩;refine(zC9 2 _ f G ho hst (by rw[jk.leave_ended];exact hne) hid63 (hl.leave _ _) (fun W hW=>(zC6 hW).mono ?_) hf A.1 (by rw[A.2.1];decide)).mono ?_
  ·rintro en w' ⟨rfl,I⟩;exact⟨rfl,I⟩
  rintro en w' ⟨rfl,J,K⟩;exact⟨rfl,J,H.trans K⟩
 go_enter func170,ntmps170;go_wp2_with fail;refine B.mono ?_;rintro en C ⟨rfl,D⟩;go_wp2_with fail;refine D.mono ?_;rintro en M ⟨rfl,E⟩;go_wp2;go_end0;exact⟨rfl,E⟩
theorem zAs(n:Int)(h:dw F base w b e g S)(ho:e.all[i]? =some o)(hst:o.dm=1)(hne:i∉S.ended)(hid63:aD o.id)(hp63:aD o.bn)(hn63:aD n)(hq:e.dh<4611686018427387904)(hl:S.Small 1000000000)(hsq:e.seq<4611686018427387904)(hol:e.out.length≤70368744177642):
 Cl 167 #[iP b,iP (g.blk i),iV n] w fun en w'=>en=rV #[]∧∃t,dw F base w' b (e.lay i n) { g with txt:=t } (S.lay e.all o i)∧Touch F w w':=by
 have z:aD 0:=⟨by omega,by omega⟩;have B:Hd (Cl 174 #[iP b,iP (g.blk i),iV n] w fun en A=>en=rV #[]∧cI A (g.blk i) 0 o.id∧cI A (g.blk i) 3 o.bn∧
  Hd (∀W,Same A W→Cl 94 #[.pointer (some (iA b 6)),.agg #[iV 6,iV 0,iV o.id,iV 0,iV o.bn,iV n,iV 0]] W fun en w'=>en=rV #[]∧Hd (∃t,dw F base w' b (e.lay i n) { g with txt:=t } (S.lay e.all o i)∧Touch F w w'))):=by
  refine(zC8 n h ho hst hne hid63 hq hl).mono ?_;rintro en A ⟨rfl,G,I⟩;have D:({ e with dh:=e.dh+1 }.upd i fun o=>{ o with dh:=(e.dh+1:Nat),bg:=n }).all[i]? =some { o with dh:=(e.dh+1:Nat),bg:=n }:=bf.upd_same { e with dh:=e.dh+1 } i _ o ho;have H:=G.oa D hst;refine⟨rfl,H.cell 0,H.cell 3,fun W hW=>?_⟩;refine(rA 6 0 o.id 0 o.bn n 0 (G.same hW) hsq hol ⟨⟨by omega,by omega⟩,hid63,z,hp63,hn63,z⟩).mono ?_;rintro en w' ⟨rfl,t,J,K⟩;refine⟨rfl,t,?_,I.trans (hW.touch.trans K)⟩;unfold bf.lay;rw[ho];exact J
 go_enter func167,ntmps167;go_wp2_with fail;refine B.mono ?_;rintro en A ⟨rfl,c0,M,E⟩;go_wp2_with fail
 first
 |(refine(E A (Same.refl A)).mono ?_
   rintro en L ⟨rfl,C⟩;go_wp2;go_end0;exact⟨rfl,C⟩)
 |(go_region_with(first|(go_at_call 94;refine(E A.drew ((Same.refl A).drew)).mono ?_;rintro en L ⟨rfl,C⟩))
   all_goals(go_end0;exact⟨rfl,C⟩))
end
section
variable {e:bf} {S:jk} {out out' odd:List Nat} {i:Nat} {o:Ord} {f:Ord→Ord}
theorem Holds.gone(h:Holds e S out odd)(inv:bf.fe e)(ho:e.all[i]? =some o)(hs:o.dm=1)(hi:i∈out)(hout:∀j,j≠i→(j∈out'↔j∈out))(hodd:∀j∈odd,j=i)(h1:¬(f o).dm=1)(h2:(f o).id=o.id)(h3:(f o).side=o.side)(h4:(f o).bg=0)(inv1:bf.fe (e.upd i fun o=>{ o with bg:=0 })):Holds (e.upd i f) (S.gone e.all o i) out' []:=by
 have D:=Holds.off (f:=fun o=>{ o with bg:=0 }) h inv ho rfl rfl rfl hodd rfl;have A:(e.upd i fun o=>{ o with bg:=0 }).all[i]? =some { o with bg:=0 }:=bf.upd_same e i _ o ho;have C:=Holds.fin (f:=fun _=>f o) D inv1 A hs hi h1 h3 h4 rfl (by simp) hout;rw[bf.aV,bf.nk e i _ f (fun x hx=>by obtain rfl:o=x:=Option.some.inj (ho.symm.trans hx);rfl)]at C;have B:jk.fin (S.off e.all o) (e.upd i fun o=>{ o with bg:=0 }).all { o with bg:=0 } i=S.gone e.all o i:=by
  unfold jk.gone jk.fin;rw[eP e i (fun o=>{ o with bg:=0 }) (fun _ _=>rfl)]
 rw[B]at C;exact C
end
section
variable {F:Nat→Prop} {base:Nat} {w:World} {b q i:Nat} {e:bf} {g:Gh} {S:jk} {o:Ord}
theorem dw.drawn(h:dw F base w b e g S):dw F base (w.setCell (iA g.dZ 1) (iV ((e.drawn:Int)+1))) b e.draw.2 g S∧Touch F w (w.setCell (iA g.dZ 1) (iV ((e.drawn:Int)+1))):=by
 have H:=h.body.fD;have U:=ja w g.dZ 1 (iV ((e.drawn:Int)+1)) _ _ _ H;generalize hu:iV ((e.drawn:Int)+1)=u at *;have M:∀k,k≠g.dZ→(w.setCell (iA g.dZ 1) u).heap[k]? =w.heap[k]? :=fun k A=>Below.heap_setCell _ _ _ _ A
 have ne:∀{k:Nat} {c:Array Value} {t:TypeId} {f:Nat×Nat},w.heap[k]? =some (.cells c t f)→t≠69→(w.setCell (iA g.dZ 1) u).heap[k]? =some (.cells c t f):=by
  intro k c t f A I;rw[M k (fun e1=>by rw[e1,H]at A;injection A with A;injection A with _ A _;exact I A.symm)];exact A
 have row:∀{B:Nat} {t:TypeId} {s:Nat} {v:Value} {n:Nat} {xs:List Value},w.ownsRow B t s v n xs→t≠69→(w.setCell (iA g.dZ 1) u).ownsRow B t s v n xs:=by
  intro B t s v n xs L I;refine⟨L.1,?_⟩;rcases L.2 with O|⟨N,D,G,X,R,T,r⟩
  ·exact .inl O
  exact .inr ⟨N,D,G,X,R,ne T I,r⟩
 have C:∀{V:Type} {E:Elem V} {x:Nat} {l:List (Int×V)},PM E prog 3 w x l→PM E prog 3 (w.setCell (iA g.dZ 1) u) x l:=by
  intro V E x l K;obtain⟨Y,c,J⟩:=K.is_map;exact K.of_block (M x (fun e1=>by rw[e1,H]at J;cases J))
 have B:=h.body;refine⟨⟨ne h.blk (by decide),h.own,fun k A=>h.up k (by simpa using A),by simpa using h.low,⟨row h.txt.row (by decide),h.txt.own⟩,⟨C B.day,C B.qf,C B.ended,ne B.wz (by decide),ne B.xg (by decide),C B.aP,C B.sel,B.maps,fun k x A hx=>ne (B.ord k x A hx) (by decide),B.inj,?_,row B.jL (by decide),B.fd,B.fo⟩,fun j hj=>by have:=h.old j hj;simpa using this,h.fb⟩,(Touch.refl F w).set _ _ _ B.fd.2.2.2.2.2⟩;rw[U,←hu];rfl
theorem dw.dshape(h:dw F base w b e g S):(g.jL=.slice none 0 0∧e.gz= [])∨∃d cap,g.jL=sL d e.gz.length cap∧d≠g.dZ∧d<w.heap.size∧∀(j:Nat) (x:Int),e.gz[j]? =some x→w.cell? (iA d j)=sI x:=by
 rcases h.body.jL.2 with⟨E,G⟩|⟨d,cap,D,C,I,A,H⟩
 ·exact .inl ⟨E,List.length_eq_zero_iff.1 G⟩
 right;have B:=h.body.jL;rw[C]at B;refine⟨d,cap,C,fun e1=>?_,(Array.getElem?_eq_some_iff.1 A).1,fun j x hx=>?_⟩
 ·rw[e1,h.body.fD]at A;injection A with A;injection A with _ A _;exact absurd A (by decide)
 have J:j<e.gz.length:=(List.getElem?_eq_some_iff.1 hx).1;rw[B.cellAt j (by omega),List.getElem?_map,hx];rfl
def bf.raw(e:bf):Int:=if e.gz.length=0 then 0 else e.gz.getD (e.drawn % e.gz.length) 0
theorem bf.draw_raw(e:bf):e.draw.1=e.raw % 4294967296:=by
 unfold bf.draw bf.raw;split<;>rfl
theorem zFx(h:dw F base w b e g S)(hdr:e.drawn<4611686018427387904)(hd:e.gz.length≤1000000000):
 Cl 244 #[iP g.dZ] w fun en w'=>en=.returned (iV e.raw)∧dw F base w' b e.draw.2 g S∧Touch F w w':=by
 obtain⟨E,M⟩:=h.drawn;have G:=E.dshape;have c1:w.cell? (iA g.dZ 1)=sI (e.drawn:Int):=by simp[World.cell?,h.body.fD]
 have j:w.frozen? (iA g.dZ 1)=false:=by simp[World.frozen?,h.body.fD]
 have J:(w.setCell (iA g.dZ 1) (iV ((e.drawn:Int)+1))).cell? (iA g.dZ 0)=some g.jL:=by simp[World.cell?,E.body.fD]
 have N:(w.setCell (iA g.dZ 1) (iV ((e.drawn:Int)+1))).cell? (iA g.dZ 1)=sI ((e.drawn:Int)+1):=by
  have:=E.body.fD;simp[World.cell?,this];rfl
 have Y:wrap64 ((e.drawn:Int)+1)=(e.drawn:Int)+1:=by unfold wrap64;omega
 have Z:wrap64 ((e.drawn:Int)+1 - 1)=(e.drawn:Int):=by unfold wrap64;omega
 have c:IntKind.i64.wrap ((e.drawn:Int)+1 - 1)=(e.drawn:Int):=by rw[show(e.drawn:Int)+1 - 1=e.drawn by omega];exact aM _ (by omega) (by omega)
 have H:=hid E;have I:=hid M;clear h E M;have K:e.draw.2.gz=e.gz:=rfl;rw[K]at G;generalize g.jL=dv at *;generalize g.dZ=db at *;go_enter func244,ntmps244;rcases G with⟨rfl,R⟩|⟨d,O,rfl,T,U,A⟩
 ·go_wp2;go_ret;refine⟨?_,H.o,I.o⟩;have:e.raw=0:=by unfold bf.raw;rw[R];rfl
  rw[this];rfl
 by_cases C:e.gz.length=0
 ·have B:Hd (e.raw=0):=by
   show _=_;unfold bf.raw;rw[if_pos C]
  rw[C]at J;clear A;go_wp2;go_ret;exact⟨by rw[B.out];rfl,H.o,I.o⟩
 have L:e.drawn % e.gz.length<e.gz.length:=Nat.mod_lt _ (by omega);have D:e.gz[e.drawn % e.gz.length]? =some e.gz[e.drawn % e.gz.length]:=List.getElem?_eq_getElem L;have f:=A _ _ D;have B:Hd (e.raw=e.gz[e.drawn % e.gz.length]):=by
  show _=_;unfold bf.raw;rw[if_neg C,List.getD_eq_getElem?_getD,D];rfl
 generalize e.gz[e.drawn % e.gz.length]=x at *;clear A D;generalize hn:e.gz.length=n at *;have k:Int.tmod (e.drawn:Int) (n:Int)=((e.drawn % n:Nat):Int):=(Int.ofNat_tmod _ _).symm;have X:((n:Int) == 0)=false:=by simp;omega
 have V:((e.drawn % n:Nat):Int)<(n:Int):=by omega
 generalize e.drawn % n=q at *;go_wp2_with fail;generalize w.setCell (iA db 1) (iV ((e.drawn:Int)+1))=W1 at *;go_quiet (fail);go_wp2;go_ret;exact⟨by rw[B.out];rfl,H.drewN _,I.drewN _⟩
end
theorem wr32(n:Int):IntKind.u32.wrap n=n % 4294967296:=by simp[IntKind.wrap,IntKind.bits,IntKind.signed]
theorem methodNext(h:Value)(w:World):(Go.method 442 47 h "Next").run prog w=.ok (244,h) w:=by kernel_rfl
theorem lG:∀(n:Nat) (l:List Nat),l.Nodup→(∀x∈l,x<n)→l.length≤n
 |0,l,_,h=>by
  cases l with
  |nil=>exact Nat.le_refl _
  |cons a r=>exact absurd (h a (List.mem_cons_self ..)) (Nat.not_lt_zero a)
 |n+1,l,hn,h=>by
  by_cases hm:n∈l
  ·have h1:=lG n (l.erase n) (hn.erase n) (fun x hx=>by
    have:=h x (List.mem_of_mem_erase hx);have:x≠n:=fun e1=>by rw[e1,hn.mem_erase_iff]at hx;exact hx.1 rfl
    omega)
   rw[List.length_erase_of_mem hm]at h1;omega
  exact Nat.le_succ_of_le (lG n l hn (fun x hx=>by
   have:=h x hx;have:x≠n:=fun e1=>hm (e1▸hx)
   omega))
theorem fE{V:Type}{f:Nat→Int×V}(h:((l.map f).map Prod.fst).Nodup):l.Nodup:=by
 rw[List.map_map]at h;exact List.Pairwise.of_map _ (fun a b hab e=>hab (e▸rfl)) h
section
variable {F:Nat→Prop} {base:Nat} {w:World} {b i k:Nat} {e:bf} {g:Gh} {S:jk} {o r:Ord}
theorem dw.small(h:dw F base w b e g S)(hH:Holds e S out odd):S.Small e.all.length:=by
 have lt:∀{j:Nat} {x:Ord},e.all[j]? =some x→j<e.all.length:=fun A=>(List.getElem?_eq_some_iff.1 A).1
 refine⟨lG _ _ (fE (h.body.day.nodup je)) fun j hj=>?_,lG _ _ (fE (h.body.qf.nodup je)) fun j hj=>?_,lG _ _ (fE (h.body.ended.nodup je)) fun j hj=>?_,lG _ _ (fE (h.body.aP.nodup je)) fun j hj=>?_,lG _ _ (fE (h.body.sel.nodup je)) fun j hj=>?_⟩
 ·obtain⟨x,A,_⟩:=(hH.day j).1 hj;exact lt A
 ·obtain⟨x,A,_⟩:=(hH.qf j).1 hj;exact lt A
 ·obtain⟨x,A,_⟩:=(hH.ended j).1 hj;exact lt A
 ·obtain⟨x,A,_⟩:=hH.lS j hj;exact lt A
 obtain⟨x,A,_⟩:=hH.lT j hj;exact lt A
theorem jk.Small.mono{n m:Nat}(h:S.Small n)(hm:n≤m):S.Small m:=⟨Nat.le_trans h.day hm,Nat.le_trans h.qf hm,Nat.le_trans h.ended hm,Nat.le_trans h.aP hm,Nat.le_trans h.sel hm⟩
theorem bf.Ok.open_{mp:Int}{st:Nat}(k:bf.Ok mp st o)(hs:o.dm=1):o.opn=o.mg - o.bu:=by have:=k.sum;have:=k.live hs;omega
theorem rz{x:Int}(h0:0≤x)(h1:x≤4611686018427387904):aD x:=⟨by omega,by omega⟩
def bf.again(e:bf)(o:Ord):Int:=if o.opn<1+e.draw.1 % o.jw then o.opn else 1+e.draw.1 % o.jw
theorem zFy(h:dw F base w b e g S)(ho:e.all[i]? =some o)(hs:o.dm=1)(ok:bf.Ok e.mp e.dh o)(ht:o.typ=2)(hdr:e.drawn<4611686018427387904)(hd:Dr e):
 Cl 192 #[iP b,iP (g.blk i)] w fun en w'=>en=.returned (iV (e.again o))∧dw F base w' b e.draw.2 g S∧Touch F w w':=by
 have Z:=h.oa ho hs;have m:w.cell? (iA b 3)=some (.iface 47 (iP g.dZ)):=h.cell 3;have n:cI w (g.blk i) 5 o.jw:=Z.cell 5;have I:=ok.open_ hs;have J:=ok.jw ht;have f:aD (o.mg - o.bu):=rz (by have:=ok.dN;omega) (by have:=ok.sum;have:=ok.fJ;have:=ok.jN;have:=ok.fH;omega);have N:Hd (∀W,Same w W→Cl 244 #[iP g.dZ] W fun en B=>en=.returned (iV e.raw)∧cI B (g.blk i) 5 o.jw∧Hd (dw F base B b e.draw.2 g S∧Touch F w B)):=by
  intro W D;refine(zFx (h.same D) hdr hd.len).mono ?_;rintro en B ⟨rfl,E,T⟩;exact⟨rfl,(E.oa ho hs).cell 5,E,D.touch.trans T⟩
 have O:Hd (∀B W,(dw F base B b e.draw.2 g S∧Touch F w B)→Same B W→Cl 153 #[iP (g.blk i)] W fun en L=>en=.returned (iV o.opn)∧Hd (dw F base L b e.draw.2 g S∧Touch F w L)):=by
  intro B W ⟨E,T⟩ D;refine(gL ((E.oa ho hs).same D) f).mono ?_;rintro en L ⟨rfl,K⟩;exact⟨by rw[I],E.same (D.trans K),T.trans (D.trans K).touch⟩
 have A:=e.draw_raw;have G:0≤e.draw.1:=by rw[A];omega
 have H:e.draw.1<4294967296:=by rw[A];omega
 have j:=hid J;have M:=hid A;have s:=hid (And.intro G H);have U:IntKind.u32.wrap o.jw=o.jw:=by rw[wr32];omega
 have V:IntKind.u32.wrap e.raw=e.draw.1:=by rw[wr32,A]
 clear h ho hs ok ht hdr hd Z I f;go_enter func192,ntmps192;go_wp2_with fail;have q:=methodNext (iP g.dZ) w.drew;go_region_with(first|(go_at_call 244;refine(N.o w.drew ((Same.refl w).drew)).mono ?_;rintro en B ⟨rfl,R,l⟩));all_goals(
  rw[←M.o];clear A;have t:0≤e.draw.1 % o.jw:=Int.emod_nonneg _ (by omega);have p:e.draw.1 % o.jw<o.jw:=Int.emod_lt_of_pos _ (by omega);have u:e.draw.1 % o.jw≤1000:=by omega
  clear J G H p m n R q U V;have X:Hd (e.again o=if o.opn<1+e.draw.1 % o.jw then o.opn else 1+e.draw.1 % o.jw):=rfl;generalize e.draw.1 % o.jw=d at *;go_wp2_with fail;refine(O.o B B l.o (Same.refl B)).mono ?_;rintro en L ⟨rfl,Y⟩;by_cases c:o.opn<1+d
  ·have C:Hd (e.again o=o.opn):=X.trans (if_pos c);go_wp2;go_ret;exact⟨by rw[C.o];rfl,Y.o⟩
  have C:Hd (e.again o=1+d):=X.trans (if_neg c);go_wp2;go_ret;exact⟨by rw[C.o];rfl,Y.o⟩)
end
def bt(sd a c:Int):Bool:=if sd=2 then decide (a<c) else decide (c<a)
def ent(al:List Ord)(g:Gh)(j:Nat):Int×Option Nat:=(ru al j,some (g.blk j))
def jT(sd lim:Int)(al:List Ord)(g:Gh)(B:List Nat)(seen:List (Int×Option Nat)):Option Nat→Prop
 |none=> ∀j∈B,ent al g j∈seen→∀x,al[j]? =some x→bt sd lim x.bn=true
 |some k=>k∈B∧∃x,al[k]? =some x∧bt sd lim x.bn=false∧∀j∈B,ent al g j∈seen→j≠k→∀y,al[j]? =some y→bt sd lim y.bn=true∨bf.ahead sd x y=true
section
variable {sd lim:Int} {al:List Ord} {g:Gh} {B:List Nat} {seen:List (Int×Option Nat)} {r:Option Nat} {j0:Nat} {o:Ord}
theorem jT.nil:jT sd lim al g B [] none:=fun j _ h=>by cases h
theorem pM(hinj:∀i j,i∈B→j∈B→g.blk i=g.blk j→i=j)(h0:j0∈B)(hj:j∈B)(h:ent al g j∈seen++ [ent al g j0]):ent al g j∈seen∨j=j0:=by
 rcases List.mem_append.1 h with h|h
 ·exact .inl h
 right;have h:ent al g j=ent al g j0:=by simpa using h
 unfold ent at h;injection h with _ h;injection h with h;exact hinj j j0 hj h0 h
theorem jT.skip(hinj:∀i j,i∈B→j∈B→g.blk i=g.blk j→i=j)(h0:j0∈B)(ho:al[j0]? =some o)(h:jT sd lim al g B seen r)(hw:bt sd lim o.bn=true):jT sd lim al g B (seen++ [ent al g j0]) r:=by
 cases r with
 |none=>
  intro j A E x C;rcases pM hinj h0 A E with D|rfl
  ·exact h j A D x C
  obtain rfl:o=x:=Option.some.inj (ho.symm.trans C);exact hw
 |some k=>
  obtain⟨G,x,C,H,F⟩:=h;refine⟨G,x,C,H,fun j A E hne y hy=>?_⟩;rcases pM hinj h0 A E with D|rfl
  ·exact F j A D hne y hy
  obtain rfl:o=y:=Option.some.inj (ho.symm.trans hy);exact .inl hw
theorem jT.start(hinj:∀i j,i∈B→j∈B→g.blk i=g.blk j→i=j)(h0:j0∈B)(ho:al[j0]? =some o)(h:jT sd lim al g B seen none)(hw:bt sd lim o.bn=false):jT sd lim al g B (seen++ [ent al g j0]) (some j0):=by
 refine⟨h0,o,ho,hw,fun j hj hm hne y hy=>?_⟩;rcases pM hinj h0 hj hm with A|rfl
 ·exact .inl (h j hj A y hy)
 exact absurd rfl hne
theorem jT.take(hinj:∀i j,i∈B→j∈B→g.blk i=g.blk j→i=j)(h0:j0∈B)(ho:al[j0]? =some o){k:Nat}(hx:al[k]? =some x)(h:jT sd lim al g B seen (some k))(hw:bt sd lim o.bn=false)(ha:bf.ahead sd o x=true):jT sd lim al g B (seen++ [ent al g j0]) (some j0):=by
 obtain⟨H,G,C,I,F⟩:=h;obtain rfl:x=G:=Option.some.inj (hx.symm.trans C);refine⟨h0,o,ho,hw,fun j hj hm hne y hy=>?_⟩;rcases pM hinj h0 hj hm with E|rfl
 ·by_cases D:j=k
  ·subst D;obtain rfl:x=y:=Option.some.inj (hx.symm.trans hy);exact .inr ha
  rcases F j hj E D y hy with A|A
  ·exact .inl A
  exact .inr (bf.qL sd o x y ha A)
 exact absurd rfl hne
theorem jT.stay(hinj:∀i j,i∈B→j∈B→g.blk i=g.blk j→i=j)(h0:j0∈B)(ho:al[j0]? =some o){k:Nat}(hx:al[k]? =some x)(h:jT sd lim al g B seen (some k))(hap:j0≠k→o.dh≠x.dh)(ha:bf.ahead sd o x=false):jT sd lim al g B (seen++ [ent al g j0]) (some k):=by
 obtain⟨E,G,A,F,D⟩:=h;obtain rfl:x=G:=Option.some.inj (hx.symm.trans A);refine⟨E,x,hx,F,fun j hj hm hne y hy=>?_⟩;rcases pM hinj h0 hj hm with C|rfl
 ·exact D j hj C hne y hy
 obtain rfl:o=y:=Option.some.inj (ho.symm.trans hy);exact .inr (bf.ahead_total sd o x (hap hne) ha)
end
theorem zFz{sd lim:Int}{y:Ord}(h1:bt sd lim x.bn=false)(h2:bt sd lim y.bn=true):bf.ahead sd x y=true:=by
 unfold bt at h1 h2;unfold bf.ahead;by_cases A:sd=2
 ·simp[A]at *;omega
 simp[A]at *;omega
theorem jT.bH{e:bf}{g:Gh}{B:List Nat}{seen:List (Int×Option Nat)}{r:Option Nat}{sd:Int}(h:jT sd o.bn e.all g B seen r)(hall:∀j∈B,ent e.all g j∈seen)(inv:bf.fe e)(hB:∀j,j∈B↔∃x,e.all[j]? =some x∧bf.bU sd x=true)(ho:e.all[i]? =some o)(hop:0<o.opn)(hsd:3 - o.side=sd):e.bH i=r:=by
 have A:=(inv.ok i o ho).side;have E:∀x:Ord,bf.meets o x.bn= !bt sd o.bn x.bn:=by
  intro x;unfold bf.meets bt;subst hsd;rcases A with J|J
  ·simp[J];by_cases F:x.bn≤o.bn<;>simp[F]<;>omega
  simp[J];by_cases F:o.bn≤x.bn<;>simp[F]<;>omega
 unfold bf.bH;rw[ho];simp only[hop,if_true];rw[hsd];cases r with
 |none=>
  rcases H:e.first sd with _|c
  ·rfl
  obtain⟨F,z,M,I⟩:=bf.ze H;simp only[M];have C:=(hB c).2 ⟨z,M,I⟩;have:=h c C (hall c C) z M;rw[E,this];rfl
 |some k=>
  obtain⟨R,x,K,N,O⟩:=h;obtain⟨T,L,S⟩:=(hB k).1 R;obtain rfl:x=T:=Option.some.inj (K.symm.trans L);have H:e.first sd=some k:=bf.first_is inv.apart K S (fun j y hne hy hry=>by
   have D:=(hB j).2 ⟨y,hy,hry⟩;rcases O j D (hall j D) hne y hy with G|G
   ·exact zFz N G
   exact G)
  rw[H];simp only[K];rw[E,N];rfl
end Go.Proofs.YtehmdohpmpbnnaaGreatDoor
