import Derived.Test.YtanfmhonjpjpoaaGreatDoorQ00
import Derived.Test.YtanfmhonjpjpoaaGreatDoorQ04
import Derived.Test.YtanfmhonjpjpoaaGreatDoorQ14
import Derived.OneCell
set_option linter.all false
set_option maxRecDepth 100000
set_option maxHeartbeats 8000000
namespace Go.Proofs.YtanfmhonjpjpoaaGreatDoor
variable{g i wb j base k:Nat}{w W:World}{x:Ent}{b:Book}{f:Ent→Ent}{P:Program}{Q:Exit→Act→World→Prop}
open Go.Extern Go.RowKit
theorem zGt: ∀(l:List Ent) (k j:Nat) (x:Ent) (v:Value) (f:Ent→Ent),l[k]? =some x→j<12→(f x).cells=x.cells.set j v→(l.flatMap Ent.cells).set (k*12+j) v=(l.modify k f).flatMap Ent.cells
 | [],k,j,x,v,f,h,hj,hf=>by simp at h
 |y::l,0,j,x,v,f,h,hj,hf=>by
  obtain rfl:y=x:=by simpa using h
  rw[List.modify_zero_cons,List.flatMap_cons,List.flatMap_cons,Nat.zero_mul,Nat.zero_add,List.set_append_left _ _ (by simp[Ent.cells];omega),hf]
 |y::l,k+1,j,x,v,f,h,hj,hf=>by
  have hl:y.cells.length=12:=rfl;rw[List.modify_succ_cons,List.flatMap_cons,List.flatMap_cons,List.set_append_right _ _ (by rw[hl];omega),hl];rw[←zGt l k j x v f (by simpa using h) hj hf]
  congr 2
  omega
theorem zB3(w:World)(b o:Nat)(u:Value)(cur:Array Value)(ty:TypeId)(fr:Nat×Nat)(h:w.heap[b]? =some (.cells cur ty fr)):(w.setCell ⟨b,o,none⟩ u).heap[b]? =some (.cells (cur.setIfInBounds o u) ty fr):=by
 simp[World.setCell,Array.getElem?_modify,h]
theorem zM{e:TypeId}{size n cap:Nat}{xs:List Value}(h:w.ownsRow base e size (.slice (some ⟨g,0,none⟩) n cap) n xs)(j:Nat)(u:Value):(w.setCell ⟨g,j,none⟩ u).ownsRow base e size (.slice (some ⟨g,0,none⟩) n cap) n (xs.set j u):=by
 refine⟨by rw[List.length_set];exact h.1,?_⟩;rcases h.2 with⟨e,-⟩|⟨g',cap',cur,e,hg,hh,hle,hmx,hsz,htk⟩
 ·cases e
 ·injection e with e1 e2 e3;injection e1 with e1;injection e1 with e1;subst e1 e3;refine .inr ⟨g,cap,cur.setIfInBounds j u,rfl,hg,zB3 _ _ _ _ _ _ _ hh,hle,hmx,by simpa using hsz,?_⟩;rw[Array.toList_setIfInBounds,←htk,List.take_set]
theorem KL.put{n cap:Nat}(h:KL base w wb b)(hne:wb≠g)(c8:w.cell? ⟨wb,8,none⟩=some (.slice (some ⟨g,0,none⟩) n cap))(hk:b.l[k]? =some x)(hj:j<12)(v:Value)(f:Ent→Ent)(hf:(f x).cells=x.cells.set j v):KL base (w.setCell ⟨g,k*12+j,none⟩ v) wb (b.set k f):=by
 obtain⟨⟨lv,c,hr⟩,c9,hl⟩:=h;obtain rfl:lv=.slice (some ⟨g,0,none⟩) n cap:=Option.some.inj (c.symm.trans c8);have hn:n=b.l.length:=by
  rcases hr.2 with⟨e,-⟩|⟨_,_,_,e,_⟩
  ·cases e
  ·injection e
 subst hn;have ne: ∀o,(⟨g,k*12+j,none⟩:Addr)≠⟨wb,o,none⟩:=fun o e=>by injection e with e;exact hne e.symm
 have hlen:(b.set k f).l.length=b.l.length:=by show(b.l.modify k f).length=_;simp
 refine⟨⟨_,(World.cell?_setCell_other _ _ _ _ (by first|exact ne 8|exact fun e=>ne 8 e.symm)).trans c8,?_⟩,(World.cell?_setCell_other _ _ _ _ (by first|exact ne 9|exact fun e=>ne 9 e.symm)).trans c9,by rw[hlen];exact hl⟩;rw[hlen];have:=zM hr (k*12+j) v;rw[zGt b.l k j x v f hk hj hf]at this;exact this
theorem hidK{p:Prop}(h:p):Hid p:=h
theorem zSy{a w':World}(h:Below a.heap.size a w)(hs:Below w.heap.size w w'):Below a.heap.size a w':=h.trans (hs.mono h.size)
def LB(w:World)(wb k:Nat):Prop:= ∃n cap,w.cell? ⟨wb,8,none⟩=some (.slice (some ⟨k,0,none⟩) n cap)
structure KT(wb:Nat)(w w':World):Prop where
 os:w'.os=w.os
 tape:w'.tape=w.tape
 output:w'.output=w.output
 size:w.heap.size≤w'.heap.size
 block: ∀k,k<w.heap.size→k≠wb→¬LB w wb k→w'.heap[k]? =w.heap[k]?
 list: ∀k,k<w.heap.size→LB w' wb k→LB w wb k
 cell: ∀o,o≠8→o≠9→w'.cell? ⟨wb,o,none⟩=w.cell? ⟨wb,o,none⟩
 froz: ∀o,w'.frozen? ⟨wb,o,none⟩=w.frozen? ⟨wb,o,none⟩
section
variable {base wb:Nat} {w w' w'':World} {b:Book}
theorem KT.refl(wb:Nat)(w:World):KT wb w w:=⟨rfl,rfl,rfl,Nat.le_refl _,fun _ _ _ _=>rfl,fun _ _ h=>h,fun _ _ _=>rfl,fun _=>rfl⟩
theorem KT.trans(h:KT wb w w')(k:KT wb w' w''):KT wb w w'':=
 ⟨k.os.trans h.os,k.tape.trans h.tape,k.output.trans h.output,Nat.le_trans h.size k.size,fun j h1 h2 h3=>(k.block j (Nat.lt_of_lt_of_le h1 h.size) h2 (fun c=>h3 (h.list j h1 c))).trans (h.block j h1 h2 h3),fun j h1 h2=>h.list j h1 (k.list j (Nat.lt_of_lt_of_le h1 h.size) h2),fun o h1 h2=>(k.cell o h1 h2).trans (h.cell o h1 h2),fun o=>(k.froz o).trans (h.froz o)⟩
theorem KT.below(hw:wb<w.heap.size)(h:Below w.heap.size w w'):KT wb w w':=by
 have hb:=h.block wb hw;exact⟨h.os,h.tape,h.output,h.size,fun k hk _ _=>h.block k hk,fun k hk ⟨n,cap,hc⟩=>⟨n,cap,by rw[←hc];exact(World.cell?_of_block (a:=⟨wb,8,none⟩) hb).symm⟩,fun o _ _=>World.cell?_of_block (a:=⟨wb,o,none⟩) hb,fun o=>World.frozen?_of_block (a:=⟨wb,o,none⟩) hb⟩
theorem KT.drew(h:KT wb w w')(n:Nat):KT wb w (w'.drewN n):=h.trans ⟨rfl,rfl,rfl,Nat.le_refl _,fun _ _ _ _=>rfl,fun _ _ h=>h,fun _ _ _=>rfl,fun _=>rfl⟩
theorem KT.put(h:KT wb w w')(hg:LB w' wb g)(hne:wb≠g)(j:Nat)(v:Value):KT wb w (w'.setCell ⟨g,j,none⟩ v):=by
 have hb:(w'.setCell ⟨g,j,none⟩ v).heap[wb]? =w'.heap[wb]? :=Below.heap_setCell _ _ _ _ hne;refine h.trans ⟨rfl,rfl,rfl,by simp,fun k h1 h2 h3=>Below.heap_setCell _ _ _ _ (fun c=>h3 (by have c:k=g:=c;rw[c];exact hg)),fun k hk ⟨n,cap,hc⟩=>⟨n,cap,by rw[←hc];exact(World.cell?_of_block (a:=⟨wb,8,none⟩) hb).symm⟩,fun o _ _=>World.cell?_of_block (a:=⟨wb,o,none⟩) hb,fun o=>World.frozen?_of_block (a:=⟨wb,o,none⟩) hb⟩
theorem KT.put9(h:KT wb w w')(v:Value):KT wb w (w'.setCell ⟨wb,9,none⟩ v):=by
 have oth: ∀o,o≠9→(w'.setCell ⟨wb,9,none⟩ v).cell? ⟨wb,o,none⟩=w'.cell? ⟨wb,o,none⟩:=fun o ho=>World.cell?_setCell_other _ _ _ _ (by intro e;injection e with e1 e2;exact ho (by first|exact e2|exact e2.symm))
 exact h.trans ⟨rfl,rfl,rfl,by simp,fun k h1 h2 h3=>Below.heap_setCell _ _ _ _ h2,fun k hk ⟨n,cap,hc⟩=>⟨n,cap,by rw[←hc,oth 8 (by decide)]⟩,fun o _ h9=>oth o h9,fun o=>by first|exact World.frozen?_setCell _ _ _ _|simp⟩
theorem KL.lb(h:KL base w wb b)(hk:b.l[k]? =some x): ∃g cap,w.cell? ⟨wb,8,none⟩=some (.slice (some ⟨g,0,none⟩) b.l.length cap)∧LB w wb g∧base≤g∧(∀j,w.frozen? ⟨g,j,none⟩=false)∧g<w.heap.size∧∀j,j<12→w.cell? ⟨g,k*12+j,none⟩=x.cells[j]? :=by
 have hlt:=(List.getElem?_eq_some_iff.1 hk).1;obtain⟨p,cap,c8,hx⟩:=h.shape;obtain⟨g,rfl,hc⟩:=hx k x hk;obtain⟨lv,c,hr⟩:=h.row;obtain rfl:=Option.some.inj (c8.symm.trans c);rcases hr.2 with⟨e,-⟩|⟨g',cap',cur,e,hg,hh,_⟩
 ·cases e
 ·injection e with e1 e2 e3;injection e1 with e1;injection e1 with e1;subst e1;exact⟨g,cap,c8,⟨_,_,c8⟩,hg,fun j=>by simp[World.frozen?,hh],(Array.getElem?_eq_some_iff.1 hh).1,hc⟩
theorem KL.drew(h:KL base w wb b)(n:Nat):KL base (w.drewN n) wb b:=by
 obtain⟨⟨lv,c,hr⟩,c9,hl⟩:=h;exact⟨⟨lv,c,hr⟩,c9,hl⟩
theorem KL.put9(h:KL base w wb b)(hwb:wb<base)(p:Int):KL base (w.setCell ⟨wb,9,none⟩ (.int .i64 p)) wb ⟨b.l,p⟩:=by
 obtain⟨⟨lv,c,hr⟩,c9,hl⟩:=h;refine⟨⟨lv,(World.cell?_setCell_other _ _ _ _ (by intro e;injection e with e1 e2;omega)).trans c,hr.1,?_⟩,World.cell?_setCell_same _ _ _ c9,hl⟩;rcases hr.2 with h2|⟨g,cap,cur,hv,hg,hh,r⟩
 ·exact .inl h2
 ·exact .inr ⟨g,cap,cur,hv,hg,(Below.heap_setCell _ _ _ _ (fun c=>by have c:g=wb:=c;omega)).trans hh,r⟩
theorem KL.lay(h:KL base w wb b)(hwb:wb<base)(hk:b.l[i]? =some x)(hg:LB w wb g)(q:Nat)(m:Int):KL base ((((w.drewN q).setCell ⟨wb,9,none⟩ (.int .i64 (b.place+1))).setCell ⟨g,i*12+10,none⟩ (.int .i64 (b.place+1))).setCell ⟨g,i*12+8,none⟩ (.int .i64 m)) wb (b.lay i m):=by
 obtain⟨g',cap,c8,lb,hbg,_⟩:=h.lb hk;obtain rfl:g=g':=by
  obtain⟨n,cap',e⟩:=hg;have:=Option.some.inj (e.symm.trans c8);injection this with e1;injection e1 with e1;injection e1
 have hne:wb≠g:=by omega
 have h1:=(h.drew q).put9 hwb (b.place+1);have d8:((w.drewN q).setCell ⟨wb,9,none⟩ (.int .i64 (b.place+1))).cell? ⟨wb,8,none⟩=some (.slice (some ⟨g,0,none⟩) b.l.length cap):=(World.cell?_setCell_other _ _ _ _ (by intro e;injection e with e1 e2;omega)).trans c8;have h2:=h1.put hne d8 (k:=i) (j:=10) hk (by omega) (.int .i64 (b.place+1)) (fun x=>{ x with place:=b.place+1 }) rfl;have hk2:(Book.set ⟨b.l,b.place+1⟩ i (fun x=>{ x with place:=b.place+1 })).l[i]? =some { x with place:=b.place+1 }:=by
  show(b.l.modify i _)[i]? =_;rw[List.getElem?_modify,hk];simp
 have e8:=(World.cell?_setCell_other ((w.drewN q).setCell ⟨wb,9,none⟩ (.int .i64 (b.place+1))) ⟨g,i*12+10,none⟩ ⟨wb,8,none⟩ (.int .i64 (b.place+1)) (by intro e;injection e with e1 e2;omega)).trans d8;have h3:=h2.put hne e8 (k:=i) (j:=8) hk2 (by omega) (.int .i64 m) (fun x=>{ x with shown:=m }) rfl;have:(Book.set (Book.set ⟨b.l,b.place+1⟩ i (fun x=>{ x with place:=b.place+1 })) i (fun x=>{ x with shown:=m }))=b.lay i m:=by
  show Book.mk ((b.l.modify i _).modify i _) _=Book.mk (b.l.modify i _) _
  congr 1
  apply List.ext_getElem?;intro j;simp only[List.getElem?_modify];by_cases c:i=j
  ·subst c;rw[hk];simp
  ·simp[c]
 rw[←this];exact h3
end
def Rcd.cells(r:Rcd)(seq:Int):List Value:=[.int .i64 r.kind,.int .i64 seq,.int .i64 r.id,.int .i64 r.other,.int .i64 r.price,.int .i64 r.qty,.int .i64 r.reason]
section
variable {base wb:Nat} {w w':World} {b:Book}
theorem KL.put'(h:KL base w wb b∧LB w wb g∧wb≠g)(hk:b.l[k]? =some x)(hj:j<12)(v:Value)(f:Ent→Ent)(hf:(f x).cells=x.cells.set j v):KL base (w.setCell ⟨g,k*12+j,none⟩ v) wb (b.set k f)∧LB (w.setCell ⟨g,k*12+j,none⟩ v) wb g∧wb≠g:=by
 obtain⟨h,⟨n,cap,c8⟩,hne⟩:=h;exact⟨h.put hne c8 hk hj v f hf,⟨n,cap,(World.cell?_setCell_other _ _ _ _ (by intro e;injection e with e1 e2;omega)).trans c8⟩,hne⟩
theorem zBh(f:Ent→Ent)(hj:b.l[j]? =some x):(b.set i f).l[j]? =some (if i=j then f x else x):=by
 show(b.l.modify i f)[j]? =_;rw[List.getElem?_modify,hj];by_cases c:i=j<;>simp[c]
theorem set_set(b:Book)(i:Nat)(f g:Ent→Ent):(b.set i f).set i g=b.set i (fun x=>g (f x)):=by
 unfold Book.set;simp only[Book.mk.injEq,and_true];apply List.ext_getElem?;intro j;simp only[List.getElem?_modify];cases b.l[j]?<;>by_cases c:i=j<;>simp[c]
theorem zC3(h:b.l[i]? =some x){g:Ent→Ent}(e:f x=g x):b.set i f=b.set i g:=by
 unfold Book.set;simp only[Book.mk.injEq,and_true];apply List.ext_getElem?;intro j;simp only[List.getElem?_modify];by_cases c:i=j
 ·subst c;simp[h,e]
 ·simp[c]
theorem zDx(b:Book)(i:Nat):b.set i (fun x=>x)=b:=by
 have:b.l.modify i (fun x=>x)=b.l:=by
  apply List.ext_getElem?;intro j;simp only[List.getElem?_modify];by_cases c:i=j<;>simp[c]
 show Book.mk (b.l.modify i (fun x=>x)) b.place=b;rw[this]
def KA(base wb g i:Nat)(b:Book)(f:Ent→Ent)(w w':World):Prop:=KL base w' wb (b.set i f)∧LB w' wb g∧wb≠g∧KT wb w w'
theorem KA.start(h:KL base w' wb b)(lb:LB w' wb g)(hne:wb≠g)(hT:KT wb w w'):KA base wb g i b (fun x=>x) w w':=⟨by rw[zDx];exact h,lb,hne,hT⟩
theorem KA.put{f0:Ent→Ent}(h:KA base wb g i b f0 w w')(hx:b.l[i]? =some x)(hj:j<12)(v:Value)(f:Ent→Ent)(e:(f x).cells=(f0 x).cells.set j v):KA base wb g i b f w (w'.setCell ⟨g,i*12+j,none⟩ v):=by
 obtain⟨h1,h2,h3,h4⟩:=h;have hx':=zBh (i:=i) f0 hx;rw[if_pos rfl]at hx';obtain⟨a1,a2,a3⟩:=KL.put' ⟨h1,h2,h3⟩ hx' hj v (fun _=>f x) e;refine⟨?_,a2,a3,h4.put h2 h3 _ _⟩;rw[set_set]at a1;rw[zC3 hx (f:=f) (g:=fun _=>f x) rfl];exact a1
theorem zDy{c:Code}{a:Act}{ad:Addr}{v:Value}(h:Hid (Code.wp P c Q a (w.setCell ad v))):Code.wp P c Q a (w.setCell ad v):=h.out
theorem zDz{ops:Array Oper}{rest:List Oper}{a:Act}{ad:Addr}{v:Value}(h:Hid (wpList P ops Q rest a (w.setCell ad v))):wpList P ops Q rest a (w.setCell ad v):=h.out
theorem hidO{p:Prop}(h:p):Hid p:=h
theorem KA.cells(h:KA base wb g i b f w w')(hx:b.l[i]? =some x):(∀j,j<12→w'.cell? ⟨g,i*12+j,none⟩=(f x).cells[j]?)∧(∀j,w'.frozen? ⟨g,j,none⟩=false):=by
 obtain⟨h1,⟨n,cp,e⟩,h3,h4⟩:=h;have hx':=zBh (i:=i) f hx;rw[if_pos rfl]at hx';obtain⟨g',cap,c8,lb,hbg,hfz,hgl,hc⟩:=h1.lb hx';obtain rfl:g=g':=by
  have:=Option.some.inj (e.symm.trans c8);injection this with e1;injection e1 with e1;injection e1
 exact⟨hc,hfz⟩
def KB(base wb g i k:Nat)(b:Book)(o p:Ent)(w w':World):Prop:=KL base w' wb ((b.set i fun _=>o).set k fun _=>p)∧LB w' wb g∧wb≠g∧KT wb w w'
theorem zE{o p y:Ent}(hx:b.l[i]? =some x)(hy:b.l[k]? =some y)(hik:i≠k):((b.set i fun _=>o).set k fun _=>p).l[i]? =some o∧((b.set i fun _=>o).set k fun _=>p).l[k]? =some p:=by
 have a1:=zBh (i:=i) (fun _=>o) hx;have a2:=zBh (i:=i) (fun _=>o) hy;rw[if_pos rfl]at a1;rw[if_neg hik]at a2;have b1:=zBh (i:=k) (fun _=>p) a1;have b2:=zBh (i:=k) (fun _=>p) a2;rw[if_neg (fun e=>hik e.symm)]at b1;rw[if_pos rfl]at b2;exact⟨b1,b2⟩
theorem KB.start{o p:Ent}(h:KL base w' wb b)(lb:LB w' wb g)(hne:wb≠g)(hT:KT wb w w')(ho:b.l[i]? =some o)(hp:b.l[k]? =some p)(hik:i≠k):KB base wb g i k b o p w w':=by
 refine⟨?_,lb,hne,hT⟩;have e1:(b.set i fun _=>o)=b:=by
  rw[zC3 ho (f:=fun _=>o) (g:=fun x=>x) rfl,zDx]
 have e2:(b.set k fun _=>p)=b:=by
  rw[zC3 hp (f:=fun _=>p) (g:=fun x=>x) rfl,zDx]
 rw[e1,e2];exact h
section
variable {g i k:Nat} {o p x y:Ent}
theorem KB.cells(h:KB base wb g i k b o p w w')(hx:b.l[i]? =some x)(hy:b.l[k]? =some y)(hik:i≠k):(∀j,j<12→w'.cell? ⟨g,i*12+j,none⟩=o.cells[j]?)∧(∀j,j<12→w'.cell? ⟨g,k*12+j,none⟩=p.cells[j]?)∧(∀j,w'.frozen? ⟨g,j,none⟩=false):=by
 obtain⟨h1,⟨n,cp,e⟩,h3,h4⟩:=h;obtain⟨t1,t2⟩:=zE (o:=o) (p:=p) hx hy hik;have same: ∀{g' cap m:Nat},w'.cell? ⟨wb,8,none⟩=some (.slice (some ⟨g',0,none⟩) m cap)→g'=g:=fun c8=>by
  have:=Option.some.inj (c8.symm.trans e);injection this with e1;injection e1 with e1;injection e1
 obtain⟨g1,cap,c8,lb,hbg,hfz,hgl,hc⟩:=h1.lb t1;obtain⟨g2,cap2,c82,_,_,_,_,hc2⟩:=h1.lb t2;obtain rfl:=same c8;obtain rfl:=same c82;exact⟨hc,hc2,hfz⟩
theorem KB.puti(h:KB base wb g i k b o p w w')(hx:b.l[i]? =some x)(hy:b.l[k]? =some y)(hik:i≠k)(hj:j<12)(v:Value)(o':Ent)(e:o'.cells=o.cells.set j v):KB base wb g i k b o' p w (w'.setCell ⟨g,i*12+j,none⟩ v):=by
 obtain⟨h1,h2,h3,h4⟩:=h;obtain⟨a1,a2,a3⟩:=KL.put' ⟨h1,h2,h3⟩ (zE hx hy hik).1 hj v (fun _=>o') e;refine⟨?_,a2,a3,h4.put h2 h3 _ _⟩;have:(((b.set i fun _=>o).set k fun _=>p).set i fun _=>o')=((b.set i fun _=>o').set k fun _=>p):=by
  unfold Book.set;simp only[Book.mk.injEq,and_true];apply List.ext_getElem?;intro q;simp only[List.getElem?_modify];cases b.l[q]?<;>by_cases c:i=q<;>by_cases d:k=q<;>simp_all
 rw[this]at a1;exact a1
theorem KB.putk(h:KB base wb g i k b o p w w')(hx:b.l[i]? =some x)(hy:b.l[k]? =some y)(hik:i≠k)(hj:j<12)(v:Value)(p':Ent)(e:p'.cells=p.cells.set j v):KB base wb g i k b o p' w (w'.setCell ⟨g,k*12+j,none⟩ v):=by
 obtain⟨h1,h2,h3,h4⟩:=h;obtain⟨a1,a2,a3⟩:=KL.put' ⟨h1,h2,h3⟩ (zE hx hy hik).2 hj v (fun _=>p') e;refine⟨?_,a2,a3,h4.put h2 h3 _ _⟩;rw[set_set]at a1;exact a1
theorem KB.done{n:Int}(h:KB base wb g i k b { o with opn:=o.opn - n,filled:=o.filled+n,live:=decide (0<o.opn - n) } { p with opn:=p.opn - n,filled:=p.filled+n,shown:=p.shown - n,live:=decide (0<p.opn - n) } w w')(ho:b.l[i]? =some o)(hp:b.l[k]? =some p)(hik:i≠k):KL base w' wb (b.swap i k n)∧KT wb w w':=by
 obtain⟨q1,_,_,q4⟩:=h;refine⟨?_,q4⟩;have:b.swap i k n=((b.set i fun _=>{ o with opn:=o.opn - n,filled:=o.filled+n,live:=decide (0<o.opn - n) }).set k fun _=>{ p with opn:=p.opn - n,filled:=p.filled+n,shown:=p.shown - n,live:=decide (0<p.opn - n) }):=by
  unfold Book.swap;rw[zC3 ho (f:=fun x=>{ x with opn:=x.opn - n,filled:=x.filled+n,live:=decide (0<x.opn - n) }) (g:=fun _=>{ o with opn:=o.opn - n,filled:=o.filled+n,live:=decide (0<o.opn - n) }) rfl];have hp2:=zBh (i:=i) (fun _=>({ o with opn:=o.opn - n,filled:=o.filled+n,live:=decide (0<o.opn - n) }:Ent)) hp;rw[if_neg hik]at hp2;exact zC3 hp2 rfl
 rw[this];exact q1
end
end
theorem KA.drew(h:KA base wb g i b f w W)(n:Nat):KA base wb g i b f w (W.drewN n):=⟨h.1.drew n,h.2.1,h.2.2.1,h.2.2.2.drew n⟩
theorem KA.drew1(h:KA base wb g i b f w W):KA base wb g i b f w W.drew:=h.drew 1
theorem LB.set9(h:LB w wb g)(v:Value):LB (w.setCell ⟨wb,9,none⟩ v) wb g:=by
 obtain⟨n,cap,e⟩:=h;exact⟨n,cap,(World.cell?_setCell_other _ _ _ _ (by intro e;injection e with e1 e2;omega)).trans e⟩
theorem LB.setg(h:LB w wb g)(hne:wb≠g)(j:Nat)(v:Value):LB (w.setCell ⟨g,j,none⟩ v) wb g:=by
 obtain⟨n,cap,e⟩:=h;exact⟨n,cap,(World.cell?_setCell_other _ _ _ _ (by intro e;injection e with e1 e2;omega)).trans e⟩
theorem LB.uniq{g':Nat}(h:LB w wb g)(h':LB w wb g'):g=g':=by
 obtain⟨n,cap,e⟩:=h;obtain⟨n',cap',e'⟩:=h';have:=Option.some.inj (e.symm.trans e');injection this with e1;injection e1 with e1;injection e1
theorem zSz(h:KL base W wb b)(hwb:wb<base)(hT:KT wb w W)(fz: ∀o,w.frozen? ⟨wb,o,none⟩=false)(hx:b.l[i]? =some x)(hpl:0≤b.place∧b.place≤1000000000)(m:Int):
 Calls Tryz.prog 45 #[.pointer (some ⟨wb,0,none⟩),.int .i64 (i:Int),.int .i64 m] W fun en w'=>en=.returned (.tuple #[])∧Hid (KL base w' wb (b.lay i m)∧KT wb w w'∧∀g,LB W wb g→LB w' wb g):=by
 obtain⟨g,cap,c8,lb,hbg,hfz,hgl,hci⟩:=h.lb hx;have hne:wb≠g:=by omega
 refine(krests c8 h.place (List.getElem?_eq_some_iff.1 hx).1 h.len hne ((hT.froz 9).trans (fz 9)) hfz (hci 8 (by omega)) (hci 10 (by omega)) hpl m).mono ?_;rintro en w' ⟨rfl,q,rfl⟩;have l0:LB (W.drewN q) wb g:=lb;have l1:=l0.set9 (.int .i64 (b.place+1));have l2:=l1.setg hne (i*12+10) (.int .i64 (b.place+1));have l3:=l2.setg hne (i*12+8) (.int .i64 m);exact⟨rfl,hidK ⟨h.lay hwb hx lb q m,(((hT.drew q).put9 _).put l1 hne _ _).put l2 hne _ _,fun g' hg'=>by rw[←LB.uniq lb hg'];exact l3⟩⟩
end Go.Proofs.YtanfmhonjpjpoaaGreatDoor
