import Derived.Test.YtanfmhonjpjpoaaGreatDoorQ00
import Derived.Test.YtanfmhonjpjpoaaGreatDoorQ05
import Derived.Test.YtanfmhonjpjpoaaGreatDoorQ20
import Derived.Test.YtanfmhonjpjpoaaGreatDoorQ21
import Derived.Test.YtanfmhonjpjpoaaGreatDoorQ22
import Derived.BigQuiet
import Derived.Deep.QuietTactic
import Derived.Deep.AppendLies
import Derived.Deep.RegionHeld3
set_option linter.all false
set_option maxRecDepth 100000
set_option maxHeartbeats 8000000
namespace Go.Proofs.YtanfmhonjpjpoaaGreatDoor
variable{w' w2:World}{e':Eng}{S':Sets}{F1:Nat→Prop}{L:List Nat}
section
open Go.Extern Go.RowKit
section
theorem zNc(x:Int)(w:World):Cl 127 #[iV x] w fun en w'=>en=rB false∧w'=w:=by
 go_enter Tryz.func127,Tryz.ntmps127;go_wp2;go_ret;exact⟨rfl,rfl⟩
def cmp3(x y:Int):Int:=if x<y then -1 else if y<x then 1 else 0
theorem zHf(x y:Int)(w:World):Cl 80 #[iV x,iV y] w fun en w'=>en=.returned (iV (cmp3 x y))∧w'=w:=by
 have H1:Hid (∀(x:Int) (W:World),Cl 127 #[iV x] W fun en w'=>en=rB false∧w'=W):=fun x W=>zNc x W
 by_cases h1:x<y
 ·have HE:Hid (cmp3 x y= -1):=if_pos h1;go_enter Tryz.func80,Tryz.ntmps80;go_wp2_with(go_at_call 127;refine(H1 _ _).mono ?_;rintro en w' ⟨rfl,rfl⟩);go_ret;exact⟨by rw[HE.out];rfl,rfl⟩
 ·by_cases h2:y<x
  ·have HE:Hid (cmp3 x y=1):=(if_neg h1).trans (if_pos h2);go_enter Tryz.func80,Tryz.ntmps80;go_wp2_with(go_at_call 127;refine(H1 _ _).mono ?_;rintro en w' ⟨rfl,rfl⟩);go_ret;exact⟨by rw[HE.out];rfl,rfl⟩
  ·have HE:Hid (cmp3 x y=0):=(if_neg h1).trans (if_neg h2);go_enter Tryz.func80,Tryz.ntmps80;go_wp2_with(go_at_call 127;refine(H1 _ _).mono ?_;rintro en w' ⟨rfl,rfl⟩);go_ret;exact⟨by rw[HE.out];rfl,rfl⟩
theorem zNd(p q:Nat)(x y:Int)(w:World)(h1:w.cell? (iA p 9)=sI x)(h2:w.cell? (iA q 9)=sI y):Cl 129 #[iP p,iP q] w fun en w'=>en=.returned (iV (cmp3 x y))∧∃n,w'=w.drewN n:=by
 have HC:Hid (∀W:World,Cl 80 #[iV x,iV y] W fun en w'=>en=.returned (iV (cmp3 x y))∧w'=W):=fun W=>zHf x y W
 generalize cmp3 x y=r at *;go_enter Tryz.func129,Tryz.ntmps129;go_wp2_with fail;go_quiet (exact Calls.quiet_of_same (HC _));go_wp2_with fail;go_ret;exact⟨rfl,_,rfl⟩
end
theorem zCz(x y:Int):cmp3 x y<0↔x<y:=by
 unfold cmp3;by_cases h1:x<y
 ·simp[h1]
 ·by_cases h2:y<x<;>simp[h1,h2]
section
variable {α:Type} [Inhabited α] (enc:α→Value) (w:World) (blk:Nat)
theorem zE6(n:Nat)(d:Array α)(os:Array Obj){k:Nat}(hk:k≠blk)(hl:k<w.heap.size):(Go.Proofs.sortWorld enc w blk 0 n d os).heap[k]? =w.heap[k]? :=by
 have h1:k<(Go.Sort.putRow enc (Go.Sort.ahead w n) blk 0 d).heap.size:=by simpa [Go.Sort.putRow,Go.Sort.mapBlock,Go.Sort.ahead] using hl
 unfold Go.Proofs.sortWorld;rw[Go.Sort.heap_grow_old _ _ h1];simp[Go.Sort.putRow,Go.Sort.mapBlock,Go.Sort.ahead,Array.getElem?_modify,Ne.symm hk]
theorem zHg(n:Nat)(d:Array α)(os:Array Obj){cur:Array Value}{t:TypeId}{f:Nat×Nat}(hb:w.heap[blk]? =some (.cells cur t f)):(Go.Proofs.sortWorld enc w blk 0 n d os).heap[blk]? =some (.cells (Go.Sort.putCells enc 0 d cur) t f):=by
 have hl:blk<w.heap.size:=(Array.getElem?_eq_some_iff.1 hb).1;have h1:blk<(Go.Sort.putRow enc (Go.Sort.ahead w n) blk 0 d).heap.size:=by simpa [Go.Sort.putRow,Go.Sort.mapBlock,Go.Sort.ahead] using hl
 unfold Go.Proofs.sortWorld;rw[Go.Sort.heap_grow_old _ _ h1];simp[Go.Sort.putRow,Go.Sort.mapBlock,Go.Sort.ahead,Array.getElem?_modify,hb,Go.Sort.onCells]
theorem zHh(n:Nat)(d:Array α)(os:Array Obj):w.heap.size≤(Go.Proofs.sortWorld enc w blk 0 n d os).heap.size:=by
 unfold Go.Proofs.sortWorld;rw[Go.Sort.size_grow];simp[Go.Sort.putRow,Go.Sort.mapBlock,Go.Sort.ahead]
end
def ptrV(b:Nat):Value:=iP b
theorem zNe{w:World}{B:Nat}(g:Gh)(L:List Nat)(v:Value)(hv:w.ownsRow B 158 1 v L.length (L.map fun j=>ptrV (g.blk j)))(hc: ∀j∈L,w.cell? (iA (g.blk j) 9)=sI (j:Int)∧g.blk j<B)(hB:B≤w.heap.size)(hl:L.length≤1000000000):
 Cl 128 #[v,.func (.func 129) #[] #[]] w fun en w'=>en=rV #[]∧∃L':List Nat,L'.Perm L∧L'.Pairwise (· ≤·)∧w'.ownsRow B 158 1 v L.length (L'.map fun j=>ptrV (g.blk j))∧Below B w w':=by
 by_cases hL:L= []
 ·subst hL;have: ∃p cap,v=.slice p 0 cap:=by
   rcases hv.2 with⟨h1,_⟩|⟨d,cap,cur,h1,_⟩
   ·exact⟨_,_,h1⟩
   ·exact⟨_,_,h1⟩
  obtain⟨p,cap,rfl⟩:=this;have h:=AnyF.slices_SortFunc_none (P:=Tryz.prog) (ρ:=Tryz.sortOrd_ren) { Tryz.sortOrd with } p cap (.func (.func 129) #[] #[]) w;refine Calls.mono h ?_;rintro en w' ⟨rfl,rfl⟩;exact⟨rfl,[],List.Perm.refl _,List.Pairwise.nil,hv,Below.refl B w'⟩
 ·obtain⟨j0,hj0⟩: ∃j,j∈L:=by
   cases L with
   |nil=>exact absurd rfl hL
   |cons a r=>exact⟨a,List.mem_cons_self ..⟩
  rcases hv.2 with⟨_,h1⟩|⟨blk,cap,cur,rfl,hblk,hcur,hcap,hmax,hsz,htake⟩
  ·cases L with
   |nil=>exact absurd rfl hL
   |cons a r=>cases h1
  have hlt:blk<w.heap.size:=(Array.getElem?_eq_some_iff.1 hcur).1;have hin:Inhabited { j:Nat // j∈L }:=⟨⟨j0,hj0⟩⟩
  let enc:{ j:Nat // j∈L }→Value:=fun x=>ptrV (g.blk x.1)
  let d:Array { j:Nat // j∈L }:=L.attach.toArray
  have hds:d.size=L.length:=by simp[d]
  have hcell: ∀j,j<d.size→cur[j]? =some (enc d[j]!):=by
   intro j hj;have hj':j<L.length:=by omega
   have h1:(cur.toList.take (L.length*1))[j]? =(L.map fun j=>ptrV (g.blk j))[j]? :=by rw[htake]
   rw[List.getElem?_take_of_lt (by omega),List.getElem?_map,List.getElem?_eq_getElem hj',Array.getElem?_toList]at h1;rw[h1,getElem!_pos d j hj];simp[enc,d]
  have hH:Go.Sort.Holds enc w blk 0 d:=fun j hj=>⟨by simp[World.cell?,hcur,hcell j hj],by simp[World.frozen?,hcur]⟩
  have hcf: ∀x y:{ j:Nat // j∈L },ltOf (fun x y:{ j:Nat // j∈L }=>cmp3 (x.1:Int) (y.1:Int)) x y=decide (x.1<y.1):=fun x y=>by
   unfold ltOf;by_cases h:x.1<y.1
   ·simp[h,zCz]
   ·simp[h,zCz]
  have hO:Go.Sort.SWO (ltOf fun x y:{ j:Nat // j∈L }=>cmp3 (x.1:Int) (y.1:Int)):=⟨fun x=>by rw[hcf];simp,fun x y z h1 h2=>by rw[hcf]at *;simp at *;omega,fun x y z h1 h2=>by rw[hcf]at *;simp at *;omega⟩;have eg:=enters_of Tryz.func129 (by kernel_rfl) rfl;have hne: ∀x:{ j:Nat // j∈L },g.blk x.1≠blk∧g.blk x.1<w.heap.size:=fun x=>by have:=(hc x.1 x.2).2;omega
  have hcmp:CmpLays1 Tryz.prog 129 #[] enc (fun x y=>cmp3 (x.1:Int) (y.1:Int)) blk 0 d.size w:=by
   intro m os dk hdk x y;have hcx: ∀x:{ j:Nat // j∈L },(Go.Proofs.sortWorld enc w blk 0 m dk os).cell? (iA (g.blk x.1) 9)=sI (x.1:Int):=fun x=>by
    have:=(hc x.1 x.2).1;unfold World.cell? at this⊢;rw[zE6 enc w blk m dk os (hne x).1 (hne x).2];exact this
   refine(zNd (g.blk x.1) (g.blk y.1) x.1 y.1 _ (hcx x) (hcx y)).mono ?_;rintro en w' ⟨rfl,n,rfl⟩;exact⟨rfl,n,#[],by rw[Go.Sort.grow_empty]⟩
  have h:=Any.slices_SortFunc (P:=Tryz.prog) (ρ:=Tryz.sortOrd_ren) Tryz.sortOrd enc (fun _=>rfl) (fun x y=>cmp3 (x.1:Int) (y.1:Int)) hO 129 #[] blk 0 cap d w eg hcmp hH hlt (by omega);rw[hds]at h;refine Calls.mono h ?_;rintro en w' ⟨rfl,d',n,os,hp,hs,rfl⟩;have hd':=hp.1.trans hds;have hpl:d'.toList.Perm d.toList:=by
   have:=hp.2.2;rw[Array.toList_extract,Array.toList_extract]at this;simpa [List.extract,List.take_of_length_le,hd',hds] using this
  refine⟨rfl,d'.toList.map (·.1),?_,?_,⟨by simp[hd'],.inr ⟨blk,cap,_,rfl,hblk,zHg enc w blk n d' os hcur,hcap,hmax,by simp[Go.Sort.putCells,hsz],?_⟩⟩,rfl,rfl,rfl,zHh enc w blk n d' os,fun k hk=>zE6 enc w blk n d' os (by omega) (by omega)⟩
  ·have:=hpl.map (·.1);simpa [d] using this
  ·rw[List.pairwise_map,List.pairwise_iff_getElem];intro i j hi hj hij;have hi':i<d'.size:=by simpa using hi
   have hj':j<d'.size:=by simpa using hj
   have:=hs i j (Nat.zero_le _) hij (by omega);rw[hcf,getElem!_pos d' i hi',getElem!_pos d' j hj']at this;simp at this;simpa using this
  ·apply List.ext_getElem?;intro k;by_cases hk:k<L.length
   ·rw[List.getElem?_take_of_lt (by omega),Array.getElem?_toList];simp only[Go.Sort.putCells,Array.getElem?_mapIdx,List.getElem?_map,Array.getElem?_toList];have hkc:k<cur.size:=by omega
    rw[Array.getElem?_eq_getElem hkc,Array.getElem?_eq_getElem (by omega:k<d'.size)];simp[hd',hk,enc]
   ·rw[List.getElem?_eq_none (by simp;omega),List.getElem?_eq_none (by simp[hd'];omega)]
def ord0:Ord:=⟨0,0,0,0,0,0,0,0,0,0,0,0,0,0,0⟩
def encS(o:Ord):List Value:=[iV o.id,iV o.status,iV o.price,iV o.opn,iV o.filled,iV o.cancelled,iV o.shown]
theorem zE7{α:Type}[Inhabited α](enc:α→List Value)(k:Nat)(hk: ∀x,(enc x).length=k)(hk0:0<k): ∀(L:List α) (t:Nat),t<L.length*k→(L.flatMap enc)[t]? =(enc (L[t / k]!))[t % k]?
 | [],t,h=>by simp at h
 |x::r,t,h=>by
  rw[List.flatMap_cons];by_cases ht:t<k
  ·rw[List.getElem?_append_left (by rw[hk];exact ht),Nat.div_eq_of_lt ht,Nat.mod_eq_of_lt ht];rfl
  ·have h2:t - k<r.length*k:=by
    have:(x::r).length*k=r.length*k+k:=by rw[List.length_cons,Nat.add_mul,Nat.one_mul]
    omega
   rw[List.getElem?_append_right (by rw[hk];omega),hk,zE7 enc k hk hk0 r (t - k) h2];have e1:t / k=(t - k) / k+1:=by
    conv=>lhs;rw[show t=(t - k)+k by omega]
    rw[Nat.add_div_right _ hk0]
   have e2:t % k=(t - k) % k:=by
    conv=>lhs;rw[show t=(t - k)+k by omega]
    rw[Nat.add_mod_right]
   rw[e1,e2];rfl
theorem zE8{α:Type}(enc:α→List Value)(k:Nat)(hk: ∀x,(enc x).length=k): ∀(L:List α),(L.flatMap enc).length=L.length*k
 | []=>by simp
 |x::r=>by rw[List.flatMap_cons,List.length_append,hk,zE8 enc k hk r,List.length_cons,Nat.add_mul,Nat.one_mul,Nat.add_comm]
theorem zNf(x y:Ord)(W:World):Cl 79 #[.agg #[iV x.id,iV x.status,iV x.price,iV x.opn,iV x.filled,iV x.cancelled,iV x.shown],.agg #[iV y.id,iV y.status,iV y.price,iV y.opn,iV y.filled,iV y.cancelled,iV y.shown]] W fun en w'=>en=.returned (iV (cmp3 x.id y.id))∧∃q os',w'=Go.Sort.grow (W.drewN q) os':=by
 have HC:Hid (∀W:World,Cl 80 #[iV x.id,iV y.id] W fun en w'=>en=.returned (iV (cmp3 x.id y.id))∧w'=W):=fun W=>zHf x.id y.id W
 generalize cmp3 x.id y.id=r at *;go_enter Tryz.func79,Tryz.ntmps79;go_wp2_with(go_at_call 80;refine(HC _).mono ?_;rintro en w' ⟨rfl,rfl⟩);go_ret;exact⟨rfl,0,_,by rw[Go.Sort.alloc_eq_grow,Go.Sort.alloc_eq_grow,Go.Sort.grow_grow];rfl⟩
theorem Tryz.aggSt(w:World):(isAgg 48).run Tryz.prog w=.ok true w:=by kernel_rfl
theorem Tryz.sizeSt(w:World):(Go.sizeOf 48).run Tryz.prog w=.ok 7 w:=by kernel_rfl
theorem zNg{w:World}{B:Nat}(M:List Ord)(v:Value)(hv:w.ownsRow B 48 7 v M.length (M.flatMap encS))(hB:B≤w.heap.size)(hl:M.length≤1000000000):
 Cl 78 #[v,.func (.func 79) #[] #[]] w fun en w'=>en=rV #[]∧∃M':List Ord,M'.Perm M∧M'.Pairwise (fun x y=>x.id≤y.id)∧w'.ownsRow B 48 7 v M.length (M'.flatMap encS)∧Below B w w':=by
 have hin:Inhabited Ord:=⟨ord0⟩;by_cases hL:M.length=0
 ·have hM:M= []:=List.length_eq_zero_iff.1 hL;subst hM;have: ∃p cap,v=.slice p 0 cap:=by
   rcases hv.2 with⟨h1,_⟩|⟨d,cap,cur,h1,_⟩
   ·exact⟨_,_,h1⟩
   ·exact⟨_,_,h1⟩
  obtain⟨p,cap,rfl⟩:=this;have h:=AnyF.slices_SortFunc_none (P:=Tryz.prog) (ρ:=Tryz.sortSt_ren) Tryz.sortSt p cap (.func (.func 79) #[] #[]) w;refine Calls.mono h ?_;rintro en w' ⟨rfl,rfl⟩;exact⟨rfl,[],List.Perm.refl _,List.Pairwise.nil,hv,Below.refl B w'⟩
 ·rcases hv.2 with⟨_,h1⟩|⟨blk,cap,cur,rfl,hblk,hcur,hcap,hmax,hsz,htake⟩
  ·exact absurd h1 hL
  have hlt:blk<w.heap.size:=(Array.getElem?_eq_some_iff.1 hcur).1
  let d:Array Ord:=M.toArray
  have hds:d.size=M.length:=by simp[d]
  have hk: ∀x:Ord,(encS x).length=7:=fun _=>rfl
  have hcell: ∀t,t<M.length*7→cur[t]? =some ((Go.Sort.flatK encS 7 d)[t]!):=by
   intro t ht;have h1:(cur.toList.take (M.length*7))[t]? =(M.flatMap encS)[t]? :=by rw[htake]
   rw[List.getElem?_take_of_lt ht,Array.getElem?_toList,zE7 encS 7 hk (by omega) M t ht]at h1;rw[h1,Go.Sort.get_flatK _ _ _ t (by rw[hds];exact ht)];have h2:t % 7<(encS (M[t / 7]!)).length:=by rw[hk];exact Nat.mod_lt _ (by omega)
   have h3:d[t / 7]! =M[t / 7]! :=by simp[d]
   rw[h3,List.getElem?_eq_getElem h2,getElem!_pos (encS (M[t / 7]!)) (t % 7) h2]
  have hfs:(Go.Sort.flatK encS 7 d).size=M.length*7:=by simp[hds]
  have hH:Go.Sort.HoldsK encS 7 w blk 0 d:=fun j hj=>by
   rw[hfs]at hj;refine⟨?_,by simp[World.frozen?,hcur]⟩;simp only[World.cell?,hcur,Nat.zero_add];exact hcell j hj
  have hcf: ∀x y:Ord,ltOf (fun x y:Ord=>cmp3 x.id y.id) x y=decide (x.id<y.id):=fun x y=>by
   unfold ltOf;by_cases h:x.id<y.id
   ·simp[h,zCz]
   ·simp[h,zCz]
  have hO:Go.Sort.SWO (ltOf fun x y:Ord=>cmp3 x.id y.id):=⟨fun x=>by rw[hcf];simp,fun x y z h1 h2=>by rw[hcf]at *;simp at *;omega,fun x y z h1 h2=>by rw[hcf]at *;simp at *;omega⟩;have eg:=enters_of Tryz.func79 (by kernel_rfl) rfl;have h1c: ∀x:Ord,∀u∈encS x,u.oneCell'=true:=fun x u hu=>by
   simp[encS]at hu;rcases hu with rfl|rfl|rfl|rfl|rfl|rfl|rfl<;>rfl
  have hcmp:CmpLays Tryz.prog 79 #[] encS 7 (fun x y=>cmp3 x.id y.id) blk 0 d.size w:=fun _ _ _ _ x y=>zNf x y _
  have h:=AnyQ.slices_SortFunc (P:=Tryz.prog) (ρ:=Tryz.sortSt_ren) Tryz.sortSt 7 Tryz.aggSt Tryz.sizeSt encS hk h1c (fun x y=>cmp3 x.id y.id) hO 79 #[] blk 0 cap d w eg hcmp hH hlt (by omega);rw[hds]at h;refine Calls.mono h ?_;rintro en w' ⟨rfl,d',n,os,hp,hs,rfl⟩;have hd':=hp.1.trans hds;have hpl:d'.toList.Perm d.toList:=by
   have:=hp.2.2;rw[Array.toList_extract,Array.toList_extract]at this;simpa [List.extract,List.take_of_length_le,hd',hds] using this
  have hfs':(Go.Sort.flatK encS 7 d').size=M.length*7:=by simp[hd']
  have hW:Go.Proofs.sortWorldK encS 7 w blk 0 n d' os=Go.Proofs.sortWorld id w blk 0 n (Go.Sort.flatK encS 7 d') os:=rfl;rw[hW];refine⟨rfl,d'.toList,by simpa [d] using hpl,?_,⟨by rw[zE8 encS 7 hk];simp[hd'],.inr ⟨blk,cap,_,rfl,hblk,zHg id w blk n _ os hcur,hcap,hmax,by simp[Go.Sort.putCells,hsz],?_⟩⟩,rfl,rfl,rfl,zHh id w blk n _ os,fun k hk=>zE6 id w blk n _ os (by omega) (by omega)⟩
  ·rw[List.pairwise_iff_getElem];intro i j hi hj hij;have hi':i<d'.size:=by simpa using hi
   have hj':j<d'.size:=by simpa using hj
   have:=hs i j (Nat.zero_le _) hij (by omega);rw[hcf,getElem!_pos d' i hi',getElem!_pos d' j hj']at this;simp at this;simpa using this
  ·apply List.ext_getElem?;intro t;by_cases ht:t<M.length*7
   ·rw[List.getElem?_take_of_lt ht,Array.getElem?_toList,zE7 encS 7 hk (by omega) _ t (by simpa [hd'] using ht)];simp only[Go.Sort.putCells,Array.getElem?_mapIdx];have htc:t<cur.size:=by have:cap*7≥M.length*7:=Nat.mul_le_mul_right 7 hcap;omega
    rw[Array.getElem?_eq_getElem htc];have h2:t % 7<(encS (d'.toList[t / 7]!)).length:=by rw[hk];exact Nat.mod_lt _ (by omega)
    have h4:t / 7<d'.size:=by rw[hd'];exact Nat.div_lt_of_lt_mul (by omega)
    have h3:d'.toList[t / 7]! =d'[t / 7]! :=by rw[getElem!_pos d' (t / 7) h4,getElem!_pos d'.toList (t / 7) (by simpa using h4)];simp
    rw[Option.map_some,if_pos ⟨Nat.zero_le _,by rw[hfs'];omega⟩,Nat.sub_zero,Go.Sort.get_flatK _ _ _ t (by rw[hd'];exact ht),h3];rw[h3]at h2;rw[List.getElem?_eq_getElem h2,getElem!_pos (encS (d'[t / 7]!)) (t % 7) h2];rfl
   ·rw[List.getElem?_eq_none (by simp;omega),List.getElem?_eq_none (by rw[zE8 encS 7 hk];simp[hd'];omega)]
end
section
open Go.Extern Go.Maps Go.RowKit
theorem Tryz.infoPO:(Tryz.prog.info? 158).map (fun i=>(i.size,i.bytes))=some (1,8):=by kernel_rfl
theorem Tryz.zeroPO:(Tryz.prog.info? 158).map (fun i=>i.zero)=some (some (.pointer none)):=by kernel_rfl
section
variable {F:Nat→Prop} {base:Nat} {w:World} {b:Nat} {e:Eng} {g:Gh} {S:Sets}
structure Parts(w:World)(e:Eng)(g:Gh)(pb:Nat)(M:List (Nat×List Nat)):Prop where
 lt:pb<w.heap.size
 cell: ∀(n:Nat) (p:Nat×List Nat),M[n]? =some p→w.cell? (iA pb n)=some (.map (some p.1))
 map: ∀p∈M,PM ptrElem Tryz.prog 3 w p.1 (p.2.map fun i=>(idAt e.all i,some (g.blk i)))
 at9: ∀p∈M,∀j∈p.2,w.cell? (iA (g.blk j) 9)=sI (j:Int)∧g.blk j<w.heap.size
 inj: ∀p∈M,∀i∈p.2,∀j∈p.2,g.blk i=g.blk j→i=j
 len:(M.flatMap (·.2)).length≤1000000000
 few:M.length≤10
theorem Parts.below{pb:Nat}{M:List (Nat×List Nat)}(h:Parts w e g pb M)(hb:Below w.heap.size w w'):Parts w' e g pb M:=by
 have hc: ∀(q n:Nat),q<w.heap.size→w'.cell? (iA q n)=w.cell? (iA q n):=fun q n hq=>by unfold World.cell?;rw[hb.block q hq]
 exact⟨Nat.lt_of_lt_of_le h.lt hb.size,fun n p hp=>by rw[hc _ _ h.lt];exact h.cell n p hp,fun p hp=>(h.map p hp).of_block (hb.block _ (h.map p hp).lt),fun p hp j hj=>⟨by rw[hc _ _ (h.at9 p hp j hj).2];exact(h.at9 p hp j hj).1,Nat.lt_of_lt_of_le (h.at9 p hp j hj).2 hb.size⟩,h.inj,h.len,h.few⟩
def entG(e:Eng)(g:Gh)(j:Nat):Int×Option Nat:=(idAt e.all j,some (g.blk j))
theorem zNh{l js:List Nat}(hnd:l.Nodup)(hinj: ∀i∈l,∀j∈l,g.blk i=g.blk j→i=j)(hsub: ∀j∈js,j∈l)(hp:(js.map (entG e g)).Perm (l.map (entG e g)))(hn2:(l.map (entG e g)).Nodup):js.Perm l:=by
 have hjn:js.Nodup:=List.Pairwise.of_map _ (fun a c hac e1=>hac (e1▸rfl)) (hp.symm.nodup hn2);refine(List.perm_ext_iff_of_nodup hjn hnd).2 fun j=>⟨hsub j,fun hj=>?_⟩
 obtain⟨k,hk,he⟩:=List.mem_map.1 (hp.mem_iff.2 (List.mem_map_of_mem (f:=entG e g) hj));have:g.blk k=g.blk j:=by
  unfold entG at he;injection he with _ he;injection he
 rw[←hinj k (hsub k hk) j hj this];exact hk
theorem zC7: ∀{a b:List Nat},a.Nodup→(∀x∈a,x∈b)→a.length≤b.length
 | [],b,_,_=>Nat.zero_le _
 |x::r,b,hn,hs=>by
  obtain⟨h1,h2⟩:=List.nodup_cons.1 hn;have hx:x∈b:=hs x (List.mem_cons_self ..);have:=zC7 (a:=r) (b:=b.erase x) h2 (fun y hy=>(List.mem_erase_of_ne (show y≠x from fun e=>h1 (e▸hy))).2 (hs y (List.mem_cons_of_mem _ hy)));have hl:=List.length_erase_of_mem hx;have hp:=List.length_pos_of_mem hx;show r.length+1≤_;omega
theorem zE9(pb cap:Nat)(M:List (Nat×List Nat))(h:Parts w e g pb M):
 Cl 81 #[sL pb M.length cap] w fun en w'=> ∃(v:Value) (L:List Nat),en=.returned v∧L.Perm (M.flatMap (·.2))∧L.Pairwise (· ≤·)∧w'.ownsRow w.heap.size 158 1 v L.length (L.map fun j=>ptrV (g.blk j))∧Below w.heap.size w w':=by
 obtain⟨i0,hi,hz0,hz1,hz2⟩:=zB1 Tryz.infoPO Tryz.zeroPO;have HINF:Hid (Tryz.prog.info? 158=some i0∧i0.zero=some (.pointer none)∧i0.size=1∧i0.bytes=8):=⟨hi,hz0,hz1,hz2⟩;have HP:=hid h;have hml:=h.few;clear h hi hz0 hz1 hz2;go_enter Tryz.func81,Tryz.ntmps81;go_wp2_with fail;go_loopw [3,10] (fun lv iv wr=> ∃(k:Nat) (L:List Nat),iv=iV k∧k≤M.length∧L.Perm ((M.take k).flatMap (·.2))∧wr.ownsRow w.heap.size 158 1 lv L.length (L.map fun j=>ptrV (g.blk j))∧Bw w wr) (fun _ iv _=>M.length - (intOf iv).toNat)
 case atStart=>exact⟨0,[],rfl,Nat.zero_le _,List.Perm.refl _,World.ownsRow_nil _ _ _ _,Below.refl _ _⟩
 case round=>
  obtain⟨k,L,rfl,hk,hpm,hown,hbw⟩:=hrel;have HBW:=hid hbw;have HOW:=hid hown;have HPM:=hid hpm;have HLE:Hid (L.length≤1000000000):=by
   show _≤_;rw[hpm.length_eq];refine Nat.le_trans ?_ HP.len;rw[←List.take_append_drop k M,List.flatMap_append,List.length_append,List.take_append_drop];exact Nat.le_add_right _ _
  clear hown hbw hpm;by_cases hlt:k<M.length
  ·have hkI:(k:Int)<(M.length:Int):=by omega
   have hw1:wrap64 ((k:Int)+1)=(k:Int)+1:=by unfold wrap64;omega
   have hMk:M[k]? =some M[k]:=List.getElem?_eq_getElem hlt;have hPk:M[k]∈M:=List.getElem_mem hlt;have HPk:=hid hPk;have HMk:=hid hMk;have ck:wr.cell? (iA pb k)=some (.map (some M[k].1)):=(HP.below HBW.out).cell k _ hMk;have hmap:PM ptrElem Tryz.prog 3 wr M[k].1 (M[k].2.map fun i=>(idAt e.all i,some (g.blk i))):=(HP.below HBW.out).map _ hPk;have hmlt:M[k].1<w.heap.size:=(HP.map _ hPk).lt;have HML:=hid hmlt;clear hMk hPk hmlt;generalize M[k]=p at *;go_wp2_with(first
    |(at_range;refine zBu _ rfl _ _ rfl keyedInt Tryz.underlying110 rfl hmap ?_;intro w0 hpr0 hg0 hs0)
    |go_in)
   go_frame;have HB0:Hid (Bw w w0):=HBW.grown hg0 HBW.size (by simp);have HO0:=hid (HOW.kept hg0 (by rcases hq:u3.ownBlock with _|q;exact .inl rfl;exact .inr (by simp)));have HRB:Hid (w.heap.size≤wr.heap.size):=HBW.size;have HNE:Hid (u3.ownBlock≠some wr.heap.size):=fun hc=>by have:=(HOW.lt _ hc).2;omega
   clear ck hmap hg0 HOW HBW;generalize hrb:wr.heap.size=rb at *;go_loopw [3] (fun lv wr2=> ∃(rem:List (Int×Option Nat)) (js:List Nat),PR ptrElem Tryz.prog 3 wr2 p.1 rb (p.2.map fun i=>(idAt e.all i,some (g.blk i))) (js.map (entG e g)) rem∧(∀j∈js,j∈p.2)∧wr2.ownsRow w.heap.size 158 1 lv (L++js).length ((L++js).map fun j=>ptrV (g.blk j))∧lv.ownBlock≠some rb∧Bw w wr2) (fun _ wr2=>wr2.rangeLeft p.1 rb)
   case atStart=>exact⟨_,[],hpr0,(fun j hj=>by cases hj),(by simpa using HO0.out),HNE.out,HB0.out⟩
   case round=>
    obtain⟨rem,js,hpr,hsub,hown,hne,hbw⟩:=hrel;have HSB:=hid hsub;have HOW:=hid hown;have HNO:=hid hne;have HBW:=hid hbw;have HMN:Hid ((p.2.map (entG e g)).Nodup):=List.Pairwise.of_map Prod.fst (fun a c hac e1=>hac (e1▸rfl)) ((HP.map p HPk.out).nodup keyedInt);have HPN:Hid p.2.Nodup:=List.Pairwise.of_map (entG e g) (fun a c hac e1=>hac (e1▸rfl)) HMN.out;have HJL:Hid (js.length≤p.2.length):=zC7 (List.Pairwise.of_map (entG e g) (fun a c hac e1=>hac (e1▸rfl)) (((hpr.1.symm.nodup HMN.out).sublist (List.sublist_append_left _ _)))) HSB.out;have HL2:Hid ((L++js).length≤1000000000):=by
     show _≤_;rw[List.length_append,HPM.out.length_eq];have h1:((M.take (k+1)).flatMap (·.2)).length≤(M.flatMap (·.2)).length:=by
      conv=>rhs;rw[←List.take_append_drop (k+1) M,List.flatMap_append,List.length_append]
      exact Nat.le_add_right _ _
     rw[List.take_add_one,HMk.out,List.flatMap_append,List.length_append]at h1;simp only[Option.toList_some,List.flatMap_cons,List.flatMap_nil,List.append_nil]at h1;have h2:=HP.len;have h3:=HJL.out;omega
    clear hsub hown hne hbw;go_wp2_with(first
     |(at_next;refine zBv _ rfl _ rfl keyedInt Tryz.underlying3 p.1 rb (js.map (entG e g)) rem rfl hpr ?_ ?_)
     |go_in)
    ·intro h0;have HALL:Hid (js.Perm p.2):=zNh HPN.out (HP.inj p HPk.out) HSB.out (by have:=hpr.1;rw[h0,List.append_nil]at this;exact this) HMN.out;clear hpr;go_wp2;go_roundw
     case rel=>
      refine⟨k+1,L++js,by go_num,hlt,?_,HOW.out,HBW.out⟩;rw[List.take_add_one,HMk.out,List.flatMap_append];exact HPM.append (by simpa using HALL.out)
     case measure=>simp[intOf];omega
    ·intro kk v rem' w1 j0 hj0 hkk hv hpr1 hg1 hs1 hlt1 hen;subst hkk hv;have hval:ptrElem.val (some (g.blk j0))=iP (g.blk j0):=rfl;rw[hval]at hen⊢;have HPR:=hid hpr1;have HLT:=hid hlt1;have HJ:=hid hj0;have HB1:Hid (Bw w w1):=HBW.grown hg1 HBW.size (by intro q hq;injection hq with hq;have:=HRB.out;omega);have HO1:=hid (HOW.kept hg1 (.inr HNO.out));have HML2:Hid (w.heap.size≤w1.heap.size∧rb<w1.heap.size):=⟨HB1.size,HPR.lt⟩;clear hpr1 hg1 hs1 hlt1 hj0 hval hpr HOW HBW;go_wp2_with(first
      |(at_builtin;refine wpList_append_lies _ rfl _ _ 126 rfl w.heap.size 158 i0 (.pointer none) 1 8 Tryz.underlying126 HINF.1 HINF.2.1 HINF.2.2.1 HINF.2.2.2 rfl (by decide) _ _ _ rfl (HO1.alloc _) (iA w1.heap.size 0) 1 1 [iP (g.blk j0)] rfl rfl ?c1 ?c2 (by decide) ?c3 ?c4 ?c5 (w1.heap.size+1) ?c6 ?_)
      |go_in)
     case c1=>
      intro j u hj
      match j,hj with
      |0,hj=>simp at hj;subst hj;simp[Addr.add]
     case c2=>intro u hu;simp at hu;subst hu;rfl
     case c3=>have:=HL2.out;unfold maxLen;omega
     case c4=>have:=HL2.out;omega
     case c5=>have:=HML2.out;simp;omega
     case c6=>simp
     intro g' cap' w2 hown2 hgrow hat hgl;have hrow:w.heap.size≤g'∧g'≠rb:=by
      rcases hat with h3|h3
      ·exact⟨(HO1.lt g' h3).1,fun e1=>HNO.out (e1▸h3)⟩
      ·have:=HML2.out;omega
     have hup: ∀q,q<w1.heap.size→u3.ownBlock≠some q→w2.heap[q]? =w1.heap[q]? :=fun q hq hne=>by
      rw[hgrow.block q (by simp;omega) (fun e1=>hne e1.symm)];exact Below.heap_alloc w1 _ q hq
     have hbm:w2.heap[p.1]? =w1.heap[p.1]? :=hup p.1 (Nat.lt_of_lt_of_le HML.out HML2.1) (fun hc=>by have:=(HO1.lt _ hc).1;have:=HML.out;omega);have hbr:w2.heap[rb]? =w1.heap[rb]? :=hup rb HML2.2 HNO.out;have HPR2:=hid (HPR.of_blocks hbm hbr);have HLT2:Hid (w2.rangeLeft p.1 rb<wr.rangeLeft p.1 rb):=by
      show _<_;have:w2.rangeLeft p.1 rb=w1.rangeLeft p.1 rb:=by unfold World.rangeLeft;rw[hbm,hbr]
      rw[this];exact HLT.out
     have HB2:Hid (Bw w w2):=(HB1.alloc HML2.1 _).grown hgrow (by have:=HML2.1;simp;omega) (fun q hq=>by have:=(HO1.lt q hq).1;omega);have HO2:Hid (w2.ownsRow w.heap.size 158 1 (sL g' (L.length+js.length+1) cap') (L++(js++ [j0])).length ((L++(js++ [j0])).map fun j=>ptrV (g.blk j))):=by
      have e1:L++(js++ [j0])=(L++js)++ [j0]:=(List.append_assoc ..).symm;have e2:(L++(js++ [j0])).length=(L++js).length+1:=by rw[e1,List.length_append];rfl
      show World.ownsRow _ _ _ _ _ _ _;rw[e2,e1,List.map_append,List.map_append,List.append_assoc,List.length_append];exact hown2
     have HNE2:Hid ((Value.slice (some (iA g' 0)) (L.length+js.length+1) cap').ownBlock≠some rb):=fun hc=>hrow.2 (by simpa [Value.ownBlock] using hc)
     have HJS:Hid (∀j∈js++ [j0],j∈p.2):=fun j hj=>by
      rcases List.mem_append.1 hj with h1|h1
      ·exact HSB.out j h1
      ·obtain rfl:j=j0:=by simpa using h1
       exact HJ.out
     have HPR3:Hid (PR ptrElem Tryz.prog 3 w2 p.1 rb (p.2.map fun i=>(idAt e.all i,some (g.blk i))) ((js++ [j0]).map (entG e g)) rem'):=by
      show PR _ _ _ _ _ _ _ _ _;rw[List.map_append];exact HPR2.out
     clear hown2 hgrow hat hgl hrow hup hbm hbr HPR2 HO1 HB1 HPR HLT;go_wp2;go_roundw
     case rel=>exact⟨rem',js++ [j0],HPR3.out,HJS.out,HO2.out,HNE2.out,HB2.out⟩
     case measure=>exact HLT2.out
  ·have hke:k=M.length:=by omega
   subst hke;have HPF:Hid (L.Perm (M.flatMap (·.2))):=by
    have:=HPM.out;rw[List.take_length]at this;exact this
   have HSR:Hid (Cl 128 #[u3,.func (.func 129) #[] #[]] wr fun en w'=>en=rV #[]∧Hid (∃L':List Nat,L'.Perm L∧L'.Pairwise (· ≤·)∧w'.ownsRow w.heap.size 158 1 u3 L.length (L'.map fun j=>ptrV (g.blk j))∧Below w.heap.size wr w')):=by
    have hP:=HP.below HBW.out;refine(zNe g L u3 HOW.out (fun j hj=>?_) HBW.size HLE.out).mono ?_
    ·obtain⟨p,hp,hjp⟩:=List.mem_flatMap.1 (HPF.out.mem_iff.1 hj);exact⟨(hP.at9 p hp j hjp).1,(HP.at9 p hp j hjp).2⟩
    ·rintro en w' ⟨rfl,L',h1,h2,h3,h4⟩;exact⟨rfl,L',h1,h2,h3,h4⟩
   go_wp2_with fail;refine HSR.mono ?_;rintro en w2 ⟨rfl,HZ⟩;go_wp2;go_ret;obtain⟨L',h1,h2,h3,h4⟩:=HZ.out;refine⟨u3,L',rfl,h1.trans HPF.out,h2,by rw[h1.length_eq];exact h3,?_⟩;exact⟨h4.os.trans HBW.os,h4.tape.trans HBW.tape,h4.output.trans HBW.output,Nat.le_trans HBW.size h4.size,fun q hq=>(h4.block q hq).trans (HBW.block q hq)⟩
end
section
variable {F:Nat→Prop} {base:Nat} {w:World} {b:Nat} {e:Eng} {g:Gh} {S:Sets} {out odd:List Nat}
theorem CRep.parts(h:CRep F base w b e g S)(hH:Holds e S out odd)(hl:e.all.length≤100000000)(ty:TypeId)(M:List (Nat×List Nat))(hM: ∀p∈M,p=(g.dayM,S.day)∨p=(g.othM,S.oth))(hlen:M.length≤2):Parts (w.alloc (.cells (M.map fun p=>Value.map (some p.1)).toArray ty)) e g w.heap.size M:=by
 have ha:=h.alloc (.cells (M.map fun p=>Value.map (some p.1)).toArray ty);have hsm:=h.small hH;have hlive: ∀p∈M,∀j∈p.2,∃o,e.all[j]? =some o∧o.status=1:=by
  intro p hp j hj;rcases hM p hp with rfl|rfl
  ·obtain⟨o,h1,h2,_⟩:=(hH.day j).1 hj;exact⟨o,h1,h2⟩
  ·obtain⟨o,h1,h2,_⟩:=(hH.oth j).1 hj;exact⟨o,h1,h2⟩
 refine⟨by simp,fun n p hp=>?_,fun p hp=>?_,fun p hp j hj=>?_,fun p hp i hi j hj hij=>?_,?_,by omega⟩
 ·rw[World.cell?_alloc_at _ _ _ _ rfl];show(M.map fun p=>Value.map (some p.1)).toArray[n]? =_;simp[hp]
 ·rcases hM p hp with rfl|rfl
  ·exact ha.body.day
  ·exact ha.body.oth
 ·obtain⟨o,h1,h2⟩:=hlive p hp j hj;exact⟨(ha.oa h1 h2).cell 9,(ha.oa h1 h2).lt⟩
 ·obtain⟨o,h1,h2⟩:=hlive p hp i hi;obtain⟨o',h3,h4⟩:=hlive p hp j hj;exact h.body.inj i j (List.getElem?_eq_some_iff.1 h1).1 (List.getElem?_eq_some_iff.1 h3).1 hij
 ·have hb: ∀p∈M,p.2.length≤100000000:=fun p hp=>by
   rcases hM p hp with rfl|rfl
   ·exact Nat.le_trans hsm.day hl
   ·exact Nat.le_trans hsm.oth hl
  match M,hlen,hb with
  | [],_,_=>simp
  | [p],_,hb=>have:=hb p (by simp);simp;omega
  | [p,q],_,hb=>have:=hb p (by simp);have:=hb q (by simp);simp;omega
theorem zEa(h:L.Pairwise (· ≤·))(hn:L.Nodup):L.Pairwise (· < ·):=by
 refine(h.and hn).imp (fun hab=>?_);have:=hab.1;have:=hab.2;omega
structure InOrder(B:Nat)(w:World)(g:Gh)(v:Value)(L:List Nat):Prop where
 row:w.ownsRow B 158 1 v L.length (L.map fun j=>ptrV (g.blk j))
 up:L.Pairwise (· < ·)
theorem zHi(h:CRep F base w b e g S)(hH:Holds e S [] [])(hl:e.all.length≤100000000):
 Cl 49 #[.pointer (some (iA b 8))] w fun en w'=> ∃(v:Value) (L:List Nat),en=.returned v∧InOrder w.heap.size w' g v L∧(∀j,j∈L↔∃o,e.all[j]? =some o∧o.status=1)∧Below w.heap.size w w':=by
 have c8:w.cell? (iA b 8)=some (.map (some g.dayM)):=h.cell 8;have c9:w.cell? (iA b 9)=some (.map (some g.othM)):=h.cell 9;have hbl:=h.lt;have HC:Hid (∀X,(w.alloc X).cell? (iA b 8)=some (.map (some g.dayM))∧(w.alloc X).cell? (iA b 9)=some (.map (some g.othM))):=fun X=>⟨(World.cell?_alloc_lt _ _ (iA b 8) hbl).trans c8,(World.cell?_alloc_lt _ _ (iA b 9) hbl).trans c9⟩
 obtain⟨hn1,hn2,_⟩:=h.nodups;have HIN:Hid (∀W,Same (w.alloc (.cells #[.map (some g.dayM),.map (some g.othM)] 110)) W→Cl 81 #[sL w.heap.size 2 2] W fun en w'=> ∃(v:Value),en=.returned v∧w'.cell? (iA b 8)=some (.map (some g.dayM))∧w'.cell? (iA b 9)=some (.map (some g.othM))∧Hid (∃L:List Nat,InOrder w.heap.size w' g v L∧(∀j,j∈L↔∃o,e.all[j]? =some o∧o.status=1)∧Bw w w')):=by
  intro W hW;have hP:=h.parts hH hl 110 [(g.dayM,S.day),(g.othM,S.oth)] (by simp) (by simp);have hPW:=hP.below ((Below.refl _ _).grown (w':=W) (row:=none) ⟨hW.os,hW.tape,hW.output,by rw[hW.heap];exact Nat.le_refl _,fun k _ _=>by rw[hW.heap];rfl⟩ (Nat.le_refl _) (by simp));refine(zE9 w.heap.size 2 [(g.dayM,S.day),(g.othM,S.oth)] hPW).mono ?_;rintro en w' ⟨v,L,rfl,h1,h2,h3,h4⟩;have hsz:W.heap.size=w.heap.size+1:=by rw[hW.heap];simp
  have hB:Bw w w':=⟨h4.os.trans hW.os,h4.tape.trans hW.tape,h4.output.trans hW.output,by have:=h4.size;omega,fun k hk=>by rw[h4.block k (by omega),hW.heap];exact Below.heap_alloc _ _ k hk⟩;have hnd:L.Nodup:=by
   refine h1.symm.nodup ?_;simp only[List.flatMap_cons,List.flatMap_nil,List.append_nil];refine List.nodup_append.2 ⟨hn1,hn2,fun a ha c hc e1=>?_⟩;subst e1;obtain⟨x,q1,_,q2,_⟩:=(hH.day a).1 ha;obtain⟨y,q3,_,q4,_⟩:=(hH.oth a).1 hc;obtain rfl:x=y:=Option.some.inj (q1.symm.trans q3);exact q4 q2
  refine⟨v,rfl,?_,?_,L,⟨⟨h3.1,?_⟩,zEa h2 hnd⟩,fun j=>?_,hB⟩
  ·unfold World.cell? at c8⊢;rw[hB.block b hbl];exact c8
  ·unfold World.cell? at c9⊢;rw[hB.block b hbl];exact c9
  ·rcases h3.2 with h5|⟨d,cap,cur,q1,q2,q3⟩
   ·exact .inl h5
   ·exact .inr ⟨d,cap,cur,q1,by omega,q3⟩
  ·rw[h1.mem_iff];simp only[List.flatMap_cons,List.flatMap_nil,List.append_nil,List.mem_append];rw[hH.day,hH.oth];constructor
   ·rintro(⟨o,q1,q2,_⟩|⟨o,q1,q2,_⟩)<;>exact⟨o,q1,q2⟩
   ·rintro⟨o,q1,q2⟩;by_cases hL:o.life=1
    ·exact .inl ⟨o,q1,q2,hL,by simp⟩
    ·exact .inr ⟨o,q1,q2,hL,by simp⟩
 go_enter Tryz.func49,Tryz.ntmps49;go_wp2_with fail;go_region_held3(fun X=>X.cell? (iA b 8)=some (.map (some g.dayM))∧X.cell? (iA b 9)=some (.map (some g.othM))) (first|exact⟨c8,c9⟩|exact HC _|exact⟨c8',c9'⟩) ((go_at_call 81;refine(HIN _ (Same.refl _).drew).mono ?_;rintro en w2 ⟨v,rfl,c8',c9',HZ⟩));go_wp2;go_ret;obtain⟨L,h1,h2,h3⟩:=HZ;exact⟨_,L,rfl,h1,h2,h3⟩
end
def Apart(F:Nat→Prop)(w:World)(g:Gh)(v:Value)(L:List Nat):Prop:= ∃p cap,v=.slice p L.length cap∧(L= []∨∃vb,p=some (iA vb 0)∧¬F vb∧vb<w.heap.size∧∀(n j:Nat),L[n]? =some j→w.cell? (iA vb n)=some (iP (g.blk j)))
section
variable {F:Nat→Prop} {base:Nat} {w:World} {b:Nat} {e0:Eng} {g:Gh} {L:List Nat} {v:Value}
theorem zNi(reason:Int)(hr0:0≤reason∧reason≤255)(h:Coff F base w b g e0 reason L w)(hv:Apart F w g v L)(hl:L.length≤1000000000):
 Cl 156 #[iP b,iV reason,v] w fun en w'=>en=rV #[]∧Hid (Coff F base w b g e0 reason [] w'):=by
 obtain⟨p,cap,rfl,hp⟩:=hv;have HP:=hid hp;have HC:=hid h;have HR:=hid hr0;go_enter Tryz.func156,Tryz.ntmps156;go_wp2_with fail;go_loopw [10] (fun iv wr=> ∃k:Nat,iv=iV k∧k≤L.length∧Coff F base w b g e0 reason (L.drop k) wr) (fun iv _=>L.length - (intOf iv).toNat)
 case atStart=>exact⟨0,rfl,Nat.zero_le _,HC⟩
 case round=>
  obtain⟨k,rfl,hk,hc⟩:=hrel;have HC:=hid hc;by_cases hlt:k<L.length
  ·have hkI:(k:Int)<(L.length:Int):=by omega
   have hw1:wrap64 ((k:Int)+1)=(k:Int)+1:=by unfold wrap64;omega
   obtain⟨vb,rfl,hvF,hvl,hcell⟩:=HP.out.resolve_left (fun hc=>by rw[hc]at hlt;simp at hlt);have hj:L[k]? =some L[k]:=List.getElem?_eq_getElem hlt;have hd:=List.drop_eq_getElem_cons hlt;have hTw:Touch F w wr:=by obtain⟨t,S',E,_,_,hT,_⟩:=HC;exact hT
   have ck:wr.cell? (iA vb k)=some (iP (g.blk L[k])):=by
    have:=hcell k _ hj;unfold World.cell? at this⊢;rw[hTw.block vb hvl hvF];exact this
   have hone:=HC;rw[hd]at hone;obtain⟨o,hO,hq63,htell⟩:=Coff.one HR hone;have HT:=hid htell;have o0:cI wr (g.blk L[k]) 0 o.id:=hO.cell 0;have HOP:Hid (∀W,Same wr W→Cl 124 #[iP (g.blk L[k])] W fun en w1=>en=.returned (iV (o.qty - o.filled))∧cI w1 (g.blk L[k]) 0 o.id∧Hid (Same wr w1)):=by
    intro W hW;refine(zAi (hO.same hW) hq63).mono ?_;rintro en w1 ⟨rfl,hs1⟩;exact⟨rfl,(hO.same (hW.trans hs1)).cell 0,hW.trans hs1⟩
   generalize L[k]=j at *;go_wp2_with fail;go_region_held3(fun X=>X.cell? (iA (g.blk j) 0)=sI o.id) (first|exact o0|exact o1|exact o2) (first|(go_at_call 124;refine(HOP _ (Same.refl _).drew).mono ?_;rintro en w1 ⟨rfl,o1,HS1⟩)|(go_at_call 116;refine(HT _ HS1).mono ?_;rintro en w2 ⟨rfl,o2,HLA⟩));go_wp2_with fail;refine HLA.mono ?_;rintro en w3 ⟨rfl,HZ⟩;go_wp2;go_roundw
   case rel=>exact⟨k+1,by go_num,hlt,HZ⟩
   case measure=>simp[intOf];omega
  ·have hke:k=L.length:=by omega
   subst hke;have HZ:Hid (Coff F base w b g e0 reason [] wr):=by have:=HC;rw[List.drop_length]at this;exact this
   go_wp2;go_end0;exact⟨rfl,HZ⟩
end
section
variable {F:Nat→Prop} {base:Nat} {w:World} {b:Nat} {e:Eng} {g:Gh} {S:Sets} {out odd:List Nat}
theorem CRep.refoot{G:Nat→Prop}(h:CRep F base w b e g S)(h':CRep F1 base w' b e' g S')(hlen:e'.all.length=e.all.length)(h1: ∀k,k<w.heap.size→F k→G k)(h2: ∀k,w'.heap.size≤k→G k):CRep G base w' b e' g S':=by
 have B:=h'.body;have C:=h.body;have lt: ∀{k:Nat} {c:Array Value} {t:TypeId} {f:Nat×Nat},w.heap[k]? =some (.cells c t f)→F k→G k:=fun hq hF=>h1 _ (Array.getElem?_eq_some_iff.1 hq).1 hF
 obtain⟨f1,f2,f3,f4,f5,f6⟩:=C.fd;refine⟨h'.blk,lt h.blk h.own,h2,h'.low,⟨h'.txt.row,fun q hq=>h1 q (h.txt.lt q hq) (h.txt.own q hq)⟩,⟨B.day,B.oth,B.ended,B.buyB,B.selB,B.buy,B.sel,B.maps,B.ord,B.inj,B.drw,B.dls,⟨h1 _ C.day.lt f1,h1 _ C.oth.lt f2,h1 _ C.ended.lt f3,h1 _ C.buy.lt f4,h1 _ C.sel.lt f5,lt C.drw f6⟩,fun i hi=>h1 _ (h.old i (hlen▸hi)) (C.fo i (hlen▸hi))⟩,h'.old,lt C.buyB h.fb.1,lt C.selB h.fb.2.1,fun q hq=>?_⟩;rcases C.dls.2 with⟨h3,_⟩|⟨d,cap,cur,hv,hg,hh,_⟩
 ·rw[h3]at hq;exact absurd hq (by simp[Value.ownBlock])
 ·have hq':=hq;rw[hv]at hq';have:d=q:=by simpa [Value.ownBlock] using hq'
  subst this;exact lt hh (h.fb.2.2 d hq)
def Foot(F:Nat→Prop)(w w':World)(k:Nat):Prop:=(F k∧k<w.heap.size)∨w'.heap.size≤k
theorem CRep.foot(h:CRep F base w b e g S)(h':CRep F1 base w' b e' g S')(hlen:e'.all.length=e.all.length):CRep (Foot F w w') base w' b e' g S':=h.refoot h' hlen (fun k h1 h2=>.inl ⟨h2,h1⟩) (fun k hk=>.inr hk)
theorem CRep.foots{g':Gh}(hup: ∀k,w.heap.size≤k→F k)(hs:w.heap.size≤w'.heap.size)(h:CRep (Foot F w w') base w2 b e' g' S'):CRep F base w2 b e' g' S':=by
 have hF: ∀k,Foot F w w' k→F k:=fun k hk=>hk.elim (fun h=>h.1) (fun h=>hup k (Nat.le_trans hs h))
 have B:=h.body;obtain⟨f1,f2,f3,f4,f5,f6⟩:=B.fd;exact⟨h.blk,hF _ h.own,fun k hk=>hF _ (h.up k hk),h.low,⟨h.txt.row,fun q hq=>hF _ (h.txt.own q hq)⟩,⟨B.day,B.oth,B.ended,B.buyB,B.selB,B.buy,B.sel,B.maps,B.ord,B.inj,B.drw,B.dls,⟨hF _ f1,hF _ f2,hF _ f3,hF _ f4,hF _ f5,hF _ f6⟩,fun i hi=>hF _ (B.fo i hi)⟩,h.old,hF _ h.fb.1,hF _ h.fb.2.1,fun q hq=>hF _ (h.fb.2.2 q hq)⟩
theorem Touch.foots(hup: ∀k,w.heap.size≤k→F k)(hs:w.heap.size≤w'.heap.size)(h:Touch (Foot F w w') w' w2):Touch F w' w2:=⟨h.os,h.tape,h.output,h.size,fun k hk hf=>h.block k hk (fun hc=>hf (hc.elim (fun h=>h.1) (fun h=>hup k (Nat.le_trans hs h))))⟩
theorem Cdone.foots(hup: ∀k,w.heap.size≤k→F k)(hT:Touch F w w')(h:Cdone (Foot F w w') base w' b g e' w2):Cdone F base w b g e' w2:=by
 obtain⟨t,S',h1,h2,h3⟩:=h;exact⟨t,S',CRep.foots hup hT.size h1,h2,hT.trans (Touch.foots hup hT.size h3)⟩
theorem CRep.grew{w3:World}(h:CRep F base w b e g S)(h':CRep F1 base w2 b e' g S')(hlen:e'.all.length=e.all.length)(hB:Below w.heap.size w2 w3):CRep F1 base w3 b e' g S':=by
 have B:=h'.body;have C:=h.body;have lt: ∀{k:Nat} {c:Array Value} {t:TypeId} {f:Nat×Nat},w.heap[k]? =some (.cells c t f)→w3.heap[k]? =w2.heap[k]? :=fun hq=>hB.block _ (Array.getElem?_eq_some_iff.1 hq).1
 refine⟨(lt h.blk).trans h'.blk,h'.own,fun k hk=>h'.up k (Nat.le_trans hB.size hk),Nat.le_trans h'.low hB.size,⟨⟨h'.txt.row.1,?_⟩,h'.txt.own⟩,⟨B.day.of_block (hB.block _ C.day.lt),B.oth.of_block (hB.block _ C.oth.lt),B.ended.of_block (hB.block _ C.ended.lt),(lt C.buyB).trans B.buyB,(lt C.selB).trans B.selB,B.buy.of_block (hB.block _ C.buy.lt),B.sel.of_block (hB.block _ C.sel.lt),B.maps,fun i o ho hs=>?_,B.inj,(lt C.drw).trans B.drw,⟨B.dls.1,?_⟩,B.fd,B.fo⟩,fun i hi=>Nat.lt_of_lt_of_le (h'.old i hi) hB.size,h'.fb⟩
 ·rcases h'.txt.row.2 with h3|⟨d,cap,cur,hv,hg,hh,r⟩
  ·exact .inl h3
  ·refine .inr ⟨d,cap,cur,hv,hg,?_,r⟩;rw[hB.block d (h.txt.lt d (by rw[hv];rfl))];exact hh
 ·rw[hB.block _ (h.old i (hlen▸(List.getElem?_eq_some_iff.1 ho).1))];exact B.ord i o ho hs
 ·rcases B.dls.2 with h3|⟨d,cap,cur,hv,hg,hh,r⟩
  ·exact .inl h3
  ·refine .inr ⟨d,cap,cur,hv,hg,?_,r⟩;have:d<w.heap.size:=by
    rcases C.dls.2 with⟨h3,_⟩|⟨d',cap',cur',hv',hg',hh',_⟩
    ·rw[h3]at hv;cases hv
    ·rw[hv]at hv';injection hv' with h1 _ _;injection h1 with h1;injection h1 with h1;subst h1;exact(Array.getElem?_eq_some_iff.1 hh').1
   rw[hB.block d this];exact hh
theorem zNj{D:List Nat}{k:Nat}(h:D.Sublist L)(hp:L.Pairwise (· < ·))(hm: ∀x∈D,x∈L.take k):D.Sublist (L.take k):=by
 rw[←List.take_append_drop k L]at h;obtain⟨a,c,rfl,h1,h2⟩:=List.sublist_append_iff.1 h;have hc:c= []:=by
  cases c with
  |nil=>rfl
  |cons x r=>
   have hx1:=hm x (by simp);have hx2:=h2.subset (List.mem_cons_self ..);rw[←List.take_append_drop k L,List.pairwise_append]at hp;have:=hp.2.2 x hx1 x hx2;omega
 subst hc;rw[List.append_nil];exact h1
theorem Coff.done{e0:Eng}{reason:Int}(h:Coff F base w b g e0 reason [] w'):Cdone F base w b g e0 w':=by
 obtain⟨t,S',E,h1,h2,h3,_,_,_,_,h4⟩:=h;have:E=e0:=h4;subst this;exact⟨t,S',h1,h2,h3⟩
theorem Holds.outs{out':List Nat}(h:Holds e S out odd)(ho: ∀j,j∈out↔j∈out'):Holds e S out' odd:=⟨fun j=>by rw[h.day,ho],fun j=>by rw[h.oth,ho],h.ended,h.buy1,h.buy2,h.sel1,h.sel2⟩
theorem zHj{id:Int}(inv:Eng.EInv e){i:Nat}{o:Ord}(ho:e.all[i]? =some o)(hs:o.status=1)(hid:o.id=id):e.liveAt id=some i:=by
 have hf:e.find id=some i:=by
  rcases hf:e.find id with _|k
  ·exact absurd hid (Eng.find_none hf i o ho)
  ·obtain⟨x,hx,hxi⟩:=Eng.find_some hf;rw[inv.ids k i x o hx ho (hxi.trans hid.symm)]
 unfold Eng.liveAt;rw[hf];simp only[ho];rw[if_pos hs]
theorem zNk{id:Int}(inv:Eng.EInv e)(h:e.liveAt id=none)(j:Nat)(o:Ord)(ho:e.all[j]? =some o)(hs:o.status=1):o.id≠id:=fun hc=>by rw[zHj inv ho hs hc]at h;cases h
theorem zC8(id:Int)(h63:r63 id)(h:CRep F base w b e g S)(inv:Eng.EInv e)(hH:Holds e S [] []):
 Cl 154 #[.pointer (some (iA b 8)),iV id] w fun en w'=>en=rV #[optPtr g (e.liveAt id),.bool (e.liveAt id).isSome]∧Same w w':=by
 rcases hL:e.liveAt id with _|i
 ·have hno:=zNk inv hL;refine zMa id h63 h (fun j hj=>?_) (fun j hj=>?_)
  ·obtain⟨o,h1,h2,_⟩:=(hH.day j).1 hj;rw[zAe h1];exact hno j o h1 h2
  ·obtain⟨o,h1,h2,_⟩:=(hH.oth j).1 hj;rw[zAe h1];exact hno j o h1 h2
 ·obtain⟨o,ho,hid',hs⟩:=Eng.liveAt_some hL;by_cases hl:o.life=1
  ·exact zM8 id h63 h i ((hH.day i).2 ⟨o,ho,hs,hl,by simp⟩) (by rw[zAe ho];exact hid')
  ·refine zM9 id h63 h i ((hH.oth i).2 ⟨o,ho,hs,hl,by simp⟩) (by rw[zAe ho];exact hid') (fun j hj=>?_);obtain⟨x,h1,h2,h3,_⟩:=(hH.day j).1 hj;rw[zAe h1];intro hc;have:=inv.ids j i x o h1 ho (hc.trans hid'.symm);subst this;obtain rfl:x=o:=Option.some.inj (h1.symm.trans ho);exact hl h3
theorem zNl(h:CRep F base w b e g S)(hH:Holds e S [] [])(hl:e.all.length≤100000000):
 Cl 163 #[.pointer (some (iA b 8))] w fun en w'=> ∃(v:Value) (L:List Nat),en=.returned v∧InOrder w.heap.size w' g v L∧(∀j,j∈L↔∃o,e.all[j]? =some o∧o.status=1∧o.life=1)∧CRep F base w' b e g { S with day:=[] }∧Touch F w w':=by
 have c8:w.cell? (iA b 8)=some (.map (some g.dayM)):=h.cell 8;have hbl:=h.lt;obtain⟨hn1,hn2,_⟩:=h.nodups;have HIN:Hid (Cl 81 #[sL w.heap.size 1 1] (w.alloc (.cells #[.map (some g.dayM)] 110)) fun en w'=> ∃(v:Value),en=.returned v∧w'.cell? (iA b 8)=some (.map (some g.dayM))∧∃w2,(∀ty,(Builtin.clear_ #[110] ty #[.map (some g.dayM)]).run Tryz.prog w'=.ok (.tuple #[]) w2)∧Hid (∃L:List Nat,InOrder w.heap.size w2 g v L∧(∀j,j∈L↔∃o,e.all[j]? =some o∧o.status=1∧o.life=1)∧CRep F base w2 b e g { S with day:=[] }∧Touch F w w2)):=by
  have hP:=h.parts hH hl 110 [(g.dayM,S.day)] (by simp) (by simp);refine(zE9 w.heap.size 1 [(g.dayM,S.day)] hP).mono ?_;rintro en w' ⟨v,L,rfl,h1,h2,h3,h4⟩;have h4':Below (w.alloc (.cells #[.map (some g.dayM)] 110)).heap.size (w.alloc (.cells #[.map (some g.dayM)] 110)) w':=h4;have hB:Bw w w':=zAa ((Below.refl w.heap.size w).alloc (Nat.le_refl _) _) h4';have hnd:L.Nodup:=h1.symm.nodup (by simpa using hn1);have hC:=h.below hB;obtain⟨w2,q1,q2,q3⟩:=hC.body.day.clear Tryz.underlying110 0;obtain⟨r1,r2⟩:=hC.turn_day (Turned.of q3) [] q2;have hsz:(w.alloc (.cells #[.map (some g.dayM)] 110)).heap.size=w.heap.size+1:=by simp
  have h3':w'.ownsRow w.heap.size 158 1 v L.length (L.map fun j=>ptrV (g.blk j)):=by
   refine⟨h3.1,?_⟩;rcases h3.2 with h5|⟨d,cap,cur,q4,q5,q6⟩
   ·exact .inl h5
   ·refine .inr ⟨d,cap,cur,q4,?_,q6⟩;have q5:(w.alloc (.cells #[.map (some g.dayM)] 110)).heap.size≤d:=q5;omega
  refine⟨v,rfl,hC.cell 8,w2,?_,L,⟨(Turned.of q3).row h3',zEa h2 hnd⟩,fun j=>?_,r1,(zAp h.up hB).trans r2⟩
  ·intro ty;exact q1
  ·rw[h1.mem_iff];simp only[List.flatMap_cons,List.flatMap_nil,List.append_nil];rw[hH.day];constructor
   ·rintro⟨o,q1,q2,q3,_⟩;exact⟨o,q1,q2,q3⟩
   ·rintro⟨o,q1,q2,q3⟩;exact⟨o,q1,q2,q3,by simp⟩
 go_enter Tryz.func163,Tryz.ntmps163;go_wp2_with fail;refine HIN.mono ?_;rintro en w1 ⟨v,rfl,c8',w2,hcl,HZ⟩;go_wp2;go_ret;obtain⟨L,h1,h2,h3,h4⟩:=HZ;exact⟨_,L,rfl,h1,h2,h3,h4⟩
end
def dueP(time:Int)(o:Ord):Bool:=o.life == 3 && decide (o.time≤time)
section
variable {F:Nat→Prop} {base:Nat} {w:World} {b:Nat} {e:Eng} {g:Gh} {S:Sets} {out odd:List Nat}
structure Due(F:Nat→Prop)(base:Nat)(w:World)(b:Nat)(e:Eng)(g:Gh)(time:Int)(L:List Nat)(v:Value)(k:Nat)(dv:Value)(D:List Nat)(wr:World):Prop where
 sub:D.Sublist L
 is: ∀j,j∈D↔j∈L.take k∧Eng.atQ (dueP time) e j=true
 rep: ∃S',CRep F base wr b e g S'∧Holds e S' D []
 row:wr.ownsRow w.heap.size 158 1 dv D.length (D.map fun j=>ptrV (g.blk j))
 all:wr.ownsRow w.heap.size 158 1 v L.length (L.map fun j=>ptrV (g.blk j))
 ne: ∀q,dv.ownBlock=some q→v.ownBlock≠some q
 touch:Touch F w wr
theorem zNm(time:Int)(h:CRep F base w b e g S)(inv:Eng.EInv e)(hH:Holds e S [] [])(hl:e.all.length≤100000000):
 Cl 162 #[.pointer (some (iA b 8)),iV time] w fun en w'=> ∃(v:Value) (L:List Nat),en=.returned v∧InOrder w.heap.size w' g v L∧(∀j,j∈L↔∃o,e.all[j]? =some o∧o.status=1∧dueP time o=true)∧(∃S',CRep F base w' b e g S'∧Holds e S' L [])∧Touch F w w':=by
 obtain⟨i0,hi,hz0,hz1,hz2⟩:=zB1 Tryz.infoPO Tryz.zeroPO;have HINF:Hid (Tryz.prog.info? 158=some i0∧i0.zero=some (.pointer none)∧i0.size=1∧i0.bytes=8):=⟨hi,hz0,hz1,hz2⟩;have c9:w.cell? (iA b 9)=some (.map (some g.othM)):=h.cell 9;obtain⟨hn1,hn2,_⟩:=h.nodups;have hsm:=h.small hH;have HIN:Hid (Cl 81 #[sL w.heap.size 1 1] (w.alloc (.cells #[.map (some g.othM)] 110)) fun en w'=> ∃(p:Option Addr) (cap:Nat) (L:List Nat),en=.returned (.slice p L.length cap)∧Hid (L.length≤100000000∧L.Pairwise (· < ·)∧(∀j,j∈L↔∃o,e.all[j]? =some o∧o.status=1∧¬o.life=1)∧Due F base w b e g time L (.slice p L.length cap) 0 (.slice none 0 0) [] w')):=by
  have hP:=h.parts hH hl 110 [(g.othM,S.oth)] (by simp) (by simp);refine(zE9 w.heap.size 1 [(g.othM,S.oth)] hP).mono ?_;rintro en w' ⟨v,L,rfl,h1,h2,h3,h4⟩;have h4':Below (w.alloc (.cells #[.map (some g.othM)] 110)).heap.size (w.alloc (.cells #[.map (some g.othM)] 110)) w':=h4;have hB:Bw w w':=zAa ((Below.refl w.heap.size w).alloc (Nat.le_refl _) _) h4';have hnd:L.Nodup:=h1.symm.nodup (by simpa using hn2);have h1':L.Perm S.oth:=by simpa using h1
  obtain⟨p,cap,rfl⟩: ∃p cap,v=.slice p L.length cap:=by
   rcases h3.2 with⟨h5,h6⟩|⟨d,cap,cur,h5,_⟩
   ·exact⟨none,0,by rw[h5,h6]⟩
   ·exact⟨_,_,h5⟩
  have h3':w'.ownsRow w.heap.size 158 1 (.slice p L.length cap) L.length (L.map fun j=>ptrV (g.blk j)):=by
   refine⟨h3.1,?_⟩;rcases h3.2 with h5|⟨d,cap,cur,q4,q5,q6⟩
   ·exact .inl h5
   ·refine .inr ⟨d,cap,cur,q4,?_,q6⟩;have q5:(w.alloc (.cells #[.map (some g.othM)] 110)).heap.size≤d:=q5;have hsz:(w.alloc (.cells #[.map (some g.othM)] 110)).heap.size=w.heap.size+1:=by simp
    omega
  refine⟨p,cap,L,rfl,?_,zEa h2 hnd,fun j=>?_,⟨List.nil_sublist _,fun j=>by simp,⟨S,h.below hB,hH⟩,World.ownsRow_nil _ _ _ _,h3',fun q hq=>by simp[Value.ownBlock]at hq,zAp h.up hB⟩⟩
  ·rw[h1'.length_eq];exact Nat.le_trans hsm.oth hl
  ·rw[h1'.mem_iff,hH.oth];constructor
   ·rintro⟨o,q1,q2,q3,_⟩;exact⟨o,q1,q2,q3⟩
   ·rintro⟨o,q1,q2,q3⟩;exact⟨o,q1,q2,q3,by simp⟩
 have HCR:=hid h;have HI:=hid inv;go_enter Tryz.func162,Tryz.ntmps162;go_wp2_with fail;refine HIN.mono ?_;rintro en w1 ⟨p,cap,L,rfl,HZ⟩;have hL:=HZ.1;have HLL:Hid (∀j,j∈L↔∃o,e.all[j]? =some o∧o.status=1∧¬o.life=1):=HZ.2.2.1;have HLP:=hid HZ.2.1;go_wp2_with fail;go_loopw [5,15] (fun dv iv wr=> ∃(k:Nat) (D:List Nat),iv=iV k∧k≤L.length∧Due F base w b e g time L (.slice p L.length cap) k dv D wr) (fun _ iv _=>L.length - (intOf iv).toNat)
 case atStart=>exact⟨0,[],rfl,Nat.zero_le _,HZ.2.2.2⟩
 case round=>
  obtain⟨k,D,rfl,hk,hD⟩:=hrel;have HD:=hid hD;by_cases hlt:k<L.length
  ·have hkI:(k:Int)<(L.length:Int):=by omega
   have hw1:wrap64 ((k:Int)+1)=(k:Int)+1:=by unfold wrap64;omega
   have hj:L[k]? =some L[k]:=List.getElem?_eq_getElem hlt;have hjm:L[k]∈L:=List.getElem_mem hlt;obtain⟨vb,rfl⟩: ∃vb,p=some (iA vb 0):=by
    rcases HD.out.all.2 with⟨h5,h6⟩|⟨d,cap',cur,h5,_⟩
    ·omega
    ·injection h5 with h5 _ _;exact⟨d,h5⟩
   have ck:wr.cell? (iA vb k)=some (iP (g.blk L[k])):=by
    rw[HD.out.all.cellAt k (by omega),List.getElem?_map,hj];rfl
   obtain⟨o,ho,hs,hlife⟩:=(HLL.out L[k]).1 hjm;obtain⟨S',hC,hH'⟩:=HD.out.rep;have hO:=hC.oa ho hs;have o7:cI wr (g.blk L[k]) 7 o.life:=hO.cell 7;have o8:cI wr (g.blk L[k]) 8 o.time:=hO.cell 8;have HO:=hid ho;have HS:=hid hs;have HJ:=hid hj;have htk:L.take (k+1)=L.take k++ [L[k]]:=by rw[List.take_add_one,hj];rfl
   have HTK:=hid htk;have hnot:Eng.atQ (dueP time) e L[k]=dueP time o:=by unfold Eng.atQ;rw[ho]
   have HQ:=hid hnot;have hkD:L[k]∉D:=fun hc=>by
    have h1:=((HD.is _).1 hc).1;have h2:=HLP.out;rw[←List.take_append_drop k L,List.pairwise_append]at h2;have h3:L[k]∈L.drop k:=by rw[List.drop_eq_getElem_cons hlt];exact List.mem_cons_self ..
    have:=h2.2.2 _ h1 _ h3;omega
   have HKD:=hid hkD;have HNO:Hid (dueP time o=false→Due F base w b e g time L (sL vb L.length cap) (k+1) u5 D wr):=fun hc=>by
    refine{ HD.out with is:=fun j=>?_ };rw[HD.out.is,HTK.out];constructor
    ·rintro⟨h1,h2⟩;exact⟨List.mem_append_left _ h1,h2⟩
    ·rintro⟨h1,h2⟩;rcases List.mem_append.1 h1 with h1|h1
     ·exact⟨h1,h2⟩
     ·obtain rfl:j=L[k]:=by simpa using h1
      rw[HQ.out,hc]at h2;cases h2
   by_cases q1:o.life=3
   ·by_cases q2:o.time≤time
    ·have HYES:Hid (dueP time o=true):=by show _=_;simp[dueP,q1,q2]
     have HRM:Hid (∀W,Same wr W→Cl 155 #[.pointer (some (iA b 8)),iP (g.blk L[k])] W fun en w2=>en=rV #[]∧Hid ((∃S',CRep F base w2 b e g S'∧Holds e S' (L[k]::D) [])∧w2.ownsRow w.heap.size 158 1 u5 D.length (D.map fun j=>ptrV (g.blk j))∧w2.ownsRow w.heap.size 158 1 (sL vb L.length cap) L.length (L.map fun j=>ptrV (g.blk j))∧Touch F w w2)):=by
      intro W hW;obtain⟨S',hC,hH'⟩:=HD.out.rep;have hCW:=hC.same hW;have hok:=HI.ok _ _ HO.out;have hft:=HCR.foot hCW rfl;have hid63:r63 o.id:=zA0 (by have:=hok.id0;omega) (by have:=hok.id1;omega);refine(zE2 hft (hft.oa HO.out HS.out) hid63).mono ?_;rintro en w2 ⟨rfl,q1,q2,q3⟩;have hsz:w.heap.size≤W.heap.size:=by rw[hW.heap];exact HD.touch.size
      have keep: ∀{v:Value} {n:Nat} {xs:List Value},wr.ownsRow w.heap.size 158 1 v n xs→w2.ownsRow w.heap.size 158 1 v n xs:=by
       intro v n xs hr;refine⟨hr.1,?_⟩;rcases hr.2 with h5|⟨d,cap',cur,h5,h6,h7,h8⟩
       ·exact .inl h5
       ·refine .inr ⟨d,cap',cur,h5,h6,?_,h8⟩;have hdl:d<W.heap.size:=by rw[hW.heap];exact(Array.getElem?_eq_some_iff.1 h7).1
        rw[q2.block d hdl (fun hc=>hc.elim (fun h=>by omega) (fun h=>by omega)),hW.heap];exact h7
      exact⟨rfl,⟨_,CRep.foots HCR.up hsz q1,hH'.leave HI.out HO.out⟩,keep HD.row,keep HD.all,(HD.touch.trans hW.touch).trans (Touch.foots HCR.up hsz q2)⟩
     generalize hjj:L[k]=j0 at *;go_wp2_with fail;refine(HRM.out _ (Same.refl _)).mono ?_;rintro en w2 ⟨rfl,HX⟩;have HDL:Hid (D.length≤100000000):=Nat.le_trans HD.sub.length_le hL;have hB2:w.heap.size≤w2.heap.size:=HX.2.2.2.size;have HO1:=hid HX.2.1;go_wp2_with(first
      |(at_builtin;refine wpList_append_lies _ rfl _ _ 126 rfl w.heap.size 158 i0 (.pointer none) 1 8 Tryz.underlying126 HINF.1 HINF.2.1 HINF.2.2.1 HINF.2.2.2 rfl (by decide) _ _ _ rfl (HO1.alloc _) (iA w2.heap.size 0) 1 1 [iP (g.blk j0)] rfl rfl ?c1 ?c2 (by decide) ?c3 ?c4 ?c5 (w2.heap.size+1) ?c6 ?_)
      |go_in)
     case c1=>
      intro j u hj
      match j,hj with
      |0,hj=>simp at hj;subst hj;simp[Addr.add]
     case c2=>intro u hu;simp at hu;subst hu;rfl
     case c3=>have:=HDL.out;unfold maxLen;omega
     case c4=>have:=HDL.out;omega
     case c5=>simp;omega
     case c6=>simp
     intro g' cap' w3 hown2 hgrow hat hgl;have HNX:Hid (Due F base w b e g time L (sL vb L.length cap) (k+1) (sL g' (D.length+1) cap') (D++ [j0]) w3):=by
      obtain⟨⟨S2,hC2,hH2⟩,hr2,ha2,hT2⟩:=HX.out;have hrow:w.heap.size≤g':=by
       rcases hat with h3|h3
       ·exact(hr2.lt g' h3).1
       ·omega
      have hnev: ∀q,u5.ownBlock=some q→vb≠q:=fun q hq e1=>HD.ne q hq (by rw[←e1];rfl)
      have hup: ∀q,q<w2.heap.size→u5.ownBlock≠some q→w3.heap[q]? =w2.heap[q]? :=fun q hq hne=>by
       rw[hgrow.block q (by simp;omega) (fun e1=>hne e1.symm)];exact Below.heap_alloc w2 _ q hq
      have hall3:w3.ownsRow w.heap.size 158 1 (sL vb L.length cap) L.length (L.map fun j=>ptrV (g.blk j)):=(ha2.alloc _).kept hgrow (by
       rcases hq:u5.ownBlock with _|q
       ·exact .inr (by simp[Value.ownBlock])
       ·exact .inr (fun hc=>hnev q hq (by simpa [Value.ownBlock] using hc)))
      have hvl:vb<w2.heap.size:=(ha2.lt vb rfl).2;have hB3:Below w.heap.size w2 w3:=((Below.refl w.heap.size w2).alloc hB2 _).grown hgrow (by simp;omega) (fun q hq=>by have:=(hr2.lt q hq).1;omega);have hblk: ∀q,q<w2.heap.size→F q→q<w.heap.size→w3.heap[q]? =w2.heap[q]? :=fun q hq _ hlt=>hB3.block q hlt
      have hft:=HCR.foot hC2 rfl;have hC3:CRep F base w3 b e g S2:=CRep.grew HCR.out hC2 rfl hB3;refine⟨?_,fun j=>?_,⟨S2,hC3,hH2.outs (fun j=>by simp[or_comm])⟩,?_,hall3,fun q hq=>?_,hT2.trans ⟨hB3.os,hB3.tape,hB3.output,hB3.size,fun q hq hf=>?_⟩⟩
      ·have h1:(L.take (k+1)).Sublist L:=List.take_sublist _ _;refine List.Sublist.trans ?_ h1;have h2:D.Sublist (L.take k):=by
        have hnd: ∀x∈D,x∈L.take k:=fun x hx=>((HD.is x).1 hx).1
        exact zNj HD.sub HLP.out hnd
       rw[HTK.out];exact h2.append (List.Sublist.refl _)
      ·rw[HTK.out,List.mem_append,List.mem_append,HD.out.is];constructor
       ·rintro(⟨h1,h2⟩|h1)
        ·exact⟨.inl h1,h2⟩
        ·obtain rfl:j=j0:=by simpa using h1
         exact⟨.inr (by simp),HQ.trans HYES.out⟩
       ·rintro⟨h1|h1,h2⟩
        ·exact .inl ⟨h1,h2⟩
        ·exact .inr h1
      ·rw[List.length_append,List.map_append];exact hown2
      ·have:g'=q:=by simpa [Value.ownBlock] using hq
       subst this;intro hc;have hvg:vb=g':=by simpa [Value.ownBlock] using hc
       rcases hat with h3|h3
       ·exact hnev g' h3 hvg
       ·omega
      ·by_cases hqw:q<w.heap.size
       ·exact hB3.block q hqw
       ·exact absurd (HCR.up q (by omega)) hf
     go_wp2;go_roundw
     case rel=>exact⟨k+1,D++ [j0],by go_num,hlt,HNX.out⟩
     case measure=>simp[intOf];omega
    ·have HX:=hid (HNO.out (by simp[dueP,q2]));go_wp2;go_roundw
     case rel=>exact⟨k+1,D,by go_num,hlt,HX.out⟩
     case measure=>simp[intOf];omega
   ·have HX:=hid (HNO.out (by simp[dueP,q1]));go_wp2;go_roundw
    case rel=>exact⟨k+1,D,by go_num,hlt,HX.out⟩
    case measure=>simp[intOf];omega
  ·have hke:k=L.length:=by omega
   subst hke;go_wp2;go_ret;have hD:=HD.out;refine⟨_,D,rfl,⟨hD.row,HLP.sublist hD.sub⟩,fun j=>?_,hD.rep,hD.touch⟩;rw[hD.is,List.take_length,HLL.out];unfold Eng.atQ;constructor
   ·rintro⟨⟨o,h1,h2,h3⟩,h4⟩;rw[h1]at h4;exact⟨o,h1,h2,h4⟩
   ·rintro⟨o,h1,h2,h3⟩;refine⟨⟨o,h1,h2,fun hc=>?_⟩,by rw[h1];exact h3⟩;simp[dueP,hc]at h3
end
end
end Go.Proofs.YtanfmhonjpjpoaaGreatDoor
