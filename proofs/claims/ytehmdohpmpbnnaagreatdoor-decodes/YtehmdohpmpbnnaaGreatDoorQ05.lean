import Derived.Test.YtehmdohpmpbnnaaGreatDoorQ00
import Derived.WalkKit
import Derived.Below
import Derived.Laws.BitsLemmas
import Derived.Laws.IdiomStrings
set_option linter.all false
set_option maxRecDepth 100000
set_option maxHeartbeats 8000000
namespace Go.Proofs.YtehmdohpmpbnnaaGreatDoor
variable{b:Int}{k:IntKind}
open Go.Proofs.Tryz
open Go.Extern Go.RowKit
theorem sD{a:Int}(h:a=b):Ending.returned (.int k a)=.returned (.int k b):=by rw[h]
theorem zA0{a:Int}(h:a=b):Value.int k a=.int k b:=by rw[h]
theorem wT{a b:Bool}(h:a=b):Ending.returned (.bool a)=rB b:=by rw[h]
def aC(c n:Int):Int:=(if c<0 then -(c+1) else c) % n
theorem fT(c n:Int)(h:0<n):0≤aC c n∧aC c n<n:=by
 unfold aC;exact⟨Int.emod_nonneg _ (by omega),Int.emod_lt_of_pos _ h⟩
theorem eH(c n:Int)(w:World)(h1: -9223372036854775808≤c)(h2:c≤9223372036854775807)(h3:0<n)(h4:n≤9223372036854775807):
 Cl 23 #[iV c,iV n] w fun e w'=>e=.returned (iV (aC c n))∧w'=w:=by
 by_cases A:c<0
 ·go_enter func23,ntmps23;go_wp2;go_ret;refine⟨sD ?_,rfl⟩;simp only[aC,A,if_true];rw[Int.neg_add]at *;rw[←Int.neg_tmod,Int.tmod_eq_emod_of_nonneg (by omega)]
  congr 1;omega
 go_enter func23,ntmps23;go_wp2;go_ret;refine⟨sD ?_,rfl⟩;rw[aC,if_neg (by omega)]
theorem jZ(s:ByteArray)(w:World)(hs:s.size≤4):
 Cl 65 #[.string s] w fun e w'=>e=.returned (iV (val s.data.toList))∧w'=w:=by
 go_enter func65,ntmps65;go_wp2;go_loop [3,4] (fun n i=> ∃k:Nat,k≤s.size∧i=iV k∧n=iV (val (s.data.toList.take k))) (fun _ i=>s.size - (intOf i).toNat)
 case atStart=>exact⟨0,Nat.zero_le _,rfl,rfl⟩
 case round=>
  obtain⟨k,F,rfl,rfl⟩:=hrel;have G:(s.data.toList.take k).length≤k:=List.length_take_le _ _;have D:=eX (s.data.toList.take k);have E:=oP (s.data.toList.take k) (by omega);by_cases B:k<s.size
  ·have A:=zB5 (s.data.toList.take k) s[k];rw[←zDu s k B]at A;have C:=hid A;go_wp2;go_round
   case rel=>exact⟨k+1,by omega,by go_num,zA0 (by rw[C.o];have:=s[k].toNat_lt;unfold wrap64;omega)⟩
   case measure=>simp[intOf];omega
  go_wp2;go_ret;exact⟨sD (by rw[List.take_of_length_le (by simp;omega)]),rfl⟩
theorem zE1(a b:Int)(h0:0≤a)(h1:a<4294967296)(h2:0≤b)(h3:b<256):bits .or .i64 (a*256) b=256*a+b:=by
 rw[bits_join .i64 40 (by decide) (fun n h0 h1=>by simp only[IntKind.wrap,IntKind.bits,IntKind.signed];simp;omega) 8 (a*256) b (by omega) (by omega) (by omega) h2 (by omega) (by omega)];omega
theorem zB7(s:ByteArray)(a k:Nat)(h:a+k<s.size):(s.data.toList.drop a).take (k+1)=(s.data.toList.drop a).take k++ [s[a+k]]:=by
 rw[List.take_succ_eq_append_getElem (by simp;show k<s.size - a;omega),List.getElem_drop];rfl
theorem zu(s:ByteArray)(at_ width:Nat)(w:World)(hw:width≤4)(ha:at_+width≤s.size)(hm:s.size≤1000000000):
 Cl 123 #[.string s,iV at_,iV width] w fun e w'=>e=.returned (iV (val ((s.data.toList.drop at_).take width)))∧w'=w:=by
 go_enter func123,ntmps123;go_wp2;go_loop [7,10] (fun n i=> ∃k:Nat,k≤width∧i=iV k∧n=iV (val ((s.data.toList.drop at_).take k))) (fun _ i=>width - (intOf i).toNat)
 case atStart=>exact⟨0,Nat.zero_le _,rfl,rfl⟩
 case round=>
  obtain⟨k,F,rfl,rfl⟩:=hrel;have G:((s.data.toList.drop at_).take k).length≤k:=List.length_take_le _ _;have A:=eX ((s.data.toList.drop at_).take k);have B:=oP ((s.data.toList.drop at_).take k) (by omega);by_cases D:k<width
  ·have C:at_+k<s.size:=by omega
   go_wp2;go_round
   case rel=>
    refine⟨k+1,by omega,by go_num,zA0 ?_⟩;have E:=s[at_+k].toNat_lt;rw[zB7 s at_ k C,zB5,show wrap64 (s[at_+k].toNat:Int)=(s[at_+k].toNat:Int) by unfold wrap64;omega];exact zE1 _ _ A B (by omega) (by omega)
   case measure=>simp[intOf];omega
  go_wp2;go_ret;have:k=width:=by omega
  subst this;exact⟨rfl,rfl⟩
theorem zE2(n:Int)(width:Nat)(w:World)(hw:width≤4)(h1: -9223372036854775808≤n)(h2:n≤9223372036854775807):
 Cl 122 #[iV n,iV width] w fun e w'=>e=.returned (.bool (decide (0≤n∧n<256 ^ width)))∧w'=w:=by
 go_enter func122,ntmps122;go_wp2;go_ret;refine⟨wT ?_,rfl⟩;have A:width=0∨width=1∨width=2∨width=3∨width=4:=by omega
 rcases A with rfl|rfl|rfl|rfl|rfl<;>(rw[Bool.eq_iff_iff];simp;omega)
theorem wU(n:Int)(w:World)(h1: -9223372036854775808≤n)(h2:n≤9223372036854775807):
 Cl 121 #[iV n] w fun e w'=>e=.returned (.bool (decide (-2147483648≤n∧n<2147483648)))∧w'=w:=by
 go_enter func121,ntmps121;go_wp2;go_ret;refine⟨wT ?_,rfl⟩;rw[Bool.eq_iff_iff];simp only[beq_iff_eq,decide_eq_true_eq,wrap64,wrap32];omega
theorem conv1(w:World)(x:Int)(h0:0≤x)(h1:x<256):
 (convert 86 9 (sL w.heap.size 1 1)).run prog (w.alloc (.cells #[.int .u8 x] 5))=.ok (.string ⟨#[UInt8.ofNat x.toNat]⟩) (w.alloc (.cells #[.int .u8 x] 5)):=by
 refine run_convert_bytes_back _ 86 9 5 (iA w.heap.size 0) 1 [UInt8.ofNat x.toNat] underlying86 underlying5 underlying9 ?_;intro j A;have:j=0:=by simpa using A
 subst this;simp[Addr.add];omega
theorem za(v:Int)(n:Nat)(w:World)(hn:n≤4)(h0:0≤v)(h1:v≤9223372036854775807):
 Cl 103 #[iV v,iV n] w fun e w'=>e=.returned (.string ⟨(be n v).toArray⟩)∧Below w.heap.size w w':=by
 go_enter func103,ntmps103;go_wp2;go_loopw [0,5,6] (fun x t i wr=> ∃k:Nat,k≤n∧i=iV k∧x=iV (v / 256 ^ k)∧t=.string ⟨(be k v).toArray⟩∧Bw w wr) (fun _ _ i _=>n - (intOf i).toNat)
 case atStart=>exact⟨0,Nat.zero_le _,rfl,by simp,rfl,Below.refl _ _⟩
 case round=>
  obtain⟨k,H,rfl,rfl,rfl,A⟩:=hrel;have F:0≤v / 256 ^ k:=Int.ediv_nonneg (by omega) (Int.pow_nonneg (by omega));have G:v / 256 ^ k≤9223372036854775807:=Int.le_trans (Int.ediv_le_self _ (by omega)) (by omega);have I:(be k v).length≤4:=by rw[zl];omega
  by_cases E:k<n
  ·generalize hq:v / 256 ^ k=q at *;have B:=hid hq;generalize hg:be k v=l at *;have C:=hid hg;have D:=conv1 wr (q % 256) (by omega) (by omega);go_wp2;go_roundw
   case rel=>
    refine⟨k+1,by omega,by go_num,zA0 ?_,?_,A.alloc A.size _⟩
    ·rw[←B.o];exact zB6 _ _
    rw[zA8,B.o,C.o];exact congrArg Value.string (aZ [_] _)
   case measure=>simp[intOf];omega
  have:k=n:=by omega
  subst this;go_wp2;go_ret;exact⟨rfl,A⟩
theorem zE3(v:Int)(n:Nat)(w:World)(hn:n≤4)(h0:v<0)(h1: -4294967296≤v):
 Cl 103 #[iV v,iV n] w fun e w'=>e=.returned (.string ⟨(be n (v+4294967296)).toArray⟩)∧Below w.heap.size w w':=by
 go_enter func103,ntmps103;go_wp2;go_loopw [0,5,6] (fun x t i wr=> ∃k:Nat,k≤n∧i=iV k∧x=iV ((v+4294967296) / 256 ^ k)∧t=.string ⟨(be k (v+4294967296)).toArray⟩∧Bw w wr) (fun _ _ i _=>n - (intOf i).toNat)
 case atStart=>exact⟨0,Nat.zero_le _,rfl,by simp,rfl,Below.refl _ _⟩
 case round=>
  obtain⟨k,H,rfl,rfl,rfl,A⟩:=hrel;have F:0≤(v+4294967296) / 256 ^ k:=Int.ediv_nonneg (by omega) (Int.pow_nonneg (by omega));have G:(v+4294967296) / 256 ^ k≤9223372036854775807:=Int.le_trans (Int.ediv_le_self _ (by omega)) (by omega);have I:(be k (v+4294967296)).length≤4:=by rw[zl];omega
  by_cases E:k<n
  ·generalize hq:(v+4294967296) / 256 ^ k=q at *;have B:=hid hq;generalize hg:be k (v+4294967296)=l at *;have C:=hid hg;have D:=conv1 wr (q % 256) (by omega) (by omega);go_wp2;go_roundw
   case rel=>
    refine⟨k+1,by omega,by go_num,zA0 ?_,?_,A.alloc A.size _⟩
    ·rw[←B.o];exact zB6 _ _
    rw[zA8,B.o,C.o];exact congrArg Value.string (aZ [_] _)
   case measure=>simp[intOf];omega
  have:k=n:=by omega
  subst this;go_wp2;go_ret;exact⟨rfl,A⟩
theorem zE4(v:Int)(w:World)(h0: -4294967296≤v)(h1:v≤9223372036854775807):
 Cl 103 #[iV v,iV 4] w fun e w'=>e=.returned (.string ⟨(be 4 v).toArray⟩)∧Below w.heap.size w w':=by
 by_cases h:v<0
 ·have:=zE3 v 4 w (by omega) h h0;rw[show v+4294967296=v+1*256 ^ 4 by omega,zDw]at this;exact this
 exact za v 4 w (by omega) (by omega) h1
def terms(kind:Int):List (Nat×Nat):=
 if kind=1 then[(0,4),(1,1),(2,1),(3,4),(4,4),(5,4),(6,4),(7,1),(8,4)]
 else if kind=2 then[(0,4)] else if kind=3 then[(0,4),(3,4),(4,4)] else if kind=4 then[(8,4)] else[]
theorem bX(kind:Int):∀p∈terms kind,p.1<9∧(p.2=1∨p.2=4)∧(p.1=6→p.2=4):=by
 intro p A;unfold terms at A;split at A
 ·simp at A;rcases A with rfl|rfl|rfl|rfl|rfl|rfl|rfl|rfl|rfl<;>decide
 split at A
 ·simp at A;rcases A with rfl;decide
 split at A
 ·simp at A;rcases A with rfl|rfl|rfl<;>decide
 split at A
 ·simp at A;rcases A with rfl;decide
 simp at A
theorem kC(kind:Int):(terms kind).length≤9:=by
 unfold terms;repeat' split
 all_goals decide
def fit(p:Nat×Nat)(x:Int):Bool:=if p.1=6 then decide (-2147483648≤x∧x<2147483648) else decide (0≤x∧x<256 ^ p.2)
def body(l:List (Nat×Nat))(v:Nat→Int):List UInt8:=l.flatMap fun p=>be p.2 (v p.1)
theorem zB8(l:List (Nat×Nat))(p:Nat×Nat)(v:Nat→Int):body (l++ [p]) v=body l v++be p.2 (v p.1):=by simp[body,List.flatMap_append]
theorem qN(l:List (Nat×Nat))(v:Nat→Int)(h:∀p∈l,p.2≤4):(body l v).length≤4*l.length:=by
 induction l with
 |nil=>simp[body]
 |cons a l ih=>
  have A:=ih (fun p hp=>h p (List.mem_cons_of_mem _ hp));have B:=h a (List.mem_cons_self ..);simp only[body,List.flatMap_cons,List.length_append,List.length_cons,zl]at A⊢;omega
def bad:List (Nat×Nat)→(Nat→Int)→Option Nat
 | [],_=>none
 |p::l,v=>if fit p (v p.1) then(bad l v).map (· +1) else some 0
theorem zB9(l m:List (Nat×Nat))(v:Nat→Int)(h:bad l v=none):bad (l++m) v=(bad m v).map (· +l.length):=by
 induction l with
 |nil=>simp
 |cons a l ih=>
  simp only[bad]at h;split at h
  ·rename_i B;have A:bad l v=none:=by simpa using h
   rw[List.cons_append,bad,if_pos B,ih A,Option.map_map]
   congr 1
  cases h
def jl(kind:Int)(v:Nat→Int):List UInt8×Int×Int:=
 if 1≤kind∧kind≤5 then
  match bad (terms kind) v with
  |some i=>([],3,i)
  |none=>(byteOf ((body (terms kind) v).length+1)::byteOf kind::body (terms kind) v,0,-1)
 else([],2,-1)
def gG(w:World)(v:Value)(l:List Int):Prop:=
 (v=.slice none 0 0∧l= [])∨∃b,v=sL b l.length l.length∧l≠[]∧∀i (h:i<l.length),w.cell? (iA b i)=sI (l[i])
theorem gG.below{w w':World}{v:Value}{l:List Int}(h:gG w v l)(hb:Below w.heap.size w w'):gG w' v l:=by
 rcases h with h|⟨b,B,C,A⟩
 ·exact .inl h
 exact .inr ⟨b,B,C,fun i hi=>(hb.cell (p:=(iA b i)) (by have:=A i hi;rcases Nat.lt_or_ge b w.heap.size with q|q;exact q;simp[World.cell?,Array.getElem?_eq_none q]at this)).trans (A i hi)⟩
def mz(kind:Int):List Int:=(terms kind).map fun p=>(p.1:Int)
def dR(kind:Int):List Int:=(terms kind).map fun p=>(p.2:Int)
theorem gH(w:World)(t:TypeId)(l:List Int)(c:Array Value)(hc:c=(l.map (iV)).toArray)(i:Nat)(h:i<l.length):(w.alloc (.cells c t)).cell? (iA w.heap.size i)=sI (l[i]):=by
 subst hc;rw[World.cell?_alloc_new];simp[h]
theorem lX(w:World)(t:TypeId)(l:List Int)(c:Array Value)(o:Obj)(hc:c=(l.map (iV)).toArray)(i:Nat)(h:i<l.length):((w.alloc (.cells c t)).alloc o).cell? (iA w.heap.size i)=sI (l[i]):=by
 rw[World.cell?_alloc_lt _ _ _ (by simp)];exact gH w t l c hc i h
theorem lY(w:World)(t:TypeId)(l:List Int)(c:Array Value)(o:Obj)(hc:c=(l.map (iV)).toArray)(i:Nat)(h:i<l.length):((w.alloc o).alloc (.cells c t)).cell? (iA (w.heap.size+1) i)=sI (l[i]):=by
 have:=gH (w.alloc o) t l c hc i h;simpa using this
def Fresh(B:Nat)(v:Value):Prop:= ∀b o l c,v=.slice (some (iA b o)) l c→B≤b
theorem bY{B b o l c:Nat}(h:B≤b):Fresh B (.slice (some (iA b o)) l c):=fun b' o' l' c' e=>by
 injection e with e1;injection e1 with e2;injection e2 with e3;omega
theorem sF{B l c:Nat}:Fresh B (.slice none l c):=fun b' o' l' c' e=>by
 injection e with e1;cases e1
theorem zBa(kind:Int)(w:World):
 Cl 64 #[iV kind] w fun e w'=> ∃a b,e=rV #[a,b]∧gG w' a (mz kind)∧gG w' b (dR kind)∧Below w.heap.size w w'∧Fresh w.heap.size a∧Fresh w.heap.size b:=by
 by_cases A:kind=1
 ·subst A;go_enter func64,ntmps64;go_wp2;go_ret2;exact⟨_,_,rfl,.inr ⟨_,rfl,by decide,fun i hi=>lX _ _ _ _ _ rfl i hi⟩,.inr ⟨_,rfl,by decide,fun i hi=>lY _ _ _ _ _ rfl i hi⟩,((Below.refl _ _).alloc (Nat.le_refl _) _).alloc (by simp) _,bY (Nat.le_refl _),bY (by simp)⟩
 by_cases B:kind=2
 ·subst B;go_enter func64,ntmps64;go_wp2;go_ret2;exact⟨_,_,rfl,.inr ⟨_,rfl,by decide,fun i hi=>lX _ _ _ _ _ rfl i hi⟩,.inr ⟨_,rfl,by decide,fun i hi=>lY _ _ _ _ _ rfl i hi⟩,((Below.refl _ _).alloc (Nat.le_refl _) _).alloc (by simp) _,bY (Nat.le_refl _),bY (by simp)⟩
 by_cases C:kind=3
 ·subst C;go_enter func64,ntmps64;go_wp2;go_ret2;exact⟨_,_,rfl,.inr ⟨_,rfl,by decide,fun i hi=>lX _ _ _ _ _ rfl i hi⟩,.inr ⟨_,rfl,by decide,fun i hi=>lY _ _ _ _ _ rfl i hi⟩,((Below.refl _ _).alloc (Nat.le_refl _) _).alloc (by simp) _,bY (Nat.le_refl _),bY (by simp)⟩
 by_cases D:kind=4
 ·subst D;go_enter func64,ntmps64;go_wp2;go_ret2;exact⟨_,_,rfl,.inr ⟨_,rfl,by decide,fun i hi=>lX _ _ _ _ _ rfl i hi⟩,.inr ⟨_,rfl,by decide,fun i hi=>lY _ _ _ _ _ rfl i hi⟩,((Below.refl _ _).alloc (Nat.le_refl _) _).alloc (by simp) _,bY (Nat.le_refl _),bY (by simp)⟩
 have F:=beq_eq_false_iff_ne.2 A;have G:=beq_eq_false_iff_ne.2 B;have H:=beq_eq_false_iff_ne.2 C;have I:=beq_eq_false_iff_ne.2 D;have e:terms kind= []:=by simp[terms,A,B,C,D]
 have E:=hid e;go_enter func64,ntmps64;go_wp2;go_ret2;exact⟨_,_,rfl,.inl ⟨rfl,by rw[mz,E.o];rfl⟩,.inl ⟨rfl,by rw[dR,E.o];rfl⟩,Below.refl _ _,sF,sF⟩
theorem zE5(kind:Int)(w:World):
 Cl 64 #[iV kind] w fun e w'=> ∃a b,e=rV #[a,b]∧gG w' a (mz kind)∧gG w' b (dR kind)∧Below w.heap.size w w':=by
 refine(zBa kind w).mono ?_;rintro e w' ⟨a,b,A,B,C,D,-⟩;exact⟨a,b,A,B,C,D⟩
abbrev nine9(v:Nat→Int):List Value:=[iV (v 0),iV (v 1),iV (v 2),iV (v 3),iV (v 4),iV (v 5),iV (v 6),iV (v 7),iV (v 8)]
theorem zE6(w:World)(t:TypeId)(kind:Int)(v:Nat→Int)(j:Nat)(hj:j<9):
 (w.alloc (.cells #[iV kind,iV (v 0),iV (v 1),iV (v 2),iV (v 3),iV (v 4),iV (v 5),iV (v 6),iV (v 7),iV (v 8)] t)).cell? (iA w.heap.size (1+j))=sI (v j):=by
 have h:j=0∨j=1∨j=2∨j=3∨j=4∨j=5∨j=6∨j=7∨j=8:=by omega
 rcases h with rfl|rfl|rfl|rfl|rfl|rfl|rfl|rfl|rfl<;>simp
theorem dS{w:World}{a:Addr}{v:Value}(h:w.cell? a=some v):a.block<w.heap.size:=by
 rcases Nat.lt_or_ge a.block w.heap.size with A |A
 ·exact A
 simp[World.cell?,Array.getElem?_eq_none A]at h
theorem pow1:(256:Int) ^ 1=256:=rfl
theorem pow4:(256:Int) ^ 4=4294967296:=rfl
theorem fit1(pa:Nat)(h:pa≠6)(x:Int):fit (pa,1) x=decide (0≤x∧x<256):=by unfold fit;rw[if_neg h];exact decide_eq_decide.2 Iff.rfl
theorem fit4(pa:Nat)(h:pa≠6)(x:Int):fit (pa,4) x=decide (0≤x∧x<4294967296):=by unfold fit;rw[if_neg h];exact decide_eq_decide.2 Iff.rfl
theorem ret3{a a':ByteArray}{b' c c':Int}(h1:a=a')(h2:b=b')(h3:c=c'):Ending.returned (.tuple #[.string a,iV b,iV c])=rV #[.string a',iV b',iV c']:=by subst h1 h2 h3;rfl
theorem zBb(l:List (Nat×Nat))(k:Nat)(h:k<l.length)(v:Nat→Int)(hb:bad (l.take k) v=none):(fit l[k] (v l[k].1)=true→bad (l.take (k+1)) v=none)∧(fit l[k] (v l[k].1)=false→bad l v=some k):=by
 constructor
 ·intro A;rw[List.take_succ_eq_append_getElem h,zB9 _ _ _ hb];simp[bad,A]
 intro A;have e:l=l.take k++l[k]::l.drop (k+1):=by rw[←List.drop_eq_getElem_cons h,List.take_append_drop]
 rw[e,zB9 _ _ _ hb];simp[bad,A];omega
theorem zE7(kind:Int)(v:Nat→Int)(w:World)(hv:∀i,i<9→-9223372036854775808≤v i∧v i≤9223372036854775807):
 Cl 61 #[.agg #[iV kind,iV (v 0),iV (v 1),iV (v 2),iV (v 3),iV (v 4),iV (v 5),iV (v 6),iV (v 7),iV (v 8)]] w fun e w'=>
  e=rV #[.string ⟨(jl kind v).1.toArray⟩,iV (jl kind v).2.1,iV (jl kind v).2.2]∧Below w.heap.size w w':=by
 have HV:Hd (∀i,i<9→-9223372036854775808≤v i∧v i≤9223372036854775807):=hv;clear hv;by_cases hk:1≤kind∧kind≤5
 ·have d:=zE6 w 104 kind v;have HC:Hd (∀j,j<9→(w.alloc (.cells #[iV kind,iV (v 0),iV (v 1),iV (v 2),iV (v 3),iV (v 4),iV (v 5),iV (v 6),iV (v 7),iV (v 8)] 104)).cell? (iA w.heap.size (1+j))=sI (v j)):=d;clear d;have A8:(w.alloc (.cells #[iV kind,iV (v 0),iV (v 1),iV (v 2),iV (v 3),iV (v 4),iV (v 5),iV (v 6),iV (v 7),iV (v 8)] 104)).cell? (iA w.heap.size 0)=sI kind:=by simp
  have A2:Bw w (w.alloc (.cells #[iV kind,iV (v 0),iV (v 1),iV (v 2),iV (v 3),iV (v 4),iV (v 5),iV (v 6),iV (v 7),iV (v 8)] 104)):=(Below.refl _ _).alloc (Nat.le_refl _) _;obtain⟨H,I⟩:=hk;go_enter func61,ntmps61;go_wp2_with fail;refine(zE5 kind _).mono ?_;rintro e w2 ⟨a,b,rfl,A4,A6,J⟩;have A9:=(J.cell (p:=(iA w.heap.size 0)) (by simp)).trans A8;go_wp2_with fail;refine(za kind 1 _ (by omega) (by omega) (by omega)).mono ?_;rintro e w3 ⟨rfl,O⟩;have A5:=A4.below O;have A7:=A6.below O;have Ad:Hd (∀j,j<9→cI w3 w.heap.size (1+j) (v j)):=fun j hj=>(O.cell (p:=(iA w.heap.size (1+j))) (by have:=J.size;simp at this;show w.heap.size<w2.heap.size;omega)).trans ((J.cell (p:=(iA w.heap.size (1+j))) (by simp)).trans (HC.o j hj))
  have E:w.heap.size<w3.heap.size:=by have:=J.size;have:=O.size;simp at *;omega
  have F:Hd (Bw w w3):=(A2.trans (J.mono (by simp))).trans (O.mono (by have:=J.size;simp at this;omega));clear A8 A9 A2 J O A4 A6 HC;have K:(mz kind).length=(terms kind).length:=by simp[mz]
  have D:(dR kind).length=(terms kind).length:=by simp[dR]
  have Af:=kC kind;rcases A5 with⟨rfl,L⟩|⟨ba,rfl,Ac,R⟩
  ·have ht:terms kind= []:=by simpa [mz] using L
   have HT:Hd (jl kind v=([1,byteOf kind],0,-1)):=by
    show jl kind v=_;rw[jl,if_pos ⟨H,I⟩,ht];rfl
   clear L ht K D Af;go_wp2_with fail;refine wp_loop_rounds 1 ?_;rw[rounds_succ];go_wp2_with fail;refine(za 1 1 _ (by omega) (by omega) (by omega)).mono ?_;rintro e w4 ⟨rfl,C⟩;go_wp2;go_ret3;refine⟨?_,F.trans (C.mono (Nat.le_of_lt E))⟩;rw[HT.o];exact ret3 (aZ [_] [_]) rfl rfl
  rcases A7 with⟨rfl,L⟩|⟨bb,rfl,-,S⟩
  ·exact absurd (by have:terms kind= []:=by simpa [dR] using L
                    simp[mz,this]) Ac
  rw[K,D];have HA:Hd (∀i (h:i<(mz kind).length),cI w3 ba i ((mz kind)[i])):=R;have A0:Hd (∀i (h:i<(dR kind).length),cI w3 bb i ((dR kind)[i])):=S;clear R S Ac;have HL:Hd ((mz kind).length=(terms kind).length):=K;have A1:Hd ((dR kind).length=(terms kind).length):=D;clear K D;generalize hN:(terms kind).length=n at *;have HN:Hd ((terms kind).length=n):=hN;clear hN;go_wp2_with fail;go_loopw [7,8] (fun t i wr=> ∃k:Nat,k≤n∧i=iV k∧t=.string ⟨(byteOf kind::body ((terms kind).take k) v).toArray⟩∧bad ((terms kind).take k) v=none∧Bw w3 wr) (fun _ i _=>n - (intOf i).toNat)
  case atStart=>exact⟨0,Nat.zero_le _,rfl,rfl,rfl,Below.refl _ _⟩
  case round=>
   obtain⟨k,Aj,rfl,rfl,c,G⟩:=hrel;have Ae:(body ((terms kind).take k) v).length≤36:=by
    have h1:=qN ((terms kind).take k) v (fun p hp=>by have:=bX kind p (List.mem_of_mem_take hp);omega);have h2:((terms kind).take k).length≤9:=by rw[List.length_take];omega
    omega
   have Y:Hd (bad ((terms kind).take k) v=none):=c;clear c;by_cases T:k<n
   ·have X:k<(terms kind).length:=by rw[HN.o];exact T
    have Ag:=bX kind _ (List.getElem_mem X);have g:=zBb (terms kind) k X v Y.o;have z:body ((terms kind).take (k+1)) v=body ((terms kind).take k) v++be (terms kind)[k].2 (v (terms kind)[k].1):=by
     rw[List.take_succ_eq_append_getElem X,zB8]
    have R:=(G.cell (p:=(iA ba k)) (dS (HA.o k (by rw[HL.o];exact T)))).trans (HA.o k (by rw[HL.o];exact T));have S:=(G.cell (p:=(iA bb k)) (dS (A0.o k (by rw[A1.o];exact T)))).trans (A0.o k (by rw[A1.o];exact T));simp only[mz,dR,List.getElem_map]at R S;generalize hp:(terms kind)[k]=p at *;obtain⟨M,pb⟩:=p;obtain⟨s,u,U⟩:=Ag;simp only at s u U R S g z;have hx:=(G.cell (p:=(iA w.heap.size (1+M))) E).trans (Ad.o M s);have hr:=HV.o M s;have f:Hd (body ((terms kind).take (k+1)) v=body ((terms kind).take k) v++be pb (v M)):=z;have B:Hd ((fit (M,pb) (v M)=true→bad ((terms kind).take (k+1)) v=none)∧(fit (M,pb) (v M)=false→bad (terms kind) v=some k)):=g;clear z g hp X;generalize hgl:body ((terms kind).take k) v=l at *;have Ah:Hd (body ((terms kind).take k) v=l):=hgl;clear hgl;generalize hgx:v M=x at *;have Ak:(0:Int)≤(M:Int)∧(M:Int)<9:=by omega
    obtain⟨Al,Am⟩:=hr;have Ai:Hd (v M=x):=hgx;clear hgx;by_cases Z:M=6
    ·have h4:pb=4:=U Z;subst Z h4;clear u U;by_cases Ab:x<(-2147483648)
     ·have A:=B.2 (by simp[fit];omega);have N:Hd (jl kind v=([],3,(k:Int))):=by
       show jl kind v=_;rw[jl,if_pos ⟨H,I⟩,A]
      clear A;go_wp2;go_ret3;refine⟨?_,F.trans (G.mono (Nat.le_of_lt E))⟩;rw[N.o];exact ret3 rfl rfl rfl
     by_cases A3:2147483647<x
     ·have A:=B.2 (by simp[fit];omega);have N:Hd (jl kind v=([],3,(k:Int))):=by
       show jl kind v=_;rw[jl,if_pos ⟨H,I⟩,A]
      clear A;go_wp2;go_ret3;refine⟨?_,F.trans (G.mono (Nat.le_of_lt E))⟩;rw[N.o];exact ret3 rfl rfl rfl
     have A:=B.1 (by simp[fit];omega);have HF:Hd (bad ((terms kind).take (k+1)) v=none):=A;clear A;go_wp2_with fail;refine(zE4 x _ (by omega) (by omega)).mono ?_;rintro e w4 ⟨rfl,C⟩;have q:(be 4 x).length≤4:=by rw[zl];omega
     generalize hg4:be 4 x=l4 at *;have V:Hd (be 4 x=l4):=hg4;clear hg4;go_wp2;go_roundw
     case rel=>
      refine⟨k+1,by omega,by go_num,?_,HF.o,G.trans (C.mono G.size)⟩;rw[f.o];exact congrArg Value.string (aZ (_::_) _)
     case measure=>simp[intOf];omega
    have g6:((M:Int) == 6)=false:=beq_eq_false_iff_ne.2 (by omega);rcases u with h4|h4
    ·subst h4;clear U;by_cases Ab:x<0
     ·have A:=B.2 (by rw[fit1 _ Z];simp;omega);have N:Hd (jl kind v=([],3,(k:Int))):=by
       show jl kind v=_;rw[jl,if_pos ⟨H,I⟩,A]
      clear A;go_wp2;go_ret3;refine⟨?_,F.trans (G.mono (Nat.le_of_lt E))⟩;rw[N.o];exact ret3 rfl rfl rfl
     by_cases A3:255<x
     ·have A:=B.2 (by rw[fit1 _ Z];simp;omega);have N:Hd (jl kind v=([],3,(k:Int))):=by
       show jl kind v=_;rw[jl,if_pos ⟨H,I⟩,A]
      clear A;go_wp2;go_ret3;refine⟨?_,F.trans (G.mono (Nat.le_of_lt E))⟩;rw[N.o];exact ret3 rfl rfl rfl
     have A:=B.1 (by rw[fit1 _ Z];simp;omega);have HF:Hd (bad ((terms kind).take (k+1)) v=none):=A;clear A;go_wp2_with fail;refine(za x 1 _ (by omega) (by omega) (by omega)).mono ?_;rintro e w4 ⟨rfl,C⟩;have q:(be 1 x).length≤4:=by rw[zl];omega
     generalize hg4:be 1 x=l4 at *;have V:Hd (be 1 x=l4):=hg4;clear hg4;go_wp2;go_roundw
     case rel=>
      refine⟨k+1,by omega,by go_num,?_,HF.o,G.trans (C.mono G.size)⟩;rw[f.o];exact congrArg Value.string (aZ (_::_) _)
     case measure=>simp[intOf];omega
    subst h4;clear U;by_cases Ab:x<0
    ·have A:=B.2 (by rw[fit4 _ Z];simp;omega);have N:Hd (jl kind v=([],3,(k:Int))):=by
      show jl kind v=_;rw[jl,if_pos ⟨H,I⟩,A]
     clear A;go_wp2;go_ret3;refine⟨?_,F.trans (G.mono (Nat.le_of_lt E))⟩;rw[N.o];exact ret3 rfl rfl rfl
    by_cases A3:4294967295<x
    ·have A:=B.2 (by rw[fit4 _ Z];simp;omega);have N:Hd (jl kind v=([],3,(k:Int))):=by
      show jl kind v=_;rw[jl,if_pos ⟨H,I⟩,A]
     clear A;go_wp2;go_ret3;refine⟨?_,F.trans (G.mono (Nat.le_of_lt E))⟩;rw[N.o];exact ret3 rfl rfl rfl
    have A:=B.1 (by rw[fit4 _ Z];simp;omega);have HF:Hd (bad ((terms kind).take (k+1)) v=none):=A;clear A;go_wp2_with fail;refine(za x 4 _ (by omega) (by omega) (by omega)).mono ?_;rintro e w4 ⟨rfl,C⟩;have q:(be 4 x).length≤4:=by rw[zl];omega
    generalize hg4:be 4 x=l4 at *;have V:Hd (be 4 x=l4):=hg4;clear hg4;go_wp2;go_roundw
    case rel=>
     refine⟨k+1,by omega,by go_num,?_,HF.o,G.trans (C.mono G.size)⟩;rw[f.o];exact congrArg Value.string (aZ (_::_) _)
    case measure=>simp[intOf];omega
   have Aa:k=n:=by omega
   subst Aa;have y:(terms kind).take k=terms kind:=List.take_of_length_le (by rw[HN.o];omega);have N:Hd (jl kind v=(byteOf ((body (terms kind) v).length+1)::byteOf kind::body (terms kind) v,0,-1)):=by
    show jl kind v=_;have:=Y.o;rw[y]at this;rw[jl,if_pos ⟨H,I⟩,this]
   rw[y]at Ae⊢;clear y;generalize hgl:body (terms kind) v=l at *;clear hgl;go_wp2_with fail;refine(za ((l.length:Int)+1) 1 _ (by omega) (by omega) (by omega)).mono ?_;rintro e w4 ⟨rfl,C⟩;have q:(be 1 ((l.length:Int)+1)).length≤4:=by rw[zl];omega
   generalize hg4:be 1 ((l.length:Int)+1)=l4 at *;have V:Hd (be 1 ((l.length:Int)+1)=l4):=hg4;clear hg4;go_wp2;go_ret3;refine⟨?_,F.trans ((G.trans (C.mono G.size)).mono (Nat.le_of_lt E))⟩;rw[N.o];refine ret3 ?_ rfl rfl;rw[←V.o];exact aZ [_] (_::_)
 have HT:Hd (jl kind v=([],2,-1)):=by
  show jl kind v=_;rw[jl,if_neg hk]
 have m:kind<1∨5<kind:=by omega
 clear hk;rcases m with m |m;all_goals
  go_enter func61,ntmps61;go_wp2;go_ret3;refine⟨?_,(Below.refl _ _).alloc (Nat.le_refl _) _⟩;rw[HT.o];exact ret3 rfl rfl rfl
def eB(b:UInt8):Value:=.int .u8 (b.toNat:Int)
theorem bF{P:Program}{t:TypeId}{z:Value}{s b:Nat}(h:(P.info? t).map (fun i=>(i.size,i.bytes))=some (s,b))(hz:(P.info? t).map (fun i=>i.zero)=some (some z)):∃i,P.info? t=some i∧i.zero=some z∧i.size=s∧i.bytes=b:=by
 obtain⟨i,A,e⟩:=Option.map_eq_some_iff.1 h;rw[A]at hz;simp at e hz;exact⟨i,A,hz,e.1,e.2⟩
theorem Tryz.infoU8:(prog.info? 5).map (fun i=>(i.size,i.bytes))=some (1,1):=by kernel_rfl
theorem Tryz.zeroU8:(prog.info? 5).map (fun i=>i.zero)=some (some (.int .u8 0)):=by kernel_rfl
theorem pow28(j:Nat):(2:Int) ^ (8*j)=256 ^ j:=by
 rw[Int.pow_mul];rfl
theorem zP2(x:Int)(j:Nat)(h:j≤4):UInt8.ofNat ((x / 2 ^ (8*j)) % 256).toNat=byteOf (x / 256 ^ j):=by
 have A:j=0∨j=1∨j=2∨j=3∨j=4:=by omega
 rcases A with rfl|rfl|rfl|rfl|rfl<;>rfl
theorem zAj(x:Int):((byteOf x).toNat:Int)=x % 256:=by
 unfold byteOf;rw[UInt8.toNat_ofNat'];omega
theorem zE8(B:Nat)(v:Value)(n:Nat)(xs:List Value)(x:Int)(width:Nat)(w:World)(hw:width≤4)(hn:n≤1000)(hB:B≤w.heap.size)(hown:w.ownsRow B 5 1 v n xs)
 (h1: -9223372036854775808≤x) (h2:x≤9223372036854775807):
 Cl 91 #[v,iV x,iV width] w fun e w'=> ∃v',e=.returned v'∧w'.ownsRow B 5 1 v' (n+width) (xs++(be width x).map eB)∧Below B w w':=by
 obtain⟨d,b,N,O,R⟩:=bF Tryz.infoU8 Tryz.zeroU8;go_enter func91,ntmps91;go_wp2;go_loopw [0,2] (fun t j wr=> ∃(k:Nat) (C:List UInt8),k≤width∧j=iV k∧C++be k x=be width x∧wr.ownsRow B 5 1 t (n+C.length) (xs++C.map eB)∧Below B w wr) (fun _ j _=>(intOf j).toNat)
 case atStart=>exact⟨width,[],Nat.le_refl _,rfl,rfl,by simpa using hown,Below.refl _ _⟩
 case round=>
  obtain⟨k,C,T,rfl,G,A,J⟩:=hrel;have M:C.length+k=width:=by
   have:=congrArg List.length G;simpa [zl] using this
  have F:=hid G;have Z:=J.size;have S:=hown;by_cases K:k=0
  ·subst K;go_wp2;go_ret;have e:C=be width x:=by simpa [be] using F.o
   refine⟨_,rfl,?_,J⟩;rw[←e,←M];exact A
  obtain⟨j,rfl⟩:∃j,k=j+1:=⟨k - 1,by omega⟩;have c:(0:Int)<(j:Int)+1:=by omega
  go_wp2_with(at_builtin;refine wpList_append_own _ rfl _ _ 86 rfl B 5 d (.int .u8 0) 1 1 underlying86 b N O R rfl (by decide) _ _ _ rfl (A.alloc _) (iA wr.heap.size 0) 1 1 [.int .u8 (x / 2 ^ (8*j) % 256)] rfl rfl ?c1 ?c2 ?c3 ?c4 ?c5 ?_)
  case c1=>
   intro j u H
   match j,H with
   |0,H=>simp at H;subst H;simp[Addr.add]
  case c2=>intro u U;simp at U;subst U;rfl
  case c3=>unfold maxLen;omega
  case c4=>omega
  case c5=>simp;omega
  intro v' V E D _;have L:=(A.alloc (.cells #[.int .u8 (x / 2 ^ (8*j) % 256)] 5)).lt;have I:=hid ((J.alloc (by omega) _).grown D (by simp;omega) (fun k T=>(L k T).1));have X:Hd (V.ownsRow B 5 1 v' (n+(C++ [byteOf (x / 256 ^ j)]).length) (xs++(C++ [byteOf (x / 256 ^ j)]).map eB)):=by
   show V.ownsRow B 5 1 v' _ _;have e:eB (byteOf (x / 256 ^ j))=.int .u8 (x / 2 ^ (8*j) % 256):=by
    rw[eB,zAj,pow28 j]
   rw[List.map_append,List.map_singleton,e,List.length_append,←Nat.add_assoc];exact E
  have Y:Hd ((C++ [byteOf (x / 256 ^ j)])++be j x=be width x):=by
   show _=_;rw[←F.o,zA8,List.append_assoc];rfl
  go_wp2;go_roundw
  case rel=>exact⟨j,_,by omega,rfl,Y,X,I⟩
  case measure=>simp[intOf]
end Go.Proofs.YtehmdohpmpbnnaaGreatDoor
