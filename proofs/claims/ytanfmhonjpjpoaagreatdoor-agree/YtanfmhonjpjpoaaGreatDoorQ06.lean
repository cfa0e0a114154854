import Derived.Test.YtanfmhonjpjpoaaGreatDoorQ00
import Derived.WalkKit
import Derived.Below
import Derived.Laws.BitsLemmas
import Derived.Laws.IdiomStrings
set_option linter.all false
set_option maxRecDepth 100000
set_option maxHeartbeats 8000000
namespace Go.Proofs.YtanfmhonjpjpoaaGreatDoor
variable{b:Int}{k:IntKind}
open Go.Extern Go.RowKit
theorem zBr{a:Int}(h:a=b):Ending.returned (.int k a)=.returned (.int k b):=by rw[h]
theorem zAr{a:Int}(h:a=b):Value.int k a=.int k b:=by rw[h]
theorem zCe{a b:Bool}(h:a=b):Ending.returned (.bool a)=rB b:=by rw[h]
def pickN(c n:Int):Int:=(if c<0 then -(c+1) else c) % n
theorem zF3(c n:Int)(h:0<n):0≤pickN c n∧pickN c n<n:=by
 unfold pickN;exact⟨Int.emod_nonneg _ (by omega),Int.emod_lt_of_pos _ h⟩
theorem zJw(c n:Int)(w:World)(h1: -9223372036854775808≤c)(h2:c≤9223372036854775807)(h3:0<n)(h4:n≤9223372036854775807):
 Cl 33 #[iV c,iV n] w fun e w'=>e=.returned (iV (pickN c n))∧w'=w:=by
 by_cases hc:c<0
 ·go_enter Tryz.func33,Tryz.ntmps33;go_wp2;go_ret;refine⟨zBr ?_,rfl⟩;simp only[pickN,hc,if_true];rw[Int.neg_add]at *;rw[←Int.neg_tmod,Int.tmod_eq_emod_of_nonneg (by omega)]
  congr 1;omega
 ·go_enter Tryz.func33,Tryz.ntmps33;go_wp2;go_ret;refine⟨zBr ?_,rfl⟩;rw[pickN,if_neg (by omega)]
theorem zJx(s:ByteArray)(w:World)(hs:s.size≤4):
 Cl 96 #[.string s] w fun e w'=>e=.returned (iV (val s.data.toList))∧w'=w:=by
 go_enter Tryz.func96,Tryz.ntmps96;go_wp2;go_loop [3,4] (fun n i=> ∃k:Nat,k≤s.size∧i=iV k∧n=iV (val (s.data.toList.take k))) (fun _ i=>s.size - (intOf i).toNat)
 case atStart=>exact⟨0,Nat.zero_le _,rfl,rfl⟩
 case round=>
  obtain⟨k,hk,rfl,rfl⟩:=hrel;have hl:(s.data.toList.take k).length≤k:=List.length_take_le _ _;have h0:=zBb (s.data.toList.take k);have h1:=zBc (s.data.toList.take k) (by omega);by_cases hlt:k<s.size
  ·have hts:=zDb (s.data.toList.take k) s[k];rw[←zJd s k hlt]at hts;have HS:=hid hts;go_wp2;go_round
   case rel=>exact⟨k+1,by omega,by go_num,zAr (by rw[HS.out];have:=s[k].toNat_lt;unfold wrap64;omega)⟩
   case measure=>simp[intOf];omega
  ·go_wp2;go_ret;exact⟨zBr (by rw[List.take_of_length_le (by simp;omega)]),rfl⟩
theorem zJy(a b:Int)(h0:0≤a)(h1:a<4294967296)(h2:0≤b)(h3:b<256):bits .or .i64 (a*256) b=256*a+b:=by
 rw[bits_join .i64 40 (by decide) (fun n h0 h1=>by simp only[IntKind.wrap,IntKind.bits,IntKind.signed];simp;omega) 8 (a*256) b (by omega) (by omega) (by omega) h2 (by omega) (by omega)];omega
theorem zJz(s:ByteArray)(a k:Nat)(h:a+k<s.size):(s.data.toList.drop a).take (k+1)=(s.data.toList.drop a).take k++ [s[a+k]]:=by
 rw[List.take_succ_eq_append_getElem (by simp;show k<s.size - a;omega),List.getElem_drop];rfl
theorem zAx(s:ByteArray)(at_ width:Nat)(w:World)(hw:width≤4)(ha:at_+width≤s.size)(hm:s.size≤1000000000):
 Cl 148 #[.string s,iV at_,iV width] w fun e w'=>e=.returned (iV (val ((s.data.toList.drop at_).take width)))∧w'=w:=by
 go_enter Tryz.func148,Tryz.ntmps148;go_wp2;go_loop [7,10] (fun n i=> ∃k:Nat,k≤width∧i=iV k∧n=iV (val ((s.data.toList.drop at_).take k))) (fun _ i=>width - (intOf i).toNat)
 case atStart=>exact⟨0,Nat.zero_le _,rfl,rfl⟩
 case round=>
  obtain⟨k,hk,rfl,rfl⟩:=hrel;have hl:((s.data.toList.drop at_).take k).length≤k:=List.length_take_le _ _;have h0:=zBb ((s.data.toList.drop at_).take k);have h1:=zBc ((s.data.toList.drop at_).take k) (by omega);by_cases hlt:k<width
  ·have hi:at_+k<s.size:=by omega
   go_wp2;go_round
   case rel=>
    refine⟨k+1,by omega,by go_num,zAr ?_⟩;have hb:=s[at_+k].toNat_lt;rw[zJz s at_ k hi,zDb,show wrap64 (s[at_+k].toNat:Int)=(s[at_+k].toNat:Int) by unfold wrap64;omega];exact zJy _ _ h0 h1 (by omega) (by omega)
   case measure=>simp[intOf];omega
  ·go_wp2;go_ret;have:k=width:=by omega
   subst this;exact⟨rfl,rfl⟩
theorem zK(n:Int)(width:Nat)(w:World)(hw:width≤4)(h1: -9223372036854775808≤n)(h2:n≤9223372036854775807):
 Cl 147 #[iV n,iV width] w fun e w'=>e=.returned (.bool (decide (0≤n∧n<256 ^ width)))∧w'=w:=by
 go_enter Tryz.func147,Tryz.ntmps147;go_wp2;go_ret;refine⟨zCe ?_,rfl⟩;have h3:width=0∨width=1∨width=2∨width=3∨width=4:=by omega
 rcases h3 with rfl|rfl|rfl|rfl|rfl<;>(rw[Bool.eq_iff_iff];simp;omega)
theorem zK0(n:Int)(w:World)(h1: -9223372036854775808≤n)(h2:n≤9223372036854775807):
 Cl 146 #[iV n] w fun e w'=>e=.returned (.bool (decide (-2147483648≤n∧n<2147483648)))∧w'=w:=by
 go_enter Tryz.func146,Tryz.ntmps146;go_wp2;go_ret;refine⟨zCe ?_,rfl⟩;rw[Bool.eq_iff_iff];simp only[beq_iff_eq,decide_eq_true_eq,wrap64,wrap32];omega
theorem conv1(w:World)(x:Int)(h0:0≤x)(h1:x<256):
 (convert 107 9 (sL w.heap.size 1 1)).run Tryz.prog (w.alloc (.cells #[.int .u8 x] 5))=.ok (.string ⟨#[UInt8.ofNat x.toNat]⟩) (w.alloc (.cells #[.int .u8 x] 5)):=by
 refine run_convert_bytes_back _ 107 9 5 (iA w.heap.size 0) 1 [UInt8.ofNat x.toNat] Tryz.underlying107 Tryz.underlying5 Tryz.underlying9 ?_;intro j hj;have:j=0:=by simpa using hj
 subst this;simp[Addr.add];omega
theorem zAg(v:Int)(n:Nat)(w:World)(hn:n≤4)(h0:0≤v)(h1:v≤9223372036854775807):
 Cl 136 #[iV v,iV n] w fun e w'=>e=.returned (.string ⟨(be n v).toArray⟩)∧Below w.heap.size w w':=by
 go_enter Tryz.func136,Tryz.ntmps136;go_wp2;go_loopw [0,5,6] (fun x t i wr=> ∃k:Nat,k≤n∧i=iV k∧x=iV (v / 256 ^ k)∧t=.string ⟨(be k v).toArray⟩∧Bw w wr) (fun _ _ i _=>n - (intOf i).toNat)
 case atStart=>exact⟨0,Nat.zero_le _,rfl,by simp,rfl,Below.refl _ _⟩
 case round=>
  obtain⟨k,hk,rfl,rfl,rfl,hb⟩:=hrel;have hv0:0≤v / 256 ^ k:=Int.ediv_nonneg (by omega) (Int.pow_nonneg (by omega));have hv1:v / 256 ^ k≤9223372036854775807:=Int.le_trans (Int.ediv_le_self _ (by omega)) (by omega);have hl:(be k v).length≤4:=by rw[zA2];omega
  by_cases hlt:k<n
  ·generalize hq:v / 256 ^ k=q at *;have HQ:=hid hq;generalize hg:be k v=l at *;have HG:=hid hg;have hcv:=conv1 wr (q % 256) (by omega) (by omega);go_wp2;go_roundw
   case rel=>
    refine⟨k+1,by omega,by go_num,zAr ?_,?_,hb.alloc hb.size _⟩
    ·rw[←HQ.out];exact zEo _ _
    ·rw[zCd,HQ.out,HG.out];exact congrArg Value.string (zAc [_] _)
   case measure=>simp[intOf];omega
  ·have:k=n:=by omega
   subst this;go_wp2;go_ret;exact⟨rfl,hb⟩
theorem zK1(v:Int)(n:Nat)(w:World)(hn:n≤4)(h0:v<0)(h1: -4294967296≤v):
 Cl 136 #[iV v,iV n] w fun e w'=>e=.returned (.string ⟨(be n (v+4294967296)).toArray⟩)∧Below w.heap.size w w':=by
 go_enter Tryz.func136,Tryz.ntmps136;go_wp2;go_loopw [0,5,6] (fun x t i wr=> ∃k:Nat,k≤n∧i=iV k∧x=iV ((v+4294967296) / 256 ^ k)∧t=.string ⟨(be k (v+4294967296)).toArray⟩∧Bw w wr) (fun _ _ i _=>n - (intOf i).toNat)
 case atStart=>exact⟨0,Nat.zero_le _,rfl,by simp,rfl,Below.refl _ _⟩
 case round=>
  obtain⟨k,hk,rfl,rfl,rfl,hb⟩:=hrel;have hv0:0≤(v+4294967296) / 256 ^ k:=Int.ediv_nonneg (by omega) (Int.pow_nonneg (by omega));have hv1:(v+4294967296) / 256 ^ k≤9223372036854775807:=Int.le_trans (Int.ediv_le_self _ (by omega)) (by omega);have hl:(be k (v+4294967296)).length≤4:=by rw[zA2];omega
  by_cases hlt:k<n
  ·generalize hq:(v+4294967296) / 256 ^ k=q at *;have HQ:=hid hq;generalize hg:be k (v+4294967296)=l at *;have HG:=hid hg;have hcv:=conv1 wr (q % 256) (by omega) (by omega);go_wp2;go_roundw
   case rel=>
    refine⟨k+1,by omega,by go_num,zAr ?_,?_,hb.alloc hb.size _⟩
    ·rw[←HQ.out];exact zEo _ _
    ·rw[zCd,HQ.out,HG.out];exact congrArg Value.string (zAc [_] _)
   case measure=>simp[intOf];omega
  ·have:k=n:=by omega
   subst this;go_wp2;go_ret;exact⟨rfl,hb⟩
theorem zK2(v:Int)(w:World)(h0: -4294967296≤v)(h1:v≤9223372036854775807):
 Cl 136 #[iV v,iV 4] w fun e w'=>e=.returned (.string ⟨(be 4 v).toArray⟩)∧Below w.heap.size w w':=by
 by_cases h:v<0
 ·have:=zK1 v 4 w (by omega) h h0;rw[show v+4294967296=v+1*256 ^ 4 by omega,zEn]at this;exact this
 ·exact zAg v 4 w (by omega) (by omega) h1
def terms(kind:Int):List (Nat×Nat):=
 if kind=1 then[(0,4),(1,1),(2,1),(3,4),(4,4),(5,4),(6,4),(7,1),(8,4)]
 else if kind=2 then[(0,4)] else if kind=3 then[(0,4),(3,4),(4,4)] else if kind=4 then[(8,4)] else[]
theorem zAh(kind:Int): ∀p∈terms kind,p.1<9∧(p.2=1∨p.2=4)∧(p.1=6→p.2=4):=by
 intro p hp;unfold terms at hp;split at hp
 ·simp at hp;rcases hp with rfl|rfl|rfl|rfl|rfl|rfl|rfl|rfl|rfl<;>decide
 split at hp
 ·simp at hp;rcases hp with rfl;decide
 split at hp
 ·simp at hp;rcases hp with rfl|rfl|rfl<;>decide
 split at hp
 ·simp at hp;rcases hp with rfl;decide
 ·simp at hp
theorem zBs(kind:Int):(terms kind).length≤9:=by
 unfold terms;repeat' split
 all_goals decide
def fit(p:Nat×Nat)(x:Int):Bool:=if p.1=6 then decide (-2147483648≤x∧x<2147483648) else decide (0≤x∧x<256 ^ p.2)
def body(l:List (Nat×Nat))(v:Nat→Int):List UInt8:=l.flatMap fun p=>be p.2 (v p.1)
theorem zF4(l:List (Nat×Nat))(p:Nat×Nat)(v:Nat→Int):body (l++ [p]) v=body l v++be p.2 (v p.1):=by simp[body,List.flatMap_append]
theorem zDh(l:List (Nat×Nat))(v:Nat→Int)(h: ∀p∈l,p.2≤4):(body l v).length≤4*l.length:=by
 induction l with
 |nil=>simp[body]
 |cons a l ih=>
  have h1:=ih (fun p hp=>h p (List.mem_cons_of_mem _ hp));have h2:=h a (List.mem_cons_self ..);simp only[body,List.flatMap_cons,List.length_append,List.length_cons,zA2]at h1⊢;omega
def bad:List (Nat×Nat)→(Nat→Int)→Option Nat
 | [],_=>none
 |p::l,v=>if fit p (v p.1) then(bad l v).map (· +1) else some 0
theorem zF5(l m:List (Nat×Nat))(v:Nat→Int)(h:bad l v=none):bad (l++m) v=(bad m v).map (· +l.length):=by
 induction l with
 |nil=>simp
 |cons a l ih=>
  simp only[bad]at h;split at h
  ·rename_i hf;have h':bad l v=none:=by simpa using h
   rw[List.cons_append,bad,if_pos hf,ih h',Option.map_map]
   congr 1
  ·cases h
def encRes(kind:Int)(v:Nat→Int):List UInt8×Int×Int:=
 if 1≤kind∧kind≤5 then
  match bad (terms kind) v with
  |some i=>([],3,i)
  |none=>(byteOf ((body (terms kind) v).length+1)::byteOf kind::body (terms kind) v,0,-1)
 else([],2,-1)
def IntsAt(w:World)(v:Value)(l:List Int):Prop:=
 (v=.slice none 0 0∧l= [])∨∃b,v=sL b l.length l.length∧l≠[]∧∀i (h:i<l.length),w.cell? (iA b i)=sI (l[i])
theorem IntsAt.below{w w':World}{v:Value}{l:List Int}(h:IntsAt w v l)(hb:Below w.heap.size w w'):IntsAt w' v l:=by
 rcases h with h|⟨b,h1,h2,h3⟩
 ·exact .inl h
 ·exact .inr ⟨b,h1,h2,fun i hi=>(hb.cell (p:=(iA b i)) (by have:=h3 i hi;rcases Nat.lt_or_ge b w.heap.size with q|q;exact q;simp[World.cell?,Array.getElem?_eq_none q]at this)).trans (h3 i hi)⟩
def whichs(kind:Int):List Int:=(terms kind).map fun p=>(p.1:Int)
def widths(kind:Int):List Int:=(terms kind).map fun p=>(p.2:Int)
theorem zBt(w:World)(t:TypeId)(l:List Int)(c:Array Value)(hc:c=(l.map (iV)).toArray)(i:Nat)(h:i<l.length):(w.alloc (.cells c t)).cell? (iA w.heap.size i)=sI (l[i]):=by
 subst hc;rw[World.cell?_alloc_new];simp[h]
theorem zCf(w:World)(t:TypeId)(l:List Int)(c:Array Value)(o:Obj)(hc:c=(l.map (iV)).toArray)(i:Nat)(h:i<l.length):((w.alloc (.cells c t)).alloc o).cell? (iA w.heap.size i)=sI (l[i]):=by
 rw[World.cell?_alloc_lt _ _ _ (by simp)];exact zBt w t l c hc i h
theorem zCg(w:World)(t:TypeId)(l:List Int)(c:Array Value)(o:Obj)(hc:c=(l.map (iV)).toArray)(i:Nat)(h:i<l.length):((w.alloc o).alloc (.cells c t)).cell? (iA (w.heap.size+1) i)=sI (l[i]):=by
 have:=zBt (w.alloc o) t l c hc i h;simpa using this
def Fresh(B:Nat)(v:Value):Prop:= ∀b o l c,v=.slice (some (iA b o)) l c→B≤b
theorem zAj{B b o l c:Nat}(h:B≤b):Fresh B (.slice (some (iA b o)) l c):=fun b' o' l' c' e=>by
 injection e with e1;injection e1 with e2;injection e2 with e3;omega
theorem zCh{B l c:Nat}:Fresh B (.slice none l c):=fun b' o' l' c' e=>by
 injection e with e1;cases e1
theorem zF6(kind:Int)(w:World):
 Cl 95 #[iV kind] w fun e w'=> ∃a b,e=rV #[a,b]∧IntsAt w' a (whichs kind)∧IntsAt w' b (widths kind)∧Below w.heap.size w w'∧Fresh w.heap.size a∧Fresh w.heap.size b:=by
 by_cases h1:kind=1
 ·subst h1;go_enter Tryz.func95,Tryz.ntmps95;go_wp2;go_ret2;exact⟨_,_,rfl,.inr ⟨_,rfl,by decide,fun i hi=>zCf _ _ _ _ _ rfl i hi⟩,.inr ⟨_,rfl,by decide,fun i hi=>zCg _ _ _ _ _ rfl i hi⟩,((Below.refl _ _).alloc (Nat.le_refl _) _).alloc (by simp) _,zAj (Nat.le_refl _),zAj (by simp)⟩
 by_cases h2:kind=2
 ·subst h2;go_enter Tryz.func95,Tryz.ntmps95;go_wp2;go_ret2;exact⟨_,_,rfl,.inr ⟨_,rfl,by decide,fun i hi=>zCf _ _ _ _ _ rfl i hi⟩,.inr ⟨_,rfl,by decide,fun i hi=>zCg _ _ _ _ _ rfl i hi⟩,((Below.refl _ _).alloc (Nat.le_refl _) _).alloc (by simp) _,zAj (Nat.le_refl _),zAj (by simp)⟩
 by_cases h3:kind=3
 ·subst h3;go_enter Tryz.func95,Tryz.ntmps95;go_wp2;go_ret2;exact⟨_,_,rfl,.inr ⟨_,rfl,by decide,fun i hi=>zCf _ _ _ _ _ rfl i hi⟩,.inr ⟨_,rfl,by decide,fun i hi=>zCg _ _ _ _ _ rfl i hi⟩,((Below.refl _ _).alloc (Nat.le_refl _) _).alloc (by simp) _,zAj (Nat.le_refl _),zAj (by simp)⟩
 by_cases h4:kind=4
 ·subst h4;go_enter Tryz.func95,Tryz.ntmps95;go_wp2;go_ret2;exact⟨_,_,rfl,.inr ⟨_,rfl,by decide,fun i hi=>zCf _ _ _ _ _ rfl i hi⟩,.inr ⟨_,rfl,by decide,fun i hi=>zCg _ _ _ _ _ rfl i hi⟩,((Below.refl _ _).alloc (Nat.le_refl _) _).alloc (by simp) _,zAj (Nat.le_refl _),zAj (by simp)⟩
 have g1:=beq_eq_false_iff_ne.2 h1;have g2:=beq_eq_false_iff_ne.2 h2;have g3:=beq_eq_false_iff_ne.2 h3;have g4:=beq_eq_false_iff_ne.2 h4;have e:terms kind= []:=by simp[terms,h1,h2,h3,h4]
 have HE:=hid e;go_enter Tryz.func95,Tryz.ntmps95;go_wp2;go_ret2;exact⟨_,_,rfl,.inl ⟨rfl,by rw[whichs,HE.out];rfl⟩,.inl ⟨rfl,by rw[widths,HE.out];rfl⟩,Below.refl _ _,zCh,zCh⟩
theorem zK3(kind:Int)(w:World):
 Cl 95 #[iV kind] w fun e w'=> ∃a b,e=rV #[a,b]∧IntsAt w' a (whichs kind)∧IntsAt w' b (widths kind)∧Below w.heap.size w w':=by
 refine(zF6 kind w).mono ?_;rintro e w' ⟨a,b,h1,h2,h3,h4,-⟩;exact⟨a,b,h1,h2,h3,h4⟩
abbrev nine9(v:Nat→Int):List Value:=[iV (v 0),iV (v 1),iV (v 2),iV (v 3),iV (v 4),iV (v 5),iV (v 6),iV (v 7),iV (v 8)]
theorem zK4(w:World)(t:TypeId)(kind:Int)(v:Nat→Int)(j:Nat)(hj:j<9):
 (w.alloc (.cells #[iV kind,iV (v 0),iV (v 1),iV (v 2),iV (v 3),iV (v 4),iV (v 5),iV (v 6),iV (v 7),iV (v 8)] t)).cell? (iA w.heap.size (1+j))=sI (v j):=by
 have h:j=0∨j=1∨j=2∨j=3∨j=4∨j=5∨j=6∨j=7∨j=8:=by omega
 rcases h with rfl|rfl|rfl|rfl|rfl|rfl|rfl|rfl|rfl<;>simp
theorem zBf{w:World}{a:Addr}{v:Value}(h:w.cell? a=some v):a.block<w.heap.size:=by
 rcases Nat.lt_or_ge a.block w.heap.size with h' |h'
 ·exact h'
 ·simp[World.cell?,Array.getElem?_eq_none h']at h
theorem pow1:(256:Int) ^ 1=256:=rfl
theorem pow4:(256:Int) ^ 4=4294967296:=rfl
theorem fit1(pa:Nat)(h:pa≠6)(x:Int):fit (pa,1) x=decide (0≤x∧x<256):=by unfold fit;rw[if_neg h];exact decide_eq_decide.2 Iff.rfl
theorem fit4(pa:Nat)(h:pa≠6)(x:Int):fit (pa,4) x=decide (0≤x∧x<4294967296):=by unfold fit;rw[if_neg h];exact decide_eq_decide.2 Iff.rfl
theorem ret3{a a':ByteArray}{b' c c':Int}(h1:a=a')(h2:b=b')(h3:c=c'):Ending.returned (.tuple #[.string a,iV b,iV c])=rV #[.string a',iV b',iV c']:=by subst h1 h2 h3;rfl
theorem zF7(l:List (Nat×Nat))(k:Nat)(h:k<l.length)(v:Nat→Int)(hb:bad (l.take k) v=none):(fit l[k] (v l[k].1)=true→bad (l.take (k+1)) v=none)∧(fit l[k] (v l[k].1)=false→bad l v=some k):=by
 constructor
 ·intro hf;rw[List.take_succ_eq_append_getElem h,zF5 _ _ _ hb];simp[bad,hf]
 ·intro hf;have e:l=l.take k++l[k]::l.drop (k+1):=by rw[←List.drop_eq_getElem_cons h,List.take_append_drop]
  rw[e,zF5 _ _ _ hb];simp[bad,hf];omega
theorem zSj(kind:Int)(v:Nat→Int)(w:World)(hv: ∀i,i<9→-9223372036854775808≤v i∧v i≤9223372036854775807):
 Cl 92 #[.agg #[iV kind,iV (v 0),iV (v 1),iV (v 2),iV (v 3),iV (v 4),iV (v 5),iV (v 6),iV (v 7),iV (v 8)]] w fun e w'=>
  e=rV #[.string ⟨(encRes kind v).1.toArray⟩,iV (encRes kind v).2.1,iV (encRes kind v).2.2]∧Below w.heap.size w w':=by
 have HV:Hid (∀i,i<9→-9223372036854775808≤v i∧v i≤9223372036854775807):=hv;clear hv;by_cases hk:1≤kind∧kind≤5
 ·have hcmd:=zK4 w 139 kind v;have HC:Hid (∀j,j<9→(w.alloc (.cells #[iV kind,iV (v 0),iV (v 1),iV (v 2),iV (v 3),iV (v 4),iV (v 5),iV (v 6),iV (v 7),iV (v 8)] 139)).cell? (iA w.heap.size (1+j))=sI (v j)):=hcmd;clear hcmd;have hk0:(w.alloc (.cells #[iV kind,iV (v 0),iV (v 1),iV (v 2),iV (v 3),iV (v 4),iV (v 5),iV (v 6),iV (v 7),iV (v 8)] 139)).cell? (iA w.heap.size 0)=sI kind:=by simp
  have hB1:Bw w (w.alloc (.cells #[iV kind,iV (v 0),iV (v 1),iV (v 2),iV (v 3),iV (v 4),iV (v 5),iV (v 6),iV (v 7),iV (v 8)] 139)):=(Below.refl _ _).alloc (Nat.le_refl _) _;obtain⟨hk1,hk2⟩:=hk;go_enter Tryz.func92,Tryz.ntmps92;go_wp2_with fail;refine(zK3 kind _).mono ?_;rintro e w2 ⟨a,b,rfl,hia,hib,hb2⟩;have hk02:=(hb2.cell (p:=(iA w.heap.size 0)) (by simp)).trans hk0;go_wp2_with fail;refine(zAg kind 1 _ (by omega) (by omega) (by omega)).mono ?_;rintro e w3 ⟨rfl,hb3⟩;have hia3:=hia.below hb3;have hib3:=hib.below hb3;have HC3:Hid (∀j,j<9→cI w3 w.heap.size (1+j) (v j)):=fun j hj=>(hb3.cell (p:=(iA w.heap.size (1+j))) (by have:=hb2.size;simp at this;show w.heap.size<w2.heap.size;omega)).trans ((hb2.cell (p:=(iA w.heap.size (1+j))) (by simp)).trans (HC.out j hj))
  have hs3:w.heap.size<w3.heap.size:=by have:=hb2.size;have:=hb3.size;simp at *;omega
  have HB3:Hid (Bw w w3):=(hB1.trans (hb2.mono (by simp))).trans (hb3.mono (by have:=hb2.size;simp at this;omega));clear hk0 hk02 hB1 hb2 hb3 hia hib HC;have hlen:(whichs kind).length=(terms kind).length:=by simp[whichs]
  have hlen':(widths kind).length=(terms kind).length:=by simp[widths]
  have hn9:=zBs kind;rcases hia3 with⟨rfl,hnil⟩|⟨ba,rfl,hne,hca⟩
  ·have ht:terms kind= []:=by simpa [whichs] using hnil
   have HT:Hid (encRes kind v=([1,byteOf kind],0,-1)):=by
    show encRes kind v=_;rw[encRes,if_pos ⟨hk1,hk2⟩,ht];rfl
   clear hnil ht hlen hlen' hn9;go_wp2_with fail;refine wp_loop_rounds 1 ?_;rw[rounds_succ];go_wp2_with fail;refine(zAg 1 1 _ (by omega) (by omega) (by omega)).mono ?_;rintro e w4 ⟨rfl,hb4⟩;go_wp2;go_ret3;refine⟨?_,HB3.trans (hb4.mono (Nat.le_of_lt hs3))⟩;rw[HT.out];exact ret3 (zAc [_] [_]) rfl rfl
  ·rcases hib3 with⟨rfl,hnil⟩|⟨bb,rfl,-,hcb⟩
   ·exact absurd (by have:terms kind= []:=by simpa [widths] using hnil
                     simp[whichs,this]) hne
   rw[hlen,hlen'];have HA:Hid (∀i (h:i<(whichs kind).length),cI w3 ba i ((whichs kind)[i])):=hca;have HBB:Hid (∀i (h:i<(widths kind).length),cI w3 bb i ((widths kind)[i])):=hcb;clear hca hcb hne;have HL:Hid ((whichs kind).length=(terms kind).length):=hlen;have HL':Hid ((widths kind).length=(terms kind).length):=hlen';clear hlen hlen';generalize hN:(terms kind).length=n at *;have HN:Hid ((terms kind).length=n):=hN;clear hN;go_wp2_with fail;go_loopw [7,8] (fun t i wr=> ∃k:Nat,k≤n∧i=iV k∧t=.string ⟨(byteOf kind::body ((terms kind).take k) v).toArray⟩∧bad ((terms kind).take k) v=none∧Bw w3 wr) (fun _ i _=>n - (intOf i).toNat)
   case atStart=>exact⟨0,Nat.zero_le _,rfl,rfl,rfl,Below.refl _ _⟩
   case round=>
    obtain⟨k,hkn,rfl,rfl,hbad,hb⟩:=hrel;have hbl:(body ((terms kind).take k) v).length≤36:=by
     have h1:=zDh ((terms kind).take k) v (fun p hp=>by have:=zAh kind p (List.mem_of_mem_take hp);omega);have h2:((terms kind).take k).length≤9:=by rw[List.length_take];omega
     omega
    have HBAD:Hid (bad ((terms kind).take k) v=none):=hbad;clear hbad;by_cases hlt:k<n
    ·have hkt:k<(terms kind).length:=by rw[HN.out];exact hlt
     have hok:=zAh kind _ (List.getElem_mem hkt);have hbt:=zF7 (terms kind) k hkt v HBAD.out;have hts:body ((terms kind).take (k+1)) v=body ((terms kind).take k) v++be (terms kind)[k].2 (v (terms kind)[k].1):=by
      rw[List.take_succ_eq_append_getElem hkt,zF4]
     have hca:=(hb.cell (p:=(iA ba k)) (zBf (HA.out k (by rw[HL.out];exact hlt)))).trans (HA.out k (by rw[HL.out];exact hlt));have hcb:=(hb.cell (p:=(iA bb k)) (zBf (HBB.out k (by rw[HL'.out];exact hlt)))).trans (HBB.out k (by rw[HL'.out];exact hlt));simp only[whichs,widths,List.getElem_map]at hca hcb;generalize hp:(terms kind)[k]=p at *;obtain⟨pa,pb⟩:=p;obtain⟨hp1,hp2,hp3⟩:=hok;simp only at hp1 hp2 hp3 hca hcb hbt hts;have hx:=(hb.cell (p:=(iA w.heap.size (1+pa))) hs3).trans (HC3.out pa hp1);have hr:=HV.out pa hp1;have HTS:Hid (body ((terms kind).take (k+1)) v=body ((terms kind).take k) v++be pb (v pa)):=hts;have HBT:Hid ((fit (pa,pb) (v pa)=true→bad ((terms kind).take (k+1)) v=none)∧(fit (pa,pb) (v pa)=false→bad (terms kind) v=some k)):=hbt;clear hts hbt hp hkt;generalize hgl:body ((terms kind).take k) v=l at *;have HGL:Hid (body ((terms kind).take k) v=l):=hgl;clear hgl
     generalize hgx:v pa=x at *;have hpz:(0:Int)≤(pa:Int)∧(pa:Int)<9:=by omega
     obtain⟨hr1,hr2⟩:=hr;have HGX:Hid (v pa=x):=hgx;clear hgx;by_cases h6:pa=6
     ·have h4:pb=4:=hp3 h6;subst h6 h4;clear hp2 hp3;by_cases hlo:x<(-2147483648)
      ·have hf:=HBT.2 (by simp[fit];omega);have HR:Hid (encRes kind v=([],3,(k:Int))):=by
        show encRes kind v=_;rw[encRes,if_pos ⟨hk1,hk2⟩,hf]
       clear hf;go_wp2;go_ret3;refine⟨?_,HB3.trans (hb.mono (Nat.le_of_lt hs3))⟩;rw[HR.out];exact ret3 rfl rfl rfl
      by_cases hhi:2147483647<x
      ·have hf:=HBT.2 (by simp[fit];omega);have HR:Hid (encRes kind v=([],3,(k:Int))):=by
        show encRes kind v=_;rw[encRes,if_pos ⟨hk1,hk2⟩,hf]
       clear hf;go_wp2;go_ret3;refine⟨?_,HB3.trans (hb.mono (Nat.le_of_lt hs3))⟩;rw[HR.out];exact ret3 rfl rfl rfl
      have hf:=HBT.1 (by simp[fit];omega);have HF:Hid (bad ((terms kind).take (k+1)) v=none):=hf;clear hf;go_wp2_with fail;refine(zK2 x _ (by omega) (by omega)).mono ?_;rintro e w4 ⟨rfl,hb4⟩;have hl4:(be 4 x).length≤4:=by rw[zA2];omega
      generalize hg4:be 4 x=l4 at *;have HG4:Hid (be 4 x=l4):=hg4;clear hg4;go_wp2;go_roundw
      case rel=>
       refine⟨k+1,by omega,by go_num,?_,HF.out,hb.trans (hb4.mono hb.size)⟩;rw[HTS.out];exact congrArg Value.string (zAc (_::_) _)
      case measure=>simp[intOf];omega
     ·have g6:((pa:Int) == 6)=false:=beq_eq_false_iff_ne.2 (by omega);rcases hp2 with h4|h4
      ·subst h4;clear hp3;by_cases hlo:x<0
       ·have hf:=HBT.2 (by rw[fit1 _ h6];simp;omega);have HR:Hid (encRes kind v=([],3,(k:Int))):=by
         show encRes kind v=_;rw[encRes,if_pos ⟨hk1,hk2⟩,hf]
        clear hf;go_wp2;go_ret3;refine⟨?_,HB3.trans (hb.mono (Nat.le_of_lt hs3))⟩;rw[HR.out];exact ret3 rfl rfl rfl
       by_cases hhi:255<x
       ·have hf:=HBT.2 (by rw[fit1 _ h6];simp;omega);have HR:Hid (encRes kind v=([],3,(k:Int))):=by
         show encRes kind v=_;rw[encRes,if_pos ⟨hk1,hk2⟩,hf]
        clear hf;go_wp2;go_ret3;refine⟨?_,HB3.trans (hb.mono (Nat.le_of_lt hs3))⟩;rw[HR.out];exact ret3 rfl rfl rfl
       have hf:=HBT.1 (by rw[fit1 _ h6];simp;omega);have HF:Hid (bad ((terms kind).take (k+1)) v=none):=hf;clear hf;go_wp2_with fail;refine(zAg x 1 _ (by omega) (by omega) (by omega)).mono ?_;rintro e w4 ⟨rfl,hb4⟩;have hl4:(be 1 x).length≤4:=by rw[zA2];omega
       generalize hg4:be 1 x=l4 at *;have HG4:Hid (be 1 x=l4):=hg4;clear hg4;go_wp2;go_roundw
       case rel=>
        refine⟨k+1,by omega,by go_num,?_,HF.out,hb.trans (hb4.mono hb.size)⟩;rw[HTS.out];exact congrArg Value.string (zAc (_::_) _)
       case measure=>simp[intOf];omega
      ·subst h4;clear hp3;by_cases hlo:x<0
       ·have hf:=HBT.2 (by rw[fit4 _ h6];simp;omega);have HR:Hid (encRes kind v=([],3,(k:Int))):=by
         show encRes kind v=_;rw[encRes,if_pos ⟨hk1,hk2⟩,hf]
        clear hf;go_wp2;go_ret3;refine⟨?_,HB3.trans (hb.mono (Nat.le_of_lt hs3))⟩;rw[HR.out];exact ret3 rfl rfl rfl
       by_cases hhi:4294967295<x
       ·have hf:=HBT.2 (by rw[fit4 _ h6];simp;omega);have HR:Hid (encRes kind v=([],3,(k:Int))):=by
         show encRes kind v=_;rw[encRes,if_pos ⟨hk1,hk2⟩,hf]
        clear hf;go_wp2;go_ret3;refine⟨?_,HB3.trans (hb.mono (Nat.le_of_lt hs3))⟩;rw[HR.out];exact ret3 rfl rfl rfl
       have hf:=HBT.1 (by rw[fit4 _ h6];simp;omega);have HF:Hid (bad ((terms kind).take (k+1)) v=none):=hf;clear hf;go_wp2_with fail;refine(zAg x 4 _ (by omega) (by omega) (by omega)).mono ?_;rintro e w4 ⟨rfl,hb4⟩;have hl4:(be 4 x).length≤4:=by rw[zA2];omega
       generalize hg4:be 4 x=l4 at *;have HG4:Hid (be 4 x=l4):=hg4;clear hg4;go_wp2;go_roundw
       case rel=>
        refine⟨k+1,by omega,by go_num,?_,HF.out,hb.trans (hb4.mono hb.size)⟩;rw[HTS.out];exact congrArg Value.string (zAc (_::_) _)
       case measure=>simp[intOf];omega
    ·have hkn':k=n:=by omega
     subst hkn';have htk:(terms kind).take k=terms kind:=List.take_of_length_le (by rw[HN.out];omega);have HR:Hid (encRes kind v=(byteOf ((body (terms kind) v).length+1)::byteOf kind::body (terms kind) v,0,-1)):=by
      show encRes kind v=_;have:=HBAD.out;rw[htk]at this;rw[encRes,if_pos ⟨hk1,hk2⟩,this]
     rw[htk]at hbl⊢;clear htk;generalize hgl:body (terms kind) v=l at *;clear hgl;go_wp2_with fail;refine(zAg ((l.length:Int)+1) 1 _ (by omega) (by omega) (by omega)).mono ?_;rintro e w4 ⟨rfl,hb4⟩;have hl4:(be 1 ((l.length:Int)+1)).length≤4:=by rw[zA2];omega
     generalize hg4:be 1 ((l.length:Int)+1)=l4 at *;have HG4:Hid (be 1 ((l.length:Int)+1)=l4):=hg4;clear hg4;go_wp2;go_ret3;refine⟨?_,HB3.trans ((hb.trans (hb4.mono hb.size)).mono (Nat.le_of_lt hs3))⟩;rw[HR.out];refine ret3 ?_ rfl rfl;rw[←HG4.out];exact zAc [_] (_::_)
 ·have HT:Hid (encRes kind v=([],2,-1)):=by
   show encRes kind v=_;rw[encRes,if_neg hk]
  have hk':kind<1∨5<kind:=by omega
  clear hk;rcases hk' with hk' |hk';all_goals
   go_enter Tryz.func92,Tryz.ntmps92;go_wp2;go_ret3;refine⟨?_,(Below.refl _ _).alloc (Nat.le_refl _) _⟩;rw[HT.out];exact ret3 rfl rfl rfl
def bcell(b:UInt8):Value:=.int .u8 (b.toNat:Int)
theorem zB1{P:Program}{t:TypeId}{z:Value}{s b:Nat}(h:(P.info? t).map (fun i=>(i.size,i.bytes))=some (s,b))(hz:(P.info? t).map (fun i=>i.zero)=some (some z)): ∃i,P.info? t=some i∧i.zero=some z∧i.size=s∧i.bytes=b:=by
 obtain⟨i,hi,e⟩:=Option.map_eq_some_iff.1 h;rw[hi]at hz;simp at e hz;exact⟨i,hi,hz,e.1,e.2⟩
theorem Tryz.infoU8:(Tryz.prog.info? 5).map (fun i=>(i.size,i.bytes))=some (1,1):=by kernel_rfl
theorem Tryz.zeroU8:(Tryz.prog.info? 5).map (fun i=>i.zero)=some (some (.int .u8 0)):=by kernel_rfl
theorem pow28(j:Nat):(2:Int) ^ (8*j)=256 ^ j:=by
 rw[Int.pow_mul];rfl
theorem zSk(x:Int)(j:Nat)(h:j≤4):UInt8.ofNat ((x / 2 ^ (8*j)) % 256).toNat=byteOf (x / 256 ^ j):=by
 have h3:j=0∨j=1∨j=2∨j=3∨j=4:=by omega
 rcases h3 with rfl|rfl|rfl|rfl|rfl<;>rfl
theorem zDi(x:Int):((byteOf x).toNat:Int)=x % 256:=by
 unfold byteOf;rw[UInt8.toNat_ofNat'];omega
theorem zK5(B:Nat)(v:Value)(n:Nat)(xs:List Value)(x:Int)(width:Nat)(w:World)(hw:width≤4)(hn:n≤1000)(hB:B≤w.heap.size)(hown:w.ownsRow B 5 1 v n xs)
 (h1: -9223372036854775808≤x) (h2:x≤9223372036854775807):
 Cl 113 #[v,iV x,iV width] w fun e w'=> ∃v',e=.returned v'∧w'.ownsRow B 5 1 v' (n+width) (xs++(be width x).map bcell)∧Below B w w':=by
 obtain⟨i0,hi,hz0,hz1,hz2⟩:=zB1 Tryz.infoU8 Tryz.zeroU8;go_enter Tryz.func113,Tryz.ntmps113;go_wp2;go_loopw [0,2] (fun t j wr=> ∃(k:Nat) (ys:List UInt8),k≤width∧j=iV k∧ys++be k x=be width x∧wr.ownsRow B 5 1 t (n+ys.length) (xs++ys.map bcell)∧Below B w wr) (fun _ j _=>(intOf j).toNat)
 case atStart=>exact⟨width,[],Nat.le_refl _,rfl,rfl,by simpa using hown,Below.refl _ _⟩
 case round=>
  obtain⟨k,ys,hk,rfl,hys,hown',hb⟩:=hrel;have hyl:ys.length+k=width:=by
   have:=congrArg List.length hys;simpa [zA2] using this
  have HYS:=hid hys;have hbs:=hb.size;have HOWN:=hown;by_cases hk0:k=0
  ·subst hk0;go_wp2;go_ret;have e:ys=be width x:=by simpa [be] using HYS.out
   refine⟨_,rfl,?_,hb⟩;rw[←e,←hyl];exact hown'
  ·obtain⟨j,rfl⟩: ∃j,k=j+1:=⟨k - 1,by omega⟩;have hjp:(0:Int)<(j:Int)+1:=by omega
   go_wp2_with(at_builtin;refine wpList_append_own _ rfl _ _ 107 rfl B 5 i0 (.int .u8 0) 1 1 Tryz.underlying107 hi hz0 hz1 hz2 rfl (by decide) _ _ _ rfl (hown'.alloc _) (iA wr.heap.size 0) 1 1 [.int .u8 (x / 2 ^ (8*j) % 256)] rfl rfl ?c1 ?c2 ?c3 ?c4 ?c5 ?_)
   case c1=>
    intro j u hj
    match j,hj with
    |0,hj=>simp at hj;subst hj;simp[Addr.add]
   case c2=>intro u hu;simp at hu;subst hu;rfl
   case c3=>unfold maxLen;omega
   case c4=>omega
   case c5=>simp;omega
   intro v' w1 hown2 hgrow _;have hlt:=(hown'.alloc (.cells #[.int .u8 (x / 2 ^ (8*j) % 256)] 5)).lt;have HB1:=hid ((hb.alloc (by omega) _).grown hgrow (by simp;omega) (fun k hk=>(hlt k hk).1));have HO:Hid (w1.ownsRow B 5 1 v' (n+(ys++ [byteOf (x / 256 ^ j)]).length) (xs++(ys++ [byteOf (x / 256 ^ j)]).map bcell)):=by
    show w1.ownsRow B 5 1 v' _ _;have e:bcell (byteOf (x / 256 ^ j))=.int .u8 (x / 2 ^ (8*j) % 256):=by
     rw[bcell,zDi,pow28 j]
    rw[List.map_append,List.map_singleton,e,List.length_append,←Nat.add_assoc];exact hown2
   have HY:Hid ((ys++ [byteOf (x / 256 ^ j)])++be j x=be width x):=by
    show _=_;rw[←HYS.out,zCd,List.append_assoc];rfl
   go_wp2;go_roundw
   case rel=>exact⟨j,_,by omega,rfl,HY,HO,HB1⟩
   case measure=>simp[intOf]
end Go.Proofs.YtanfmhonjpjpoaaGreatDoor
