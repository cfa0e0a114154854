import Derived.Test.YtilbfpnpkkkpgaaGreatDoorQ00
import Derived.Test.YtilbfpnpkkkpgaaGreatDoorQ06
import Derived.Deep.RegionHeld
import Derived.Deep.AppendLies
set_option linter.all false
set_option maxRecDepth 100000
set_option maxHeartbeats 8000000
namespace Go.Proofs.YtilbfpnpkkkpgaaGreatDoor
variable{Q:Exit→Act→World→Prop}
section
open Go.Extern Go.RowKit
def wid:Nat→Int|0=>4|1=>1|2=>1|3=>4|4=>4|5=>4|6=>4|7=>1|_=>4
def Wids(w:World):Prop:= ∀i,i<9→w.cell? (iA 9 i)=sI (wid i)
theorem Wids.below{w w':World}(h:Wids w)(hb:Below w.heap.size w w'):Wids w':=fun i hi=>(hb.cell (p:=(iA 9 i)) (zBb (h i hi))).trans (h i hi)
theorem zDg(kind:Int): ∀p∈terms kind,wid p.1=p.2:=by
 intro p hp;unfold terms at hp;split at hp
 ·simp at hp;rcases hp with rfl|rfl|rfl|rfl|rfl|rfl|rfl|rfl|rfl<;>rfl
 split at hp
 ·simp at hp;rcases hp with rfl;rfl
 split at hp
 ·simp at hp;rcases hp with rfl|rfl|rfl<;>rfl
 split at hp
 ·simp at hp;rcases hp with rfl;rfl
 ·simp at hp
theorem zEn(kind:Int)(w:World):
 Cl 50 #[iV kind] w fun e w'=> ∃a,e=rV #[a,.bool (decide (1≤kind∧kind≤5))]∧IntsAt w' a (whichs kind)∧Below w.heap.size w w'∧Fresh w.heap.size a:=by
 by_cases h1:kind=1
 ·subst h1;go_enter Tryz.func50,Tryz.ntmps50;go_wp2;go_ret2;exact⟨_,rfl,.inr ⟨_,rfl,by decide,fun i hi=>zBo _ _ _ _ rfl i hi⟩,(Below.refl _ _).alloc (Nat.le_refl _) _,zAj (Nat.le_refl _)⟩
 by_cases h2:kind=2
 ·subst h2;go_enter Tryz.func50,Tryz.ntmps50;go_wp2;go_ret2;exact⟨_,rfl,.inr ⟨_,rfl,by decide,fun i hi=>zBo _ _ _ _ rfl i hi⟩,(Below.refl _ _).alloc (Nat.le_refl _) _,zAj (Nat.le_refl _)⟩
 by_cases h3:kind=3
 ·subst h3;go_enter Tryz.func50,Tryz.ntmps50;go_wp2;go_ret2;exact⟨_,rfl,.inr ⟨_,rfl,by decide,fun i hi=>zBo _ _ _ _ rfl i hi⟩,(Below.refl _ _).alloc (Nat.le_refl _) _,zAj (Nat.le_refl _)⟩
 by_cases h4:kind=4
 ·subst h4;go_enter Tryz.func50,Tryz.ntmps50;go_wp2;go_ret2;exact⟨_,rfl,.inr ⟨_,rfl,by decide,fun i hi=>zBo _ _ _ _ rfl i hi⟩,(Below.refl _ _).alloc (Nat.le_refl _) _,zAj (Nat.le_refl _)⟩
 have g1:=beq_eq_false_iff_ne.2 h1;have g2:=beq_eq_false_iff_ne.2 h2;have g3:=beq_eq_false_iff_ne.2 h3;have g4:=beq_eq_false_iff_ne.2 h4;have e:terms kind= []:=by simp[terms,h1,h2,h3,h4]
 have HE:=hid e;by_cases h5:kind=5
 ·subst h5;go_enter Tryz.func50,Tryz.ntmps50;go_wp2;go_ret2;exact⟨_,rfl,.inl ⟨rfl,by rw[whichs,HE.out];rfl⟩,Below.refl _ _,zCl⟩
 ·have g5:=beq_eq_false_iff_ne.2 h5;have HD:Hid (decide (1≤kind∧kind≤5)=false):=by show _=_;simp;omega
  go_enter Tryz.func50,Tryz.ntmps50;go_wp2;go_ret2;exact⟨_,by rw[HD.out];rfl,.inl ⟨rfl,by rw[whichs,HE.out];rfl⟩,Below.refl _ _,zCl⟩
theorem zEo(kind:Int)(w:World):
 Cl 50 #[iV kind] w fun e w'=> ∃a,e=rV #[a,.bool (decide (1≤kind∧kind≤5))]∧IntsAt w' a (whichs kind)∧Below w.heap.size w w':=by
 refine(zEn kind w).mono ?_;rintro e w' ⟨a,h1,h2,h3,-⟩;exact⟨a,h1,h2,h3⟩
def fsum(l:List (Nat×Nat)):Int:=(l.map fun p=>(p.2:Int)).sum
theorem zHz(l:List (Nat×Nat))(p:Nat×Nat):fsum (l++ [p])=fsum l+p.2:=by simp[fsum]
theorem zEp(l:List (Nat×Nat))(h: ∀p∈l,p.2≤4):0≤fsum l∧fsum l≤4*l.length:=by
 induction l with
 |nil=>simp[fsum]
 |cons a l ih=>
  have h1:=ih (fun p hp=>h p (List.mem_cons_of_mem _ hp));have h2:=h a (List.mem_cons_self ..);simp only[fsum,List.map_cons,List.sum_cons,List.length_cons]at h1⊢;omega
theorem zJ(l:List (Nat×Nat))(v:Nat→Int):((body l v).length:Int)=fsum l:=by
 induction l with
 |nil=>rfl
 |cons a l ih=>
  simp only[body,fsum,List.flatMap_cons,List.length_append,zAe,List.map_cons,List.sum_cons]at ih⊢;omega
theorem zDh(kind:Int)(a:Value)(w:World)(hi:IntsAt w a (whichs kind))(hW:Wids w):
 Cl 52 #[a] w fun e w'=>e=.returned (iV (2+fsum (terms kind)))∧w'=w:=by
 have hlen:(whichs kind).length=(terms kind).length:=by simp[whichs]
 rcases hi with⟨rfl,hnil⟩|⟨ba,rfl,hne,hca⟩
 ·have ht:terms kind= []:=by simpa [whichs] using hnil
  have HT:Hid (terms kind= []):=ht;clear ht hnil hlen;go_enter Tryz.func52,Tryz.ntmps52;go_wp2;refine wp_loop_rounds 1 ?_;rw[rounds_succ];go_wp2;go_ret;exact⟨by rw[HT.out];rfl,rfl⟩
 ·rw[hlen];have hn9:=zBn kind;have HA:Hid (∀i (h:i<(whichs kind).length),cI w ba i ((whichs kind)[i])):=hca;have HL:Hid ((whichs kind).length=(terms kind).length):=hlen;have HW:Hid (Wids w):=hW;clear hca hne hlen hW;generalize hN:(terms kind).length=n at *;have HN:Hid ((terms kind).length=n):=hN;clear hN;go_enter Tryz.func52,Tryz.ntmps52;go_wp2;go_loop [3,8] (fun s i=> ∃k:Nat,k≤n∧i=iV k∧s=iV (2+fsum ((terms kind).take k))) (fun _ i=>n - (intOf i).toNat)
  case atStart=>exact⟨0,Nat.zero_le _,rfl,rfl⟩
  case round=>
   obtain⟨k,hk,rfl,rfl⟩:=hrel;have hbd:=zEp ((terms kind).take k) (fun p hp=>by have:=zAi kind p (List.mem_of_mem_take hp);omega);have hl9:((terms kind).take k).length≤9:=by rw[List.length_take];omega
   by_cases hlt:k<n
   ·have hkt:k<(terms kind).length:=by rw[HN.out];exact hlt
    have hok:=zAi kind _ (List.getElem_mem hkt);have hwd:=zDg kind _ (List.getElem_mem hkt);have hts:fsum ((terms kind).take (k+1))=fsum ((terms kind).take k)+(terms kind)[k].2:=by
     rw[List.take_succ_eq_append_getElem hkt,zHz]
    have hca:=HA.out k (by rw[HL.out];exact hlt);simp only[whichs,List.getElem_map]at hca;have hcw:=HW.out (terms kind)[k].1 hok.1;rw[hwd]at hcw;generalize hp:(terms kind)[k]=p at *;obtain⟨pa,pb⟩:=p;obtain⟨hp1,hp2,-⟩:=hok;simp only at hp1 hp2 hca hcw hts;have HTS:Hid (fsum ((terms kind).take (k+1))=fsum ((terms kind).take k)+pb):=hts;clear hts hwd hp;generalize fsum ((terms kind).take k)=q at *;have hpz:(0:Int)≤(pa:Int)∧(pa:Int)<9:=by omega
    go_wp2;go_round
    case rel=>exact⟨k+1,by omega,by go_num,zAr (by rw[HTS.out];omega)⟩
    case measure=>simp[intOf];omega
   ·have hkn:k=n:=by omega
    subst hkn;go_wp2;go_ret;exact⟨zBl (by rw[List.take_of_length_le (by rw[HN.out];omega)]),rfl⟩
theorem zJ0(pa pb:Nat)(x:Int)(w:World)(hW:Wids w)(hpa:pa<9)(hpb:wid pa=pb)(hb4:pb≤4)(h1: -9223372036854775808≤x)(h2:x≤9223372036854775807):
 Cl 53 #[iV pa,iV x] w fun e w'=>e=.returned (.bool (fit (pa,pb) x))∧w'=w:=by
 by_cases h6:pa=6
 ·subst h6;go_enter Tryz.func53,Tryz.ntmps53;go_wp2_with fail;refine(zHs x _ h1 h2).mono ?_;rintro e w' ⟨rfl,rfl⟩;go_wp2;go_ret;exact⟨zCi (by unfold fit;rw[if_pos rfl,Bool.decide_and]),rfl⟩
 ·have g6:=beq_eq_false_iff_ne.2 (by omega);have hcw:=hW pa hpa;rw[hpb]at hcw;have HF:Hid (fit (pa,pb) x=decide (0≤x∧x<256 ^ pb)):=by show _=_;unfold fit;rw[if_neg h6]
  have hpz:(0:Int)≤(pa:Int)∧(pa:Int)<9:=by omega
  go_enter Tryz.func53,Tryz.ntmps53;go_wp2_with fail;refine(zHr x pb _ hb4 h1 h2).mono ?_;rintro e w' ⟨rfl,rfl⟩;go_wp2;go_ret;exact⟨zCi (by rw[HF.out,Bool.decide_and]),rfl⟩
end
section
open Go
section
variable {P:Program} (w:World)
theorem zJ1(t ty:TypeId)(base:Nat)(e:TypeId)(i:TypeInfo)(z:Value)(size bytes:Nat)(ht:P.underlying t=some (.slice e))(hi:P.info? e=some i)(hz:i.zero=some z)
 (hsize:i.size=size) (hby:i.bytes=bytes) (hzs:z.cells.size=size) (hsz:0<size)
 (g n cap:Nat) (xs:List Value) (hown:w.ownsRow base e size (sL g n cap) n xs)
 (ad:Addr) (m c:Nat) (news:List Value) (hl:news.length=m*size) (hnews: ∀j u,news[j]? =some u→w.cell? (ad.add j)=some u) (h1: ∀u∈news,u.oneCell'=true)
 (hroom:n+m≤cap) (h63:n+m≤maxLen) (hbytes:(n+m)* bytes≤140737488355328) (hbase:base≤w.heap.size):
 ∃w',(Builtin.append_ #[t,t] ty #[sL g n cap,.slice (some ad) m c]).run P w=.ok (sL g (n+m) cap) w'∧
  w'.ownsRow base e size (sL g (n+m) cap) (n+m) (xs++news)∧w.grownBy w' (some g):=by
 obtain⟨v',w',hr,h2,h3,_⟩:=run_append_own (P:=P) w base t ty e i z size bytes ht hi hz hsize hby hzs hsz _ n xs hown ad m c news hl hnews h1 h63 hbytes hbase;rcases hown.2 with⟨e0,-⟩|⟨g',cap',cur,e0,hg,hh,hle,hmx,hcs,htk⟩
 ·cases e0
 ·injection e0 with e1 e2 e3;injection e1 with e1;injection e1 with e1;subst e1 e3;have hfit:n*i.size+news.length≤cur.size:=by rw[hl,hcs,hsize,←Nat.add_mul];exact Nat.mul_le_mul_right _ hroom
  have hr2:=run_append_room (P:=P) w t ty e i ht hi g n cap cur hh ad m c news (by rw[hsize];exact hl) hnews h1 hroom hfit;rw[hr2]at hr;injection hr with hr1 hr3;subst hr1 hr3;exact⟨_,hr2,h2,h3⟩
theorem zJ2{o:Oper}{a:Act}{K:Act→World→Prop}(s x:Operand)(t:TypeId)
 (ho:o.op=.call { callee:=.builtin .append,args:=#[s,x],argTypes:=#[t,t] })
 (base:Nat) (e:TypeId) (i:TypeInfo) (z:Value) (size bytes:Nat) (ht:P.underlying t=some (.slice e)) (hi:P.info? e=some i) (hz:i.zero=some z)
 (hsize:i.size=size) (hby:i.bytes=bytes) (hzs:z.cells.size=size) (hsz:0<size)
 (g n cap:Nat) (xs:List Value) (hs:a.eval s=sL g n cap) (hown:w.ownsRow base e size (sL g n cap) n xs)
 (ad:Addr) (m c:Nat) (news:List Value) (hx:a.eval x=.slice (some ad) m c) (hl:news.length=m*size) (hnews: ∀j u,news[j]? =some u→w.cell? (ad.add j)=some u) (h1: ∀u∈news,u.oneCell'=true)
 (hroom:n+m≤cap) (h63:n+m≤maxLen) (hbytes:(n+m)* bytes≤140737488355328) (hbase:base≤w.heap.size)
 (h: ∀w',w'.ownsRow base e size (sL g (n+m) cap) (n+m) (xs++news)→w.grownBy w' (some g)→K (a.put o.dst (sL g (n+m) cap)) w'):o.wp P a w K Q:=by
 obtain⟨w',hr,h2,h3⟩:=zJ1 (P:=P) w t o.type base e i z size bytes ht hi hz hsize hby hzs hsz g n cap xs hown ad m c news hl hnews h1 hroom h63 hbytes hbase;unfold Oper.wp execOp;simp only[ho,resolve,invoke,builtin,Sem.run_bind,Sem.run_pure,Result.andThen_ok,List.map_toArray,List.map_cons,List.map_nil,hs,hx,hr];exact h w' h2 h3
theorem zEq{ops:Array Oper}{rest:List Oper}{o:Oper}{a:Act}(hgd:o.guard=none)(s x:Operand)(t:TypeId)
 (ho:o.op=.call { callee:=.builtin .append,args:=#[s,x],argTypes:=#[t,t] })
 (base:Nat) (e:TypeId) (i:TypeInfo) (z:Value) (size bytes:Nat) (ht:P.underlying t=some (.slice e)) (hi:P.info? e=some i) (hz:i.zero=some z)
 (hsize:i.size=size) (hby:i.bytes=bytes) (hzs:z.cells.size=size) (hsz:0<size)
 (g n cap:Nat) (xs:List Value) (hs:a.eval s=sL g n cap) (hown:w.ownsRow base e size (sL g n cap) n xs)
 (ad:Addr) (m c:Nat) (news:List Value) (hx:a.eval x=.slice (some ad) m c) (hl:news.length=m*size) (hnews: ∀j u,news[j]? =some u→w.cell? (ad.add j)=some u) (h1: ∀u∈news,u.oneCell'=true)
 (hroom:n+m≤cap) (h63:n+m≤maxLen) (hbytes:(n+m)* bytes≤140737488355328) (hbase:base≤w.heap.size)
 (h: ∀w',w'.ownsRow base e size (sL g (n+m) cap) (n+m) (xs++news)→w.grownBy w' (some g)→wpList P ops Q rest (a.put o.dst (sL g (n+m) cap)) w'):wpList P ops Q (o::rest) a w:=
 wpList_plain hgd fun _ hK=>zJ2 w s x t ho base e i z size bytes ht hi hz hsize hby hzs hsz g n cap xs hs hown ad m c news hx hl hnews h1 hroom h63 hbytes hbase fun w' h2 h3=>hK _ _ (h w' h2 h3)
end
end
end Go.Proofs.YtilbfpnpkkkpgaaGreatDoor
