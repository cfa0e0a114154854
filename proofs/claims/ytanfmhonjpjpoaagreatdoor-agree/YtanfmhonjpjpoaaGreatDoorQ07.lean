import Derived.Test.YtanfmhonjpjpoaaGreatDoorQ00
import Derived.Test.YtanfmhonjpjpoaaGreatDoorQ06
import Derived.Deep.RegionHeld
import Derived.Deep.AppendLies
import Derived.Maps.OwnOps
import Derived.Maps.OwnSet
import Derived.Maps.RangeWalk
set_option linter.all false
set_option maxRecDepth 100000
set_option maxHeartbeats 8000000
namespace Go.Proofs.YtanfmhonjpjpoaaGreatDoor
variable{es:List (Lit×DataW Unit)}{r:Nat}{k:Int}{w':World}{Q:Exit→Act→World→Prop}
section
open Go.Extern Go.RowKit
def wid:Nat→Int|0=>4|1=>1|2=>1|3=>4|4=>4|5=>4|6=>4|7=>1|_=>4
def Wids(w:World):Prop:= ∀i,i<9→w.cell? (iA 9 i)=sI (wid i)
theorem Wids.below{w:World}(h:Wids w)(hb:Below w.heap.size w w'):Wids w':=fun i hi=>(hb.cell (p:=(iA 9 i)) (zBf (h i hi))).trans (h i hi)
theorem zDj(kind:Int): ∀p∈terms kind,wid p.1=p.2:=by
 intro p hp;unfold terms at hp;split at hp
 ·simp at hp;rcases hp with rfl|rfl|rfl|rfl|rfl|rfl|rfl|rfl|rfl<;>rfl
 split at hp
 ·simp at hp;rcases hp with rfl;rfl
 split at hp
 ·simp at hp;rcases hp with rfl|rfl|rfl<;>rfl
 split at hp
 ·simp at hp;rcases hp with rfl;rfl
 ·simp at hp
theorem zF8(kind:Int)(w:World):
 Cl 109 #[iV kind] w fun e w'=> ∃a,e=rV #[a,.bool (decide (1≤kind∧kind≤5))]∧IntsAt w' a (whichs kind)∧Below w.heap.size w w'∧Fresh w.heap.size a:=by
 by_cases h1:kind=1
 ·subst h1;go_enter Tryz.func109,Tryz.ntmps109;go_wp2;go_ret2;exact⟨_,rfl,.inr ⟨_,rfl,by decide,fun i hi=>zBt _ _ _ _ rfl i hi⟩,(Below.refl _ _).alloc (Nat.le_refl _) _,zAj (Nat.le_refl _)⟩
 by_cases h2:kind=2
 ·subst h2;go_enter Tryz.func109,Tryz.ntmps109;go_wp2;go_ret2;exact⟨_,rfl,.inr ⟨_,rfl,by decide,fun i hi=>zBt _ _ _ _ rfl i hi⟩,(Below.refl _ _).alloc (Nat.le_refl _) _,zAj (Nat.le_refl _)⟩
 by_cases h3:kind=3
 ·subst h3;go_enter Tryz.func109,Tryz.ntmps109;go_wp2;go_ret2;exact⟨_,rfl,.inr ⟨_,rfl,by decide,fun i hi=>zBt _ _ _ _ rfl i hi⟩,(Below.refl _ _).alloc (Nat.le_refl _) _,zAj (Nat.le_refl _)⟩
 by_cases h4:kind=4
 ·subst h4;go_enter Tryz.func109,Tryz.ntmps109;go_wp2;go_ret2;exact⟨_,rfl,.inr ⟨_,rfl,by decide,fun i hi=>zBt _ _ _ _ rfl i hi⟩,(Below.refl _ _).alloc (Nat.le_refl _) _,zAj (Nat.le_refl _)⟩
 have g1:=beq_eq_false_iff_ne.2 h1;have g2:=beq_eq_false_iff_ne.2 h2;have g3:=beq_eq_false_iff_ne.2 h3;have g4:=beq_eq_false_iff_ne.2 h4;have e:terms kind= []:=by simp[terms,h1,h2,h3,h4]
 have HE:=hid e;by_cases h5:kind=5
 ·subst h5;go_enter Tryz.func109,Tryz.ntmps109;go_wp2;go_ret2;exact⟨_,rfl,.inl ⟨rfl,by rw[whichs,HE.out];rfl⟩,Below.refl _ _,zCh⟩
 ·have g5:=beq_eq_false_iff_ne.2 h5;have HD:Hid (decide (1≤kind∧kind≤5)=false):=by show _=_;simp;omega
  go_enter Tryz.func109,Tryz.ntmps109;go_wp2;go_ret2;exact⟨_,by rw[HD.out];rfl,.inl ⟨rfl,by rw[whichs,HE.out];rfl⟩,Below.refl _ _,zCh⟩
theorem zF9(kind:Int)(w:World):
 Cl 109 #[iV kind] w fun e w'=> ∃a,e=rV #[a,.bool (decide (1≤kind∧kind≤5))]∧IntsAt w' a (whichs kind)∧Below w.heap.size w w':=by
 refine(zF8 kind w).mono ?_;rintro e w' ⟨a,h1,h2,h3,-⟩;exact⟨a,h1,h2,h3⟩
def fsum(l:List (Nat×Nat)):Int:=(l.map fun p=>(p.2:Int)).sum
theorem zK6(l:List (Nat×Nat))(p:Nat×Nat):fsum (l++ [p])=fsum l+p.2:=by simp[fsum]
theorem zFa(l:List (Nat×Nat))(h: ∀p∈l,p.2≤4):0≤fsum l∧fsum l≤4*l.length:=by
 induction l with
 |nil=>simp[fsum]
 |cons a l ih=>
  have h1:=ih (fun p hp=>h p (List.mem_cons_of_mem _ hp));have h2:=h a (List.mem_cons_self ..);simp only[fsum,List.map_cons,List.sum_cons,List.length_cons]at h1⊢;omega
theorem zK7(l:List (Nat×Nat))(v:Nat→Int):((body l v).length:Int)=fsum l:=by
 induction l with
 |nil=>rfl
 |cons a l ih=>
  simp only[body,fsum,List.flatMap_cons,List.length_append,zA2,List.map_cons,List.sum_cons]at ih⊢;omega
theorem zDk(kind:Int)(a:Value)(w:World)(hi:IntsAt w a (whichs kind))(hW:Wids w):
 Cl 111 #[a] w fun e w'=>e=.returned (iV (2+fsum (terms kind)))∧w'=w:=by
 have hlen:(whichs kind).length=(terms kind).length:=by simp[whichs]
 rcases hi with⟨rfl,hnil⟩|⟨ba,rfl,hne,hca⟩
 ·have ht:terms kind= []:=by simpa [whichs] using hnil
  have HT:Hid (terms kind= []):=ht;clear ht hnil hlen;go_enter Tryz.func111,Tryz.ntmps111;go_wp2;refine wp_loop_rounds 1 ?_;rw[rounds_succ];go_wp2;go_ret;exact⟨by rw[HT.out];rfl,rfl⟩
 ·rw[hlen];have hn9:=zBs kind;have HA:Hid (∀i (h:i<(whichs kind).length),cI w ba i ((whichs kind)[i])):=hca;have HL:Hid ((whichs kind).length=(terms kind).length):=hlen;have HW:Hid (Wids w):=hW;clear hca hne hlen hW;generalize hN:(terms kind).length=n at *;have HN:Hid ((terms kind).length=n):=hN;clear hN;go_enter Tryz.func111,Tryz.ntmps111;go_wp2;go_loop [3,8] (fun s i=> ∃k:Nat,k≤n∧i=iV k∧s=iV (2+fsum ((terms kind).take k))) (fun _ i=>n - (intOf i).toNat)
  case atStart=>exact⟨0,Nat.zero_le _,rfl,rfl⟩
  case round=>
   obtain⟨k,hk,rfl,rfl⟩:=hrel;have hbd:=zFa ((terms kind).take k) (fun p hp=>by have:=zAh kind p (List.mem_of_mem_take hp);omega);have hl9:((terms kind).take k).length≤9:=by rw[List.length_take];omega
   by_cases hlt:k<n
   ·have hkt:k<(terms kind).length:=by rw[HN.out];exact hlt
    have hok:=zAh kind _ (List.getElem_mem hkt);have hwd:=zDj kind _ (List.getElem_mem hkt);have hts:fsum ((terms kind).take (k+1))=fsum ((terms kind).take k)+(terms kind)[k].2:=by
     rw[List.take_succ_eq_append_getElem hkt,zK6]
    have hca:=HA.out k (by rw[HL.out];exact hlt);simp only[whichs,List.getElem_map]at hca;have hcw:=HW.out (terms kind)[k].1 hok.1;rw[hwd]at hcw;generalize hp:(terms kind)[k]=p at *;obtain⟨pa,pb⟩:=p;obtain⟨hp1,hp2,-⟩:=hok;simp only at hp1 hp2 hca hcw hts;have HTS:Hid (fsum ((terms kind).take (k+1))=fsum ((terms kind).take k)+pb):=hts;clear hts hwd hp;generalize fsum ((terms kind).take k)=q at *;have hpz:(0:Int)≤(pa:Int)∧(pa:Int)<9:=by omega
    go_wp2;go_round
    case rel=>exact⟨k+1,by omega,by go_num,zAr (by rw[HTS.out];omega)⟩
    case measure=>simp[intOf];omega
   ·have hkn:k=n:=by omega
    subst hkn;go_wp2;go_ret;exact⟨zBr (by rw[List.take_of_length_le (by rw[HN.out];omega)]),rfl⟩
theorem zK8(pa pb:Nat)(x:Int)(w:World)(hW:Wids w)(hpa:pa<9)(hpb:wid pa=pb)(hb4:pb≤4)(h1: -9223372036854775808≤x)(h2:x≤9223372036854775807):
 Cl 112 #[iV pa,iV x] w fun e w'=>e=.returned (.bool (fit (pa,pb) x))∧w'=w:=by
 by_cases h6:pa=6
 ·subst h6;go_enter Tryz.func112,Tryz.ntmps112;go_wp2_with fail;refine(zK0 x _ h1 h2).mono ?_;rintro e w' ⟨rfl,rfl⟩;go_wp2;go_ret;exact⟨zCe (by unfold fit;rw[if_pos rfl,Bool.decide_and]),rfl⟩
 ·have g6:=beq_eq_false_iff_ne.2 (by omega);have hcw:=hW pa hpa;rw[hpb]at hcw;have HF:Hid (fit (pa,pb) x=decide (0≤x∧x<256 ^ pb)):=by show _=_;unfold fit;rw[if_neg h6]
  have hpz:(0:Int)≤(pa:Int)∧(pa:Int)<9:=by omega
  go_enter Tryz.func112,Tryz.ntmps112;go_wp2_with fail;refine(zK x pb _ hb4 h1 h2).mono ?_;rintro e w' ⟨rfl,rfl⟩;go_wp2;go_ret;exact⟨zCe (by rw[HF.out,Bool.decide_and]),rfl⟩
end
section
open Go
section
variable {P:Program} (w:World)
theorem zK9(t ty:TypeId)(base:Nat)(e:TypeId)(i:TypeInfo)(z:Value)(size bytes:Nat)(ht:P.underlying t=some (.slice e))(hi:P.info? e=some i)(hz:i.zero=some z)
 (hsize:i.size=size) (hby:i.bytes=bytes) (hzs:z.cells.size=size) (hsz:0<size)
 (g n cap:Nat) (xs:List Value) (hown:w.ownsRow base e size (sL g n cap) n xs)
 (ad:Addr) (m c:Nat) (news:List Value) (hl:news.length=m*size) (hnews: ∀j u,news[j]? =some u→w.cell? (ad.add j)=some u) (h1: ∀u∈news,u.oneCell'=true)
 (hroom:n+m≤cap) (h63:n+m≤maxLen) (hbytes:(n+m)* bytes≤140737488355328) (hbase:base≤w.heap.size):
 ∃w',(Builtin.append_ #[t,t] ty #[sL g n cap,.slice (some ad) m c]).run P w=.ok (sL g (n+m) cap) w'∧
  w'.ownsRow base e size (sL g (n+m) cap) (n+m) (xs++news)∧w.grownBy w' (some g):=by
 obtain⟨v',w',hr,h2,h3,_⟩:=run_append_own (P:=P) w base t ty e i z size bytes ht hi hz hsize hby hzs hsz _ n xs hown ad m c news hl hnews h1 h63 hbytes hbase;rcases hown.2 with⟨e0,-⟩|⟨g',cap',cur,e0,hg,hh,hle,hmx,hcs,htk⟩
 ·cases e0
 ·injection e0 with e1 e2 e3;injection e1 with e1;injection e1 with e1;subst e1 e3;have hfit:n*i.size+news.length≤cur.size:=by rw[hl,hcs,hsize,←Nat.add_mul];exact Nat.mul_le_mul_right _ hroom
  have hr2:=run_append_room (P:=P) w t ty e i ht hi g n cap cur hh ad m c news (by rw[hsize];exact hl) hnews h1 hroom hfit;rw[hr2]at hr;injection hr with hr1 hr3;subst hr1 hr3;exact⟨_,hr2,h2,h3⟩
theorem zKa{o:Oper}{a:Act}{K:Act→World→Prop}(s x:Operand)(t:TypeId)
 (ho:o.op=.call { callee:=.builtin .append,args:=#[s,x],argTypes:=#[t,t] })
 (base:Nat) (e:TypeId) (i:TypeInfo) (z:Value) (size bytes:Nat) (ht:P.underlying t=some (.slice e)) (hi:P.info? e=some i) (hz:i.zero=some z)
 (hsize:i.size=size) (hby:i.bytes=bytes) (hzs:z.cells.size=size) (hsz:0<size)
 (g n cap:Nat) (xs:List Value) (hs:a.eval s=sL g n cap) (hown:w.ownsRow base e size (sL g n cap) n xs)
 (ad:Addr) (m c:Nat) (news:List Value) (hx:a.eval x=.slice (some ad) m c) (hl:news.length=m*size) (hnews: ∀j u,news[j]? =some u→w.cell? (ad.add j)=some u) (h1: ∀u∈news,u.oneCell'=true)
 (hroom:n+m≤cap) (h63:n+m≤maxLen) (hbytes:(n+m)* bytes≤140737488355328) (hbase:base≤w.heap.size)
 (h: ∀w',w'.ownsRow base e size (sL g (n+m) cap) (n+m) (xs++news)→w.grownBy w' (some g)→K (a.put o.dst (sL g (n+m) cap)) w'):o.wp P a w K Q:=by
 obtain⟨w',hr,h2,h3⟩:=zK9 (P:=P) w t o.type base e i z size bytes ht hi hz hsize hby hzs hsz g n cap xs hown ad m c news hl hnews h1 hroom h63 hbytes hbase;unfold Oper.wp execOp;simp only[ho,resolve,invoke,builtin,Sem.run_bind,Sem.run_pure,Result.andThen_ok,List.map_toArray,List.map_cons,List.map_nil,hs,hx,hr];exact h w' h2 h3
theorem zFb{ops:Array Oper}{rest:List Oper}{o:Oper}{a:Act}(hgd:o.guard=none)(s x:Operand)(t:TypeId)
 (ho:o.op=.call { callee:=.builtin .append,args:=#[s,x],argTypes:=#[t,t] })
 (base:Nat) (e:TypeId) (i:TypeInfo) (z:Value) (size bytes:Nat) (ht:P.underlying t=some (.slice e)) (hi:P.info? e=some i) (hz:i.zero=some z)
 (hsize:i.size=size) (hby:i.bytes=bytes) (hzs:z.cells.size=size) (hsz:0<size)
 (g n cap:Nat) (xs:List Value) (hs:a.eval s=sL g n cap) (hown:w.ownsRow base e size (sL g n cap) n xs)
 (ad:Addr) (m c:Nat) (news:List Value) (hx:a.eval x=.slice (some ad) m c) (hl:news.length=m*size) (hnews: ∀j u,news[j]? =some u→w.cell? (ad.add j)=some u) (h1: ∀u∈news,u.oneCell'=true)
 (hroom:n+m≤cap) (h63:n+m≤maxLen) (hbytes:(n+m)* bytes≤140737488355328) (hbase:base≤w.heap.size)
 (h: ∀w',w'.ownsRow base e size (sL g (n+m) cap) (n+m) (xs++news)→w.grownBy w' (some g)→wpList P ops Q rest (a.put o.dst (sL g (n+m) cap)) w'):wpList P ops Q (o::rest) a w:=
 wpList_plain hgd fun _ hK=>zKa w s x t ho base e i z size bytes ht hi hz hsize hby hzs hsz g n cap xs hs hown ad m c news hx hl hnews h1 hroom h63 hbytes hbase fun w' h2 h3=>hK _ _ (h w' h2 h3)
end
end
section
open Go.Extern Go.MapKept Go.Maps Go.RowKit Go.WideShapes
structure Elem(V:Type) where
 val:V→Value
 dat:V→DataW Unit
 R:Value→Option (DataW Unit×List MemPlace)
 valInj: ∀a b,val a=val b→a=b
 datInj: ∀a b,dat a=dat b→a=b
 read: ∀c,R (val c)=some (dat c,[])
 inv: ∀u y,R u=some y→∃c,u=val c∧y=(dat c,[])
def ptrOf:Option Nat→Value
 |some b=>.pointer (some ⟨b,0,none⟩)
 |none=>.pointer none
def ptrElem:Elem (Option Nat):={
 val:=ptrOf
 dat:=fun o=>.lit (.int .i64 (match o with|some b=>(b:Int)|none=> -1))
 valInj:=fun a b h=>by cases a<;>cases b<;>simp[ptrOf]at h⊢;exact h
 datInj:=fun a b h=>by cases a<;>cases b<;>simp at h⊢<;>omega
 R:=fun u=>match u with
  | .pointer none=>some (.lit (.int .i64 (-1)),[])
  | .pointer (some ⟨b,0,none⟩)=>some (.lit (.int .i64 (b:Int)),[])
  |_=>none
 read:=fun c=>by cases c<;>rfl
 inv:=fun u y h=>by
  split at h
  ·injection h with h;exact⟨none,rfl,h.symm⟩
  ·rename_i b;injection h with h;exact⟨some b,rfl,h.symm⟩
  ·cases h
 }
theorem zDl{α β:Type}{f:α→β}(hf: ∀x y,f x=f y→x=y): ∀{a b:List α},a.map f=b.map f→a=b
 | [],[],_=>rfl
 | [],y::s,h=>by simp at h
 |x::r,[],h=>by simp at h
 |x::r,y::s,h=>by
  simp only[List.map_cons,List.cons.injEq]at h;rw[hf _ _ h.1,zDl hf h.2]
def intsOf:List Value→Option (List Int)
 | []=>some []
 | .int .i64 x::r=>(intsOf r).map (x:: ·)
 |_=>none
theorem zFc: ∀l:List Int,intsOf (l.map (Value.int .i64))=some l
 | []=>rfl
 |x::r=>by rw[List.map_cons,intsOf,zFc r];rfl
theorem zKb: ∀(vs:List Value) (l:List Int),intsOf vs=some l→vs=l.map (Value.int .i64):=by
 intro vs
 induction vs with
 |nil=>intro l h;injection h with h;rw[←h];rfl
 |cons v r ih=>
  intro l h;unfold intsOf at h;split at h
  ·rename_i e;cases e
  ·rename_i x r' e;injection e with e1 e2;subst e1 e2;obtain⟨l',h1,h2⟩:=Option.map_eq_some_iff.1 h;rw[←h2,List.map_cons,ih l' h1]
  ·cases h
def aggElem:Elem (List Int):={
 val:=fun l=>.agg (l.map (Value.int .i64)).toArray
 dat:=fun l=>.agg (l.map fun x=>.lit (.int .i64 x))
 valInj:=fun a b h=>by
  injection h with h;have h:=congrArg Array.toList h;exact zDl (fun x y e=>by injection e) h
 datInj:=fun a b h=>by
  injection h with h;exact zDl (fun x y e=>by injection e with e;injection e) h
 R:=fun u=>match u with
  | .agg a=>(intsOf a.toList).map fun l=>(.agg (l.map fun x=>.lit (.int .i64 x)),[])
  |_=>none
 read:=fun c=>by show Option.map _ (intsOf (c.map (Value.int .i64)).toArray.toList)=_;rw[List.toList_toArray,zFc];rfl
 inv:=fun u y h=>by
  split at h
  ·rename_i a;obtain⟨l,h1,h2⟩:=Option.map_eq_some_iff.1 h;exact⟨l,by rw[←zKb _ _ h1],h2.symm⟩
  ·cases h
 }
def rdE{V:Type}(E:Elem V)(p:Int×V):Lit×DataW Unit:=(.int .i64 p.1,E.dat p.2)
def PM{V:Type}(E:Elem V)(P:Program)(K:TypeId)(w:World)(b:Nat)(l:List (Int×V)):Prop:=
 ∃es,w.ownsMap P K E.R b l.length (.map es)∧es.Perm (l.map (rdE E))
variable {V:Type} {E:Elem V} {P:Program} {K T e:TypeId} {w:World} {b:Nat} {l:List (Int×V)}
theorem PM.perm{l':List (Int×V)}(h:PM E P K w b l)(hp:l.Perm l'):PM E P K w b l':=by
 obtain⟨es,h1,h2⟩:=h;exact⟨es,hp.length_eq▸h1,h2.trans (hp.map _)⟩
theorem PM.lt(h:PM E P K w b l):b<w.heap.size:=by obtain⟨es,h1,_⟩:=h;exact h1.lt
theorem PM.of_block(h:PM E P K w b l)(hb:w'.heap[b]? =w.heap[b]?):PM E P K w' b l:=by
 obtain⟨es,⟨es',clock,h1,h3⟩,h2⟩:=h;exact⟨es,⟨es',clock,hb.trans h1,h3⟩,h2⟩
theorem zKc{H:Type}{R:Value→Option (DataW H×List MemPlace)}{n:Nat}{es:List (Lit×DataW H)}(h:w.ownsMap P K R b n (.map es)):w.ownsMap P K R b es.length (.map es):=by
 obtain⟨es',clock,h1,h2,h3,h4⟩:=h;refine⟨es',clock,h1,h2,?_,h4⟩;injection h4 with h4;rw[h4,length_read];exact Nat.le_refl _
theorem PM.of_owns{n:Nat}(h:w.ownsMap P K E.R b n (.map es))(hp:es.Perm (l.map (rdE E))):PM E P K w b l:=by
 have hl:es.length=l.length:=by have:=hp.length_eq;simpa using this
 exact⟨es,hl▸zKc h,hp⟩
theorem PM.made(E:Elem V)(P:Program)(K:TypeId)(w:World):PM E P K (w.alloc (.map #[] 0)) w.heap.size ([]:List (Int×V)):=⟨[],World.ownsMap_made w P K E.R,List.Perm.refl _⟩
theorem PM.nodup(h:PM E P K w b l)(L:Keyed P K):(l.map Prod.fst).Nodup:=by
 obtain⟨es,h1,h2⟩:=h;obtain⟨es',e1,h3⟩:=h1.tidy L;injection e1 with e1;subst e1;have h4:(l.map (rdE E)).Pairwise (fun p q=>p.1≠q.1):=(h2.pairwise_iff (fun{a b} h=>h.symm)).1 h3;rw[List.pairwise_map]at h4;rw[List.Nodup,List.pairwise_map];exact h4.imp (fun{a b} h e=>h (by simp[rdE,e]))
theorem sameInt(a c:Int):(Lit.int .i64 a).sameKey (.int .i64 c)=decide (a=c):=by simp[Lit.sameKey]
theorem zFd{α:Type}{x y:List α}(h:x.Perm y)(f:α→Bool):x.any f=y.any f:=by
 rw[Bool.eq_iff_iff,List.any_eq_true,List.any_eq_true];exact⟨fun⟨a,q,r⟩=>⟨a,h.mem_iff.1 q,r⟩,fun⟨a,q,r⟩=>⟨a,h.mem_iff.2 q,r⟩⟩
theorem zCi(hp:es.Perm (l.map (rdE E)))(k:Int):Maps.has (.map es) (.int .i64 k)=l.any (fun p=>decide (p.1=k)):=by
 rw[Maps.has_eq,zFd hp,List.any_map]
 congr 1
 funext p
 simp[rdE,sameInt]
theorem zCj: ∀{l:List (Int×V)},(l.map Prod.fst).Nodup→∀{p q:Int×V},p∈l→q∈l→p.1=q.1→p=q
 | [],_,p,q,h,_,_=>by cases h
 |x::r,hn,p,q,hp,hq,he=>by
  rw[List.map_cons,List.nodup_cons]at hn;rcases List.mem_cons.1 hp with e1|hp1
  ·rcases List.mem_cons.1 hq with e2|hq1
   ·rw[e1,e2]
   ·exact absurd (List.mem_map_of_mem (f:=Prod.fst) hq1) (by rw[←he,e1];exact hn.1)
  ·rcases List.mem_cons.1 hq with e2|hq1
   ·exact absurd (List.mem_map_of_mem (f:=Prod.fst) hp1) (by rw[he,e2];exact hn.1)
   ·exact zCj hn.2 hp1 hq1 he
theorem zFe(hp:es.Perm (l.map (rdE E)))(hn:(l.map Prod.fst).Nodup)(k:Int)(v:V)(hm:(k,v)∈l)(z:DataW Unit):(DataW.map es).atKey (.int .i64 k) z=E.dat v:=by
 have hmem:rdE E (k,v)∈es:=hp.mem_iff.2 (List.mem_map_of_mem hm);rcases hf:es.find? (fun p=>p.1.sameKey (.int .i64 k)) with _|p
 ·have:=List.find?_eq_none.1 hf _ hmem;simp[rdE,sameInt]at this
 ·simp only[DataW.atKey,hf];have h1:=List.mem_of_find?_eq_some hf;have h2:=List.find?_some hf;obtain⟨q,hq,rfl⟩:=List.mem_map.1 (hp.mem_iff.1 h1);have hk:q.1=k:=by simpa [rdE,sameInt] using h2
  have:q=(k,v):=zCj hn hq hm hk;subst this;rfl
theorem zKd(hp:es.Perm (l.map (rdE E)))(k:Int)(hm: ∀p∈l,p.1≠k)(z:DataW Unit):(DataW.map es).atKey (.int .i64 k) z=z:=by
 refine Maps.atKey_of_not_has ?_ z;rw[zCi hp];rw[Bool.eq_false_iff];intro h;obtain⟨p,hp,hk⟩:=List.any_eq_true.1 h;exact hm p hp (by simpa using hk)
theorem PM.hit(h:PM E P K w b l)(L:Keyed P K)(hk:P.underlying K=some (.int .i64))(ht:P.underlying T=some (.map K e)){v0:V}(hz:(zeroValue e).run P w=.ok (E.val v0) w){v:V}(hm:(k,v)∈l)(hw:(Lit.int .i64 k).wf=true):
 (Instr.lookup T (.map (some b)) (.int .i64 k) true).run P w=.ok (.tuple #[E.val v,.bool true]) w:=by
 have hn:=h.nodup L;obtain⟨es,h1,h2⟩:=h;obtain⟨u,ps,hr,hu⟩:=h1.look_ok L ht hz (E.read v0) (keyOf_int_mk hk hw);rw[zFe h2 hn k v hm]at hu;obtain⟨c,rfl,hc⟩:=E.inv _ _ hu;injection hc with hc _;obtain rfl:=E.datInj _ _ hc;rw[hr,zCi h2];have:l.any (fun p=>decide (p.1=k))=true:=List.any_eq_true.2 ⟨(k,v),hm,by simp⟩;rw[this]
theorem PM.miss(h:PM E P K w b l)(L:Keyed P K)(hk:P.underlying K=some (.int .i64))(ht:P.underlying T=some (.map K e)){v0:V}(hz:(zeroValue e).run P w=.ok (E.val v0) w)(hm: ∀p∈l,p.1≠k)(hw:(Lit.int .i64 k).wf=true):
 (Instr.lookup T (.map (some b)) (.int .i64 k) true).run P w=.ok (.tuple #[E.val v0,.bool false]) w:=by
 obtain⟨es,h1,h2⟩:=h;obtain⟨u,ps,hr,hu⟩:=h1.look_ok L ht hz (E.read v0) (keyOf_int_mk hk hw);rw[zKd h2 k hm]at hu;obtain⟨c,rfl,hc⟩:=E.inv _ _ hu;injection hc with hc _;obtain rfl:=E.datInj _ _ hc;rw[hr,zCi h2];have:l.any (fun p=>decide (p.1=k))=false:=by
  rw[Bool.eq_false_iff];intro h;obtain⟨p,hp,hk⟩:=List.any_eq_true.1 h;exact hm p hp (by simpa using hk)
 rw[this]
theorem PM.len(h:PM E P K w b l)(ht:P.underlying T=some (.map K e))(ty:TypeId):(Builtin.len_ #[T] ty #[.map (some b)]).run P w=.ok (.int .i64 (l.length:Int)) w:=by
 obtain⟨es,h1,h2⟩:=h;have hl:es.length=l.length:=by have:=h2.length_eq;simpa using this
 rw[h1.len ht,Maps.size_eq,hl]
def strike(l:List (Int×V))(k:Int):List (Int×V):=l.filter fun p=> !decide (p.1=k)
theorem zFf(hp:es.Perm (l.map (rdE E)))(k:Int):(es.filter fun p=> !p.1.sameKey (.int .i64 k)).Perm ((strike l k).map (rdE E)):=by
 refine(hp.filter _).trans ?_;rw[List.filter_map,strike];refine List.Perm.of_eq (congrArg _ (List.filter_congr fun p _=>?_));simp[rdE,sameInt]
theorem PM.del(h:PM E P K w b l)(L:Keyed P K)(hk:P.underlying K=some (.int .i64))(ht:P.underlying T=some (.map K e))(hw:(Lit.int .i64 k).wf=true)(ty:TypeId):
 ∃w',(Builtin.delete_ #[T,K] ty #[.map (some b),.int .i64 k]).run P w=.ok (.tuple #[]) w'∧PM E P K w' b (strike l k)∧w.mapTurned w' b:=by
 obtain⟨es,h1,h2⟩:=h;obtain⟨w',hr,h3,h4⟩:=h1.drop L ht (keyOf_int_mk hk hw) ty;exact⟨w',hr,PM.of_owns h3 (zFf h2 k),h4⟩
theorem PM.put(h:PM E P K w b l)(L:Keyed P K)(hk:P.underlying K=some (.int .i64))(ht:P.underlying T=some (.map K e))(hn:l.length<maxLen)(hw:(Lit.int .i64 k).wf=true)(v:V):
 ∃w',(Instr.mapUpdate T (.map (some b)) (.int .i64 k) (E.val v)).run P w=.ok () w'∧PM E P K w' b (strike l k++ [(k,v)])∧w.mapTurned w' b:=by
 obtain⟨es,h1,h2⟩:=h;obtain⟨w',hr,h3,h4⟩:=h1.store L ht hn (keyOf_int_mk hk hw) (E.read v);refine⟨w',hr,PM.of_owns h3 ?_,h4⟩;refine(insert_perm _ _).trans ?_;rw[List.map_append];exact((zFf h2 k).cons _).trans (List.perm_append_comm (l₁:=[rdE E (k,v)]))
theorem PM.clear(h:PM E P K w b l)(ht:P.underlying T=some (.map K e))(ty:TypeId):
 ∃w',(Builtin.clear_ #[T] ty #[.map (some b)]).run P w=.ok (.tuple #[]) w'∧PM E P K w' b ([]:List (Int×V))∧w.mapTurned w' b:=by
 obtain⟨es,⟨es',clock,h1,h3⟩,h2⟩:=h;refine⟨ChangeMaps.setBlock w b (.map #[] clock),?_,⟨[],⟨#[],clock,?_,⟨by simp,stamped_empty _,by simp⟩,Nat.le_refl _,rfl⟩,List.Perm.refl _⟩,⟨es',clock,#[],clock,h1,rfl⟩⟩
 ·simp[Builtin.clear_,run_underlying ht,MapKept.run_getObj_map h1,MapKept.run_setObj_map _ h1,Result.andThen,ChangeMaps.setBlock]
 ·exact ChangeMaps.heap_setBlock_same h1 _
def PR(E:Elem V)(P:Program)(K:TypeId)(w:World)(b r:Nat)(l seen rem:List (Int×V)):Prop:=
 (seen++rem).Perm l∧∃es left cnt,w.ranges P K E.R b r l.length (.map es) left cnt∧es.Perm (l.map (rdE E))∧∀k,left (.int .i64 k)=rem.any (fun p=>decide (p.1=k))
theorem PR.map{seen rem:List (Int×V)}(h:PR E P K w b r l seen rem):PM E P K w b l:=by
 obtain⟨_,es,left,cnt,h1,h2,_⟩:=h;exact⟨es,h1.owns,h2⟩
theorem PR.lt{seen rem:List (Int×V)}(h:PR E P K w b r l seen rem):r<w.heap.size:=by
 obtain⟨_,es,left,cnt,h1,_⟩:=h;exact h1.lt
theorem PR.ne{seen rem:List (Int×V)}(h:PR E P K w b r l seen rem):r≠b:=by
 obtain⟨_,es,left,cnt,h1,_⟩:=h;exact h1.ne
theorem PR.of_blocks{seen rem:List (Int×V)}(h:PR E P K w b r l seen rem)(hb:w'.heap[b]? =w.heap[b]?)(hr:w'.heap[r]? =w.heap[r]?):PR E P K w' b r l seen rem:=by
 obtain⟨h0,es,left,cnt,⟨e1,e2,e3,e4,e5,q1,q2,q3,q4,q5,q6⟩,h2⟩:=h;exact⟨h0,es,left,cnt,⟨e1,e2,e3,e4,e5,hb.trans q1,q2,q3,q4,hr.trans q5,q6⟩,h2⟩
theorem PM.range(h:PM E P K w b l)(L:Keyed P K)(ht:P.underlying T=some (.map K e)):
 ∃w',(Instr.range T (.map (some b))).run P w=.ok (.pointer (some ⟨w.heap.size,0,none⟩)) w'∧PR E P K w' b w.heap.size l [] l∧w.grownBy w' none∧w'.heap.size=w.heap.size+1:=by
 obtain⟨es,h1,h2⟩:=h;obtain⟨w',hr,h3,h4,h5⟩:=h1.range L ht;refine⟨w',hr,⟨List.Perm.refl _,es,_,_,h3,h2,fun k=>zCi h2 k⟩,h4,h5⟩
theorem PR.next{seen rem:List (Int×V)}(h:PR E P K w b r l seen rem)(L:Keyed P K)(hk:P.underlying K=some (.int .i64))(ty:TypeId):
 (rem= []∧(Instr.next (.pointer (some ⟨r,0,none⟩)) false ty).run P w=.ok (.tuple #[.bool false]) w)∨
 ∃k v rem' w',rem.Perm ((k,v)::rem')∧(Lit.int .i64 k).wf=true∧(Instr.next (.pointer (some ⟨r,0,none⟩)) false ty).run P w=.ok (.tuple #[.bool true,.int .i64 k,E.val v]) w'∧
  PR E P K w' b r l (seen++ [(k,v)]) rem'∧w.grownBy w' (some r)∧w'.heap.size=w.heap.size∧w'.rangeLeft b r<w.rangeLeft b r∧(Instr.entry (.pointer (some ⟨r,0,none⟩))).run P w'=.ok (.tuple #[.int .i64 k,E.val v]) w':=by
 have hnd:=h.map.nodup L;obtain⟨h0,es,left,cnt,h1,h2,h4⟩:=h;rcases h1.next L ty with⟨c0,hl,hrun⟩|⟨key,u,kl,y,w',cnt',hkey,hlk,hv,hat,hrun,hrg,hlt,hgr,hsz,hen⟩
 ·refine .inl ⟨?_,hrun⟩;cases rem with
  |nil=>rfl
  |cons p r'=>
   have h5:=h4 p.1;rw[hl]at h5;simp at h5
 ·right;obtain⟨k,rfl,rfl,hwf⟩:=Maps.keyOf_int_inv hk hkey;obtain⟨v,rfl,rfl⟩:=E.inv _ _ hv;rw[h4]at hlk;obtain⟨p,hp,hpk⟩:=List.any_eq_true.1 hlk;have hpk:p.1=k:=by simpa using hpk
  have hpl:p∈l:=h0.mem_iff.1 (List.mem_append_right _ hp);have hpv:p=(k,v):=by
   have:=zFe h2 hnd p.1 p.2 hpl (.lit (.int .i64 0));rw[hpk,hat]at this;rw[←hpk,E.datInj _ _ this]
  subst hpv;obtain⟨s,t,rfl⟩:=List.append_of_mem hp;have hpm:(s++(k,v)::t).Perm ((k,v)::(s++t)):=List.perm_middle;have hnr:(((s++(k,v)::t)).map Prod.fst).Nodup:=by
   have:((seen++(s++(k,v)::t)).map Prod.fst).Nodup:=((h0.map _).nodup_iff).2 hnd;rw[List.map_append,List.nodup_append]at this;exact this.2.1
  have hnk: ∀q∈s++t,q.1≠k:=by
   intro q hq e1;have h5:=((hpm.map Prod.fst).nodup_iff).1 hnr;rw[List.map_cons,List.nodup_cons]at h5;have h6:q.1∈(s++t).map Prod.fst:=List.mem_map_of_mem (f:=Prod.fst) hq;rw[e1]at h6;exact h5.1 h6
  refine⟨k,v,s++t,w',hpm,hwf,hrun,⟨?_,es,_,cnt',hrg,h2,fun k'=>?_⟩,hgr,hsz,by rw[hrg.left_eq,h1.left_eq];exact hlt,hen⟩
  ·refine List.Perm.trans ?_ h0;rw[List.append_assoc];exact(hpm.symm).append_left _
  ·rw[h4,zFd hpm];simp only[List.any_cons,sameInt];by_cases e1:k'=k
   ·subst e1;simp;exact⟨fun a c hm=>hnk _ (List.mem_append_left _ hm),fun a c hm=>hnk _ (List.mem_append_right _ hm)⟩
   ·have e3: ¬k=k':=fun h=>e1 h.symm
    simp[e1,e3]
end
section
open Go.Extern Go.Maps Go.RowKit
variable {V:Type} {E:Elem V} {P:Program} {K e:TypeId} {b:Nat} {l:List (Int×V)} {ops:Array Oper} {rest:List Oper} {o:Oper} {a:Act} {Q:Exit→Act→World→Prop}
theorem zBu(w:World)(hg:o.guard=none)(m:Operand)(t:TypeId)(hop:o.op=Op.range t m)(L:Keyed P K)(ht:P.underlying t=some (.map K e))(hm:a.eval m=.map (some b))(h:PM E P K w b l)
 (hK: ∀w',PR E P K w' b w.heap.size l [] l→w.grownBy w' none→w'.heap.size=w.heap.size+1→wpList P ops Q rest (a.put o.dst (iP w.heap.size)) w'):wpList P ops Q (o::rest) a w:=by
 refine wpList_plain hg fun K' hK'=>?_
 obtain⟨w',hrun,r1,r2,r3⟩:=h.range L ht;unfold Oper.wp;simp[execOp,hop,hm,hrun,Result.andThen];exact hK' _ _ (hK w' r1 r2 r3)
theorem zBv(w:World)(hg:o.guard=none)(it:Operand)(hop:o.op=Op.next it false)(L:Keyed P K)(hk:P.underlying K=some (.int .i64))(b r:Nat)(seen rem:List (Int×V))(hit:a.eval it=.pointer (some ⟨r,0,none⟩))(h:PR E P K w b r l seen rem)
 (hDone:rem= []→wpList P ops Q rest (a.put o.dst (.tuple #[.bool false])) w)
 (hMore: ∀(k:Int) (v:V) (rem':List (Int×V)) (w':World),(k,v)∈l→PR E P K w' b r l (seen++ [(k,v)]) rem'→w.grownBy w' (some r)→w'.heap.size=w.heap.size→w'.rangeLeft b r<w.rangeLeft b r→(Instr.entry (.pointer (some ⟨r,0,none⟩))).run P w'=.ok (.tuple #[.int .i64 k,E.val v]) w'→wpList P ops Q rest (a.put o.dst (.tuple #[.bool true,.int .i64 k,E.val v])) w'):
 wpList P ops Q (o::rest) a w:=by
 refine wpList_plain hg fun K' hK'=>?_
 unfold Oper.wp;rcases h.next L hk o.type with⟨h0,hrun⟩|⟨k,v,rem',w',hp,hwf,hrun,hpr,hgr,hsz,hlt,hen⟩
 ·simp[execOp,hop,hit,hrun,Result.andThen];exact hK' _ _ (hDone h0)
 ·simp[execOp,hop,hit,hrun,Result.andThen];refine hK' _ _ (hMore k v rem' w' ?_ hpr hgr hsz hlt hen);exact h.1.mem_iff.1 (List.mem_append_right _ (hp.mem_iff.2 (List.mem_cons_self ..)))
end
end Go.Proofs.YtanfmhonjpjpoaaGreatDoor
