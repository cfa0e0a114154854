import Derived.Test.YtehmdohpmpbnnaaGreatDoorQ00
import Derived.Test.YtehmdohpmpbnnaaGreatDoorQ05
import Derived.Deep.RegionHeld
import Derived.Deep.AppendLies
import Derived.Maps.OwnOps
import Derived.Maps.OwnSet
import Derived.Maps.RangeWalk
set_option linter.all false
set_option maxRecDepth 100000
set_option maxHeartbeats 8000000
namespace Go.Proofs.YtehmdohpmpbnnaaGreatDoor
variable{es:List (Lit×DataW Unit)}{r:Nat}{k:Int}{w':World}{Q:Exit→Act→World→Prop}
open Go.Proofs.Tryz
section
open Go.Extern Go.RowKit
def wid:Nat→Int|0=>4|1=>1|2=>1|3=>4|4=>4|5=>4|6=>4|7=>1|_=>4
def qx(w:World):Prop:= ∀i,i<9→w.cell? (iA 9 i)=sI (wid i)
theorem qx.below{w:World}(h:qx w)(hb:Below w.heap.size w w'):qx w':=fun i hi=>(hb.cell (p:=(iA 9 i)) (dS (h i hi))).trans (h i hi)
theorem zAk(kind:Int):∀p∈terms kind,wid p.1=p.2:=by
 intro p A;unfold terms at A;split at A
 ·simp at A;rcases A with rfl|rfl|rfl|rfl|rfl|rfl|rfl|rfl|rfl<;>rfl
 split at A
 ·simp at A;rcases A with rfl;rfl
 split at A
 ·simp at A;rcases A with rfl|rfl|rfl<;>rfl
 split at A
 ·simp at A;rcases A with rfl;rfl
 simp at A
theorem nP(kind:Int)(w:World):
 Cl 87 #[iV kind] w fun e w'=> ∃a,e=rV #[a,.bool (decide (1≤kind∧kind≤5))]∧gG w' a (mz kind)∧Below w.heap.size w w'∧Fresh w.heap.size a:=by
 by_cases A:kind=1
 ·subst A;go_enter func87,ntmps87;go_wp2;go_ret2;exact⟨_,rfl,.inr ⟨_,rfl,by decide,fun i hi=>gH _ _ _ _ rfl i hi⟩,(Below.refl _ _).alloc (Nat.le_refl _) _,bY (Nat.le_refl _)⟩
 by_cases B:kind=2
 ·subst B;go_enter func87,ntmps87;go_wp2;go_ret2;exact⟨_,rfl,.inr ⟨_,rfl,by decide,fun i hi=>gH _ _ _ _ rfl i hi⟩,(Below.refl _ _).alloc (Nat.le_refl _) _,bY (Nat.le_refl _)⟩
 by_cases C:kind=3
 ·subst C;go_enter func87,ntmps87;go_wp2;go_ret2;exact⟨_,rfl,.inr ⟨_,rfl,by decide,fun i hi=>gH _ _ _ _ rfl i hi⟩,(Below.refl _ _).alloc (Nat.le_refl _) _,bY (Nat.le_refl _)⟩
 by_cases D:kind=4
 ·subst D;go_enter func87,ntmps87;go_wp2;go_ret2;exact⟨_,rfl,.inr ⟨_,rfl,by decide,fun i hi=>gH _ _ _ _ rfl i hi⟩,(Below.refl _ _).alloc (Nat.le_refl _) _,bY (Nat.le_refl _)⟩
 have H:=beq_eq_false_iff_ne.2 A;have I:=beq_eq_false_iff_ne.2 B;have J:=beq_eq_false_iff_ne.2 C;have K:=beq_eq_false_iff_ne.2 D;have e:terms kind= []:=by simp[terms,A,B,C,D]
 have E:=hid e;by_cases F:kind=5
 ·subst F;go_enter func87,ntmps87;go_wp2;go_ret2;exact⟨_,rfl,.inl ⟨rfl,by rw[mz,E.o];rfl⟩,Below.refl _ _,sF⟩
 have L:=beq_eq_false_iff_ne.2 F;have G:Hd (decide (1≤kind∧kind≤5)=false):=by show _=_;simp;omega
 go_enter func87,ntmps87;go_wp2;go_ret2;exact⟨_,by rw[G.o];rfl,.inl ⟨rfl,by rw[mz,E.o];rfl⟩,Below.refl _ _,sF⟩
theorem pZ(kind:Int)(w:World):
 Cl 87 #[iV kind] w fun e w'=> ∃a,e=rV #[a,.bool (decide (1≤kind∧kind≤5))]∧gG w' a (mz kind)∧Below w.heap.size w w':=by
 refine(nP kind w).mono ?_;rintro e w' ⟨a,A,B,C,-⟩;exact⟨a,A,B,C⟩
def kN(l:List (Nat×Nat)):Int:=(l.map fun p=>(p.2:Int)).sum
theorem zE9(l:List (Nat×Nat))(p:Nat×Nat):kN (l++ [p])=kN l+p.2:=by simp[kN]
theorem zBc(l:List (Nat×Nat))(h:∀p∈l,p.2≤4):0≤kN l∧kN l≤4*l.length:=by
 induction l with
 |nil=>simp[kN]
 |cons a l ih=>
  have A:=ih (fun p hp=>h p (List.mem_cons_of_mem _ hp));have B:=h a (List.mem_cons_self ..);simp only[kN,List.map_cons,List.sum_cons,List.length_cons]at A⊢;omega
theorem zEa(l:List (Nat×Nat))(v:Nat→Int):((body l v).length:Int)=kN l:=by
 induction l with
 |nil=>rfl
 |cons a l ih=>
  simp only[body,kN,List.flatMap_cons,List.length_append,zl,List.map_cons,List.sum_cons]at ih⊢;omega
theorem mM(kind:Int)(a:Value)(w:World)(hi:gG w a (mz kind))(hW:qx w):
 Cl 89 #[a] w fun e w'=>e=.returned (iV (2+kN (terms kind)))∧w'=w:=by
 have A:(mz kind).length=(terms kind).length:=by simp[mz]
 rcases hi with⟨rfl,C⟩|⟨ba,rfl,L,B⟩
 ·have R:terms kind= []:=by simpa [mz] using C
  have V:Hd (terms kind= []):=R;clear R C A;go_enter func89,ntmps89;go_wp2;refine wp_loop_rounds 1 ?_;rw[rounds_succ];go_wp2;go_ret;exact⟨by rw[V.o];rfl,rfl⟩
 rw[A];have b:=kC kind;have T:Hd (∀i (h:i<(mz kind).length),cI w ba i ((mz kind)[i])):=B;have U:Hd ((mz kind).length=(terms kind).length):=A;have X:Hd (qx w):=hW;clear B L A hW;generalize hN:(terms kind).length=n at *;have O:Hd ((terms kind).length=n):=hN;clear hN;go_enter func89,ntmps89;go_wp2;go_loop [3,8] (fun s i=> ∃k:Nat,k≤n∧i=iV k∧s=iV (2+kN ((terms kind).take k))) (fun _ i=>n - (intOf i).toNat)
 case atStart=>exact⟨0,Nat.zero_le _,rfl,rfl⟩
 case round=>
  obtain⟨k,f,rfl,rfl⟩:=hrel;have Y:=zBc ((terms kind).take k) (fun p hp=>by have:=bX kind p (List.mem_of_mem_take hp);omega);have Z:((terms kind).take k).length≤9:=by rw[List.length_take];omega
  by_cases G:k<n
  ·have D:k<(terms kind).length:=by rw[O.o];exact G
   have H:=bX kind _ (List.getElem_mem D);have I:=zAk kind _ (List.getElem_mem D);have E:kN ((terms kind).take (k+1))=kN ((terms kind).take k)+(terms kind)[k].2:=by
    rw[List.take_succ_eq_append_getElem D,zE9]
   have B:=T.o k (by rw[U.o];exact G);simp only[mz,List.getElem_map]at B;have F:=X.o (terms kind)[k].1 H.1;rw[I]at F;generalize hp:(terms kind)[k]=p at *;obtain⟨S,d⟩:=p;obtain⟨M,N,-⟩:=H;simp only at M N B F E;have J:Hd (kN ((terms kind).take (k+1))=kN ((terms kind).take k)+d):=E;clear E I hp;generalize kN ((terms kind).take k)=q at *;have c:(0:Int)≤(S:Int)∧(S:Int)<9:=by omega
   go_wp2;go_round
   case rel=>exact⟨k+1,by omega,by go_num,zA0 (by rw[J.o];omega)⟩
   case measure=>simp[intOf];omega
  have K:k=n:=by omega
  subst K;go_wp2;go_ret;exact⟨sD (by rw[List.take_of_length_le (by rw[O.o];omega)]),rfl⟩
theorem zEb(pa pb:Nat)(x:Int)(w:World)(hW:qx w)(hpa:pa<9)(hpb:wid pa=pb)(hb4:pb≤4)(h1: -9223372036854775808≤x)(h2:x≤9223372036854775807):
 Cl 90 #[iV pa,iV x] w fun e w'=>e=.returned (.bool (fit (pa,pb) x))∧w'=w:=by
 by_cases B:pa=6
 ·subst B;go_enter func90,ntmps90;go_wp2_with fail;refine(wU x _ h1 h2).mono ?_;rintro e w' ⟨rfl,rfl⟩;go_wp2;go_ret;exact⟨wT (by unfold fit;rw[if_pos rfl,Bool.decide_and]),rfl⟩
 have E:=beq_eq_false_iff_ne.2 (by omega);have A:=hW pa hpa;rw[hpb]at A;have C:Hd (fit (pa,pb) x=decide (0≤x∧x<256 ^ pb)):=by show _=_;unfold fit;rw[if_neg B]
 have D:(0:Int)≤(pa:Int)∧(pa:Int)<9:=by omega
 go_enter func90,ntmps90;go_wp2_with fail;refine(zE2 x pb _ hb4 h1 h2).mono ?_;rintro e w' ⟨rfl,rfl⟩;go_wp2;go_ret;exact⟨wT (by rw[C.o,Bool.decide_and]),rfl⟩
end
section
open Go
section
variable {P:Program} (w:World)
theorem zEc(t ty:TypeId)(base:Nat)(e:TypeId)(i:TypeInfo)(z:Value)(size bytes:Nat)(ht:P.underlying t=some (.slice e))(hi:P.info? e=some i)(hz:i.zero=some z)
 (hsize:i.size=size) (hby:i.bytes=bytes) (hzs:z.cells.size=size) (hsz:0<size)
 (g n cap:Nat) (xs:List Value) (hown:w.ownsRow base e size (sL g n cap) n xs)
 (ad:Addr) (m c:Nat) (news:List Value) (hl:news.length=m*size) (hnews:∀j u,news[j]? =some u→w.cell? (ad.add j)=some u) (h1:∀u∈news,u.oneCell'=true)
 (hroom:n+m≤cap) (h63:n+m≤maxLen) (hbytes:(n+m)* bytes≤140737488355328) (hbase:base≤w.heap.size):
 ∃w',(Builtin.append_ #[t,t] ty #[sL g n cap,.slice (some ad) m c]).run P w=.ok (sL g (n+m) cap) w'∧
  w'.ownsRow base e size (sL g (n+m) cap) (n+m) (xs++news)∧w.grownBy w' (some g):=by
 obtain⟨X,w',J,L,M,_⟩:=run_append_own (P:=P) w base t ty e i z size bytes ht hi hz hsize hby hzs hsz _ n xs hown ad m c news hl hnews h1 h63 hbytes hbase;rcases hown.2 with⟨E,-⟩|⟨U,I,A,E,V,N,O,R,F,S⟩
 ·cases E
 injection E with B T K;injection B with B;injection B with B;subst B K;have C:n*i.size+news.length≤A.size:=by rw[hl,F,hsize,←Nat.add_mul];exact Nat.mul_le_mul_right _ hroom
 have D:=run_append_room (P:=P) w t ty e i ht hi g n cap A N ad m c news (by rw[hsize];exact hl) hnews h1 hroom C;rw[D]at J;injection J with G H;subst G H;exact⟨_,D,L,M⟩
theorem zEd{o:Oper}{a:Act}{K:Act→World→Prop}(s x:Operand)(t:TypeId)
 (ho:o.op=.call { callee:=.builtin .append,args:=#[s,x],argTypes:=#[t,t] })
 (base:Nat) (e:TypeId) (i:TypeInfo) (z:Value) (size bytes:Nat) (ht:P.underlying t=some (.slice e)) (hi:P.info? e=some i) (hz:i.zero=some z)
 (hsize:i.size=size) (hby:i.bytes=bytes) (hzs:z.cells.size=size) (hsz:0<size)
 (g n cap:Nat) (xs:List Value) (hs:a.eval s=sL g n cap) (hown:w.ownsRow base e size (sL g n cap) n xs)
 (ad:Addr) (m c:Nat) (news:List Value) (hx:a.eval x=.slice (some ad) m c) (hl:news.length=m*size) (hnews:∀j u,news[j]? =some u→w.cell? (ad.add j)=some u) (h1:∀u∈news,u.oneCell'=true)
 (hroom:n+m≤cap) (h63:n+m≤maxLen) (hbytes:(n+m)* bytes≤140737488355328) (hbase:base≤w.heap.size)
 (h:∀w',w'.ownsRow base e size (sL g (n+m) cap) (n+m) (xs++news)→w.grownBy w' (some g)→K (a.put o.dst (sL g (n+m) cap)) w'):o.wp P a w K Q:=by
 obtain⟨w',C,A,B⟩:=zEc (P:=P) w t o.type base e i z size bytes ht hi hz hsize hby hzs hsz g n cap xs hown ad m c news hl hnews h1 hroom h63 hbytes hbase;unfold Oper.wp execOp;simp only[ho,resolve,invoke,builtin,Sem.run_bind,Sem.run_pure,Result.andThen_ok,List.map_toArray,List.map_cons,List.map_nil,hs,hx,C];exact h w' A B
theorem lZ{ops:Array Oper}{rest:List Oper}{o:Oper}{a:Act}(hgd:o.guard=none)(s x:Operand)(t:TypeId)
 (ho:o.op=.call { callee:=.builtin .append,args:=#[s,x],argTypes:=#[t,t] })
 (base:Nat) (e:TypeId) (i:TypeInfo) (z:Value) (size bytes:Nat) (ht:P.underlying t=some (.slice e)) (hi:P.info? e=some i) (hz:i.zero=some z)
 (hsize:i.size=size) (hby:i.bytes=bytes) (hzs:z.cells.size=size) (hsz:0<size)
 (g n cap:Nat) (xs:List Value) (hs:a.eval s=sL g n cap) (hown:w.ownsRow base e size (sL g n cap) n xs)
 (ad:Addr) (m c:Nat) (news:List Value) (hx:a.eval x=.slice (some ad) m c) (hl:news.length=m*size) (hnews:∀j u,news[j]? =some u→w.cell? (ad.add j)=some u) (h1:∀u∈news,u.oneCell'=true)
 (hroom:n+m≤cap) (h63:n+m≤maxLen) (hbytes:(n+m)* bytes≤140737488355328) (hbase:base≤w.heap.size)
 (h:∀w',w'.ownsRow base e size (sL g (n+m) cap) (n+m) (xs++news)→w.grownBy w' (some g)→wpList P ops Q rest (a.put o.dst (sL g (n+m) cap)) w'):wpList P ops Q (o::rest) a w:=
 wpList_plain hgd fun _ hK=>zEd w s x t ho base e i z size bytes ht hi hz hsize hby hzs hsz g n cap xs hs hown ad m c news hx hl hnews h1 hroom h63 hbytes hbase fun w' h2 h3=>hK _ _ (h w' h2 h3)
end
end
section
open Go.Extern Go.MapKept Go.Maps Go.RowKit Go.WideShapes
structure Elem(V:Type) where
 val:V→Value
 dat:V→DataW Unit
 R:Value→Option (DataW Unit×List MemPlace)
 valInj:∀a b,val a=val b→a=b
 datInj:∀a b,dat a=dat b→a=b
 read:∀c,R (val c)=some (dat c,[])
 inv:∀u y,R u=some y→∃c,u=val c∧y=(dat c,[])
def nR:Option Nat→Value
 |some b=>.pointer (some ⟨b,0,none⟩)
 |none=>.pointer none
def jf:Elem (Option Nat):={
 val:=nR
 dat:=fun o=>.lit (.int .i64 (match o with|some b=>(b:Int)|none=> -1))
 valInj:=fun a b h=>by cases a<;>cases b<;>simp[nR]at h⊢;exact h
 datInj:=fun a b h=>by cases a<;>cases b<;>simp at h⊢<;>omega
 R:=fun u=>match u with
  | .pointer none=>some (.lit (.int .i64 (-1)),[])
  | .pointer (some ⟨b,0,none⟩)=>some (.lit (.int .i64 (b:Int)),[])
  |_=>none
 read:=fun c=>by cases c<;>rfl
 inv:=fun u y h=>by
  split at h
  ·injection h with h;exact⟨none,rfl,h.symm⟩
  ·rename_i b;injection h with h;exact⟨some b,rfl,h.symm⟩
  ·cases h
 }
theorem zAl{α β:Type}{f:α→β}(hf:∀x y,f x=f y→x=y):∀{a b:List α},a.map f=b.map f→a=b
 | [],[],_=>rfl
 | [],y::s,h=>by simp at h
 |x::r,[],h=>by simp at h
 |x::r,y::s,h=>by
  simp only[List.map_cons,List.cons.injEq]at h;rw[hf _ _ h.1,zAl hf h.2]
def vR:List Value→Option (List Int)
 | []=>some []
 | .int .i64 x::r=>(vR r).map (x:: ·)
 |_=>none
theorem zBd:∀l:List Int,vR (l.map (Value.int .i64))=some l
 | []=>rfl
 |x::r=>by rw[List.map_cons,vR,zBd r];rfl
theorem zEe:∀(vs:List Value) (l:List Int),vR vs=some l→vs=l.map (Value.int .i64):=by
 intro vs
 induction vs with
 |nil=>intro l h;injection h with h;rw[←h];rfl
 |cons v r ih=>
  intro l h;unfold vR at h;split at h
  ·rename_i e;cases e
  ·rename_i x G e;injection e with A B;subst A B;obtain⟨F,C,D⟩:=Option.map_eq_some_iff.1 h;rw[←D,List.map_cons,ih F C]
  cases h
def dJ:Elem (List Int):={
 val:=fun l=>.agg (l.map (Value.int .i64)).toArray
 dat:=fun l=>.agg (l.map fun x=>.lit (.int .i64 x))
 valInj:=fun a b h=>by
  injection h with h;have h:=congrArg Array.toList h;exact zAl (fun x y e=>by injection e) h
 datInj:=fun a b h=>by
  injection h with h;exact zAl (fun x y e=>by injection e with e;injection e) h
 R:=fun u=>match u with
  | .agg a=>(vR a.toList).map fun l=>(.agg (l.map fun x=>.lit (.int .i64 x)),[])
  |_=>none
 read:=fun c=>by show Option.map _ (vR (c.map (Value.int .i64)).toArray.toList)=_;rw[List.toList_toArray,zBd];rfl
 inv:=fun u y h=>by
  split at h
  ·rename_i a;obtain⟨l,h1,h2⟩:=Option.map_eq_some_iff.1 h;exact⟨l,by rw[←zEe _ _ h1],h2.symm⟩
  ·cases h
 }
def rdE{V:Type}(E:Elem V)(p:Int×V):Lit×DataW Unit:=(.int .i64 p.1,E.dat p.2)
def PM{V:Type}(E:Elem V)(P:Program)(K:TypeId)(w:World)(b:Nat)(l:List (Int×V)):Prop:=
 ∃es,w.ownsMap P K E.R b l.length (.map es)∧es.Perm (l.map (rdE E))
variable {V:Type} {E:Elem V} {P:Program} {K T e:TypeId} {w:World} {b:Nat} {l:List (Int×V)}
theorem PM.perm{l':List (Int×V)}(h:PM E P K w b l)(hp:l.Perm l'):PM E P K w b l':=by
 obtain⟨A,B,C⟩:=h;exact⟨A,hp.length_eq▸B,C.trans (hp.map _)⟩
theorem PM.lt(h:PM E P K w b l):b<w.heap.size:=by obtain⟨B,A,_⟩:=h;exact A.lt
theorem PM.of_block(h:PM E P K w b l)(hb:w'.heap[b]? =w.heap[b]?):PM E P K w' b l:=by
 obtain⟨C,⟨B,A,D,G⟩,F⟩:=h;exact⟨C,⟨B,A,hb.trans D,G⟩,F⟩
theorem zEf{H:Type}{R:Value→Option (DataW H×List MemPlace)}{n:Nat}{es:List (Lit×DataW H)}(h:w.ownsMap P K R b n (.map es)):w.ownsMap P K R b es.length (.map es):=by
 obtain⟨C,A,D,F,G,B⟩:=h;refine⟨C,A,D,F,?_,B⟩;injection B with B;rw[B,length_read];exact Nat.le_refl _
theorem PM.of_owns{n:Nat}(h:w.ownsMap P K E.R b n (.map es))(hp:es.Perm (l.map (rdE E))):PM E P K w b l:=by
 have A:es.length=l.length:=by have:=hp.length_eq;simpa using this
 exact⟨es,A▸zEf h,hp⟩
theorem PM.made(E:Elem V)(P:Program)(K:TypeId)(w:World):PM E P K (w.alloc (.map #[] 0)) w.heap.size ([]:List (Int×V)):=⟨[],World.ownsMap_made w P K E.R,List.Perm.refl _⟩
theorem PM.nodup(h:PM E P K w b l)(L:Keyed P K):(l.map Prod.fst).Nodup:=by
 obtain⟨H,D,F⟩:=h;obtain⟨C,A,G⟩:=D.tidy L;injection A with A;subst A;have B:(l.map (rdE E)).Pairwise (fun p q=>p.1≠q.1):=(F.pairwise_iff (fun{a b} h=>h.symm)).1 G;rw[List.pairwise_map]at B;rw[List.Nodup,List.pairwise_map];exact B.imp (fun{a b} h e=>h (by simp[rdE,e]))
theorem wV(a c:Int):(Lit.int .i64 a).sameKey (.int .i64 c)=decide (a=c):=by simp[Lit.sameKey]
theorem zBe{α:Type}{x y:List α}(h:x.Perm y)(f:α→Bool):x.any f=y.any f:=by
 rw[Bool.eq_iff_iff,List.any_eq_true,List.any_eq_true];exact⟨fun⟨a,q,r⟩=>⟨a,h.mem_iff.1 q,r⟩,fun⟨a,q,r⟩=>⟨a,h.mem_iff.2 q,r⟩⟩
theorem zA9(hp:es.Perm (l.map (rdE E)))(k:Int):Maps.has (.map es) (.int .i64 k)=l.any (fun p=>decide (p.1=k)):=by
 rw[Maps.has_eq,zBe hp,List.any_map]
 congr 1
 funext p
 simp[rdE,wV]
theorem zBf:∀{l:List (Int×V)},(l.map Prod.fst).Nodup→∀{p q:Int×V},p∈l→q∈l→p.1=q.1→p=q
 | [],_,p,q,h,_,_=>by cases h
 |x::r,hn,p,q,hp,hq,he=>by
  rw[List.map_cons,List.nodup_cons]at hn;rcases List.mem_cons.1 hp with e1|hp1
  ·rcases List.mem_cons.1 hq with e2|hq1
   ·rw[e1,e2]
   exact absurd (List.mem_map_of_mem (f:=Prod.fst) hq1) (by rw[←he,e1];exact hn.1)
  rcases List.mem_cons.1 hq with e2|hq1
  ·exact absurd (List.mem_map_of_mem (f:=Prod.fst) hp1) (by rw[he,e2];exact hn.1)
  exact zBf hn.2 hp1 hq1 he
theorem zBg(hp:es.Perm (l.map (rdE E)))(hn:(l.map Prod.fst).Nodup)(k:Int)(v:V)(hm:(k,v)∈l)(z:DataW Unit):(DataW.map es).atKey (.int .i64 k) z=E.dat v:=by
 have A:rdE E (k,v)∈es:=hp.mem_iff.2 (List.mem_map_of_mem hm);rcases hf:es.find? (fun p=>p.1.sameKey (.int .i64 k)) with _|p
 ·have:=List.find?_eq_none.1 hf _ A;simp[rdE,wV]at this
 simp only[DataW.atKey,hf];have B:=List.mem_of_find?_eq_some hf;have C:=List.find?_some hf;obtain⟨q,F,rfl⟩:=List.mem_map.1 (hp.mem_iff.1 B);have D:q.1=k:=by simpa [rdE,wV] using C
 have:q=(k,v):=zBf hn F hm D;subst this;rfl
theorem zEg(hp:es.Perm (l.map (rdE E)))(k:Int)(hm:∀p∈l,p.1≠k)(z:DataW Unit):(DataW.map es).atKey (.int .i64 k) z=z:=by
 refine Maps.atKey_of_not_has ?_ z;rw[zA9 hp];rw[Bool.eq_false_iff];intro h;obtain⟨p,hp,A⟩:=List.any_eq_true.1 h;exact hm p hp (by simpa using A)
theorem PM.hit(h:PM E P K w b l)(L:Keyed P K)(hk:P.underlying K=some (.int .i64))(ht:P.underlying T=some (.map K e)){v0:V}(hz:(zeroValue e).run P w=.ok (E.val v0) w){v:V}(hm:(k,v)∈l)(hw:(Lit.int .i64 k).wf=true):
 (Instr.lookup T (.map (some b)) (.int .i64 k) true).run P w=.ok (.tuple #[E.val v,.bool true]) w:=by
 have F:=h.nodup L;obtain⟨H,D,B⟩:=h;obtain⟨u,I,G,C⟩:=D.look_ok L ht hz (E.read v0) (keyOf_int_mk hk hw);rw[zBg B F k v hm]at C;obtain⟨c,rfl,A⟩:=E.inv _ _ C;injection A with A _;obtain rfl:=E.datInj _ _ A;rw[G,zA9 B];have:l.any (fun p=>decide (p.1=k))=true:=List.any_eq_true.2 ⟨(k,v),hm,by simp⟩;rw[this]
theorem PM.miss(h:PM E P K w b l)(L:Keyed P K)(hk:P.underlying K=some (.int .i64))(ht:P.underlying T=some (.map K e)){v0:V}(hz:(zeroValue e).run P w=.ok (E.val v0) w)(hm:∀p∈l,p.1≠k)(hw:(Lit.int .i64 k).wf=true):
 (Instr.lookup T (.map (some b)) (.int .i64 k) true).run P w=.ok (.tuple #[E.val v0,.bool false]) w:=by
 obtain⟨H,D,B⟩:=h;obtain⟨u,I,G,C⟩:=D.look_ok L ht hz (E.read v0) (keyOf_int_mk hk hw);rw[zEg B k hm]at C;obtain⟨c,rfl,A⟩:=E.inv _ _ C;injection A with A _;obtain rfl:=E.datInj _ _ A;rw[G,zA9 B];have:l.any (fun p=>decide (p.1=k))=false:=by
  rw[Bool.eq_false_iff];intro h;obtain⟨p,F,hk⟩:=List.any_eq_true.1 h;exact hm p F (by simpa using hk)
 rw[this]
theorem PM.len(h:PM E P K w b l)(ht:P.underlying T=some (.map K e))(ty:TypeId):(Builtin.len_ #[T] ty #[.map (some b)]).run P w=.ok (.int .i64 (l.length:Int)) w:=by
 obtain⟨A,B,C⟩:=h;have D:A.length=l.length:=by have:=C.length_eq;simpa using this
 rw[B.len ht,Maps.size_eq,D]
def pE(l:List (Int×V))(k:Int):List (Int×V):=l.filter fun p=> !decide (p.1=k)
theorem zBh(hp:es.Perm (l.map (rdE E)))(k:Int):(es.filter fun p=> !p.1.sameKey (.int .i64 k)).Perm ((pE l k).map (rdE E)):=by
 refine(hp.filter _).trans ?_;rw[List.filter_map,pE];refine List.Perm.of_eq (congrArg _ (List.filter_congr fun p _=>?_));simp[rdE,wV]
theorem PM.del(h:PM E P K w b l)(L:Keyed P K)(hk:P.underlying K=some (.int .i64))(ht:P.underlying T=some (.map K e))(hw:(Lit.int .i64 k).wf=true)(ty:TypeId):
 ∃w',(Builtin.delete_ #[T,K] ty #[.map (some b),.int .i64 k]).run P w=.ok (.tuple #[]) w'∧PM E P K w' b (pE l k)∧w.mapTurned w' b:=by
 obtain⟨G,A,B⟩:=h;obtain⟨w',F,C,D⟩:=A.drop L ht (keyOf_int_mk hk hw) ty;exact⟨w',F,PM.of_owns C (zBh B k),D⟩
theorem PM.put(h:PM E P K w b l)(L:Keyed P K)(hk:P.underlying K=some (.int .i64))(ht:P.underlying T=some (.map K e))(hn:l.length<maxLen)(hw:(Lit.int .i64 k).wf=true)(v:V):
 ∃w',(Instr.mapUpdate T (.map (some b)) (.int .i64 k) (E.val v)).run P w=.ok () w'∧PM E P K w' b (pE l k++ [(k,v)])∧w.mapTurned w' b:=by
 obtain⟨G,A,B⟩:=h;obtain⟨w',F,C,D⟩:=A.store L ht hn (keyOf_int_mk hk hw) (E.read v);refine⟨w',F,PM.of_owns C ?_,D⟩;refine(insert_perm _ _).trans ?_;rw[List.map_append];exact((zBh B k).cons _).trans (List.perm_append_comm (l₁:=[rdE E (k,v)]))
theorem PM.clear(h:PM E P K w b l)(ht:P.underlying T=some (.map K e))(ty:TypeId):
 ∃w',(Builtin.clear_ #[T] ty #[.map (some b)]).run P w=.ok (.tuple #[]) w'∧PM E P K w' b ([]:List (Int×V))∧w.mapTurned w' b:=by
 obtain⟨D,⟨C,A,B,G⟩,F⟩:=h;refine⟨ChangeMaps.setBlock w b (.map #[] A),?_,⟨[],⟨#[],A,?_,⟨by simp,stamped_empty _,by simp⟩,Nat.le_refl _,rfl⟩,List.Perm.refl _⟩,⟨C,A,#[],A,B,rfl⟩⟩
 ·simp[Builtin.clear_,run_underlying ht,MapKept.run_getObj_map B,MapKept.run_setObj_map _ B,Result.andThen,ChangeMaps.setBlock]
 exact ChangeMaps.heap_setBlock_same B _
def PR(E:Elem V)(P:Program)(K:TypeId)(w:World)(b r:Nat)(l seen rem:List (Int×V)):Prop:=
 (seen++rem).Perm l∧∃es left cnt,w.ranges P K E.R b r l.length (.map es) left cnt∧es.Perm (l.map (rdE E))∧∀k,left (.int .i64 k)=rem.any (fun p=>decide (p.1=k))
theorem PR.map{seen rem:List (Int×V)}(h:PR E P K w b r l seen rem):PM E P K w b l:=by
 obtain⟨_,B,left,A,C,D,_⟩:=h;exact⟨B,C.owns,D⟩
theorem PR.lt{seen rem:List (Int×V)}(h:PR E P K w b r l seen rem):r<w.heap.size:=by
 obtain⟨_,C,left,A,B,_⟩:=h;exact B.lt
theorem PR.ne{seen rem:List (Int×V)}(h:PR E P K w b r l seen rem):r≠b:=by
 obtain⟨_,C,left,A,B,_⟩:=h;exact B.ne
theorem PR.zm{seen rem:List (Int×V)}(h:PR E P K w b r l seen rem)(hb:w'.heap[b]? =w.heap[b]?)(hr:w'.heap[r]? =w.heap[r]?):PR E P K w' b r l seen rem:=by
 obtain⟨I,H,left,A,⟨B,C,D,F,G,L,M,N,O,R,S⟩,J⟩:=h;exact⟨I,H,left,A,⟨B,C,D,F,G,hb.trans L,M,N,O,hr.trans R,S⟩,J⟩
theorem PM.range(h:PM E P K w b l)(L:Keyed P K)(ht:P.underlying T=some (.map K e)):
 ∃w',(Instr.range T (.map (some b))).run P w=.ok (.pointer (some ⟨w.heap.size,0,none⟩)) w'∧PR E P K w' b w.heap.size l [] l∧w.grownBy w' none∧w'.heap.size=w.heap.size+1:=by
 obtain⟨B,C,A⟩:=h;obtain⟨w',H,D,F,G⟩:=C.range L ht;refine⟨w',H,⟨List.Perm.refl _,B,_,_,D,A,fun k=>zA9 A k⟩,F,G⟩
theorem PR.next{seen rem:List (Int×V)}(h:PR E P K w b r l seen rem)(L:Keyed P K)(hk:P.underlying K=some (.int .i64))(ty:TypeId):
 (rem= []∧(Instr.next (.pointer (some ⟨r,0,none⟩)) false ty).run P w=.ok (.tuple #[.bool false]) w)∨
 ∃k v rem' w',rem.Perm ((k,v)::rem')∧(Lit.int .i64 k).wf=true∧(Instr.next (.pointer (some ⟨r,0,none⟩)) false ty).run P w=.ok (.tuple #[.bool true,.int .i64 k,E.val v]) w'∧
  PR E P K w' b r l (seen++ [(k,v)]) rem'∧w.grownBy w' (some r)∧w'.heap.size=w.heap.size∧w'.rangeLeft b r<w.rangeLeft b r∧(Instr.entry (.pointer (some ⟨r,0,none⟩))).run P w'=.ok (.tuple #[.int .i64 k,E.val v]) w':=by
 have J:=h.map.nodup L;obtain⟨O,es,left,A0,m,n,R⟩:=h;rcases m.next L ty with⟨c0,hl,A⟩|⟨A1,u,kl,y,w',D,H,I,hv,S,A,N,Y,X,i,U⟩
 ·refine .inl ⟨?_,A⟩;cases rem with
  |nil=>rfl
  |cons p r'=>
   have G:=R p.1;rw[hl]at G;simp at G
 right;obtain⟨k,rfl,rfl,j⟩:=Maps.keyOf_int_inv hk H;obtain⟨v,rfl,rfl⟩:=E.inv _ _ hv;rw[R]at I;obtain⟨p,z,B⟩:=List.any_eq_true.1 I;have B:p.1=k:=by simpa using B
 have d:p∈l:=O.mem_iff.1 (List.mem_append_right _ z);have g:p=(k,v):=by
  have:=zBg n J p.1 p.2 d (.lit (.int .i64 0));rw[B,S]at this;rw[←B,E.datInj _ _ this]
 subst g;obtain⟨s,t,rfl⟩:=List.append_of_mem z;have C:(s++(k,v)::t).Perm ((k,v)::(s++t)):=List.perm_middle;have Z:(((s++(k,v)::t)).map Prod.fst).Nodup:=by
  have:((seen++(s++(k,v)::t)).map Prod.fst).Nodup:=((O.map _).nodup_iff).2 J;rw[List.map_append,List.nodup_append]at this;exact this.2.1
 have M:∀q∈s++t,q.1≠k:=by
  intro q hq F;have G:=((C.map Prod.fst).nodup_iff).1 Z;rw[List.map_cons,List.nodup_cons]at G;have x:q.1∈(s++t).map Prod.fst:=List.mem_map_of_mem (f:=Prod.fst) hq;rw[F]at x;exact G.1 x
 refine⟨k,v,s++t,w',C,j,A,⟨?_,es,_,D,N,n,fun k'=>?_⟩,X,i,by rw[N.left_eq,m.left_eq];exact Y,U⟩
 ·refine List.Perm.trans ?_ O;rw[List.append_assoc];exact(C.symm).append_left _
 rw[R,zBe C];simp only[List.any_cons,wV];by_cases F:k'=k
 ·subst F;simp;exact⟨fun a c hm=>M _ (List.mem_append_left _ hm),fun a c hm=>M _ (List.mem_append_right _ hm)⟩
 have e3:¬k=k':=fun h=>F h.symm
 simp[F,e3]
end
section
open Go.Extern Go.Maps Go.RowKit
variable {V:Type} {E:Elem V} {P:Program} {K e:TypeId} {b:Nat} {l:List (Int×V)} {ops:Array Oper} {rest:List Oper} {o:Oper} {a:Act} {Q:Exit→Act→World→Prop}
theorem aU(w:World)(hg:o.guard=none)(m:Operand)(t:TypeId)(hop:o.op=Op.range t m)(L:Keyed P K)(ht:P.underlying t=some (.map K e))(hm:a.eval m=.map (some b))(h:PM E P K w b l)
 (hK:∀w',PR E P K w' b w.heap.size l [] l→w.grownBy w' none→w'.heap.size=w.heap.size+1→wpList P ops Q rest (a.put o.dst (iP w.heap.size)) w'):wpList P ops Q (o::rest) a w:=by
 refine wpList_plain hg fun K' hK'=>?_
 obtain⟨w',A,B,C,D⟩:=h.range L ht;unfold Oper.wp;simp[execOp,hop,hm,A,Result.andThen];exact hK' _ _ (hK w' B C D)
theorem bA(w:World)(hg:o.guard=none)(it:Operand)(hop:o.op=Op.next it false)(L:Keyed P K)(hk:P.underlying K=some (.int .i64))(b r:Nat)(seen rem:List (Int×V))(hit:a.eval it=.pointer (some ⟨r,0,none⟩))(h:PR E P K w b r l seen rem)
 (hDone:rem= []→wpList P ops Q rest (a.put o.dst (.tuple #[.bool false])) w)
 (hMore:∀(k:Int) (v:V) (rem':List (Int×V)) (w':World),(k,v)∈l→PR E P K w' b r l (seen++ [(k,v)]) rem'→w.grownBy w' (some r)→w'.heap.size=w.heap.size→w'.rangeLeft b r<w.rangeLeft b r→(Instr.entry (.pointer (some ⟨r,0,none⟩))).run P w'=.ok (.tuple #[.int .i64 k,E.val v]) w'→wpList P ops Q rest (a.put o.dst (.tuple #[.bool true,.int .i64 k,E.val v])) w'):
 wpList P ops Q (o::rest) a w:=by
 refine wpList_plain hg fun K' hK'=>?_
 unfold Oper.wp;rcases h.next L hk o.type with⟨H,A⟩|⟨k,v,rem',w',I,J,A,F,C,G,D,B⟩
 ·simp[execOp,hop,hit,A,Result.andThen];exact hK' _ _ (hDone H)
 simp[execOp,hop,hit,A,Result.andThen];refine hK' _ _ (hMore k v rem' w' ?_ F C G D B);exact h.1.mem_iff.1 (List.mem_append_right _ (I.mem_iff.2 (List.mem_cons_self ..)))
end
end Go.Proofs.YtehmdohpmpbnnaaGreatDoor
