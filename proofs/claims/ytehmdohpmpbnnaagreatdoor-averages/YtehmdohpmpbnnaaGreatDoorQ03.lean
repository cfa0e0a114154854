import Derived.Test.YtehmdohpmpbnnaaGreatDoorQ00
import Derived.Test.YtehmdohpmpbnnaaGreatDoorQ02
import Derived.Deep.RegionHeld
set_option linter.all false
set_option maxRecDepth 100000
set_option maxHeartbeats 8000000
namespace Go.Proofs.YtehmdohpmpbnnaaGreatDoor
variable{i fuel:Nat}{v:Value}{a:Act}{w:World}{oi o:Oper}{l:List Nat}{listed:Array Bool}
open Go.Proofs.Tryz
namespace bf
def atQ(q:Ord→Bool)(e:bf)(j:Nat):Bool:=match e.all[j]? with|some o=>q o|none=>false
theorem rZ(f:bf→Nat→bf)(q:Ord→Bool)(h1:∀e i,atQ q e i=false→f e i=e)(h2:∀e i j,i≠j→(f e i).all[j]? =e.all[j]?):∀(l:List Nat),l.Nodup→∀e,l.foldl f e=(l.filter (atQ q e)).foldl f e
 | [],_,e=>rfl
 |i::r,hn,e=>by
  obtain⟨hi,hr⟩:=List.nodup_cons.1 hn;rw[List.foldl_cons];cases hq:atQ q e i with
  |false=>
   rw[h1 e i hq,List.filter_cons_of_neg (by simp[hq])];exact rZ f q h1 h2 r hr e
  |true=>
   rw[List.filter_cons_of_pos hq,List.foldl_cons,rZ f q h1 h2 r hr (f e i)]
   congr 1
   refine List.filter_congr fun j hj=>?_
   unfold atQ;rw[h2 e i j (fun e1=>hi (e1▸hj))]
theorem list_is(hs:l.Pairwise (· < ·)){n:Nat}{p:Nat→Bool}(hm:∀j,j∈l↔j<n∧p j=true):l=(List.range n).filter p:=by
 have A:((List.range n).filter p).Pairwise (· < ·):=(List.pairwise_lt_range).filter _;have B:l.Nodup:=hs.imp (fun h=>Nat.ne_of_lt h);have C:((List.range n).filter p).Nodup:=A.imp (fun h=>Nat.ne_of_lt h);refine List.Perm.eq_of_pairwise (le:=fun a b=>a<b) (fun a b _ _ h1 h2=>absurd h1 (Nat.lt_asymm h2)) hs A ?_;exact(List.perm_ext_iff_of_nodup B C).2 fun j=>by rw[hm];simp
theorem follow_ne(e:bf)(i j:Nat)(h:i≠j):(gm e i).all[j]? =e.all[j]? :=by
 rcases zq e i with B|⟨o,B,D,E,F,⟨C,A⟩|⟨C,A⟩⟩
 ·rw[B]
 ·rw[A];exact upd_ne _ _ _ _ h
 rw[A];exact upd_ne _ _ _ _ h
theorem dueOne_ne(p:Ord→Bool)(reason:Int)(e:bf)(i j:Nat)(h:i≠j):(xk p reason e i).all[j]? =e.all[j]? :=by
 rcases gF p reason e i with A|⟨A,B⟩
 ·rw[A]
 rw[B];exact wS e i j reason h
theorem follow_list{e:bf}(hs:l.Pairwise (· < ·))(hm:∀j,j∈l↔∃o,e.all[j]? =some o∧o.dm=1):e.follow=l.foldl gm e:=by
 have h:=rZ gm (fun o=>o.dm == 1) (fun e i B=>by
  unfold atQ at B;unfold gm;split at B
  ·rename_i o A;rw[A];simp only;rw[if_neg (fun hc=>by simp[hc.1]at B)]
  rename_i A;rw[A]) follow_ne (List.range e.all.length) List.nodup_range e
 unfold follow;rw[h,←list_is hs (n:=e.all.length) (p:=atQ (fun o=>o.dm == 1) e)];intro j;rw[hm];constructor
 ·rintro⟨o,A,C⟩;refine⟨(List.getElem?_eq_some_iff.1 A).1,?_⟩;unfold atQ;rw[A];simp[C]
 rintro⟨_,B⟩;unfold atQ at B;split at B
 ·rename_i o A;exact⟨o,A,by simpa using B⟩
 cases B
def lV(reason:Int)(e:bf)(l:List Nat):bf:=l.foldl (fun e j=>e.gone j reason) e
theorem due_list{e:bf}(p:Ord→Bool)(reason:Int)(hs:l.Pairwise (· < ·))(hm:∀j,j∈l↔∃o,e.all[j]? =some o∧o.dm=1∧p o=true):e.due p reason=lV reason e l:=by
 have h:=rZ (xk p reason) (fun o=>o.dm == 1 && p o) (fun e i B=>by
  unfold atQ at B;unfold xk;split at B
  ·rename_i o A;rw[A];simp only;rw[if_neg (fun hc=>by simp[hc.1,hc.2]at B)]
  rename_i A;rw[A]) (dueOne_ne p reason) (List.range e.all.length) List.nodup_range e
 have F:l=(List.range e.all.length).filter (atQ (fun o=>o.dm == 1 && p o) e):=by
  refine list_is hs ?_;intro j;rw[hm];constructor
  ·rintro⟨o,A,C,E⟩;refine⟨(List.getElem?_eq_some_iff.1 A).1,?_⟩;unfold atQ;rw[A];simp[C,E]
  rintro⟨_,B⟩;unfold atQ at B;split at B
  ·rename_i o A;exact⟨o,A,by simpa using B⟩
  cases B
 unfold due;rw[h,←F];have H:l.Nodup:=hs.imp (fun h=>Nat.ne_of_lt h);have D:∀j∈l,∃o,e.all[j]? =some o∧o.dm=1∧p o=true:=fun j hj=>(hm j).1 hj
 clear h F hm hs;unfold lV
 induction l generalizing e with
 |nil=>rfl
 |cons i r ih=>
  obtain⟨I,J⟩:=List.nodup_cons.1 H;obtain⟨o,A,C,E⟩:=D i (List.mem_cons_self ..);have G:xk p reason e i=e.gone i reason:=by
   unfold xk;rw[A];exact if_pos ⟨C,E⟩
  rw[List.foldl_cons,List.foldl_cons,G];refine ih J (fun j hj=>?_);rw[wS e i j reason (fun e1=>I (e1▸hj))];exact D j (List.mem_cons_of_mem _ hj)
end bf
namespace bf
def wr(e:bf)(r:List UInt8):bf:={ e with rest:=r }
theorem wr_wr(e:bf)(r s:List UInt8):(e.wr r).wr s=e.wr s:=rfl
theorem wr_self(e:bf):e.wr e.rest=e:=rfl
theorem tell_wr(e:bf)(r:List UInt8)(a b c d f g:Int):(e.wr r).tell a b c d f g=(e.tell a b c d f g).wr r:=rfl
theorem upd_wr(e:bf)(r:List UInt8)(i:Nat)(f:Ord→Ord):(e.wr r).upd i f=(e.upd i f).wr r:=rfl
theorem lay_wr(e:bf)(r:List UInt8)(i:Nat)(n:Int):(e.wr r).lay i n=(e.lay i n).wr r:=by
 unfold lay;have h:(e.wr r).all[i]? =e.all[i]? :=rfl;rw[h];cases e.all[i]?<;>rfl
theorem trade_wr(e:bf)(r:List UInt8)(i k:Nat):(e.wr r).sw i k=(e.sw i k).wr r:=by
 unfold sw;have A:(e.wr r).all[i]? =e.all[i]? :=rfl;have B:(e.wr r).all[k]? =e.all[k]? :=rfl;rw[A,B];rcases e.all[i]? with _|o
 ·rfl
 rcases e.all[k]? with _|x
 ·rfl
 simp only;by_cases c1:x.opn - (if x.bg<o.opn then x.bg else o.opn)=0
 ·rw[if_pos c1,if_pos c1];rfl
 rw[if_neg c1,if_neg c1];by_cases c2:x.bg - (if x.bg<o.opn then x.bg else o.opn)=0
 ·rw[if_pos c2,if_pos c2,←lay_wr];rfl
 rw[if_neg c2,if_neg c2];rfl
theorem mate_wr(e:bf)(r:List UInt8)(i:Nat):(e.wr r).bH i=e.bH i:=rfl
theorem trades_wr(r:List UInt8)(i:Nat):∀(f:Nat) (e:bf),qg f (e.wr r) i=(qg f e i).wr r
 |0,e=>rfl
 |f+1,e=>by
  unfold qg;rw[mate_wr];cases e.bH i with
  |none=>rfl
  |some k=>simp only;rw[trade_wr,trades_wr r i f]
theorem sweep_wr(e:bf)(r:List UInt8)(i:Nat):(e.wr r).zy i=(e.zy i).wr r:=by
 rw[kK,kK];have h:(e.wr r).nH i=e.nH i:=rfl;rw[h,trades_wr];generalize qg (e.nH i).toNat e i=E;unfold dP;have A:(E.wr r).all[i]? =E.all[i]? :=rfl;rw[A];rcases E.all[i]? with _|o
 ·rfl
 simp only;by_cases c:o.opn=0
 ·rw[if_pos c,if_pos c];rfl
 rw[if_neg c,if_neg c,lay_wr]
theorem gone_wr(e:bf)(r:List UInt8)(i:Nat)(reason:Int):(e.wr r).gone i reason=(e.gone i reason).wr r:=by
 unfold gone;have h:(e.wr r).all[i]? =e.all[i]? :=rfl;rw[h];cases e.all[i]?<;>rfl
theorem dueOne_wr(p:Ord→Bool)(reason:Int)(e:bf)(r:List UInt8)(i:Nat):xk p reason (e.wr r) i=(xk p reason e i).wr r:=by
 unfold xk;have h:(e.wr r).all[i]? =e.all[i]? :=rfl;rw[h];rcases e.all[i]? with _|o
 ·rfl
 simp only;by_cases c:o.dm=1∧p o
 ·rw[if_pos c,if_pos c,gone_wr]
 rw[if_neg c,if_neg c]
theorem fold_wr(f:bf→Nat→bf)(r:List UInt8)(h:∀e i,f (e.wr r) i=(f e i).wr r):∀(l:List Nat) (e:bf),l.foldl f (e.wr r)=(l.foldl f e).wr r
 | [],e=>rfl
 |i::l,e=>by rw[List.foldl_cons,List.foldl_cons,h,fold_wr f r h l]
theorem due_wr(p:Ord→Bool)(reason:Int)(e:bf)(r:List UInt8):(e.wr r).due p reason=(e.due p reason).wr r:=fold_wr _ r (fun e i=>dueOne_wr p reason e r i) _ e
theorem fresh_wr(e:bf)(r:List UInt8)(v:Nat→Int):(e.wr r).fresh v=(e.fresh v).wr r:=by
 rw[bV,bV];have A:(e.wr r).why v=e.why v:=rfl;have B:(e.wr r).enter v=(e.enter v).wr r:=rfl;have C:(e.wr r).all.length=e.all.length:=rfl;rw[A,B,C];by_cases c1:e.why v≠0
 ·rw[if_pos c1,if_pos c1];rfl
 rw[if_neg c1,if_neg c1];by_cases c2:v 2=3
 ·rw[if_pos c2,if_pos c2]
 rw[if_neg c2,if_neg c2,sweep_wr]
theorem cancel_wr(e:bf)(r:List UInt8)(id:Int):(e.wr r).cancel id=(e.cancel id).wr r:=by
 unfold cancel;have h:(e.wr r).tu id=e.tu id:=rfl;rw[h];cases e.tu id with
 |none=>rfl
 |some i=>simp only;rw[gone_wr]
theorem replace_wr(e:bf)(r:List UInt8)(v:Nat→Int):(e.wr r).replace v=(e.replace v).wr r:=by
 rw[aX,aX];have h:(e.wr r).tu (v 0)=e.tu (v 0):=rfl;rw[h];rcases e.tu (v 0) with _|i
 ·rfl
 simp only;have D:(e.wr r).all[i]? =e.all[i]? :=rfl;rw[D];rcases e.all[i]? with _|o
 ·rfl
 simp only;have E:(e.wr r).mp=e.mp:=rfl;have F:(e.wr r).mq=e.mq:=rfl;rw[E,F];by_cases c1:(if o.typ=3 then v 3 == 0 else rf (v 3) 1 e.mp)=false
 ·rw[if_pos c1,if_pos c1];rfl
 rw[if_neg c1,if_neg c1];by_cases c2:rf (v 4) (o.bu+1) e.mq=false
 ·rw[if_pos c2,if_pos c2];rfl
 rw[if_neg c2,if_neg c2];unfold aR;have G:(e.wr r).jh i o v=(e.jh i o v).wr r:=rfl;rw[G];by_cases A:zf o v=true
 ·rw[if_pos A,if_pos A];rfl
 rw[if_neg A,if_neg A];by_cases B:o.typ≠3
 ·rw[if_pos B,if_pos B,upd_wr,sweep_wr]
 rw[if_neg B,if_neg B];by_cases C:0<o.bg
 ·rw[if_pos C,if_pos C,lay_wr]
 rw[if_neg C,if_neg C]
theorem tick_wr(e:bf)(r:List UInt8)(t:Int):(e.wr r).tick t=(e.tick t).wr r:=by
 unfold tick;have h:(e.wr r).now=e.now:=rfl;rw[h];by_cases c:t<e.now
 ·rw[if_pos c,if_pos c];rfl
 rw[if_neg c,if_neg c];exact due_wr _ 2 { e with now:=t } r
theorem followOne_wr(e:bf)(r:List UInt8)(i:Nat):(e.wr r).gm i=(e.gm i).wr r:=by
 unfold gm;have h:(e.wr r).all[i]? =e.all[i]? :=rfl;rw[h];rcases e.all[i]? with _|o
 ·rfl
 simp only;have B:(e.wr r).target o=e.target o:=rfl;rw[B];by_cases c1:o.dm=1∧o.typ=3
 ·rw[if_pos c1,if_pos c1];by_cases c2:e.target o=o.bn
  ·rw[if_pos c2,if_pos c2]
  rw[if_neg c2,if_neg c2];by_cases A:e.target o=0
  ·rw[if_pos A,if_pos A];rfl
  rw[if_neg A,if_neg A];rfl
 rw[if_neg c1,if_neg c1]
theorem follow_wr(e:bf)(r:List UInt8):(e.wr r).follow=e.follow.wr r:=fold_wr _ r (fun e i=>followOne_wr e r i) _ e
theorem run_wr(e:bf)(r:List UInt8)(kind:Int)(v:Nat→Int):(e.wr r).run kind v=(e.run kind v).wr r:=by
 unfold run;by_cases c1:kind=1
 ·rw[if_pos c1,if_pos c1,fresh_wr]
 rw[if_neg c1,if_neg c1];by_cases c2:kind=2
 ·rw[if_pos c2,if_pos c2,cancel_wr]
 rw[if_neg c2,if_neg c2];by_cases A:kind=3
 ·rw[if_pos A,if_pos A,replace_wr]
 rw[if_neg A,if_neg A];by_cases B:kind=4
 ·rw[if_pos B,if_pos B,tick_wr]
 rw[if_neg B,if_neg B];by_cases C:kind=5
 ·rw[if_pos C,if_pos C];exact due_wr _ 3 e r
 rw[if_neg C,if_neg C]
end bf
section
variable {P:Program} {ops:Array Oper} {Q:Exit→Act→World→Prop} {md:Region.Mode} {S:World→Prop}
structure eT(P:Program)(ops:Array Oper)(S:World→Prop)(o:Oper)(v:Value)(a:Act):Prop where
 want:Region.wanted o (yielded ops a.tmps)=true
 call:∀w,S w→∃f args,(execOp a.eval o).run P w=.ok (.enter f args) w∧Calls P f args w fun e w'=>e=.returned v∧w'=w
theorem eT.wpOp(hi:ops[i]? =some o)(hy:eT P ops S o v a){K:Act→World→Prop}(hS:S w)(h:K (a.put o.dst v) w):wpOp P ops Q i K a w:=by
 obtain⟨f,A,C,B⟩:=hy.call w hS;unfold Go.wpOp;simp only[hi,hy.want,if_true,Oper.wp,C,Oper.upon];exact .inl (B.mono fun e w' he=>by obtain⟨rfl,rfl⟩:=he;exact h)
theorem eT.same{b:Act}(hy:eT P ops S o v a)(he:execOp b.eval o=execOp a.eval o)(hw:Region.wanted o (yielded ops b.tmps)=Region.wanted o (yielded ops a.tmps)):eT P ops S o v b:=
 ⟨hw.trans hy.want,fun w hS=>by rw[he];exact hy.call w hS⟩
theorem eT.past{j:Nat}{oj:Oper}(hj:ops[j]? =some oj)(hap:oi.apart ops oj=true)(hsi:∀cs b,oi.op≠.select cs b)(hsj:∀cs b,oj.op≠.select cs b)
 (hQ:∀c a w,Q (.panic c) (a.put oi.dst v) w→Q (.panic c) a w) {K:Act→World→Prop} {a:Act} {w:World} (hy:eT P ops S oi v a) (h:Go.wpOp P ops Q j K (a.put oi.dst v) w):
 Go.wpOp P ops Q j (fun b w'=>eT P ops S oi v b∧K (b.put oi.dst v) w') a w:=by
 obtain⟨F,I,G⟩:=Oper.apart_spec hap;have stay:∀(b:Act),eT P ops S oi v b→∀u,eT P ops S oi v (b.put oj.dst u):=fun b hb u=>hb.same (execOp_put oi hsi b oj.dst u G) (wanted_put oi b oj.dst u G)
 have A:∀(b:Act) u,(b.put oj.dst u).put oi.dst v=(b.put oi.dst v).put oj.dst u:=fun b u=>(Act.put_comm b v u I).symm
 have B:=execOp_put oj hsj a oi.dst v F;have D:=wanted_put oj a oi.dst v F;unfold Go.wpOp at *;simp only[hj]at *;rw[D]at h;by_cases C:Region.wanted oj (yielded ops a.tmps)=true
 ·rw[if_pos C]at h⊢;rcases h with h|⟨H,J⟩
  ·left;unfold Oper.wp at *;rw[B]at h;cases E:(execOp a.eval oj).run P w with
   |ok n w'=>
    rw[E]at h;cases n with
    |value u=>exact⟨stay a hy u,by rw[A];exact h⟩
    |skip=>exact⟨stay a hy _,by rw[A];exact h⟩
    |defer d=>
     refine⟨stay { a with defers:=d::a.defers } (hy.same rfl rfl) _,?_⟩;rw[A,←Act.put_defers];exact h
    |enter f args=>
     refine Calls.mono h fun e w'' he=>?_
     cases e with
     |returned u=>exact⟨stay a hy u,by rw[A];exact he⟩
     |panicked c=>exact hQ _ _ _ he
     |outgrown=>exact he
    |row r args=>exact Rows.mono h fun u w'' he=>⟨stay a hy u,by rw[A];exact he⟩
    |_=>exact h
   |halt x w'=>
    rw[E]at h;cases x with
    |panic u=>exact hQ _ _ _ h
    |_=>exact h
  right;refine⟨?_,J⟩;unfold Oper.asks at *;rw[B]at H;exact H
 rw[if_neg C]at h⊢;exact⟨stay a hy _,by rw[A];exact h⟩
theorem zDx(hi:ops[i]? =some oi)(hsel:∀(j:Nat) (o:Oper) cs b,ops[j]? =some o→o.op≠.select cs b)(hQ:∀c a w,Q (.panic c) (a.put oi.dst v) w→Q (.panic c) a w):
 ∀(n:Nat) (L:Array Bool) (a:Act) (w:World),
  (∀j oj,ops[j]? =some oj→j≠i→L.getD j true=false→(∀e∈oj.after,Region.binds md e=true→e.on≠i)→oi.apart ops oj=true)→
  i∈Region.ready md ops L→eT P ops S oi v a→S w→wpAnyH P md ops Q S n (L.setIfInBounds i true) (a.put oi.dst v) w→wpAnyH P md ops Q S (n+1) L a w:=by
 intro n
 induction n with
 |zero=>
  intro L a w _ G K D H;refine⟨fun h=>absurd G (by rw[h];exact List.not_mem_nil),fun j hj=>?_⟩;by_cases e:j=i
  ·subst e;exact K.wpOp hi D ⟨D,H⟩
  exact absurd (ready_mono hj e) (by rw[H.1];exact List.not_mem_nil)
 |succ n ih=>
  intro L a w A G K D H;refine⟨fun h=>absurd G (by rw[h];exact List.not_mem_nil),fun j hj=>?_⟩;by_cases e:j=i
  ·subst e;exact K.wpOp hi D ⟨D,H⟩
  obtain⟨I,oj,B,E⟩:=mem_ready.1 hj;have M:∀d∈oj.after,Region.binds md d=true→d.on≠i:=fun d hd hb heq=>by
   have J:=E d hd hb;have N:=(mem_ready.1 G).1;rw[heq]at J;rcases Nat.lt_or_ge i L.size with q|q
   ·simp[q]at N J;rw[N]at J;cases J
   simp[Array.getElem?_eq_none q]at J
  have C:=K.past B (A j oj B e I M) (fun cs b=>hsel i oi cs b hi) (fun cs b=>hsel j oj cs b B) hQ (H.2 j (ready_mono hj e));refine wpOp_mono (fun b w' h3=>⟨h3.2.1,ih _ b w' (fun k ok hk hki hu hn=>A k ok hk hki ?_ hn) (ready_mono G (Ne.symm e)) h3.1 h3.2.1 ?_⟩) C
  ·by_cases F:j=k
   ·subst F;exact I
   rw[getD_set_ne true F]at hu;exact hu
  rw[Array.setIfInBounds_comm _ _ e];exact h3.2.2
theorem jA{n:Nat}{L:Array Bool}(hi:ops[i]? =some oi)
 (hs:Region.noSelect ops=true) (hf:Region.free md ops L i=true) (hr:(Region.ready md ops L).contains i=true)
 (hQ:∀c a w,Q (.panic c) (a.put oi.dst v) w→Q (.panic c) a w) (hy:eT P ops S oi v a) (hS:S w)
 (h:wpAnyH P md ops Q S n (L.setIfInBounds i true) (a.put oi.dst v) w):wpAnyH P md ops Q S (n+1) L a w:=
 zDx hi (Region.noSelect_spec hs) hQ n L a w (Region.free_spec hi hf) (by simpa using hr) hy hS h
end
section
variable {P:Program} {ops:Array Oper} {Q:Exit→Act→World→Prop} {md:Region.Mode} {S:World→Prop} {late:Nat}
def mJ(P:Program)(md:Region.Mode)(ops:Array Oper)(Q:Exit→Act→World→Prop)(S:World→Prop)(late:Nat):Nat→Array Bool→Act→World→Prop
 |0,listed,a,w=>Region.ready md ops listed= []∧Q .normal a w
 |fuel+1,listed,a,w=>
  (Region.ready md ops listed= []→Q .normal a w)∧
  ∀i∈Region.ready md ops listed,wpOp P ops Q i (fun a' w'=>(i=late∨S w')∧mJ P md ops Q S late fuel (listed.setIfInBounds i true) a' w') a w
theorem tY:∀(fuel:Nat) (listed:Array Bool) (a:Act) (w:World),mJ P md ops Q S late fuel listed a w→wpAny P md ops Q fuel listed a w
 |0,_,_,_,h=>h
 |fuel+1,_,_,_,h=>⟨h.1,fun i hi=>wpOp_mono (fun a' w' h'=>tY fuel _ a' w' h'.2) (h.2 i hi)⟩
theorem zDy{oL:Oper}(hi:ops[i]? =some oi)(hL:ops[late]? =some oL)(hw:∃e∈oL.after,Region.binds md e=true∧e.on=i)(hsel:∀(j:Nat) (o:Oper) cs b,ops[j]? =some o→o.op≠.select cs b)
 (hQ:∀c a w,Q (.panic c) (a.put oi.dst v) w→Q (.panic c) a w):
 ∀(fuel:Nat) (listed:Array Bool) (a:Act) (w:World),
  (∀j oj,ops[j]? =some oj→j≠i→listed.getD j true=false→(∀e∈oj.after,Region.binds md e=true→e.on≠i)→oi.apart ops oj=true)→
  i∈Region.ready md ops listed→YieldsIf P ops S oi v a→S w→
  mJ P md ops Q S late fuel (listed.setIfInBounds i true) (a.put oi.dst v) w→mJ P md ops Q S late (fuel+1) listed a w:=by
 intro fuel
 induction fuel with
 |zero=>
  intro listed a w _ J O K H;refine⟨fun h=>(by rw[h]at J;cases J),fun j hj=>?_⟩;by_cases A:j=i
  ·subst A;exact O.wpOp hi K ⟨.inr K,H⟩
  have:=ready_mono hj A;rw[H.1]at this;cases this
 |succ fuel ih=>
  intro listed a w B J O K H;refine⟨fun h=>(by rw[h]at J;cases J),fun j hj=>?_⟩;by_cases A:j=i
  ·subst A;exact O.wpOp hi K ⟨.inr K,H⟩
  have G:=H.2 j (ready_mono hj A);obtain⟨E,oj,D,M⟩:=mem_ready.1 hj;have F:∀e∈oj.after,Region.binds md e=true→e.on≠i:=fun e U T I=>by
   have G:=M e U T;have X:=(mem_ready.1 J).1;rw[I]at G;rcases Nat.lt_or_ge i listed.size with R |R
   ·simp[R]at X G;rw[X]at G;cases G
   simp[Array.getElem?_eq_none R]at G
  have V:j≠late:=by
   rintro rfl;obtain⟨e,U,T,I⟩:=hw;obtain rfl:oL=oj:=Option.some.inj (hL.symm.trans D);exact F e U T I
  have Y:=wpOp_putIf D (B j oj D A E F) (fun cs b=>hsel i oi cs b hi) (fun cs b=>hsel j oj cs b D) hQ O G;have C:∀k ok,ops[k]? =some ok→k≠i→(listed.setIfInBounds j true).getD k true=false→
   (∀e∈ok.after,Region.binds md e=true→e.on≠i)→oi.apart ops ok=true:=fun k ok hk hki hun hno=>by
   refine B k ok hk hki ?_ hno;by_cases N:j=k
   ·subst N;exact E
   rw[getD_set_ne true N]at hun;exact hun
  refine wpOp_mono (fun a' w' h3=>?_) Y;have L:S w':=h3.2.1.resolve_left V;refine⟨.inr L,ih (listed.setIfInBounds j true) a' w' C (ready_mono J (Ne.symm A)) h3.1 L ?_⟩;rw[Array.setIfInBounds_comm _ _ A];exact h3.2.2
def waits(md:Region.Mode)(ops:Array Oper)(late i:Nat):Bool:=match ops[late]? with
 |some o=>o.after.any fun e=>Region.binds md e && e.on == i
 |none=>false
theorem zDz(h:waits md ops late i=true):∃oL,ops[late]? =some oL∧∃e∈oL.after,Region.binds md e=true∧e.on=i:=by
 unfold waits at h;split at h
 ·rename_i o C;obtain⟨k,B,A⟩:=Array.any_eq_true.1 h;simp only[Bool.and_eq_true,beq_iff_eq]at A;exact⟨o,C,o.after[k],Array.getElem_mem B,A.1,A.2⟩
 cases h
theorem fq(hi:ops[i]? =some oi)(hwt:waits md ops late i=true)
 (hs:Region.noSelect ops=true) (hf:Region.free md ops listed i=true) (hr:(Region.ready md ops listed).contains i=true)
 (hQ:∀c a w,Q (.panic c) (a.put oi.dst v) w→Q (.panic c) a w) (hy:YieldsIf P ops S oi v a) (hS:S w)
 (h:mJ P md ops Q S late fuel (listed.setIfInBounds i true) (a.put oi.dst v) w):mJ P md ops Q S late (fuel+1) listed a w:=by
 obtain⟨C,A,B⟩:=zDz hwt;exact zDy hi A B (Region.noSelect_spec hs) hQ fuel listed a w (Region.free_spec hi hf) (by simpa using hr) hy hS h
theorem kM(hr:Region.ready md ops listed= [i])(ho:ops[i]? =some o)
 (h:∀K':Act→World→Prop,Shut (∀a w,(i=late∨S w)→mJ P md ops Q S late fuel (listed.setIfInBounds i true) a w→K' a w)→if Region.wanted o (yielded ops a.tmps)=true then Oper.wp P o a w K' Q else K' (a.put o.dst undef) w):
 mJ P md ops Q S late (fuel+1) listed a w:=by
 refine⟨fun h0=>(by rw[hr]at h0;cases h0),fun j hj=>?_⟩;rw[hr]at hj;obtain rfl:j=i:=by simpa using hj
 exact wpOp_step ho (fun K' hK=>h K' (fun a w hS hW=>hK a w ⟨hS,hW⟩))
theorem zE(hr:Region.ready md ops listed= [])(h:Q .normal a w):
 ∀fuel,mJ P md ops Q S late fuel listed a w
 |0=>⟨hr,h⟩
 |_+1=>⟨fun _=>h,by rw[hr];simp⟩
theorem zE0(late:Nat)(S:World→Prop){id:Nat}(hm:P.follows .mixedOrders=true)
 (h:mJ P .any ops Q S late ops.size (Array.replicate ops.size false) a w.drew):(Code.region id ops true).wp P Q a w:=
 wp_region_any hm (tY _ _ _ _ h)
end
end Go.Proofs.YtehmdohpmpbnnaaGreatDoor
