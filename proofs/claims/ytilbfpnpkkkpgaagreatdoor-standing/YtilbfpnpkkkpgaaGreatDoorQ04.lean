import Derived.Test.YtilbfpnpkkkpgaaGreatDoorQ00
import Derived.Deep.RegionHeld
set_option linter.all false
set_option maxRecDepth 100000
set_option maxHeartbeats 8000000
namespace Go.Proofs.YtilbfpnpkkkpgaaGreatDoor
variable{i fuel:Nat}{v:Value}{a:Act}{w:World}{oi o:Oper}{listed:Array Bool}
section
variable {P:Program} {ops:Array Oper} {Q:Exit→Act→World→Prop} {md:Region.Mode} {S:World→Prop}
structure Answers(P:Program)(ops:Array Oper)(S:World→Prop)(o:Oper)(v:Value)(a:Act):Prop where
 want:Region.wanted o (yielded ops a.tmps)=true
 call: ∀w,S w→∃f args,(execOp a.eval o).run P w=.ok (.enter f args) w∧Calls P f args w fun e w'=>e=.returned v∧w'=w
theorem Answers.wpOp(hi:ops[i]? =some o)(hy:Answers P ops S o v a){K:Act→World→Prop}(hS:S w)(h:K (a.put o.dst v) w):wpOp P ops Q i K a w:=by
 obtain⟨f,args,hr,hc⟩:=hy.call w hS;unfold Go.wpOp;simp only[hi,hy.want,if_true,Oper.wp,hr,Oper.upon];exact .inl (hc.mono fun e w' he=>by obtain⟨rfl,rfl⟩:=he;exact h)
theorem Answers.same{b:Act}(hy:Answers P ops S o v a)(he:execOp b.eval o=execOp a.eval o)(hw:Region.wanted o (yielded ops b.tmps)=Region.wanted o (yielded ops a.tmps)):Answers P ops S o v b:=
 ⟨hw.trans hy.want,fun w hS=>by rw[he];exact hy.call w hS⟩
theorem Answers.past{j:Nat}{oj:Oper}(hj:ops[j]? =some oj)(hap:oi.apart ops oj=true)(hsi: ∀cs b,oi.op≠.select cs b)(hsj: ∀cs b,oj.op≠.select cs b)
 (hQ: ∀c a w,Q (.panic c) (a.put oi.dst v) w→Q (.panic c) a w) {K:Act→World→Prop} {a:Act} {w:World} (hy:Answers P ops S oi v a) (h:Go.wpOp P ops Q j K (a.put oi.dst v) w):
 Go.wpOp P ops Q j (fun b w'=>Answers P ops S oi v b∧K (b.put oi.dst v) w') a w:=by
 obtain⟨p1,p2,p3⟩:=Oper.apart_spec hap;have stay: ∀(b:Act),Answers P ops S oi v b→∀u,Answers P ops S oi v (b.put oj.dst u):=fun b hb u=>hb.same (execOp_put oi hsi b oj.dst u p3) (wanted_put oi b oj.dst u p3)
 have swap: ∀(b:Act) u,(b.put oj.dst u).put oi.dst v=(b.put oi.dst v).put oj.dst u:=fun b u=>(Act.put_comm b v u p2).symm
 have hex:=execOp_put oj hsj a oi.dst v p1;have hwd:=wanted_put oj a oi.dst v p1;unfold Go.wpOp at *;simp only[hj]at *;rw[hwd]at h;by_cases hwt:Region.wanted oj (yielded ops a.tmps)=true
 ·rw[if_pos hwt]at h⊢;rcases h with h|⟨q1,q2⟩
  ·left;unfold Oper.wp at *;rw[hex]at h;cases hr:(execOp a.eval oj).run P w with
   |ok n w'=>
    rw[hr]at h;cases n with
    |value u=>exact⟨stay a hy u,by rw[swap];exact h⟩
    |skip=>exact⟨stay a hy _,by rw[swap];exact h⟩
    |defer d=>
     refine⟨stay { a with defers:=d::a.defers } (hy.same rfl rfl) _,?_⟩;rw[swap,←Act.put_defers];exact h
    |enter f args=>
     refine Calls.mono h fun e w'' he=>?_
     cases e with
     |returned u=>exact⟨stay a hy u,by rw[swap];exact he⟩
     |panicked c=>exact hQ _ _ _ he
     |outgrown=>exact he
    |row r args=>exact Rows.mono h fun u w'' he=>⟨stay a hy u,by rw[swap];exact he⟩
    |_=>exact h
   |halt x w'=>
    rw[hr]at h;cases x with
    |panic u=>exact hQ _ _ _ h
    |_=>exact h
  ·right;refine⟨?_,q2⟩;unfold Oper.asks at *;rw[hex]at q1;exact q1
 ·rw[if_neg hwt]at h⊢;exact⟨stay a hy _,by rw[swap];exact h⟩
theorem zHl(hi:ops[i]? =some oi)(hsel: ∀(j:Nat) (o:Oper) cs b,ops[j]? =some o→o.op≠.select cs b)(hQ: ∀c a w,Q (.panic c) (a.put oi.dst v) w→Q (.panic c) a w):
 ∀(n:Nat) (L:Array Bool) (a:Act) (w:World),
  (∀j oj,ops[j]? =some oj→j≠i→L.getD j true=false→(∀e∈oj.after,Region.binds md e=true→e.on≠i)→oi.apart ops oj=true)→
  i∈Region.ready md ops L→Answers P ops S oi v a→S w→wpAnyH P md ops Q S n (L.setIfInBounds i true) (a.put oi.dst v) w→wpAnyH P md ops Q S (n+1) L a w:=by
 intro n
 induction n with
 |zero=>
  intro L a w _ hr hy hS H;refine⟨fun h=>absurd hr (by rw[h];exact List.not_mem_nil),fun j hj=>?_⟩;by_cases e:j=i
  ·subst e;exact hy.wpOp hi hS ⟨hS,H⟩
  ·exact absurd (ready_mono hj e) (by rw[H.1];exact List.not_mem_nil)
 |succ n ih=>
  intro L a w hfree hr hy hS H;refine⟨fun h=>absurd hr (by rw[h];exact List.not_mem_nil),fun j hj=>?_⟩;by_cases e:j=i
  ·subst e;exact hy.wpOp hi hS ⟨hS,H⟩
  ·obtain⟨hun,oj,hoj,hall⟩:=mem_ready.1 hj;have hno: ∀d∈oj.after,Region.binds md d=true→d.on≠i:=fun d hd hb heq=>by
    have r1:=hall d hd hb;have r0:=(mem_ready.1 hr).1;rw[heq]at r1;rcases Nat.lt_or_ge i L.size with q|q
    ·simp[q]at r0 r1;rw[r0]at r1;cases r1
    ·simp[Array.getElem?_eq_none q]at r1
   have hpast:=hy.past hoj (hfree j oj hoj e hun hno) (fun cs b=>hsel i oi cs b hi) (fun cs b=>hsel j oj cs b hoj) hQ (H.2 j (ready_mono hj e));refine wpOp_mono (fun b w' h3=>⟨h3.2.1,ih _ b w' (fun k ok hk hki hu hn=>hfree k ok hk hki ?_ hn) (ready_mono hr (Ne.symm e)) h3.1 h3.2.1 ?_⟩) hpast
   ·by_cases hjk:j=k
    ·subst hjk;exact hun
    ·rw[getD_set_ne true hjk]at hu;exact hu
   ·rw[Array.setIfInBounds_comm _ _ e];exact h3.2.2
theorem zC1{n:Nat}{L:Array Bool}(hi:ops[i]? =some oi)
 (hs:Region.noSelect ops=true) (hf:Region.free md ops L i=true) (hr:(Region.ready md ops L).contains i=true)
 (hQ: ∀c a w,Q (.panic c) (a.put oi.dst v) w→Q (.panic c) a w) (hy:Answers P ops S oi v a) (hS:S w)
 (h:wpAnyH P md ops Q S n (L.setIfInBounds i true) (a.put oi.dst v) w):wpAnyH P md ops Q S (n+1) L a w:=
 zHl hi (Region.noSelect_spec hs) hQ n L a w (Region.free_spec hi hf) (by simpa using hr) hy hS h
end
section
variable {P:Program} {ops:Array Oper} {Q:Exit→Act→World→Prop} {md:Region.Mode} {S:World→Prop} {late:Nat}
def wpAnyE(P:Program)(md:Region.Mode)(ops:Array Oper)(Q:Exit→Act→World→Prop)(S:World→Prop)(late:Nat):Nat→Array Bool→Act→World→Prop
 |0,listed,a,w=>Region.ready md ops listed= []∧Q .normal a w
 |fuel+1,listed,a,w=>
  (Region.ready md ops listed= []→Q .normal a w)∧
  ∀i∈Region.ready md ops listed,wpOp P ops Q i (fun a' w'=>(i=late∨S w')∧wpAnyE P md ops Q S late fuel (listed.setIfInBounds i true) a' w') a w
theorem zEh: ∀(fuel:Nat) (listed:Array Bool) (a:Act) (w:World),wpAnyE P md ops Q S late fuel listed a w→wpAny P md ops Q fuel listed a w
 |0,_,_,_,h=>h
 |fuel+1,_,_,_,h=>⟨h.1,fun i hi=>wpOp_mono (fun a' w' h'=>zEh fuel _ a' w' h'.2) (h.2 i hi)⟩
theorem zHm{oL:Oper}(hi:ops[i]? =some oi)(hL:ops[late]? =some oL)(hw: ∃e∈oL.after,Region.binds md e=true∧e.on=i)(hsel: ∀(j:Nat) (o:Oper) cs b,ops[j]? =some o→o.op≠.select cs b)
 (hQ: ∀c a w,Q (.panic c) (a.put oi.dst v) w→Q (.panic c) a w):
 ∀(fuel:Nat) (listed:Array Bool) (a:Act) (w:World),
  (∀j oj,ops[j]? =some oj→j≠i→listed.getD j true=false→(∀e∈oj.after,Region.binds md e=true→e.on≠i)→oi.apart ops oj=true)→
  i∈Region.ready md ops listed→YieldsIf P ops S oi v a→S w→
  wpAnyE P md ops Q S late fuel (listed.setIfInBounds i true) (a.put oi.dst v) w→wpAnyE P md ops Q S late (fuel+1) listed a w:=by
 intro fuel
 induction fuel with
 |zero=>
  intro listed a w _ hr hy hS H;refine⟨fun h=>(by rw[h]at hr;cases hr),fun j hj=>?_⟩;by_cases hji:j=i
  ·subst hji;exact hy.wpOp hi hS ⟨.inr hS,H⟩
  ·have:=ready_mono hj hji;rw[H.1]at this;cases this
 |succ fuel ih=>
  intro listed a w hfree hr hy hS H;refine⟨fun h=>(by rw[h]at hr;cases hr),fun j hj=>?_⟩;by_cases hji:j=i
  ·subst hji;exact hy.wpOp hi hS ⟨.inr hS,H⟩
  ·have h1:=H.2 j (ready_mono hj hji);obtain⟨hjun,oj,hoj,hall⟩:=mem_ready.1 hj;have hnot: ∀e∈oj.after,Region.binds md e=true→e.on≠i:=fun e he hb heq=>by
    have h1:=hall e he hb;have h0:=(mem_ready.1 hr).1;rw[heq]at h1;rcases Nat.lt_or_ge i listed.size with h' |h'
    ·simp[h']at h0 h1;rw[h0]at h1;cases h1
    ·simp[Array.getElem?_eq_none h']at h1
   have hjl:j≠late:=by
    rintro rfl;obtain⟨e,he,hb,heq⟩:=hw;obtain rfl:oL=oj:=Option.some.inj (hL.symm.trans hoj);exact hnot e he hb heq
   have h2:=wpOp_putIf hoj (hfree j oj hoj hji hjun hnot) (fun cs b=>hsel i oi cs b hi) (fun cs b=>hsel j oj cs b hoj) hQ hy h1;have hfree': ∀k ok,ops[k]? =some ok→k≠i→(listed.setIfInBounds j true).getD k true=false→
    (∀e∈ok.after,Region.binds md e=true→e.on≠i)→oi.apart ops ok=true:=fun k ok hk hki hun hno=>by
    refine hfree k ok hk hki ?_ hno;by_cases hjk:j=k
    ·subst hjk;exact hjun
    ·rw[getD_set_ne true hjk]at hun;exact hun
   refine wpOp_mono (fun a' w' h3=>?_) h2;have hS':S w':=h3.2.1.resolve_left hjl;refine⟨.inr hS',ih (listed.setIfInBounds j true) a' w' hfree' (ready_mono hr (Ne.symm hji)) h3.1 hS' ?_⟩;rw[Array.setIfInBounds_comm _ _ hji];exact h3.2.2
def waits(md:Region.Mode)(ops:Array Oper)(late i:Nat):Bool:=match ops[late]? with
 |some o=>o.after.any fun e=>Region.binds md e && e.on == i
 |none=>false
theorem zHn(h:waits md ops late i=true): ∃oL,ops[late]? =some oL∧∃e∈oL.after,Region.binds md e=true∧e.on=i:=by
 unfold waits at h;split at h
 ·rename_i o ho;obtain⟨k,hk,he⟩:=Array.any_eq_true.1 h;simp only[Bool.and_eq_true,beq_iff_eq]at he;exact⟨o,ho,o.after[k],Array.getElem_mem hk,he.1,he.2⟩
 ·cases h
theorem zA1(hi:ops[i]? =some oi)(hwt:waits md ops late i=true)
 (hs:Region.noSelect ops=true) (hf:Region.free md ops listed i=true) (hr:(Region.ready md ops listed).contains i=true)
 (hQ: ∀c a w,Q (.panic c) (a.put oi.dst v) w→Q (.panic c) a w) (hy:YieldsIf P ops S oi v a) (hS:S w)
 (h:wpAnyE P md ops Q S late fuel (listed.setIfInBounds i true) (a.put oi.dst v) w):wpAnyE P md ops Q S late (fuel+1) listed a w:=by
 obtain⟨oL,hL,hw⟩:=zHn hwt;exact zHm hi hL hw (Region.noSelect_spec hs) hQ fuel listed a w (Region.free_spec hi hf) (by simpa using hr) hy hS h
theorem zC2(hr:Region.ready md ops listed= [i])(ho:ops[i]? =some o)
 (h: ∀K':Act→World→Prop,Shut (∀a w,(i=late∨S w)→wpAnyE P md ops Q S late fuel (listed.setIfInBounds i true) a w→K' a w)→if Region.wanted o (yielded ops a.tmps)=true then Oper.wp P o a w K' Q else K' (a.put o.dst undef) w):
 wpAnyE P md ops Q S late (fuel+1) listed a w:=by
 refine⟨fun h0=>(by rw[hr]at h0;cases h0),fun j hj=>?_⟩;rw[hr]at hj;obtain rfl:j=i:=by simpa using hj
 exact wpOp_step ho (fun K' hK=>h K' (fun a w hS hW=>hK a w ⟨hS,hW⟩))
theorem zHo(hr:Region.ready md ops listed= [])(h:Q .normal a w):
 ∀fuel,wpAnyE P md ops Q S late fuel listed a w
 |0=>⟨hr,h⟩
 |_+1=>⟨fun _=>h,by rw[hr];simp⟩
theorem zHp(late:Nat)(S:World→Prop){id:Nat}(hm:P.follows .mixedOrders=true)
 (h:wpAnyE P .any ops Q S late ops.size (Array.replicate ops.size false) a w.drew):(Code.region id ops true).wp P Q a w:=
 wp_region_any hm (zEh _ _ _ _ h)
end
end Go.Proofs.YtilbfpnpkkkpgaaGreatDoor
