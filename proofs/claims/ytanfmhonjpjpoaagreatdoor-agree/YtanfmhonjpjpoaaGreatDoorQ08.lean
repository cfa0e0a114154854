import Derived.Test.YtanfmhonjpjpoaaGreatDoorQ00
import Derived.Test.YtanfmhonjpjpoaaGreatDoorQ07
import Derived.Sort.MapsRangeIn
import Derived.RangeFuncSeq
import Derived.WalkKit
import Derived.LaidEql
import Derived.Stop.Asserts
import Derived.RowKitTokens
set_option linter.all false
set_option maxRecDepth 100000
set_option maxHeartbeats 8000000
namespace Go.Proofs.YtanfmhonjpjpoaaGreatDoor
variable{w:World}
section
open Go.Extern Go.Maps Go.RowKit
section
variable {V:Type} {E:Elem V} {F:Fence} {n:Nat} {P:Program} {K e:TypeId} {b:Nat} {l:List (Int×V)} {ops:Array Oper} {rest:List Oper} {o:Oper} {a:Act} {Q:Exit→Act→World→Prop}
theorem zKe(w:World)(hg:o.guard=none)(m:Operand)(t:TypeId)(hop:o.op=Op.range t m)(L:Keyed P K)(ht:P.underlying t=some (.map K e))(hm:a.eval m=.map (some b))(h:PM E P K w b l)
 (hK: ∀w',PR E P K w' b w.heap.size l [] l→w.grownBy w' none→w'.heap.size=w.heap.size+1→wpListIn F n P ops Q rest (a.put o.dst (iP w.heap.size)) w'):wpListIn F n P ops Q (o::rest) a w:=by
 refine wpListIn_plain hg fun K' hK'=>?_
 obtain⟨w',hrun,r1,r2,r3⟩:=h.range L ht;unfold Oper.wpIn;refine⟨?_,?_⟩
 ·simp[Oper.about,hop]
 ·rw[Oper.semAt_plain F _ _ (by rw[hop];intro c hc';cases hc')];simp[execOp,hop,hm,hrun,Result.andThen];exact hK' _ _ (hK w' r1 r2 r3)
theorem zKf(w:World)(hg:o.guard=none)(it:Operand)(hop:o.op=Op.next it false)(L:Keyed P K)(hk:P.underlying K=some (.int .i64))(b r:Nat)(seen rem:List (Int×V))(hit:a.eval it=.pointer (some ⟨r,0,none⟩))(h:PR E P K w b r l seen rem)
 (hDone:rem= []→wpListIn F n P ops Q rest (a.put o.dst (.tuple #[.bool false])) w)
 (hMore: ∀(k:Int) (v:V) (rem':List (Int×V)) (w':World),(k,v)∈l→PR E P K w' b r l (seen++ [(k,v)]) rem'→w.grownBy w' (some r)→w'.heap.size=w.heap.size→w'.rangeLeft b r<w.rangeLeft b r→(Instr.entry (.pointer (some ⟨r,0,none⟩))).run P w'=.ok (.tuple #[.int .i64 k,E.val v]) w'→wpListIn F n P ops Q rest (a.put o.dst (.tuple #[.bool true,.int .i64 k,E.val v])) w'):
 wpListIn F n P ops Q (o::rest) a w:=by
 refine wpListIn_plain hg fun K' hK'=>?_
 unfold Oper.wpIn;refine⟨by simp[Oper.about,hop],?_⟩;rw[Oper.semAt_plain F _ _ (by rw[hop];intro c hc';cases hc')];rcases h.next L hk o.type with⟨h0,hrun⟩|⟨k,v,rem',w',hp,hwf,hrun,hpr,hgr,hsz,hlt,hen⟩
 ·simp[execOp,hop,hit,hrun,Result.andThen];exact hK' _ _ (hDone h0)
 ·simp[execOp,hop,hit,hrun,Result.andThen];refine hK' _ _ (hMore k v rem' w' ?_ hpr hgr hsz hlt hen);exact h.1.mem_iff.1 (List.mem_append_right _ (hp.mem_iff.2 (List.mem_cons_self ..)))
theorem PR.walks{w':World}{r:Nat}{seen rem:List (Int×V)}(h:PR E P K w b r l seen rem)(hk:KeepsWalks w w'):PR E P K w' b r l seen rem∧w'.rangeLeft b r=w.rangeLeft b r:=by
 obtain⟨h0,es,left,cnt,h1,h2⟩:=h;have h3:=h1.of_walks hk;exact⟨⟨h0,es,left,cnt,h3,h2⟩,by rw[h3.left_eq,h1.left_eq]⟩
theorem PR.iter_walk{r:Nat}{seen rem:List (Int×V)}(h:PR E P K w b r l seen rem): ∃o:Obj,w.heap[r]? =some o∧o.isWalk=true:=by
 obtain⟨h0,es,left,cnt,h1,h2⟩:=h;exact h1.iter_walk
end
end
section
open Go.Extern Go.Extern.Stop Go.RowKit Go.Stop
def Tryz.ext(f:Func):Array Value→Sem Value:=(find f).getD fun _=>pure .nilIface
theorem Tryz.isTypeOf(v:Value)(w:World):(Tryz.ext Tryz.f86 #[.iface 325 v]).run Tryz.prog w=.ok (.iface 248 (.agg #[.pointer (some (iA 11 325))])) w:=by kernel_rfl
theorem Tryz.isComparable(w:World):(Tryz.ext Tryz.f274 #[.agg #[.pointer (some (iA 11 325))]]).run Tryz.prog w=.ok (.bool true) w:=by kernel_rfl
theorem Tryz.isMethodComparable(v:Value)(w:World):(Go.method 458 248 v "Comparable").run Tryz.prog w=.ok (274,v) w:=by kernel_rfl
theorem Tryz.isComp:(Tryz.prog.info? 325).map (·.comparable)=some true:=by kernel_rfl
theorem Tryz.isSize:(Tryz.prog.info? 346).map (·.size)=some 1:=by kernel_rfl
theorem Tryz.noIsE(v:Value)(xT:TypeId)(w:World):(Instr.typeAssert (.iface 325 v) xT 250 true).run Tryz.prog w=.ok (.tuple #[.nilIface,.bool false]) w:=run_typeAssert_lacksB Tryz.underlying250 (by kernel_rfl) (by kernel_rfl) v xT w
theorem Tryz.noAsE(v:Value)(xT:TypeId)(w:World):(Instr.typeAssert (.iface 325 v) xT 259 true).run Tryz.prog w=.ok (.tuple #[.nilIface,.bool false]) w:=run_typeAssert_lacksB Tryz.underlying259 (by kernel_rfl) (by kernel_rfl) v xT w
theorem Tryz.noUnwrapE(v:Value)(xT:TypeId)(w:World):(Instr.typeAssert (.iface 325 v) xT 253 true).run Tryz.prog w=.ok (.tuple #[.nilIface,.bool false]) w:=run_typeAssert_lacksB Tryz.underlying253 (by kernel_rfl) (by kernel_rfl) v xT w
theorem Tryz.noUnwrapsE(v:Value)(xT:TypeId)(w:World):(Instr.typeAssert (.iface 325 v) xT 255 true).run Tryz.prog w=.ok (.tuple #[.nilIface,.bool false]) w:=run_typeAssert_lacksB Tryz.underlying255 (by kernel_rfl) (by kernel_rfl) v xT w
theorem Tryz.noIsW(v:Value)(xT:TypeId)(w:World):(Instr.typeAssert (.iface 130 v) xT 250 true).run Tryz.prog w=.ok (.tuple #[.nilIface,.bool false]) w:=run_typeAssert_lacksB Tryz.underlying250 (by kernel_rfl) (by kernel_rfl) v xT w
theorem Tryz.hasUnwrapW(v:Value)(xT:TypeId)(w:World):(Instr.typeAssert (.iface 130 v) xT 253 true).run Tryz.prog w=.ok (.tuple #[.iface 130 v,.bool true]) w:=run_typeAssert_hasB Tryz.underlying253 (by kernel_rfl) v xT w
theorem Tryz.methodUnwrap(v:Value)(w:World):(Go.method 458 130 v "Unwrap").run Tryz.prog w=.ok (257,v) w:=by kernel_rfl
theorem zFg(a:Addr)(w:World):
 Cl 51 #[.iface 325 (.pointer (some a)),.iface 325 (.pointer (some a))] w fun e w'=>e=rB true∧w'=w:=by
 obtain⟨i,hi,hcmp⟩:=Option.map_eq_some_iff.1 Tryz.isComp;obtain⟨j,hj,hjs⟩:=Option.map_eq_some_iff.1 Tryz.isSize;have h8:= @run_callFunc_extern Tryz.prog 86 _ (Tryz.ext Tryz.f86) Tryz.func86 (by kernel_rfl) (by kernel_rfl) (by kernel_rfl) (by kernel_rfl);have h32:= @run_callFunc_extern Tryz.prog 274 _ (Tryz.ext Tryz.f274) Tryz.func274 (by kernel_rfl) (by kernel_rfl) (by kernel_rfl) (by kernel_rfl);have tT:=Tryz.isTypeOf;have cT:=Tryz.isComparable;have mR:=Tryz.isMethodComparable;have heq:=run_eql_iface_ptr_same (P:=Tryz.prog) w a Tryz.underlying79 Tryz.underlying325 hi hcmp hj;go_enter Tryz.func51,Tryz.ntmps51;go_wp2;refine wp_loop_rounds 1 ?_;rw[rounds_succ];go_wp2;go_ret;exact⟨rfl,rfl⟩
theorem zDm(a b:Addr)(ca cb:Array Value)(ta tb:TypeId)(w:World)(hne:a≠b)(ha:w.heap[a.block]? =some (.cells ca ta (0,0)))(hb:w.heap[b.block]? =some (.cells cb tb (0,0))):
 Cl 51 #[.iface 325 (.pointer (some a)),.iface 325 (.pointer (some b))] w fun e w'=>e=rB false∧w'=w:=by
 obtain⟨i,hi,hcmp⟩:=Option.map_eq_some_iff.1 Tryz.isComp;obtain⟨j,hj,hjs⟩:=Option.map_eq_some_iff.1 Tryz.isSize;have h8:= @run_callFunc_extern Tryz.prog 86 _ (Tryz.ext Tryz.f86) Tryz.func86 (by kernel_rfl) (by kernel_rfl) (by kernel_rfl) (by kernel_rfl);have h32:= @run_callFunc_extern Tryz.prog 274 _ (Tryz.ext Tryz.f274) Tryz.func274 (by kernel_rfl) (by kernel_rfl) (by kernel_rfl) (by kernel_rfl);have tT:=Tryz.isTypeOf;have cT:=Tryz.isComparable;have mR:=Tryz.isMethodComparable;have nE:=Tryz.noIsE;have uE:=Tryz.noUnwrapE;have vE:=Tryz.noUnwrapsE;have heq:=run_eql_iface_ptr_other (P:=Tryz.prog) w Tryz.underlying79 Tryz.underlying325 hi hcmp hj (by rw[hjs];decide) hne ha hb;go_enter Tryz.func51,Tryz.ntmps51;go_wp2;refine wp_loop_rounds 1 ?_;rw[rounds_succ];go_wp2;go_ret;exact⟨rfl,rfl⟩
theorem zSl(pb po:Nat)(v:Value)(w:World)(h1:w.cell? (iA pb (po+1))=some v):
 Cl 257 #[.pointer (some (iA pb po))] w fun e w'=>e=.returned v∧w'=w:=by
 go_enter Tryz.func257,Tryz.ntmps257;go_wp2;go_ret;exact⟨rfl,rfl⟩
theorem zKg(pb po:Nat)(b:Addr)(w:World)(h1:w.cell? (iA pb (po+1))=some (.iface 325 (.pointer (some b)))):
 Cl 51 #[.iface 130 (.pointer (some (iA pb po))),.iface 325 (.pointer (some b))] w fun e w'=>e=rB true∧w'=w:=by
 obtain⟨i,hi,hcmp⟩:=Option.map_eq_some_iff.1 Tryz.isComp;obtain⟨j,hj,hjs⟩:=Option.map_eq_some_iff.1 Tryz.isSize;have h8:= @run_callFunc_extern Tryz.prog 86 _ (Tryz.ext Tryz.f86) Tryz.func86 (by kernel_rfl) (by kernel_rfl) (by kernel_rfl) (by kernel_rfl);have h32:= @run_callFunc_extern Tryz.prog 274 _ (Tryz.ext Tryz.f274) Tryz.func274 (by kernel_rfl) (by kernel_rfl) (by kernel_rfl) (by kernel_rfl);have tT:=Tryz.isTypeOf;have cT:=Tryz.isComparable;have mR:=Tryz.isMethodComparable;have nE:=Tryz.noIsE;have uE:=Tryz.noUnwrapE;have vE:=Tryz.noUnwrapsE;have nW:=Tryz.noIsW;have uW:=Tryz.hasUnwrapW;have mU:=Tryz.methodUnwrap;have heq:=run_eql_iface_ptr_same (P:=Tryz.prog) w b Tryz.underlying79 Tryz.underlying325 hi hcmp hj;have hty:=run_eql_iface_types (P:=Tryz.prog) 130 325 (.pointer (some (iA pb po))) (.pointer (some b)) Tryz.underlying79 (by decide) w;go_enter Tryz.func51,Tryz.ntmps51;go_wp2
 refine wp_loop_rounds 2 ?_;rw[rounds_succ];go_wp2;rw[rounds_succ];go_wp2;go_ret;exact⟨rfl,rfl⟩
theorem zFh(pb po:Nat)(b a:Addr)(ca cb:Array Value)(ta tb:TypeId)(w:World)(h1:w.cell? (iA pb (po+1))=some (.iface 325 (.pointer (some a))))(hne:a≠b)(ha:w.heap[a.block]? =some (.cells ca ta (0,0)))(hb:w.heap[b.block]? =some (.cells cb tb (0,0))):
 Cl 51 #[.iface 130 (.pointer (some (iA pb po))),.iface 325 (.pointer (some b))] w fun e w'=>e=rB false∧w'=w:=by
 obtain⟨i,hi,hcmp⟩:=Option.map_eq_some_iff.1 Tryz.isComp;obtain⟨j,hj,hjs⟩:=Option.map_eq_some_iff.1 Tryz.isSize;have h8:= @run_callFunc_extern Tryz.prog 86 _ (Tryz.ext Tryz.f86) Tryz.func86 (by kernel_rfl) (by kernel_rfl) (by kernel_rfl) (by kernel_rfl);have h32:= @run_callFunc_extern Tryz.prog 274 _ (Tryz.ext Tryz.f274) Tryz.func274 (by kernel_rfl) (by kernel_rfl) (by kernel_rfl) (by kernel_rfl);have tT:=Tryz.isTypeOf;have cT:=Tryz.isComparable;have mR:=Tryz.isMethodComparable;have nE:=Tryz.noIsE;have uE:=Tryz.noUnwrapE;have vE:=Tryz.noUnwrapsE;have nW:=Tryz.noIsW;have uW:=Tryz.hasUnwrapW;have mU:=Tryz.methodUnwrap;have heq:=run_eql_iface_ptr_other (P:=Tryz.prog) w Tryz.underlying79 Tryz.underlying325 hi hcmp hj (by rw[hjs];decide) hne ha hb;have hty:=run_eql_iface_types (P:=Tryz.prog) 130 325 (.pointer (some (iA pb po))) (.pointer (some b)) Tryz.underlying79 (by decide) w
 go_enter Tryz.func51,Tryz.ntmps51;go_wp2;refine wp_loop_rounds 2 ?_;rw[rounds_succ];go_wp2;rw[rounds_succ];go_wp2;go_ret;exact⟨rfl,rfl⟩
theorem Tryz.valueOfPP(t:Addr)(w:World):(Tryz.ext Tryz.f88 #[.iface 132 (.pointer (some t))]).run Tryz.prog w
 =.ok (.agg #[.pointer (some (iA 11 132)),iP w.heap.size,.int .u64 150]) (w.alloc (.cells #[.pointer (some t)] 132)):=by kernel_rfl
theorem Tryz.typePP(a:Addr)(w:World):(Tryz.ext Tryz.f89 #[.agg #[.pointer (some (iA 11 132)),.pointer (some a),.int .u64 150]]).run Tryz.prog w
 =.ok (.iface 248 (.agg #[.pointer (some (iA 11 132))])) w:=by kernel_rfl
theorem Tryz.methodKind(h:Value)(w:World):(Go.method 458 248 (.agg #[h]) "Kind").run Tryz.prog w=.ok (252,h) w:=by kernel_rfl
theorem Tryz.kindPP(w:World):(Tryz.ext Tryz.f252 #[.pointer (some (iA 11 132))]).run Tryz.prog w=.ok (.int .u8 22) w:=by kernel_rfl
theorem Tryz.kindP(w:World):(Tryz.ext Tryz.f252 #[.pointer (some (iA 11 130))]).run Tryz.prog w=.ok (.int .u8 22) w:=by kernel_rfl
theorem Tryz.methodElem(h:Value)(w:World):(Go.method 458 248 (.agg #[h]) "Elem").run Tryz.prog w=.ok (275,.agg #[h]) w:=by kernel_rfl
theorem Tryz.methodImplements(h:Value)(w:World):(Go.method 458 248 (.agg #[h]) "Implements").run Tryz.prog w=.ok (276,.agg #[h]) w:=by kernel_rfl
theorem Tryz.methodAssignableTo(h:Value)(w:World):(Go.method 458 248 (.agg #[h]) "AssignableTo").run Tryz.prog w=.ok (273,.agg #[h]) w:=by kernel_rfl
theorem Tryz.elemPP(w:World):(Tryz.ext Tryz.f275 #[.agg #[.pointer (some (iA 11 132))]]).run Tryz.prog w=.ok (.iface 248 (.agg #[.pointer (some (iA 11 130))])) w:=by kernel_rfl
theorem Tryz.implementsP(w:World):(Tryz.ext Tryz.f276 #[.agg #[.pointer (some (iA 11 130))],.iface 248 (.agg #[.pointer (some (iA 11 79))])]).run Tryz.prog w=.ok (.bool true) w:=by kernel_rfl
theorem Tryz.typeOfP(v:Value)(w:World):(Tryz.ext Tryz.f86 #[.iface 130 v]).run Tryz.prog w=.ok (.iface 248 (.agg #[.pointer (some (iA 11 130))])) w:=by kernel_rfl
theorem Tryz.assignableP(w:World):(Tryz.ext Tryz.f273 #[.agg #[.pointer (some (iA 11 130))],.iface 248 (.agg #[.pointer (some (iA 11 130))])]).run Tryz.prog w=.ok (.bool true) w:=by kernel_rfl
theorem Tryz.assignableE(w:World):(Tryz.ext Tryz.f273 #[.agg #[.pointer (some (iA 11 325))],.iface 248 (.agg #[.pointer (some (iA 11 130))])]).run Tryz.prog w=.ok (.bool false) w:=by kernel_rfl
theorem Tryz.valueOfP(e:Addr)(w:World):(Tryz.ext Tryz.f88 #[.iface 130 (.pointer (some e))]).run Tryz.prog w
 =.ok (.agg #[.pointer (some (iA 11 130)),iP w.heap.size,.int .u64 150]) (w.alloc (.cells #[.pointer (some e)] 130)):=by kernel_rfl
theorem Tryz.extIsNil:Tryz.ext Tryz.f90=ReflectliteValue.method (ReflectliteValue.valueError "reflectlite.Value.IsNil" 0) ReflectliteValue.isNil:=by kernel_rfl
theorem Tryz.extElemV:Tryz.ext Tryz.f134=ReflectliteValue.method (ReflectliteValue.valueError "reflectlite.Value.Elem" 0) ReflectliteValue.elem:=by kernel_rfl
theorem Tryz.extSet:Tryz.ext Tryz.f135=ReflectliteValue.set:=by kernel_rfl
theorem rlm(z:Sem Value)(f:TypeId→Addr→Nat→Nat→Sem Value)(v:Value):
 ReflectliteValue.method z f #[v]=(do match←ReflectliteValue.parts v with|none=>z|some (t,a,fl)=>f t a fl (fl % 32)):=rfl
theorem Tryz.partsPP(a:Addr)(w:World):(ReflectliteValue.parts (.agg #[.pointer (some (iA 11 132)),.pointer (some a),.int .u64 150])).run Tryz.prog w=.ok (some (132,a,150)) w:=by kernel_rfl
theorem Tryz.isNilPP(a p:Addr)(W:World)(ha:W.cell? a=some (.pointer (some p))):
 (Tryz.ext Tryz.f90 #[.agg #[.pointer (some (iA 11 132)),.pointer (some a),.int .u64 150]]).run Tryz.prog W=.ok (.bool false) W:=by
 rw[Tryz.extIsNil,rlm];simp only[Sem.run_bind,Tryz.partsPP,Result.andThen];simp[ReflectliteValue.isNil,loadVar,isAgg,underlying,Tryz.underlying132,ha,Result.andThen]
theorem Tryz.elemOfPP(w:World):(Rtype.elem? 132).run Tryz.prog w=.ok (some 130) w:=by kernel_rfl
theorem Tryz.mkP(p:Addr)(w:World):(ReflectliteValue.mk 130 p ReflectliteValue.flagAddr).run Tryz.prog w=.ok (.agg #[.pointer (some (iA 11 130)),.pointer (some p),.int .u64 406]) w:=by kernel_rfl
theorem Tryz.elemVPP(a p:Addr)(W:World)(ha:W.cell? a=some (.pointer (some p))):
 (Tryz.ext Tryz.f134 #[.agg #[.pointer (some (iA 11 132)),.pointer (some a),.int .u64 150]]).run Tryz.prog W
  =.ok (.agg #[.pointer (some (iA 11 130)),.pointer (some p),.int .u64 406]) W:=by
 rw[Tryz.extElemV,rlm];simp only[Sem.run_bind,Tryz.partsPP,Result.andThen];simp[ReflectliteValue.elem,loadVar,isAgg,underlying,Tryz.underlying132,ha,Result.andThen,Tryz.elemOfPP,Tryz.mkP]
theorem rls(v x:Value):ReflectliteValue.set #[v,x]=(do
 let (some (dst,a,fl),some (src,b,_)):=(←ReflectliteValue.parts v,←ReflectliteValue.parts x)
  |unsupported (.noEntry "extern/(internal/reflectlite.Value).Set.zeroValue")
 if fl / ReflectliteValue.flagAddr % 2 == 0 then unsupported (.noEntry "extern/(internal/reflectlite.Value).Set.unaddressable")
 let val←loadVar src b
 if←Rtype.directlyAssignable dst src then storeVar dst a val
 else if←Rtype.implements dst src then
  if(←Rtype.kind src) == 20 then
   match val with
   | .nilIface=>unsupported (.noEntry "extern/reflectlite: a nil value of one interface type handed on as a value of another")
   |_=>storeVar dst a val
  else storeVar dst a (.iface src val)
 else panicString ("reflectlite.Set: value of type " ++(←Rtype.spelt src)++ " is not assignable to type " ++(←Rtype.spelt dst))
 pure (.tuple #[])):=rfl
theorem Tryz.partsPa(a:Addr)(w:World):(ReflectliteValue.parts (.agg #[.pointer (some (iA 11 130)),.pointer (some a),.int .u64 406])).run Tryz.prog w=.ok (some (130,a,406)) w:=by kernel_rfl
theorem Tryz.partsP(a:Addr)(w:World):(ReflectliteValue.parts (.agg #[.pointer (some (iA 11 130)),.pointer (some a),.int .u64 150])).run Tryz.prog w=.ok (some (130,a,150)) w:=by kernel_rfl
theorem Tryz.directP(w:World):(Rtype.directlyAssignable 130 130).run Tryz.prog w=.ok true w:=by kernel_rfl
theorem Tryz.setP(ta b e:Addr)(old:Value)(W:World)(hb:W.cell? b=some (.pointer (some e)))(ht:W.cell? ta=some old)(hf:W.frozen? ta=false):
 (Tryz.ext Tryz.f135 #[.agg #[.pointer (some (iA 11 130)),.pointer (some ta),.int .u64 406],.agg #[.pointer (some (iA 11 130)),.pointer (some b),.int .u64 150]]).run Tryz.prog W
  =.ok (.tuple #[]) (W.setCell ta (.pointer (some e))):=by
 rw[Tryz.extSet,rls];simp only[Sem.run_bind,Tryz.partsPa,Tryz.partsP,Result.andThen];simp[ReflectliteValue.flagAddr,loadVar,isAgg,underlying,Tryz.underlying130,hb,Result.andThen,Tryz.directP,storeVar,Value.cells,storeCells,Addr.add];rw[run_store Tryz.prog W ta _ _ (by rfl)];simp[ht,hf]
theorem zA4{a:Addr}{v:Value}(h:w.cell? a=some v):a.block<w.heap.size:=by
 rcases Nat.lt_or_ge a.block w.heap.size with h' |h'
 ·exact h'
 ·simp[World.cell?,Array.getElem?_eq_none h']at h
theorem zKh(t:Value)(w:World):
 Cl 52 #[.nilIface,t] w fun e w'=>e=rB false∧w'=w:=by
 go_enter Tryz.func52,Tryz.ntmps52;go_wp2;go_ret;exact⟨rfl,rfl⟩
theorem zKi(e t:Addr)(old:Value)(w:World)(hg:w.cell? (iA 8 0)=some (.iface 248 (.agg #[.pointer (some (iA 11 79))])))(ht0:w.cell? t=some old)(hf0:w.frozen? t=false):
 Cl 52 #[.iface 130 (.pointer (some e)),.iface 132 (.pointer (some t))] w fun ev w'=>ev=rB true∧w'=((((w.alloc (.cells #[.pointer (some t)] 132)).alloc (.cells #[.pointer (some (iA 11 132)),iP w.heap.size,.int .u64 150] 179)).alloc (.cells #[.pointer (some (iA 11 132)),iP w.heap.size,.int .u64 150] 179)).alloc (.cells #[.pointer (some e)] 130)).setCell t (.pointer (some e)):=by
 have h6:= @run_callFunc_extern Tryz.prog 88 _ (Tryz.ext Tryz.f88) Tryz.func88 (by kernel_rfl) (by kernel_rfl) (by kernel_rfl) (by kernel_rfl);have h7:= @run_callFunc_extern Tryz.prog 89 _ (Tryz.ext Tryz.f89) Tryz.func89 (by kernel_rfl) (by kernel_rfl) (by kernel_rfl) (by kernel_rfl);have h8:= @run_callFunc_extern Tryz.prog 90 _ (Tryz.ext Tryz.f90) Tryz.func90 (by kernel_rfl) (by kernel_rfl) (by kernel_rfl) (by kernel_rfl);have h27:= @run_callFunc_extern Tryz.prog 252 _ (Tryz.ext Tryz.f252) Tryz.func252 (by kernel_rfl) (by kernel_rfl) (by kernel_rfl) (by kernel_rfl);have h37:= @run_callFunc_extern Tryz.prog 275 _ (Tryz.ext Tryz.f275) Tryz.func275 (by kernel_rfl) (by kernel_rfl) (by kernel_rfl) (by kernel_rfl);have h38:= @run_callFunc_extern Tryz.prog 276 _ (Tryz.ext Tryz.f276) Tryz.func276 (by kernel_rfl) (by kernel_rfl) (by kernel_rfl) (by kernel_rfl)
 have h10:= @run_callFunc_extern Tryz.prog 86 _ (Tryz.ext Tryz.f86) Tryz.func86 (by kernel_rfl) (by kernel_rfl) (by kernel_rfl) (by kernel_rfl);have h35:= @run_callFunc_extern Tryz.prog 273 _ (Tryz.ext Tryz.f273) Tryz.func273 (by kernel_rfl) (by kernel_rfl) (by kernel_rfl) (by kernel_rfl);have h11:= @run_callFunc_extern Tryz.prog 134 _ (Tryz.ext Tryz.f134) Tryz.func134 (by kernel_rfl) (by kernel_rfl) (by kernel_rfl) (by kernel_rfl);have h12:= @run_callFunc_extern Tryz.prog 135 _ (Tryz.ext Tryz.f135) Tryz.func135 (by kernel_rfl) (by kernel_rfl) (by kernel_rfl) (by kernel_rfl);have tO:=Tryz.typeOfP;have a25:=Tryz.assignableP;have v25:=Tryz.valueOfP;have mA:=Tryz.methodAssignableTo;have f6:=Tryz.valueOfPP;have f7:=Tryz.typePP;have mK:=Tryz.methodKind;have mE:=Tryz.methodElem;have mI:=Tryz.methodImplements;have k27:=Tryz.kindPP;have k25:=Tryz.kindP;have e27:=Tryz.elemPP
 have i25:=Tryz.implementsP;have n8:=Tryz.isNilPP (iA w.heap.size 0) t ((w.alloc (.cells #[.pointer (some t)] 132)).alloc (.cells #[.pointer (some (iA 11 132)),iP w.heap.size,.int .u64 150] 179)) (by simp);have hlt:8<w.heap.size:=zA4 hg;have hg2:((w.alloc (.cells #[.pointer (some t)] 132)).alloc (.cells #[.pointer (some (iA 11 132)),iP w.heap.size,.int .u64 150] 179)).cell? (iA 8 0)=some (.iface 248 (.agg #[.pointer (some (iA 11 79))])):=by
  rw[World.cell?_alloc_lt _ _ (iA 8 0) (by simp;omega),World.cell?_alloc_lt _ _ (iA 8 0) hlt];exact hg
 have htl:t.block<w.heap.size:=zA4 ht0;have el:=Tryz.elemVPP (iA w.heap.size 0) t (((w.alloc (.cells #[.pointer (some t)] 132)).alloc (.cells #[.pointer (some (iA 11 132)),iP w.heap.size,.int .u64 150] 179)).alloc (.cells #[.pointer (some (iA 11 132)),iP w.heap.size,.int .u64 150] 179)) (by rw[World.cell?_alloc_lt _ _ (iA w.heap.size 0) (by simp;omega)];simp);have st:=Tryz.setP t (iA (w.heap.size+1+1+1) 0) e old ((((w.alloc (.cells #[.pointer (some t)] 132)).alloc (.cells #[.pointer (some (iA 11 132)),iP w.heap.size,.int .u64 150] 179)).alloc (.cells #[.pointer (some (iA 11 132)),iP w.heap.size,.int .u64 150] 179)).alloc (.cells #[.pointer (some e)] 130))
  (by rw[World.cell?_alloc_at _ _ _ _ (by simp)];rfl)
  (by rw[World.cell?_alloc_lt _ _ t (by simp;omega),World.cell?_alloc_lt _ _ t (by simp;omega),World.cell?_alloc_lt _ _ t (by simp;omega),World.cell?_alloc_lt _ _ t htl];exact ht0)
  (by rw[World.frozen?_alloc_old _ _ t (by simp;omega),World.frozen?_alloc_old _ _ t (by simp;omega),World.frozen?_alloc_old _ _ t (by simp;omega),World.frozen?_alloc_old _ _ t (Nat.ne_of_lt htl)];exact hf0)
 go_enter Tryz.func52,Tryz.ntmps52;go_wp2;refine wp_loop_rounds 1 ?_;rw[rounds_succ];go_wp2;go_ret;exact⟨rfl,rfl⟩
theorem zKj(e t:Addr)(old:Value)(w:World)(hg:w.cell? (iA 8 0)=some (.iface 248 (.agg #[.pointer (some (iA 11 79))])))(ht0:w.cell? t=some old):
 Cl 52 #[.iface 325 (.pointer (some e)),.iface 132 (.pointer (some t))] w fun ev w'=>ev=rB false∧w'=(((w.alloc (.cells #[.pointer (some t)] 132)).alloc (.cells #[.pointer (some (iA 11 132)),iP w.heap.size,.int .u64 150] 179)).alloc (.cells #[.pointer (some (iA 11 132)),iP w.heap.size,.int .u64 150] 179)):=by
 have h6:= @run_callFunc_extern Tryz.prog 88 _ (Tryz.ext Tryz.f88) Tryz.func88 (by kernel_rfl) (by kernel_rfl) (by kernel_rfl) (by kernel_rfl);have h7:= @run_callFunc_extern Tryz.prog 89 _ (Tryz.ext Tryz.f89) Tryz.func89 (by kernel_rfl) (by kernel_rfl) (by kernel_rfl) (by kernel_rfl);have h8:= @run_callFunc_extern Tryz.prog 90 _ (Tryz.ext Tryz.f90) Tryz.func90 (by kernel_rfl) (by kernel_rfl) (by kernel_rfl) (by kernel_rfl);have h27:= @run_callFunc_extern Tryz.prog 252 _ (Tryz.ext Tryz.f252) Tryz.func252 (by kernel_rfl) (by kernel_rfl) (by kernel_rfl) (by kernel_rfl);have h37:= @run_callFunc_extern Tryz.prog 275 _ (Tryz.ext Tryz.f275) Tryz.func275 (by kernel_rfl) (by kernel_rfl) (by kernel_rfl) (by kernel_rfl);have h38:= @run_callFunc_extern Tryz.prog 276 _ (Tryz.ext Tryz.f276) Tryz.func276 (by kernel_rfl) (by kernel_rfl) (by kernel_rfl) (by kernel_rfl)
 have h10:= @run_callFunc_extern Tryz.prog 86 _ (Tryz.ext Tryz.f86) Tryz.func86 (by kernel_rfl) (by kernel_rfl) (by kernel_rfl) (by kernel_rfl);have h35:= @run_callFunc_extern Tryz.prog 273 _ (Tryz.ext Tryz.f273) Tryz.func273 (by kernel_rfl) (by kernel_rfl) (by kernel_rfl) (by kernel_rfl);have h11:= @run_callFunc_extern Tryz.prog 134 _ (Tryz.ext Tryz.f134) Tryz.func134 (by kernel_rfl) (by kernel_rfl) (by kernel_rfl) (by kernel_rfl);have h12:= @run_callFunc_extern Tryz.prog 135 _ (Tryz.ext Tryz.f135) Tryz.func135 (by kernel_rfl) (by kernel_rfl) (by kernel_rfl) (by kernel_rfl);have tO:=Tryz.isTypeOf;have a25:=Tryz.assignableE;have nA:=Tryz.noAsE;have uE:=Tryz.noUnwrapE;have vE:=Tryz.noUnwrapsE;have mA:=Tryz.methodAssignableTo;have f6:=Tryz.valueOfPP;have f7:=Tryz.typePP;have mK:=Tryz.methodKind;have mE:=Tryz.methodElem;have mI:=Tryz.methodImplements;have k27:=Tryz.kindPP
 have k25:=Tryz.kindP;have e27:=Tryz.elemPP;have i25:=Tryz.implementsP;have n8:=Tryz.isNilPP (iA w.heap.size 0) t ((w.alloc (.cells #[.pointer (some t)] 132)).alloc (.cells #[.pointer (some (iA 11 132)),iP w.heap.size,.int .u64 150] 179)) (by simp);have hlt:8<w.heap.size:=zA4 hg;have hg2:((w.alloc (.cells #[.pointer (some t)] 132)).alloc (.cells #[.pointer (some (iA 11 132)),iP w.heap.size,.int .u64 150] 179)).cell? (iA 8 0)=some (.iface 248 (.agg #[.pointer (some (iA 11 79))])):=by
  rw[World.cell?_alloc_lt _ _ (iA 8 0) (by simp;omega),World.cell?_alloc_lt _ _ (iA 8 0) hlt];exact hg
 have htl:t.block<w.heap.size:=zA4 ht0;have el:=Tryz.elemVPP (iA w.heap.size 0) t (((w.alloc (.cells #[.pointer (some t)] 132)).alloc (.cells #[.pointer (some (iA 11 132)),iP w.heap.size,.int .u64 150] 179)).alloc (.cells #[.pointer (some (iA 11 132)),iP w.heap.size,.int .u64 150] 179)) (by rw[World.cell?_alloc_lt _ _ (iA w.heap.size 0) (by simp;omega)];simp);go_enter Tryz.func52,Tryz.ntmps52;go_wp2;refine wp_loop_rounds 1 ?_;rw[rounds_succ];go_wp2;go_ret;exact⟨rfl,rfl⟩
end
end Go.Proofs.YtanfmhonjpjpoaaGreatDoor
