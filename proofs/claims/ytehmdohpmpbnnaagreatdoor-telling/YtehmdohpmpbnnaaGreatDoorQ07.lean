import Derived.Test.YtehmdohpmpbnnaaGreatDoorQ00
import Derived.Test.YtehmdohpmpbnnaaGreatDoorQ06
import Derived.Sort.MapsRangeIn
import Derived.RangeFuncSeq
import Derived.WalkKit
import Derived.LaidEql
import Derived.Stop.Asserts
import Derived.RowKitTokens
set_option linter.all false
set_option maxRecDepth 100000
set_option maxHeartbeats 8000000
namespace Go.Proofs.YtehmdohpmpbnnaaGreatDoor
variable{w:World}
open Go.Proofs.Tryz
section
open Go.Extern Go.Maps Go.RowKit
section
variable {V:Type} {E:Elem V} {F:Fence} {n:Nat} {P:Program} {K e:TypeId} {b:Nat} {l:List (Int×V)} {ops:Array Oper} {rest:List Oper} {o:Oper} {a:Act} {Q:Exit→Act→World→Prop}
theorem wX(w:World)(hg:o.guard=none)(m:Operand)(t:TypeId)(hop:o.op=Op.range t m)(L:Keyed P K)(ht:P.underlying t=some (.map K e))(hm:a.eval m=.map (some b))(h:PM E P K w b l)
 (hK:∀w',PR E P K w' b w.heap.size l [] l→w.grownBy w' none→w'.heap.size=w.heap.size+1→wpListIn F n P ops Q rest (a.put o.dst (iP w.heap.size)) w'):wpListIn F n P ops Q (o::rest) a w:=by
 refine wpListIn_plain hg fun K' hK'=>?_
 obtain⟨w',A,C,D,G⟩:=h.range L ht;unfold Oper.wpIn;refine⟨?_,?_⟩
 ·simp[Oper.about,hop]
 rw[Oper.semAt_plain F _ _ (by rw[hop];intro c B;cases B)];simp[execOp,hop,hm,A,Result.andThen];exact hK' _ _ (hK w' C D G)
theorem zEh(w:World)(hg:o.guard=none)(it:Operand)(hop:o.op=Op.next it false)(L:Keyed P K)(hk:P.underlying K=some (.int .i64))(b r:Nat)(seen rem:List (Int×V))(hit:a.eval it=.pointer (some ⟨r,0,none⟩))(h:PR E P K w b r l seen rem)
 (hDone:rem= []→wpListIn F n P ops Q rest (a.put o.dst (.tuple #[.bool false])) w)
 (hMore:∀(k:Int) (v:V) (rem':List (Int×V)) (w':World),(k,v)∈l→PR E P K w' b r l (seen++ [(k,v)]) rem'→w.grownBy w' (some r)→w'.heap.size=w.heap.size→w'.rangeLeft b r<w.rangeLeft b r→(Instr.entry (.pointer (some ⟨r,0,none⟩))).run P w'=.ok (.tuple #[.int .i64 k,E.val v]) w'→wpListIn F n P ops Q rest (a.put o.dst (.tuple #[.bool true,.int .i64 k,E.val v])) w'):
 wpListIn F n P ops Q (o::rest) a w:=by
 refine wpListIn_plain hg fun K' hK'=>?_
 unfold Oper.wpIn;refine⟨by simp[Oper.about,hop],?_⟩;rw[Oper.semAt_plain F _ _ (by rw[hop];intro c B;cases B)];rcases h.next L hk o.type with⟨J,A⟩|⟨k,v,rem',w',M,N,A,H,D,I,G,C⟩
 ·simp[execOp,hop,hit,A,Result.andThen];exact hK' _ _ (hDone J)
 simp[execOp,hop,hit,A,Result.andThen];refine hK' _ _ (hMore k v rem' w' ?_ H D I G C);exact h.1.mem_iff.1 (List.mem_append_right _ (M.mem_iff.2 (List.mem_cons_self ..)))
theorem PR.walks{w':World}{r:Nat}{seen rem:List (Int×V)}(h:PR E P K w b r l seen rem)(hk:KeepsWalks w w'):PR E P K w' b r l seen rem∧w'.rangeLeft b r=w.rangeLeft b r:=by
 obtain⟨G,D,left,A,B,H⟩:=h;have C:=B.of_walks hk;exact⟨⟨G,D,left,A,C,H⟩,by rw[C.left_eq,B.left_eq]⟩
theorem PR.iter_walk{r:Nat}{seen rem:List (Int×V)}(h:PR E P K w b r l seen rem):∃o:Obj,w.heap[r]? =some o∧o.isWalk=true:=by
 obtain⟨D,C,left,A,B,G⟩:=h;exact B.iter_walk
end
end
section
open Go.Extern Go.Extern.Stop Go.RowKit Go.Stop
def Tryz.ext(f:Func):Array Value→Sem Value:=(find f).getD fun _=>pure .nilIface
theorem Tryz.qP(v:Value)(w:World):(Tryz.ext Tryz.f81 #[.iface 309 v]).run prog w=.ok (.iface 222 (.agg #[.pointer (some (iA 11 309))])) w:=by kernel_rfl
theorem Tryz.jP(w:World):(Tryz.ext Tryz.f263 #[.agg #[.pointer (some (iA 11 309))]]).run prog w=.ok (.bool true) w:=by kernel_rfl
theorem Tryz.bL(v:Value)(w:World):(Go.method 442 222 v "Comparable").run prog w=.ok (263,v) w:=by kernel_rfl
theorem Tryz.isComp:(prog.info? 309).map (·.comparable)=some true:=by kernel_rfl
theorem Tryz.isSize:(prog.info? 330).map (·.size)=some 1:=by kernel_rfl
theorem Tryz.noIsE(v:Value)(xT:TypeId)(w:World):(Instr.typeAssert (.iface 309 v) xT 224 true).run prog w=.ok (.tuple #[.nilIface,.bool false]) w:=run_typeAssert_lacksB underlying224 (by kernel_rfl) (by kernel_rfl) v xT w
theorem Tryz.noAsE(v:Value)(xT:TypeId)(w:World):(Instr.typeAssert (.iface 309 v) xT 233 true).run prog w=.ok (.tuple #[.nilIface,.bool false]) w:=run_typeAssert_lacksB underlying233 (by kernel_rfl) (by kernel_rfl) v xT w
theorem Tryz.sG(v:Value)(xT:TypeId)(w:World):(Instr.typeAssert (.iface 309 v) xT 227 true).run prog w=.ok (.tuple #[.nilIface,.bool false]) w:=run_typeAssert_lacksB underlying227 (by kernel_rfl) (by kernel_rfl) v xT w
theorem Tryz.pF(v:Value)(xT:TypeId)(w:World):(Instr.typeAssert (.iface 309 v) xT 229 true).run prog w=.ok (.tuple #[.nilIface,.bool false]) w:=run_typeAssert_lacksB underlying229 (by kernel_rfl) (by kernel_rfl) v xT w
theorem Tryz.noIsW(v:Value)(xT:TypeId)(w:World):(Instr.typeAssert (.iface 124 v) xT 224 true).run prog w=.ok (.tuple #[.nilIface,.bool false]) w:=run_typeAssert_lacksB underlying224 (by kernel_rfl) (by kernel_rfl) v xT w
theorem Tryz.hasUnwrapW(v:Value)(xT:TypeId)(w:World):(Instr.typeAssert (.iface 124 v) xT 227 true).run prog w=.ok (.tuple #[.iface 124 v,.bool true]) w:=run_typeAssert_hasB underlying227 (by kernel_rfl) v xT w
theorem Tryz.wY(v:Value)(w:World):(Go.method 442 124 v "Unwrap").run prog w=.ok (246,v) w:=by kernel_rfl
theorem zBi(a:Addr)(w:World):
 Cl 52 #[.iface 309 (.pointer (some a)),.iface 309 (.pointer (some a))] w fun e w'=>e=rB true∧w'=w:=by
 obtain⟨i,D,A⟩:=Option.map_eq_some_iff.1 Tryz.isComp;obtain⟨j,E,F⟩:=Option.map_eq_some_iff.1 Tryz.isSize;have H:= @run_callFunc_extern prog 81 _ (Tryz.ext Tryz.f81) func81 (by kernel_rfl) (by kernel_rfl) (by kernel_rfl) (by kernel_rfl);have B:= @run_callFunc_extern prog 263 _ (Tryz.ext Tryz.f263) func263 (by kernel_rfl) (by kernel_rfl) (by kernel_rfl) (by kernel_rfl);have J:=Tryz.qP;have G:=Tryz.jP;have I:=Tryz.bL;have C:=run_eql_iface_ptr_same (P:=prog) w a underlying71 underlying309 D A E;go_enter func52,ntmps52;go_wp2;refine wp_loop_rounds 1 ?_;rw[rounds_succ];go_wp2;go_ret;exact⟨rfl,rfl⟩
theorem zAm(a b:Addr)(ca cb:Array Value)(ta tb:TypeId)(w:World)(hne:a≠b)(ha:w.heap[a.block]? =some (.cells ca ta (0,0)))(hb:w.heap[b.block]? =some (.cells cb tb (0,0))):
 Cl 52 #[.iface 309 (.pointer (some a)),.iface 309 (.pointer (some b))] w fun e w'=>e=rB false∧w'=w:=by
 obtain⟨i,E,A⟩:=Option.map_eq_some_iff.1 Tryz.isComp;obtain⟨j,F,B⟩:=Option.map_eq_some_iff.1 Tryz.isSize;have H:= @run_callFunc_extern prog 81 _ (Tryz.ext Tryz.f81) func81 (by kernel_rfl) (by kernel_rfl) (by kernel_rfl) (by kernel_rfl);have C:= @run_callFunc_extern prog 263 _ (Tryz.ext Tryz.f263) func263 (by kernel_rfl) (by kernel_rfl) (by kernel_rfl) (by kernel_rfl);have K:=Tryz.qP;have G:=Tryz.jP;have I:=Tryz.bL;have J:=Tryz.noIsE;have L:=Tryz.sG;have M:=Tryz.pF;have D:=run_eql_iface_ptr_other (P:=prog) w underlying71 underlying309 E A F (by rw[B];decide) hne ha hb;go_enter func52,ntmps52;go_wp2;refine wp_loop_rounds 1 ?_;rw[rounds_succ];go_wp2;go_ret;exact⟨rfl,rfl⟩
theorem zP3(pb po:Nat)(v:Value)(w:World)(h1:w.cell? (iA pb (po+1))=some v):
 Cl 246 #[.pointer (some (iA pb po))] w fun e w'=>e=.returned v∧w'=w:=by
 go_enter func246,ntmps246;go_wp2;go_ret;exact⟨rfl,rfl⟩
theorem zEi(pb po:Nat)(b:Addr)(w:World)(h1:w.cell? (iA pb (po+1))=some (.iface 309 (.pointer (some b)))):
 Cl 52 #[.iface 124 (.pointer (some (iA pb po))),.iface 309 (.pointer (some b))] w fun e w'=>e=rB true∧w'=w:=by
 obtain⟨i,D,A⟩:=Option.map_eq_some_iff.1 Tryz.isComp;obtain⟨j,E,F⟩:=Option.map_eq_some_iff.1 Tryz.isSize;have I:= @run_callFunc_extern prog 81 _ (Tryz.ext Tryz.f81) func81 (by kernel_rfl) (by kernel_rfl) (by kernel_rfl) (by kernel_rfl);have B:= @run_callFunc_extern prog 263 _ (Tryz.ext Tryz.f263) func263 (by kernel_rfl) (by kernel_rfl) (by kernel_rfl) (by kernel_rfl);have N:=Tryz.qP;have H:=Tryz.jP;have J:=Tryz.bL;have L:=Tryz.noIsE;have O:=Tryz.sG;have S:=Tryz.pF;have M:=Tryz.noIsW;have R:=Tryz.hasUnwrapW;have K:=Tryz.wY;have C:=run_eql_iface_ptr_same (P:=prog) w b underlying71 underlying309 D A E;have G:=run_eql_iface_types (P:=prog) 124 309 (.pointer (some (iA pb po))) (.pointer (some b)) underlying71 (by decide) w;go_enter func52,ntmps52;go_wp2;refine wp_loop_rounds 2 ?_;rw[rounds_succ];go_wp2;rw[rounds_succ];go_wp2;go_ret;exact⟨rfl,rfl⟩
theorem tZ(pb po:Nat)(b a:Addr)(ca cb:Array Value)(ta tb:TypeId)(w:World)(h1:w.cell? (iA pb (po+1))=some (.iface 309 (.pointer (some a))))(hne:a≠b)(ha:w.heap[a.block]? =some (.cells ca ta (0,0)))(hb:w.heap[b.block]? =some (.cells cb tb (0,0))):
 Cl 52 #[.iface 124 (.pointer (some (iA pb po))),.iface 309 (.pointer (some b))] w fun e w'=>e=rB false∧w'=w:=by
 obtain⟨i,E,A⟩:=Option.map_eq_some_iff.1 Tryz.isComp;obtain⟨j,F,B⟩:=Option.map_eq_some_iff.1 Tryz.isSize;have I:= @run_callFunc_extern prog 81 _ (Tryz.ext Tryz.f81) func81 (by kernel_rfl) (by kernel_rfl) (by kernel_rfl) (by kernel_rfl);have C:= @run_callFunc_extern prog 263 _ (Tryz.ext Tryz.f263) func263 (by kernel_rfl) (by kernel_rfl) (by kernel_rfl) (by kernel_rfl);have N:=Tryz.qP;have H:=Tryz.jP;have J:=Tryz.bL;have L:=Tryz.noIsE;have O:=Tryz.sG;have S:=Tryz.pF;have M:=Tryz.noIsW;have R:=Tryz.hasUnwrapW;have K:=Tryz.wY;have D:=run_eql_iface_ptr_other (P:=prog) w underlying71 underlying309 E A F (by rw[B];decide) hne ha hb;have G:=run_eql_iface_types (P:=prog) 124 309 (.pointer (some (iA pb po))) (.pointer (some b)) underlying71 (by decide) w;go_enter func52,ntmps52;go_wp2;refine wp_loop_rounds 2 ?_;rw[rounds_succ];go_wp2;rw[rounds_succ];go_wp2;go_ret;exact⟨rfl,rfl⟩
theorem Tryz.valueOfPP(t:Addr)(w:World):(Tryz.ext Tryz.f83 #[.iface 126 (.pointer (some t))]).run prog w
 =.ok (.agg #[.pointer (some (iA 11 126)),iP w.heap.size,.int .u64 150]) (w.alloc (.cells #[.pointer (some t)] 126)):=by kernel_rfl
theorem Tryz.typePP(a:Addr)(w:World):(Tryz.ext Tryz.f84 #[.agg #[.pointer (some (iA 11 126)),.pointer (some a),.int .u64 150]]).run prog w
 =.ok (.iface 222 (.agg #[.pointer (some (iA 11 126))])) w:=by kernel_rfl
theorem Tryz.methodKind(h:Value)(w:World):(Go.method 442 222 (.agg #[h]) "Kind").run prog w=.ok (241,h) w:=by kernel_rfl
theorem Tryz.kindPP(w:World):(Tryz.ext Tryz.f241 #[.pointer (some (iA 11 126))]).run prog w=.ok (.int .u8 22) w:=by kernel_rfl
theorem Tryz.kindP(w:World):(Tryz.ext Tryz.f241 #[.pointer (some (iA 11 124))]).run prog w=.ok (.int .u8 22) w:=by kernel_rfl
theorem Tryz.methodElem(h:Value)(w:World):(Go.method 442 222 (.agg #[h]) "Elem").run prog w=.ok (264,.agg #[h]) w:=by kernel_rfl
theorem Tryz.nS(h:Value)(w:World):(Go.method 442 222 (.agg #[h]) "Implements").run prog w=.ok (265,.agg #[h]) w:=by kernel_rfl
theorem Tryz.kP(h:Value)(w:World):(Go.method 442 222 (.agg #[h]) "AssignableTo").run prog w=.ok (262,.agg #[h]) w:=by kernel_rfl
theorem Tryz.elemPP(w:World):(Tryz.ext Tryz.f264 #[.agg #[.pointer (some (iA 11 126))]]).run prog w=.ok (.iface 222 (.agg #[.pointer (some (iA 11 124))])) w:=by kernel_rfl
theorem Tryz.implementsP(w:World):(Tryz.ext Tryz.f265 #[.agg #[.pointer (some (iA 11 124))],.iface 222 (.agg #[.pointer (some (iA 11 71))])]).run prog w=.ok (.bool true) w:=by kernel_rfl
theorem Tryz.typeOfP(v:Value)(w:World):(Tryz.ext Tryz.f81 #[.iface 124 v]).run prog w=.ok (.iface 222 (.agg #[.pointer (some (iA 11 124))])) w:=by kernel_rfl
theorem Tryz.assignableP(w:World):(Tryz.ext Tryz.f262 #[.agg #[.pointer (some (iA 11 124))],.iface 222 (.agg #[.pointer (some (iA 11 124))])]).run prog w=.ok (.bool true) w:=by kernel_rfl
theorem Tryz.assignableE(w:World):(Tryz.ext Tryz.f262 #[.agg #[.pointer (some (iA 11 309))],.iface 222 (.agg #[.pointer (some (iA 11 124))])]).run prog w=.ok (.bool false) w:=by kernel_rfl
theorem Tryz.valueOfP(e:Addr)(w:World):(Tryz.ext Tryz.f83 #[.iface 124 (.pointer (some e))]).run prog w
 =.ok (.agg #[.pointer (some (iA 11 124)),iP w.heap.size,.int .u64 150]) (w.alloc (.cells #[.pointer (some e)] 124)):=by kernel_rfl
theorem Tryz.extIsNil:Tryz.ext Tryz.f85=ReflectliteValue.method (ReflectliteValue.valueError "reflectlite.Value.IsNil" 0) ReflectliteValue.isNil:=by kernel_rfl
theorem Tryz.extElemV:Tryz.ext Tryz.f119=ReflectliteValue.method (ReflectliteValue.valueError "reflectlite.Value.Elem" 0) ReflectliteValue.elem:=by kernel_rfl
theorem Tryz.extSet:Tryz.ext Tryz.f120=ReflectliteValue.set:=by kernel_rfl
theorem rlm(z:Sem Value)(f:TypeId→Addr→Nat→Nat→Sem Value)(v:Value):
 ReflectliteValue.method z f #[v]=(do match←ReflectliteValue.parts v with|none=>z|some (t,a,fl)=>f t a fl (fl % 32)):=rfl
theorem Tryz.partsPP(a:Addr)(w:World):(ReflectliteValue.parts (.agg #[.pointer (some (iA 11 126)),.pointer (some a),.int .u64 150])).run prog w=.ok (some (126,a,150)) w:=by kernel_rfl
theorem Tryz.isNilPP(a p:Addr)(W:World)(ha:W.cell? a=some (.pointer (some p))):
 (Tryz.ext Tryz.f85 #[.agg #[.pointer (some (iA 11 126)),.pointer (some a),.int .u64 150]]).run prog W=.ok (.bool false) W:=by
 rw[Tryz.extIsNil,rlm];simp only[Sem.run_bind,Tryz.partsPP,Result.andThen];simp[ReflectliteValue.isNil,loadVar,isAgg,underlying,underlying126,ha,Result.andThen]
theorem Tryz.elemOfPP(w:World):(Rtype.elem? 126).run prog w=.ok (some 124) w:=by kernel_rfl
theorem Tryz.mkP(p:Addr)(w:World):(ReflectliteValue.mk 124 p ReflectliteValue.flagAddr).run prog w=.ok (.agg #[.pointer (some (iA 11 124)),.pointer (some p),.int .u64 406]) w:=by kernel_rfl
theorem Tryz.elemVPP(a p:Addr)(W:World)(ha:W.cell? a=some (.pointer (some p))):
 (Tryz.ext Tryz.f119 #[.agg #[.pointer (some (iA 11 126)),.pointer (some a),.int .u64 150]]).run prog W
  =.ok (.agg #[.pointer (some (iA 11 124)),.pointer (some p),.int .u64 406]) W:=by
 rw[Tryz.extElemV,rlm];simp only[Sem.run_bind,Tryz.partsPP,Result.andThen];simp[ReflectliteValue.elem,loadVar,isAgg,underlying,underlying126,ha,Result.andThen,Tryz.elemOfPP,Tryz.mkP]
theorem rls(v x:Value):ReflectliteValue.set #[v,x]=(do
 let (some (dst,a,fl),some (src,b,_)):=(←ReflectliteValue.parts v,←ReflectliteValue.parts x)
  |unsupported (.noEntry "extern/(internal/reflectlite.Value).Set.zeroValue")
 if fl / ReflectliteValue.flagAddr % 2 == 0 then unsupported (.noEntry "extern/(internal/reflectlite.Value).Set.unaddressable")
 let val←loadVar src b
 if←Rtype.directlyAssignable dst src then storeVar dst a val
 else if←Rtype.implements dst src then
  if(←Rtype.kind src) == 20 then
   match val with
   | .nilIface=>unsupported (.noEntry "extern/reflectlite: a nil value of one interface type handed on as a value of another")
   |_=>storeVar dst a val
  else storeVar dst a (.iface src val)
 else panicString ("reflectlite.Set: value of type " ++(←Rtype.spelt src)++ " is not assignable to type " ++(←Rtype.spelt dst))
 pure (.tuple #[])):=rfl
theorem Tryz.partsPa(a:Addr)(w:World):(ReflectliteValue.parts (.agg #[.pointer (some (iA 11 124)),.pointer (some a),.int .u64 406])).run prog w=.ok (some (124,a,406)) w:=by kernel_rfl
theorem Tryz.partsP(a:Addr)(w:World):(ReflectliteValue.parts (.agg #[.pointer (some (iA 11 124)),.pointer (some a),.int .u64 150])).run prog w=.ok (some (124,a,150)) w:=by kernel_rfl
theorem Tryz.directP(w:World):(Rtype.directlyAssignable 124 124).run prog w=.ok true w:=by kernel_rfl
theorem Tryz.setP(ta b e:Addr)(old:Value)(W:World)(hb:W.cell? b=some (.pointer (some e)))(ht:W.cell? ta=some old)(hf:W.frozen? ta=false):
 (Tryz.ext Tryz.f120 #[.agg #[.pointer (some (iA 11 124)),.pointer (some ta),.int .u64 406],.agg #[.pointer (some (iA 11 124)),.pointer (some b),.int .u64 150]]).run prog W
  =.ok (.tuple #[]) (W.setCell ta (.pointer (some e))):=by
 rw[Tryz.extSet,rls];simp only[Sem.run_bind,Tryz.partsPa,Tryz.partsP,Result.andThen];simp[ReflectliteValue.flagAddr,loadVar,isAgg,underlying,underlying124,hb,Result.andThen,Tryz.directP,storeVar,Value.cells,storeCells,Addr.add];rw[run_store prog W ta _ _ (by rfl)];simp[ht,hf]
theorem zA{a:Addr}{v:Value}(h:w.cell? a=some v):a.block<w.heap.size:=by
 rcases Nat.lt_or_ge a.block w.heap.size with A |A
 ·exact A
 simp[World.cell?,Array.getElem?_eq_none A]at h
theorem zEj(t:Value)(w:World):
 Cl 53 #[.nilIface,t] w fun e w'=>e=rB false∧w'=w:=by
 go_enter func53,ntmps53;go_wp2;go_ret;exact⟨rfl,rfl⟩
theorem zEk(e t:Addr)(old:Value)(w:World)(hg:w.cell? (iA 8 0)=some (.iface 222 (.agg #[.pointer (some (iA 11 71))])))(ht0:w.cell? t=some old)(hf0:w.frozen? t=false):
 Cl 53 #[.iface 124 (.pointer (some e)),.iface 126 (.pointer (some t))] w fun ev w'=>ev=rB true∧w'=((((w.alloc (.cells #[.pointer (some t)] 126)).alloc (.cells #[.pointer (some (iA 11 126)),iP w.heap.size,.int .u64 150] 182)).alloc (.cells #[.pointer (some (iA 11 126)),iP w.heap.size,.int .u64 150] 182)).alloc (.cells #[.pointer (some e)] 124)).setCell t (.pointer (some e)):=by
 have V:= @run_callFunc_extern prog 83 _ (Tryz.ext Tryz.f83) func83 (by kernel_rfl) (by kernel_rfl) (by kernel_rfl) (by kernel_rfl);have X:= @run_callFunc_extern prog 84 _ (Tryz.ext Tryz.f84) func84 (by kernel_rfl) (by kernel_rfl) (by kernel_rfl) (by kernel_rfl);have Y:= @run_callFunc_extern prog 85 _ (Tryz.ext Tryz.f85) func85 (by kernel_rfl) (by kernel_rfl) (by kernel_rfl) (by kernel_rfl);have H:= @run_callFunc_extern prog 241 _ (Tryz.ext Tryz.f241) func241 (by kernel_rfl) (by kernel_rfl) (by kernel_rfl) (by kernel_rfl);have J:= @run_callFunc_extern prog 264 _ (Tryz.ext Tryz.f264) func264 (by kernel_rfl) (by kernel_rfl) (by kernel_rfl) (by kernel_rfl);have K:= @run_callFunc_extern prog 265 _ (Tryz.ext Tryz.f265) func265 (by kernel_rfl) (by kernel_rfl) (by kernel_rfl) (by kernel_rfl)
 have E:= @run_callFunc_extern prog 81 _ (Tryz.ext Tryz.f81) func81 (by kernel_rfl) (by kernel_rfl) (by kernel_rfl) (by kernel_rfl);have I:= @run_callFunc_extern prog 262 _ (Tryz.ext Tryz.f262) func262 (by kernel_rfl) (by kernel_rfl) (by kernel_rfl) (by kernel_rfl);have F:= @run_callFunc_extern prog 119 _ (Tryz.ext Tryz.f119) func119 (by kernel_rfl) (by kernel_rfl) (by kernel_rfl) (by kernel_rfl);have G:= @run_callFunc_extern prog 120 _ (Tryz.ext Tryz.f120) func120 (by kernel_rfl) (by kernel_rfl) (by kernel_rfl) (by kernel_rfl);have h:=Tryz.typeOfP;have C:=Tryz.assignableP;have R:=Tryz.valueOfP;have Z:=Tryz.kP;have T:=Tryz.valueOfPP;have U:=Tryz.typePP;have d:=Tryz.methodKind;have b:=Tryz.methodElem;have c:=Tryz.nS;have O:=Tryz.kindPP;have N:=Tryz.kindP;have D:=Tryz.elemPP;have M:=Tryz.implementsP
 have f:=Tryz.isNilPP (iA w.heap.size 0) t ((w.alloc (.cells #[.pointer (some t)] 126)).alloc (.cells #[.pointer (some (iA 11 126)),iP w.heap.size,.int .u64 150] 182)) (by simp);have B:8<w.heap.size:=zA hg;have L:((w.alloc (.cells #[.pointer (some t)] 126)).alloc (.cells #[.pointer (some (iA 11 126)),iP w.heap.size,.int .u64 150] 182)).cell? (iA 8 0)=some (.iface 222 (.agg #[.pointer (some (iA 11 71))])):=by
  rw[World.cell?_alloc_lt _ _ (iA 8 0) (by simp;omega),World.cell?_alloc_lt _ _ (iA 8 0) B];exact hg
 have A:t.block<w.heap.size:=zA ht0;have S:=Tryz.elemVPP (iA w.heap.size 0) t (((w.alloc (.cells #[.pointer (some t)] 126)).alloc (.cells #[.pointer (some (iA 11 126)),iP w.heap.size,.int .u64 150] 182)).alloc (.cells #[.pointer (some (iA 11 126)),iP w.heap.size,.int .u64 150] 182)) (by rw[World.cell?_alloc_lt _ _ (iA w.heap.size 0) (by simp;omega)];simp);have g:=Tryz.setP t (iA (w.heap.size+1+1+1) 0) e old ((((w.alloc (.cells #[.pointer (some t)] 126)).alloc (.cells #[.pointer (some (iA 11 126)),iP w.heap.size,.int .u64 150] 182)).alloc (.cells #[.pointer (some (iA 11 126)),iP w.heap.size,.int .u64 150] 182)).alloc (.cells #[.pointer (some e)] 124))
  (by rw[World.cell?_alloc_at _ _ _ _ (by simp)];rfl)
  (by rw[World.cell?_alloc_lt _ _ t (by simp;omega),World.cell?_alloc_lt _ _ t (by simp;omega),World.cell?_alloc_lt _ _ t (by simp;omega),World.cell?_alloc_lt _ _ t A];exact ht0)
  (by rw[World.frozen?_alloc_old _ _ t (by simp;omega),World.frozen?_alloc_old _ _ t (by simp;omega),World.frozen?_alloc_old _ _ t (by simp;omega),World.frozen?_alloc_old _ _ t (Nat.ne_of_lt A)];exact hf0)
 go_enter func53,ntmps53;go_wp2;refine wp_loop_rounds 1 ?_;rw[rounds_succ];go_wp2;go_ret;exact⟨rfl,rfl⟩
theorem zEl(e t:Addr)(old:Value)(w:World)(hg:w.cell? (iA 8 0)=some (.iface 222 (.agg #[.pointer (some (iA 11 71))])))(ht0:w.cell? t=some old):
 Cl 53 #[.iface 309 (.pointer (some e)),.iface 126 (.pointer (some t))] w fun ev w'=>ev=rB false∧w'=(((w.alloc (.cells #[.pointer (some t)] 126)).alloc (.cells #[.pointer (some (iA 11 126)),iP w.heap.size,.int .u64 150] 182)).alloc (.cells #[.pointer (some (iA 11 126)),iP w.heap.size,.int .u64 150] 182)):=by
 have U:= @run_callFunc_extern prog 83 _ (Tryz.ext Tryz.f83) func83 (by kernel_rfl) (by kernel_rfl) (by kernel_rfl) (by kernel_rfl);have V:= @run_callFunc_extern prog 84 _ (Tryz.ext Tryz.f84) func84 (by kernel_rfl) (by kernel_rfl) (by kernel_rfl) (by kernel_rfl);have X:= @run_callFunc_extern prog 85 _ (Tryz.ext Tryz.f85) func85 (by kernel_rfl) (by kernel_rfl) (by kernel_rfl) (by kernel_rfl);have G:= @run_callFunc_extern prog 241 _ (Tryz.ext Tryz.f241) func241 (by kernel_rfl) (by kernel_rfl) (by kernel_rfl) (by kernel_rfl);have I:= @run_callFunc_extern prog 264 _ (Tryz.ext Tryz.f264) func264 (by kernel_rfl) (by kernel_rfl) (by kernel_rfl) (by kernel_rfl);have J:= @run_callFunc_extern prog 265 _ (Tryz.ext Tryz.f265) func265 (by kernel_rfl) (by kernel_rfl) (by kernel_rfl) (by kernel_rfl)
 have D:= @run_callFunc_extern prog 81 _ (Tryz.ext Tryz.f81) func81 (by kernel_rfl) (by kernel_rfl) (by kernel_rfl) (by kernel_rfl);have H:= @run_callFunc_extern prog 262 _ (Tryz.ext Tryz.f262) func262 (by kernel_rfl) (by kernel_rfl) (by kernel_rfl) (by kernel_rfl);have E:= @run_callFunc_extern prog 119 _ (Tryz.ext Tryz.f119) func119 (by kernel_rfl) (by kernel_rfl) (by kernel_rfl) (by kernel_rfl);have F:= @run_callFunc_extern prog 120 _ (Tryz.ext Tryz.f120) func120 (by kernel_rfl) (by kernel_rfl) (by kernel_rfl) (by kernel_rfl);have g:=Tryz.qP;have B:=Tryz.assignableE;have f:=Tryz.noAsE;have h:=Tryz.sG;have i:=Tryz.pF;have Y:=Tryz.kP;have S:=Tryz.valueOfPP;have T:=Tryz.typePP;have c:=Tryz.methodKind;have Z:=Tryz.methodElem;have b:=Tryz.nS;have O:=Tryz.kindPP;have N:=Tryz.kindP;have C:=Tryz.elemPP;have M:=Tryz.implementsP
 have d:=Tryz.isNilPP (iA w.heap.size 0) t ((w.alloc (.cells #[.pointer (some t)] 126)).alloc (.cells #[.pointer (some (iA 11 126)),iP w.heap.size,.int .u64 150] 182)) (by simp);have A:8<w.heap.size:=zA hg;have K:((w.alloc (.cells #[.pointer (some t)] 126)).alloc (.cells #[.pointer (some (iA 11 126)),iP w.heap.size,.int .u64 150] 182)).cell? (iA 8 0)=some (.iface 222 (.agg #[.pointer (some (iA 11 71))])):=by
  rw[World.cell?_alloc_lt _ _ (iA 8 0) (by simp;omega),World.cell?_alloc_lt _ _ (iA 8 0) A];exact hg
 have L:t.block<w.heap.size:=zA ht0;have R:=Tryz.elemVPP (iA w.heap.size 0) t (((w.alloc (.cells #[.pointer (some t)] 126)).alloc (.cells #[.pointer (some (iA 11 126)),iP w.heap.size,.int .u64 150] 182)).alloc (.cells #[.pointer (some (iA 11 126)),iP w.heap.size,.int .u64 150] 182)) (by rw[World.cell?_alloc_lt _ _ (iA w.heap.size 0) (by simp;omega)];simp);go_enter func53,ntmps53;go_wp2;refine wp_loop_rounds 1 ?_;rw[rounds_succ];go_wp2;go_ret;exact⟨rfl,rfl⟩
end
end Go.Proofs.YtehmdohpmpbnnaaGreatDoor
