import Derived.Below
import Derived.Test.YtanfmhonjpjpoaaGreatDoorProg
import Derived.WalkKit
set_option linter.all false
set_option maxRecDepth 100000
set_option maxHeartbeats 8000000
namespace Go.Proofs.YtanfmhonjpjpoaaGreatDoor
abbrev iV(x:Int):Value:=.int .i64 x
abbrev iP(b:Nat):Value:=.pointer (some ⟨b,0,none⟩)
abbrev iA(b o:Nat):Addr:=⟨b,o,none⟩
abbrev sI(x:Int):Option Value:=some (.int .i64 x)
abbrev cI(w:World)(b o:Nat)(x:Int):Prop:=w.cell? ⟨b,o,none⟩=some (.int .i64 x)
abbrev sL(g n c:Nat):Value:=.slice (some ⟨g,0,none⟩) n c
abbrev rB(b:Bool):Ending:=.returned (.bool b)
abbrev rV(l:Array Value):Ending:=.returned (.tuple l)
abbrev Cl(f:FuncId)(a:Array Value)(w:World)(R:Ending→World→Prop):Prop:=Go.Calls Tryz.prog f a w R
abbrev Bw(w w':World):Prop:=Go.RowKit.Below w.heap.size w w'
abbrev o7(k:Nat→Int):Obj:=.cells #[.int .i64 (k 0),.int .i64 (k 1),.int .i64 (k 2),.int .i64 (k 3),.int .i64 (k 4),.int .i64 (k 5),.int .i64 (k 6)] 73
theorem hid{p:Prop}(h:p):Go.RowKit.Hid p:=h
open Go
def byteOf(v:Int):UInt8:=UInt8.ofNat (v % 256).toNat
def be:Nat→Int→List UInt8
 |0,_=> []
 |n+1,v=>be n (v / 256)++ [byteOf v]
theorem zA2(n:Nat): ∀v,(be n v).length=n:=by
 induction n with
 |zero=>intro v;rfl
 |succ n ih=>intro v;simp[be,ih]
theorem zCd(n:Nat): ∀v,be (n+1) v=byteOf (v / 256 ^ n)::be n v:=by
 induction n with
 |zero=>intro v;simp[be]
 |succ n ih=>
  intro v;have h:v / 256 / 256 ^ n=v / 256 ^ (n+1):=by
   rw[Int.ediv_ediv_of_nonneg (by omega),Int.pow_succ,Int.mul_comm]
  rw[be,ih,h,be];rfl
def val:List UInt8→Int:=List.foldl (fun v b=>256*v+(b.toNat:Int)) 0
theorem zDb(l:List UInt8)(b:UInt8):val (l++ [b])=256*val l+b.toNat:=by simp[val,List.foldl_append]
theorem zJa(l:List UInt8): ∀v:Int,0≤v→0≤l.foldl (fun v b=>256*v+(b.toNat:Int)) v:=by
 induction l with
 |nil=>intro v h;exact h
 |cons a l ih=>intro v h;exact ih (256*v+(a.toNat:Int)) (by omega)
theorem zBb(l:List UInt8):0≤val l:=zJa l 0 (by omega)
theorem zJb(l:List UInt8): ∀(v:Int) (k:Nat),v<256 ^ k→l.foldl (fun v b=>256*v+(b.toNat:Int)) v<256 ^ (k+l.length):=by
 induction l with
 |nil=>intro v k h;exact h
 |cons a l ih=>
  intro v k h;have:=ih (256*v+a.toNat) (k+1) (by have:=a.toNat_lt;rw[Int.pow_succ];omega);simpa [Nat.add_comm,Nat.add_left_comm,Nat.add_assoc] using this
theorem zJc(l:List UInt8):val l<256 ^ l.length:=by
 have:=zJb l 0 0 (by omega);simpa [val] using this
theorem zBc(l:List UInt8)(h:l.length≤4):val l<4294967296:=by
 have h1:=zJc l;have h2:l.length=0∨l.length=1∨l.length=2∨l.length=3∨l.length=4:=by omega
 rcases h2 with e|e|e|e|e<;>rw[e]at h1<;>omega
theorem zJd(s:ByteArray)(k:Nat)(h:k<s.size):s.data.toList.take (k+1)=s.data.toList.take k++ [s[k]]:=by
 rw[List.take_succ_eq_append_getElem (by simpa using h)];rfl
theorem zAc(l m:List UInt8):(⟨l.toArray⟩:ByteArray)++ ⟨m.toArray⟩=⟨(l++m).toArray⟩:=by
 apply ByteArray.ext;simp
theorem zJe(v m:Int):byteOf (v+256*m)=byteOf v:=by
 unfold byteOf;rw[Int.add_mul_emod_self_left]
theorem zEn(n:Nat): ∀v m:Int,be n (v+m*256 ^ n)=be n v:=by
 induction n with
 |zero=>intro v m;rfl
 |succ n ih=>
  intro v m;have e:v+m*256 ^ (n+1)=v+256*(m*256 ^ n):=by rw[Int.pow_succ];rw[←Int.mul_assoc,Int.mul_comm (m*256 ^ n) 256]
  rw[be,be,e,zJe,Int.add_mul_ediv_left _ _ (by omega),ih]
theorem zEo(v:Int)(k:Nat):v / 256 ^ k / 256=v / 256 ^ (k+1):=by
 rw[Int.ediv_ediv_of_nonneg (Int.pow_nonneg (by omega)),Int.pow_succ]
end Go.Proofs.YtanfmhonjpjpoaaGreatDoor
