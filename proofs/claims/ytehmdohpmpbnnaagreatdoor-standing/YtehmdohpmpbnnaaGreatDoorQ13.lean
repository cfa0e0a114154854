import Derived.Test.YtehmdohpmpbnnaaGreatDoorQ00
import Derived.Test.YtehmdohpmpbnnaaGreatDoorQ11
set_option linter.all false
set_option maxRecDepth 100000
set_option maxHeartbeats 8000000
namespace Go.Proofs.YtehmdohpmpbnnaaGreatDoor
open Go.Proofs.Tryz
open Go.Extern Go.RowKit
def RecsBack(s:ByteArray)(B:Nat)(w':World)(k:Nat)(n:Int)(e:Ending):Prop:=
 (n=0∧∃v,e=rV #[v,iV 0,iV (-1)]∧((v=.slice none 0 0∧k=0)∨∃g,v=sL g k k∧∃cap,w'.ownsRow B 55 7 (sL g k cap) k (qy s k)))∨
 (n≠0∧e=rV #[.slice none 0 0,iV n,iV (k:Int)])
theorem zF0(a:Nat→Addr)(st:Nat→ByteArray)(s:ByteArray)(w:World)(hE:lq w a st)(hm:s.size≤1000000000):
 Cl 33 #[.string s] w fun e w'=> ∃(k:Nat) (n:Int),aS s k n∧Below w.heap.size w w'∧
  ((n=0∧∃v,e=rV #[v,.nilIface]∧((v=.slice none 0 0∧k=0)∨∃g cap,v=sL g k k∧w'.ownsRow w.heap.size 55 7 (sL g k cap) k (qy s k)))∨
   (n≠0∧∃err,e=rV #[.slice none 0 0,err]∧xD w' a err n k)):=by
 go_enter func33,ntmps33;go_wp2_with fail;refine(zEz a st s _ hE hm).mono ?_;rintro e K ⟨k,n,H,D,h⟩;have C:=hid H;rcases h with⟨rfl,v,rfl,J⟩|⟨I,err,rfl,B⟩
 ·have A:=hid J;go_wp2;go_ret2;refine⟨k,0,C,D,.inl ⟨rfl,v,rfl,?_⟩⟩;rcases A.o with h|⟨g,cap,F,G⟩
  ·exact .inl h
  exact .inr ⟨g,cap,F,G⟩
 have E:=hid I;go_wp2;go_ret2;exact⟨k,n,C,D,.inr ⟨E,err,rfl,B⟩⟩
theorem nU(a:Nat→Addr)(st:Nat→ByteArray)(s:ByteArray)(w:World)(hE:lq w a st)(hm:s.size≤1000000000):
 Cl 19 #[.string s] w fun e w'=> ∃(k:Nat) (n:Int),aS s k n∧Below w.heap.size w w'∧RecsBack s w.heap.size w' k n e:=by
 go_enter func19,ntmps19;go_wp2_with fail;refine(zF0 a st s _ hE hm).mono ?_;rintro e R ⟨k,n,L,A,h⟩;have H:=hid L;have E:=hE.below A;rcases h with⟨rfl,v,rfl,N⟩|⟨M,D,rfl,G⟩
 ·have B:=hid N;go_wp2_with fail;refine(kR _).mono ?_;rintro e O ⟨rfl,rfl⟩;go_wp2;go_ret3;refine⟨k,0,H,A,.inl ⟨rfl,v,rfl,?_⟩⟩;rcases B.o with h|⟨g,C,J,K⟩
  ·exact .inl h
  exact .inr ⟨g,J,C,K⟩
 have I:=hid M;go_wp2_with fail;refine(vU a st D n (k:Int) _ E G).mono ?_;rintro e O ⟨rfl,F⟩;go_wp2;go_ret3;exact⟨k,n,H,A.trans (F.mono A.size),.inr ⟨I,rfl⟩⟩
end Go.Proofs.YtehmdohpmpbnnaaGreatDoor
