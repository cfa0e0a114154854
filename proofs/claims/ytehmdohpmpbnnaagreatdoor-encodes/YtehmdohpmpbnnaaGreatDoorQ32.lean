import Derived.Test.YtehmdohpmpbnnaaGreatDoorQ00
import Derived.Test.YtehmdohpmpbnnaaGreatDoorQ11
import Derived.Test.YtehmdohpmpbnnaaGreatDoorQ14
import Derived.Test.YtehmdohpmpbnnaaGreatDoorQ16
import Derived.Deep.CutRange
import Derived.Laws.Rows
set_option linter.all false
set_option maxRecDepth 100000
set_option maxHeartbeats 8000000
namespace Go.Proofs.YtehmdohpmpbnnaaGreatDoor
variable{A B Q:Nat}{mo:Bool}
open Go.Proofs.Tryz
open Go.Extern Go.RowKit
theorem zA2(n:Nat)(h:0<n):8388608≤jK n∧jK n<16777216:=by
 have A:n≠0:=by omega
 have E:=Nat.log2_self_le A;have F:=Nat.lt_log2_self (n:=n);unfold jK;split
 ·rename_i G;have C:2 ^ n.log2*2 ^ (23 - n.log2)=8388608:=by rw[←Nat.pow_add,show n.log2+(23 - n.log2)=23 by omega]
  have D:2 ^ (n.log2+1)* 2 ^ (23 - n.log2)=16777216:=by rw[←Nat.pow_add,show n.log2+1+(23 - n.log2)=24 by omega]
  have H:=Nat.mul_le_mul_right (2 ^ (23 - n.log2)) E;have I:=Nat.mul_lt_mul_of_pos_right F (Nat.two_pow_pos (23 - n.log2));omega
 rename_i G;have B:=Nat.two_pow_pos (n.log2 - 23);have C:8388608*2 ^ (n.log2 - 23)=2 ^ n.log2:=by rw[show(8388608:Nat)=2 ^ 23 by decide,←Nat.pow_add,show 23+(n.log2 - 23)=n.log2 by omega]
 have D:16777216*2 ^ (n.log2 - 23)=2 ^ (n.log2+1):=by rw[show(16777216:Nat)=2 ^ 24 by decide,←Nat.pow_add,show 24+(n.log2 - 23)=n.log2+1 by omega]
 have H:8388608≤n / 2 ^ (n.log2 - 23):=(Nat.le_div_iff_mul_le B).2 (by omega);have I:n / 2 ^ (n.log2 - 23)<16777216:=(Nat.div_lt_iff_lt_mul B).2 (by omega);split
 ·split
  ·omega
  omega
 omega
theorem zAb(n:Nat)(h:0<n)(h1:n<4611686018427387904): -23≤qH n∧qH n≤40:=by
 have A:n.log2<62:=(Nat.log2_lt (by omega)).2 (by simpa using h1);unfold qH;split
 ·omega
 split<;>omega
def bD(a b Q P:Nat):Bool:=decide (P / 2<Q % P) || (decide (Q % P=P / 2) && (decide (a*67108864 % b≠0) || decide (Q / P % 2=1)))
def qE(a b Q P:Nat)(x:Int):Int:=if bD a b Q P then(if Q / P+1=16777216 then(x+151)* 8388608 else((Q / P+1:Nat):Int) - 8388608+(x+150)* 8388608) else((Q / P:Nat):Int) - 8388608+(x+150)* 8388608
def rAvg(W V:Nat):Int:=if V=0 then 0 else
 (if jK W*67108864 / jK V<67108864 then qE (jK W) (jK V) (jK W*67108864 / jK V) 4 (qH W - qH V - 24) else qE (jK W) (jK V) (jK W*67108864 / jK V) 8 (qH W - qH V - 23))
theorem zJ8(hm:decide (A*67108864 % B≠0)=mo)(h2:(Q:Int) - (Q:Int) / 4*4=2)(h3:mo=true):bD A B Q 4=true:=by
 unfold bD;rw[hm,h3,decide_eq_true (show Q % 4=4 / 2 by omega)];simp
theorem zJ9(h2:(Q:Int) - (Q:Int) / 4*4=2)(h3:((Q:Int) / 4 % 2 == 1)=true):bD A B Q 4=true:=by
 unfold bD;rw[beq_iff_eq]at h3;rw[decide_eq_true (show Q % 4=4 / 2 by omega),decide_eq_true (show Q / 4 % 2=1 by omega)];simp
theorem zJa(h2:¬(Q:Int) - (Q:Int) / 4*4≤2):bD A B Q 4=true:=by
 unfold bD;rw[decide_eq_true (show 4 / 2<Q % 4 by omega)];rfl
theorem zJb(hm:decide (A*67108864 % B≠0)=mo)(h2:(Q:Int) - (Q:Int) / 4*4=2)(h3:¬mo=true)(h4:((Q:Int) / 4 % 2 == 1)=false):bD A B Q 4=false:=by
 unfold bD;rw[beq_eq_false_iff_ne]at h4;rw[hm,Bool.not_eq_true _ |>.mp h3,decide_eq_false (show¬4 / 2<Q % 4 by omega),decide_eq_false (show¬Q / 4 % 2=1 by omega)];simp
theorem zJc(h2:(Q:Int) - (Q:Int) / 4*4≤2)(h3:¬(Q:Int) - (Q:Int) / 4*4=2):bD A B Q 4=false:=by
 unfold bD;rw[decide_eq_false (show¬4 / 2<Q % 4 by omega),decide_eq_false (show¬Q % 4=4 / 2 by omega)];rfl
theorem zJd(hm:decide (A*67108864 % B≠0)=mo)(h2:(Q:Int) - (Q:Int) / 8*8=4)(h3:mo=true):bD A B Q 8=true:=by
 unfold bD;rw[hm,h3,decide_eq_true (show Q % 8=8 / 2 by omega)];simp
theorem zJe(h2:(Q:Int) - (Q:Int) / 8*8=4)(h3:((Q:Int) / 8 % 2 == 1)=true):bD A B Q 8=true:=by
 unfold bD;rw[beq_iff_eq]at h3;rw[decide_eq_true (show Q % 8=8 / 2 by omega),decide_eq_true (show Q / 8 % 2=1 by omega)];simp
theorem zJf(h2:¬(Q:Int) - (Q:Int) / 8*8≤4):bD A B Q 8=true:=by
 unfold bD;rw[decide_eq_true (show 8 / 2<Q % 8 by omega)];rfl
theorem zJg(hm:decide (A*67108864 % B≠0)=mo)(h2:(Q:Int) - (Q:Int) / 8*8=4)(h3:¬mo=true)(h4:((Q:Int) / 8 % 2 == 1)=false):bD A B Q 8=false:=by
 unfold bD;rw[beq_eq_false_iff_ne]at h4;rw[hm,Bool.not_eq_true _ |>.mp h3,decide_eq_false (show¬8 / 2<Q % 8 by omega),decide_eq_false (show¬Q / 8 % 2=1 by omega)];simp
theorem zJh(h2:(Q:Int) - (Q:Int) / 8*8≤4)(h3:¬(Q:Int) - (Q:Int) / 8*8=4):bD A B Q 8=false:=by
 unfold bD;rw[decide_eq_false (show¬8 / 2<Q % 8 by omega),decide_eq_false (show¬Q % 8=8 / 2 by omega)];rfl
theorem zJi{F:Nat→Prop}{base:Nat}{w:World}{b:Nat}{e:bf}{dv av:Value}(h:dn F base w b e dv av)(V W:Nat)(hV:e.gq=V)(hW:e.worth=W)(h1:W<4611686018427387904)(h2:V<4611686018427387904)(h3:0<V→0<W):
 Cl 48 #[iP b] w fun en w'=>en=.returned (iV (rAvg W V))∧w'=w:=by
 have l:cI w b 11 (W:Int):=by rw[←hW];exact h.cell 11
 have m:cI w b 12 (V:Int):=by rw[←hV];exact h.cell 12
 clear h hV hW;by_cases t:V=0
 ·subst t;clear h1 h2 h3;go_enter func48,ntmps48;go_wp2;go_ret;exact⟨rfl,rfl⟩
 have L:0<V:=by omega
 have u:((V:Int) == 0)=false:=by rw[beq_eq_false_iff_ne];omega
 have U:=hid (zC2 W (h3 L) h1 w);have T:=hid (zC2 V L h2 w);obtain⟨a1,a2⟩:=zA2 W (h3 L);obtain⟨b1,b2⟩:=zA2 V L;obtain⟨x,y⟩:=zAb W (h3 L) h1;obtain⟨z,y2⟩:=zAb V L h2;have j:Hd (rAvg W V=(if jK W*67108864 / jK V<67108864 then qE (jK W) (jK V) (jK W*67108864 / jK V) 4 (qH W - qH V - 24) else qE (jK W) (jK V) (jK W*67108864 / jK V) 8 (qH W - qH V - 23))):=by show _=_;unfold rAvg;rw[if_neg t]
 clear h1 h2 h3 t L;generalize hA:jK W=A at *;generalize hB:jK V=B at *;generalize hXX:qH W=X at *;generalize hYY:qH V=Y at *;clear hA hB hXX hYY;obtain⟨Q,R⟩:∃Q,Q=A*67108864 / B:=⟨_,rfl⟩;have O:0<B:=by omega
 have d:33554432≤Q:=by rw[R];exact(Nat.le_div_iff_mul_le O).2 (by omega)
 have f:Q<134217728:=by rw[R];exact(Nat.div_lt_iff_lt_mul O).2 (by omega)
 have HQ:=hid R;rw[←R]at j;have s:wrap64 (X - Y)=X - Y:=by unfold wrap64;omega
 have p:wrap64 ((A:Int)* 67108864)=((A*67108864:Nat):Int):=by unfold wrap64;omega
 have q:wrap64 (((A*67108864:Nat):Int).tdiv (B:Int))=(Q:Int):=by
  rw[Int.tdiv_eq_ediv_of_nonneg (Int.natCast_nonneg _)];have:((A*67108864:Nat):Int) / (B:Int)=(Q:Int):=by rw[R];rfl
  rw[this];unfold wrap64;omega
 go_enter func48,ntmps48;go_wp2_with fail;refine U.mono ?_;rintro en w1 ⟨rfl,rfl⟩;go_wp2_with fail;refine T.mono ?_;rintro en w2 ⟨rfl,rfl⟩;clear U T;go_wp2_with fail;clear s p q;have c:(A:Int)* 67108864 / (B:Int)=(Q:Int):=by rw[R];rfl
 rw[c];obtain⟨v,S⟩:∃v:Bool,v=((A:Int)* 67108864 % (B:Int) != 0):=⟨_,rfl⟩;have M:Hd (decide (A*67108864 % B≠0)=v):=by
  show _=_;rw[S];have e1:(A:Int)* 67108864 % (B:Int)=((A*67108864 % B:Nat):Int):=by simp
  rw[e1];cases hc:(A*67108864 % B) with
  |zero=>rfl
  |succ k=>simp;omega
 rw[←S];clear S c R l m u a1 a2 b1 b2 O;go_loopw [9] (fun kv wr'=> ∃k:Nat,kv=iV (k:Int)∧k≤3∧Hd (k=3→67108864≤Q)∧wr'=w2) (fun kv _=>4 - (intOf kv).toNat)
 case atStart=>exact⟨0,rfl,by omega,fun h=>by omega,rfl⟩
 case round=>
  obtain⟨k,rfl,Z,g,rfl⟩:=hrel;obtain rfl|rfl|rfl|rfl:k=0∨k=1∨k=2∨k=3:=by omega
  ·have N:(16777216:Int)≤(Q:Int):=by omega
   clear d f Z;go_wp2;go_roundw
   case rel=>exact⟨1,rfl,by omega,fun h=>by omega,by trivial⟩
   case measure=>simp[intOf]
  ·have N:(16777216:Int)≤(Q:Int) / 2:=by omega
   clear d f Z;go_wp2;go_roundw
   case rel=>exact⟨2,rfl,by omega,fun h=>by omega,by trivial⟩
   case measure=>simp[intOf]
  ·by_cases n:Q<67108864
   ·have N:¬(16777216:Int)≤(Q:Int) / 4:=by omega
    clear Z g;have i:Hd (rAvg W V=qE A B Q 4 (X - Y - 24)):=by show _=_;rw[j.o,if_pos (by omega)]
    have K:Hd (∀up:Bool,bD A B Q 4=up→rAvg W V=(if up then(if Q / 4+1=16777216 then((X - Y - 24)+151)* 8388608 else((Q / 4+1:Nat):Int) - 8388608+((X - Y - 24)+150)* 8388608) else((Q / 4:Nat):Int) - 8388608+((X - Y - 24)+150)* 8388608)):=fun up hup=>by
     rw[i.o];unfold qE;rw[hup]
    have H:Hd (8388608≤Q / 4∧Q / 4<16777216):=by show _∧_;omega
    have G:Hd (-23≤X∧X≤40∧-23≤Y∧Y≤40):=⟨x,y,z,y2⟩;clear d f n
    go_upto_region 18 with fail
    ·have D:Hd (bD A B Q 4=true):=zJ8 M.o (by assumption) (by assumption);by_cases C:Q / 4+1=16777216
     ·have E:=hid (K.o true D.o);rw[if_pos rfl,if_pos C]at E;have I:((Q:Int) / 4+1 == 16777216)=true:=by rw[beq_iff_eq];omega
      have J:=hid C;clear C;go_wp2;go_ret;refine⟨?_,rfl⟩;rw[E.o];have h1:=J.o;have h2:=G.o;show Ending.returned (Value.int IntKind.i64 _)=Ending.returned (Value.int IntKind.i64 _)
      congr 2
      omega
     have E:=hid (K.o true D.o);rw[if_pos rfl,if_neg C]at E;have I:((Q:Int) / 4+1 == 16777216)=false:=by rw[beq_eq_false_iff_ne];omega
     clear C;go_wp2;go_ret;refine⟨?_,rfl⟩;rw[E.o];have h1:=H.o;have h2:=G.o;show Ending.returned (Value.int IntKind.i64 _)=Ending.returned (Value.int IntKind.i64 _)
     congr 2
     omega
    ·have D:Hd (bD A B Q 4=true):=zJ9 (by assumption) (by assumption);by_cases C:Q / 4+1=16777216
     ·have E:=hid (K.o true D.o);rw[if_pos rfl,if_pos C]at E;have I:((Q:Int) / 4+1 == 16777216)=true:=by rw[beq_iff_eq];omega
      have J:=hid C;clear C;go_wp2;go_ret;refine⟨?_,rfl⟩;rw[E.o];have h1:=J.o;have h2:=G.o;show Ending.returned (Value.int IntKind.i64 _)=Ending.returned (Value.int IntKind.i64 _)
      congr 2
      omega
     have E:=hid (K.o true D.o);rw[if_pos rfl,if_neg C]at E;have I:((Q:Int) / 4+1 == 16777216)=false:=by rw[beq_eq_false_iff_ne];omega
     clear C;go_wp2;go_ret;refine⟨?_,rfl⟩;rw[E.o];have h1:=H.o;have h2:=G.o;show Ending.returned (Value.int IntKind.i64 _)=Ending.returned (Value.int IntKind.i64 _)
     congr 2
     omega
    ·have D:Hd (bD A B Q 4=false):=zJb M.o (by assumption) (by assumption) (by assumption);have E:=hid (K.o false D.o);rw[if_neg (by decide)]at E;have I:((Q:Int) / 4 == 16777216)=false:=by have:=H.o;rw[beq_eq_false_iff_ne];omega
     go_wp2;go_ret;refine⟨?_,rfl⟩;rw[E.o];have h1:=H.o;have h2:=G.o;show Ending.returned (Value.int IntKind.i64 _)=Ending.returned (Value.int IntKind.i64 _)
     congr 2
     omega
    ·have D:Hd (bD A B Q 4=false):=zJc (by assumption) (by assumption);have E:=hid (K.o false D.o);rw[if_neg (by decide)]at E;have I:((Q:Int) / 4 == 16777216)=false:=by have:=H.o;rw[beq_eq_false_iff_ne];omega
     go_wp2;go_ret;refine⟨?_,rfl⟩;rw[E.o];have h1:=H.o;have h2:=G.o;show Ending.returned (Value.int IntKind.i64 _)=Ending.returned (Value.int IntKind.i64 _)
     congr 2
     omega
    have D:Hd (bD A B Q 4=true):=zJa (by assumption);by_cases C:Q / 4+1=16777216
    ·have E:=hid (K.o true D.o);rw[if_pos rfl,if_pos C]at E;have I:((Q:Int) / 4+1 == 16777216)=true:=by rw[beq_iff_eq];omega
     have J:=hid C;clear C;go_wp2;go_ret;refine⟨?_,rfl⟩;rw[E.o];have h1:=J.o;have h2:=G.o;show Ending.returned (Value.int IntKind.i64 _)=Ending.returned (Value.int IntKind.i64 _)
     congr 2
     omega
    have E:=hid (K.o true D.o);rw[if_pos rfl,if_neg C]at E;have I:((Q:Int) / 4+1 == 16777216)=false:=by rw[beq_eq_false_iff_ne];omega
    clear C;go_wp2;go_ret;refine⟨?_,rfl⟩;rw[E.o];have h1:=H.o;have h2:=G.o;show Ending.returned (Value.int IntKind.i64 _)=Ending.returned (Value.int IntKind.i64 _)
    congr 2
    omega
   have N:(16777216:Int)≤(Q:Int) / 4:=by omega
   clear d f Z;go_wp2;go_roundw
   case rel=>exact⟨3,rfl,by omega,fun _=>by omega,by trivial⟩
   case measure=>simp[intOf]
  have N:¬(16777216:Int)≤(Q:Int) / 8:=by omega
  have n:¬Q<67108864:=by have:=g.o rfl;omega
  clear Z g;have i:Hd (rAvg W V=qE A B Q 8 (X - Y - 23)):=by show _=_;rw[j.o,if_neg (by omega)]
  have K:Hd (∀up:Bool,bD A B Q 8=up→rAvg W V=(if up then(if Q / 8+1=16777216 then((X - Y - 23)+151)* 8388608 else((Q / 8+1:Nat):Int) - 8388608+((X - Y - 23)+150)* 8388608) else((Q / 8:Nat):Int) - 8388608+((X - Y - 23)+150)* 8388608)):=fun up hup=>by
   rw[i.o];unfold qE;rw[hup]
  have H:Hd (8388608≤Q / 8∧Q / 8<16777216):=by show _∧_;omega
  have G:Hd (-23≤X∧X≤40∧-23≤Y∧Y≤40):=⟨x,y,z,y2⟩;clear d f n
  go_upto_region 18 with fail
  ·have D:Hd (bD A B Q 8=true):=zJd M.o (by assumption) (by assumption);by_cases C:Q / 8+1=16777216
   ·have E:=hid (K.o true D.o);rw[if_pos rfl,if_pos C]at E;have I:((Q:Int) / 8+1 == 16777216)=true:=by rw[beq_iff_eq];omega
    have J:=hid C;clear C;go_wp2;go_ret;refine⟨?_,rfl⟩;rw[E.o];have h1:=J.o;have h2:=G.o;show Ending.returned (Value.int IntKind.i64 _)=Ending.returned (Value.int IntKind.i64 _)
    congr 2
    omega
   have E:=hid (K.o true D.o);rw[if_pos rfl,if_neg C]at E;have I:((Q:Int) / 8+1 == 16777216)=false:=by rw[beq_eq_false_iff_ne];omega
   clear C;go_wp2;go_ret;refine⟨?_,rfl⟩;rw[E.o];have h1:=H.o;have h2:=G.o;show Ending.returned (Value.int IntKind.i64 _)=Ending.returned (Value.int IntKind.i64 _)
   congr 2
   omega
  ·have D:Hd (bD A B Q 8=true):=zJe (by assumption) (by assumption);by_cases C:Q / 8+1=16777216
   ·have E:=hid (K.o true D.o);rw[if_pos rfl,if_pos C]at E;have I:((Q:Int) / 8+1 == 16777216)=true:=by rw[beq_iff_eq];omega
    have J:=hid C;clear C;go_wp2;go_ret;refine⟨?_,rfl⟩;rw[E.o];have h1:=J.o;have h2:=G.o;show Ending.returned (Value.int IntKind.i64 _)=Ending.returned (Value.int IntKind.i64 _)
    congr 2
    omega
   have E:=hid (K.o true D.o);rw[if_pos rfl,if_neg C]at E;have I:((Q:Int) / 8+1 == 16777216)=false:=by rw[beq_eq_false_iff_ne];omega
   clear C;go_wp2;go_ret;refine⟨?_,rfl⟩;rw[E.o];have h1:=H.o;have h2:=G.o;show Ending.returned (Value.int IntKind.i64 _)=Ending.returned (Value.int IntKind.i64 _)
   congr 2
   omega
  ·have D:Hd (bD A B Q 8=false):=zJg M.o (by assumption) (by assumption) (by assumption);have E:=hid (K.o false D.o);rw[if_neg (by decide)]at E;have I:((Q:Int) / 8 == 16777216)=false:=by have:=H.o;rw[beq_eq_false_iff_ne];omega
   go_wp2;go_ret;refine⟨?_,rfl⟩;rw[E.o];have h1:=H.o;have h2:=G.o;show Ending.returned (Value.int IntKind.i64 _)=Ending.returned (Value.int IntKind.i64 _)
   congr 2
   omega
  ·have D:Hd (bD A B Q 8=false):=zJh (by assumption) (by assumption);have E:=hid (K.o false D.o);rw[if_neg (by decide)]at E;have I:((Q:Int) / 8 == 16777216)=false:=by have:=H.o;rw[beq_eq_false_iff_ne];omega
   go_wp2;go_ret;refine⟨?_,rfl⟩;rw[E.o];have h1:=H.o;have h2:=G.o;show Ending.returned (Value.int IntKind.i64 _)=Ending.returned (Value.int IntKind.i64 _)
   congr 2
   omega
  have D:Hd (bD A B Q 8=true):=zJf (by assumption);by_cases C:Q / 8+1=16777216
  ·have E:=hid (K.o true D.o);rw[if_pos rfl,if_pos C]at E;have I:((Q:Int) / 8+1 == 16777216)=true:=by rw[beq_iff_eq];omega
   have J:=hid C;clear C;go_wp2;go_ret;refine⟨?_,rfl⟩;rw[E.o];have h1:=J.o;have h2:=G.o;show Ending.returned (Value.int IntKind.i64 _)=Ending.returned (Value.int IntKind.i64 _)
   congr 2
   omega
  have E:=hid (K.o true D.o);rw[if_pos rfl,if_neg C]at E;have I:((Q:Int) / 8+1 == 16777216)=false:=by rw[beq_eq_false_iff_ne];omega
  clear C;go_wp2;go_ret;refine⟨?_,rfl⟩;rw[E.o];have h1:=H.o;have h2:=G.o;show Ending.returned (Value.int IntKind.i64 _)=Ending.returned (Value.int IntKind.i64 _)
  congr 2
  omega
def RFault(w:World)(a:Nat→Addr)(err:Value):Prop:=err=.nilIface∨∃(j b:Nat) (pl:Int),j<8∧err=.iface 124 (iP b)∧w.heap[b]? =some (.cells #[iV pl,.iface 309 (.pointer (some (a j)))] 128 (0,0))
theorem vJ(W:World)(o:Obj)(k:Nat)(h:k=W.heap.size):(W.alloc o).heap[k]? =some o:=by rw[h];exact heap_alloc_new W o
theorem zJj(a:Nat→Addr)(st:Nat→ByteArray)(s:ByteArray)(w:World)(hE:lq w a st)(hm:s.size≤1000000000):
 Cl 102 #[.string s] w fun e w'=> ∃(k:Nat) (v err:Value),e=rV #[v,err]∧22*k≤s.size∧Below w.heap.size w w'∧w'.ownsRow w.heap.size 55 7 v k (qy s k)∧RFault w' a err:=by
 obtain⟨i0,hi,A7,A8,A9⟩:=bF Tryz.infoRec Tryz.zeroRec;have HE:=hid hE;go_enter func102,ntmps102;go_wp2;go_loopw [0,4] (fun t l wr=> ∃(k:Nat) (A:ByteArray),t=.string A∧A.data.toList=s.data.toList.drop (22*k)∧22*k≤s.size∧(∀i,i<k→vC s i)∧wr.ownsRow w.heap.size 55 7 l k (qy s k)∧Bw w wr) (fun t _ _=>strLen t)
 case atStart=>exact⟨0,s,rfl,rfl,Nat.zero_le _,fun _ h=>absurd h (Nat.not_lt_zero _),World.ownsRow_nil _ _ _ _,Below.refl _ _⟩
 case round=>
  obtain⟨k,A,rfl,U,hk,A6,B,L⟩:=hrel;have Ad:A.size+22*k≤s.size:=by have:=zA1 s A _ U;omega
  have Ae:s.size≤A.size+22*k:=by have:=zA1 s A _ U;omega
  have D:=hid U;have M:=hid A6;have z:=hid hk;have Z:=HE.below L;by_cases h0:A.size=0
  ·have HR:Hd (aS s k 0):=⟨M,.inl ⟨rfl,by omega⟩⟩;have Ac:¬(0:Int)<(A.size:Int):=by omega
   rcases B.2 with⟨rfl,rfl⟩|⟨g,X,Y,rfl,hg,p,d,f,F,O⟩
   ·clear B;go_wp2;go_ret2;exact⟨0,_,_,rfl,Nat.zero_le _,L,World.ownsRow_nil _ _ _ _,.inl rfl⟩
   have A1:=hid B;go_wp2;go_ret2;exact⟨k,_,_,rfl,z,L,A1,.inl rfl⟩
  by_cases A3:A.size<22
  ·have HR:Hd (aS s k 4):=⟨M,.inr (.inl ⟨rfl,by omega,by omega⟩)⟩;have c:(0:Int)<(A.size:Int):=by omega
   have I:=nT a st A wr Z A3;have J:=hid I;rcases B.2 with⟨rfl,rfl⟩|⟨g,X,Y,rfl,hg,p,d,f,F,O⟩;all_goals
    have H:=hid B;try clear p O F
    go_wp2_with fail;refine J.mono ?_;rintro e n ⟨rfl,E⟩;have G:=hid (L.trans (E.mono L.size));have R:=hid (pG H E);go_wp2;go_ret2;refine⟨_,_,_,rfl,z,fu (fu G _) _,(R.alloc _).alloc _,.inr ⟨3,n.heap.size+1,_,by omega,rfl,vJ _ _ _ (by simp)⟩⟩
  by_cases N:xh A 0 0 1<1∨8<xh A 0 0 1
  ·have HR:Hd (aS s k 6):=⟨M,.inr (.inr ⟨rfl,by omega,by rw[wh s A _ 0 1 D.o]at N;exact N⟩)⟩;have c:(0:Int)<(A.size:Int):=by omega
   have I:=qR a st A wr Z (by omega) (by omega) N;have J:=hid I;rcases B.2 with⟨rfl,rfl⟩|⟨g,X,Y,rfl,hg,p,d,f,F,O⟩;all_goals
    have H:=hid B;try clear p O F
    go_wp2_with fail;refine J.mono ?_;rintro e n ⟨rfl,E⟩;have G:=hid (L.trans (E.mono L.size));have R:=hid (pG H E);go_wp2;go_ret2;refine⟨_,_,_,rfl,z,fu (fu G _) _,(R.alloc _).alloc _,.inr ⟨5,n.heap.size+1,_,by omega,rfl,vJ _ _ _ (by simp)⟩⟩
  have m:=vB A wr (by omega) (by omega) (by omega);rw[wh s A _ 0 1 D.o,wh s A _ 1 4 D.o,wh s A _ 5 4 D.o,wh s A _ 9 4 D.o,wh s A _ 13 4 D.o,wh s A _ 17 4 D.o,wh s A _ 21 1 D.o]at m;rw[wh s A _ 0 1 D.o]at N;have A0:Hd (vC s k):=⟨by omega,by omega,by omega⟩;have A2:Hd ((xA s (22*k)).map (iV)= [iV (xh s (22*k) 0 1),iV (xh s (22*k) 1 4),iV (xh s (22*k) 5 4),iV (xh s (22*k) 9 4),iV (xh s (22*k) 13 4),iV (xh s (22*k) 17 4),iV (xh s (22*k) 21 1)]):=rfl;have b:=fun W=>zAp A W (by omega)
  have y:=mV A (by omega);have V:=hid y;generalize xh s (22*k) 0 1=k0 at *;generalize xh s (22*k) 1 4=k1 at *;generalize xh s (22*k) 5 4=k2 at *;generalize xh s (22*k) 9 4=k3 at *;generalize xh s (22*k) 13 4=k4 at *;generalize xh s (22*k) 17 4=k5 at *;generalize xh s (22*k) 21 1=k6 at *;have I:=hid m;have c:(0:Int)<(A.size:Int):=by omega
  go_wp2_with fail;refine I.mono ?_;rintro e n ⟨rfl,E⟩;have K:=pG B E;have Ab:=L.size;have Aa:=E.size;have G:=hid (L.trans (E.mono L.size));go_wp2_with(at_builtin;refine wpList_append_own _ rfl _ _ 51 rfl w.heap.size 55 i0 (bM 0 0 0 0 0 0 0) 7 56 underlying51 hi A7 A8 A9 rfl (by decide) _ _ _ rfl ((K.alloc _).alloc _) (iA (n.heap.size+1) 0) 1 1 [iV k0,iV k1,iV k2,iV k3,iV k4,iV k5,iV k6] rfl rfl ?c1 ?c2 ?c3 ?c4 ?c5 ?_)
  case c1=>
   intro j u C
   match j,C with
   |0,C=>simp at C;subst C;simp[Addr.add]
   |1,C=>simp at C;subst C;simp[Addr.add]
   |2,C=>simp at C;subst C;simp[Addr.add]
   |3,C=>simp at C;subst C;simp[Addr.add]
   |4,C=>simp at C;subst C;simp[Addr.add]
   |5,C=>simp at C;subst C;simp[Addr.add]
   |6,C=>simp at C;subst C;simp[Addr.add]
  case c2=>
   intro u hu;simp at hu;rcases hu with rfl|rfl|rfl|rfl|rfl|rfl|rfl<;>rfl
  case c3=>unfold maxLen;omega
  case c4=>omega
  case c5=>simp;omega
  intro v' w3 T S _;have A5:=((K.alloc (.cells #[iV k0,iV k1,iV k2,iV k3,iV k4,iV k5,iV k6] 55)).alloc (.cells #[iV k0,iV k1,iV k2,iV k3,iV k4,iV k5,iV k6] 55)).lt;have x:=hid ((fu (fu G _) _).grown S (by simp;omega) (fun q hq=>(A5 q hq).1));have HO:Hd (w3.ownsRow w.heap.size 55 7 v' (k+1) (qy s (k+1))):=by
   show w3.ownsRow w.heap.size 55 7 v' (k+1) (qy s (k+1));rw[gJ,A2.o];exact T
  have A4:=b w3;go_wp2;go_roundw
  case rel=>
   refine⟨k+1,A.extract 22 A.size,rfl,?_,by omega,?_,HO,x⟩
   ·rw[V.o,D.o,List.drop_drop];congr 1
   intro i hi;rcases Nat.lt_or_ge i k with q|q
   ·exact M i q
   have:i=k:=by omega
   subst this;exact A0
  case measure=>
   simp[strLen];omega
end Go.Proofs.YtehmdohpmpbnnaaGreatDoor
