import Derived.Test.YtilbfpnpkkkpgaaGreatDoorQ00
import Derived.Test.YtilbfpnpkkkpgaaGreatDoorQ18
import Derived.Deep.CutRange
set_option linter.all false
set_option maxRecDepth 100000
set_option maxHeartbeats 8000000
namespace Go.Proofs.YtilbfpnpkkkpgaaGreatDoor
variable{A B Q:Nat}{mo:Bool}
open Go.Extern Go.RowKit
theorem zBw(n:Nat)(h:0<n):8388608≤sgM n∧sgM n<16777216:=by
 have hne:n≠0:=by omega
 have h1:=Nat.log2_self_le hne;have h2:=Nat.lt_log2_self (n:=n);unfold sgM;split
 ·rename_i hL;have e1:2 ^ n.log2*2 ^ (23 - n.log2)=8388608:=by rw[←Nat.pow_add,show n.log2+(23 - n.log2)=23 by omega]
  have e2:2 ^ (n.log2+1)* 2 ^ (23 - n.log2)=16777216:=by rw[←Nat.pow_add,show n.log2+1+(23 - n.log2)=24 by omega]
  have l1:=Nat.mul_le_mul_right (2 ^ (23 - n.log2)) h1;have l2:=Nat.mul_lt_mul_of_pos_right h2 (Nat.two_pow_pos (23 - n.log2));omega
 ·rename_i hL;have hp:=Nat.two_pow_pos (n.log2 - 23);have e1:8388608*2 ^ (n.log2 - 23)=2 ^ n.log2:=by rw[show(8388608:Nat)=2 ^ 23 by decide,←Nat.pow_add,show 23+(n.log2 - 23)=n.log2 by omega]
  have e2:16777216*2 ^ (n.log2 - 23)=2 ^ (n.log2+1):=by rw[show(16777216:Nat)=2 ^ 24 by decide,←Nat.pow_add,show 24+(n.log2 - 23)=n.log2+1 by omega]
  have l1:8388608≤n / 2 ^ (n.log2 - 23):=(Nat.le_div_iff_mul_le hp).2 (by omega);have l2:n / 2 ^ (n.log2 - 23)<16777216:=(Nat.div_lt_iff_lt_mul hp).2 (by omega);split
  ·split
   ·omega
   ·omega
  ·omega
theorem zCx(n:Nat)(h:0<n)(h1:n<4611686018427387904): -23≤sgX n∧sgX n≤40:=by
 have hlg:n.log2<62:=(Nat.log2_lt (by omega)).2 (by simpa using h1);unfold sgX;split
 ·omega
 ·split<;>omega
def avUp(a b Q P:Nat):Bool:=decide (P / 2<Q % P) || (decide (Q % P=P / 2) && (decide (a*67108864 % b≠0) || decide (Q / P % 2=1)))
def avEnd(a b Q P:Nat)(x:Int):Int:=if avUp a b Q P then(if Q / P+1=16777216 then(x+151)* 8388608 else((Q / P+1:Nat):Int) - 8388608+(x+150)* 8388608) else((Q / P:Nat):Int) - 8388608+(x+150)* 8388608
def rAvg(W V:Nat):Int:=if V=0 then 0 else
 (if sgM W*67108864 / sgM V<67108864 then avEnd (sgM W) (sgM V) (sgM W*67108864 / sgM V) 4 (sgX W - sgX V - 24) else avEnd (sgM W) (sgM V) (sgM W*67108864 / sgM V) 8 (sgX W - sgX V - 23))
theorem zN6(hm:decide (A*67108864 % B≠0)=mo)(h2:(Q:Int) - (Q:Int) / 4*4=2)(h3:mo=true):avUp A B Q 4=true:=by
 unfold avUp;rw[hm,h3,decide_eq_true (show Q % 4=4 / 2 by omega)];simp
theorem zN7(h2:(Q:Int) - (Q:Int) / 4*4=2)(h3:((Q:Int) / 4 % 2 == 1)=true):avUp A B Q 4=true:=by
 unfold avUp;rw[beq_iff_eq]at h3;rw[decide_eq_true (show Q % 4=4 / 2 by omega),decide_eq_true (show Q / 4 % 2=1 by omega)];simp
theorem zN8(h2: ¬(Q:Int) - (Q:Int) / 4*4≤2):avUp A B Q 4=true:=by
 unfold avUp;rw[decide_eq_true (show 4 / 2<Q % 4 by omega)];rfl
theorem zN9(hm:decide (A*67108864 % B≠0)=mo)(h2:(Q:Int) - (Q:Int) / 4*4=2)(h3: ¬mo=true)(h4:((Q:Int) / 4 % 2 == 1)=false):avUp A B Q 4=false:=by
 unfold avUp;rw[beq_eq_false_iff_ne]at h4;rw[hm,Bool.not_eq_true _ |>.mp h3,decide_eq_false (show¬4 / 2<Q % 4 by omega),decide_eq_false (show¬Q / 4 % 2=1 by omega)];simp
theorem zNa(h2:(Q:Int) - (Q:Int) / 4*4≤2)(h3: ¬(Q:Int) - (Q:Int) / 4*4=2):avUp A B Q 4=false:=by
 unfold avUp;rw[decide_eq_false (show¬4 / 2<Q % 4 by omega),decide_eq_false (show¬Q % 4=4 / 2 by omega)];rfl
theorem zNb(hm:decide (A*67108864 % B≠0)=mo)(h2:(Q:Int) - (Q:Int) / 8*8=4)(h3:mo=true):avUp A B Q 8=true:=by
 unfold avUp;rw[hm,h3,decide_eq_true (show Q % 8=8 / 2 by omega)];simp
theorem zNc(h2:(Q:Int) - (Q:Int) / 8*8=4)(h3:((Q:Int) / 8 % 2 == 1)=true):avUp A B Q 8=true:=by
 unfold avUp;rw[beq_iff_eq]at h3;rw[decide_eq_true (show Q % 8=8 / 2 by omega),decide_eq_true (show Q / 8 % 2=1 by omega)];simp
theorem zNd(h2: ¬(Q:Int) - (Q:Int) / 8*8≤4):avUp A B Q 8=true:=by
 unfold avUp;rw[decide_eq_true (show 8 / 2<Q % 8 by omega)];rfl
theorem zNe(hm:decide (A*67108864 % B≠0)=mo)(h2:(Q:Int) - (Q:Int) / 8*8=4)(h3: ¬mo=true)(h4:((Q:Int) / 8 % 2 == 1)=false):avUp A B Q 8=false:=by
 unfold avUp;rw[beq_eq_false_iff_ne]at h4;rw[hm,Bool.not_eq_true _ |>.mp h3,decide_eq_false (show¬8 / 2<Q % 8 by omega),decide_eq_false (show¬Q / 8 % 2=1 by omega)];simp
theorem zNf(h2:(Q:Int) - (Q:Int) / 8*8≤4)(h3: ¬(Q:Int) - (Q:Int) / 8*8=4):avUp A B Q 8=false:=by
 unfold avUp;rw[decide_eq_false (show¬8 / 2<Q % 8 by omega),decide_eq_false (show¬Q % 8=8 / 2 by omega)];rfl
theorem zNg{F:Nat→Prop}{base:Nat}{w:World}{b:Nat}{e:Eng}{dv av:Value}(h:RefRep F base w b e dv av)(V W:Nat)(hV:e.volume=V)(hW:e.worth=W)(h1:W<4611686018427387904)(h2:V<4611686018427387904)(h3:0<V→0<W):
 Cl 81 #[iP b] w fun en w'=>en=.returned (iV (rAvg W V))∧w'=w:=by
 have c11:cI w b 11 (W:Int):=by rw[←hW];exact h.cell 11
 have c12:cI w b 12 (V:Int):=by rw[←hV];exact h.cell 12
 clear h hV hW;by_cases hz:V=0
 ·subst hz;clear h1 h2 h3;go_enter Tryz.func81,Tryz.ntmps81;go_wp2;go_ret;exact⟨rfl,rfl⟩
 ·have hvp:0<V:=by omega
  have hzI:((V:Int) == 0)=false:=by rw[beq_eq_false_iff_ne];omega
  have HSW:=hid (zFp W (h3 hvp) h1 w);have HSV:=hid (zFp V hvp h2 w);obtain⟨a1,a2⟩:=zBw W (h3 hvp);obtain⟨b1,b2⟩:=zBw V hvp;obtain⟨x1,x2⟩:=zCx W (h3 hvp) h1;obtain⟨y1,y2⟩:=zCx V hvp h2;have HR:Hid (rAvg W V=(if sgM W*67108864 / sgM V<67108864 then avEnd (sgM W) (sgM V) (sgM W*67108864 / sgM V) 4 (sgX W - sgX V - 24) else avEnd (sgM W) (sgM V) (sgM W*67108864 / sgM V) 8 (sgX W - sgX V - 23))):=by show _=_;unfold rAvg;rw[if_neg hz]
  clear h1 h2 h3 hz hvp;generalize hA:sgM W=A at *;generalize hB:sgM V=B at *;generalize hXX:sgX W=X at *;generalize hYY:sgX V=Y at *;clear hA hB hXX hYY;obtain⟨Q,hQ⟩: ∃Q,Q=A*67108864 / B:=⟨_,rfl⟩;have hBp:0<B:=by omega
  have q1:33554432≤Q:=by rw[hQ];exact(Nat.le_div_iff_mul_le hBp).2 (by omega)
  have q2:Q<134217728:=by rw[hQ];exact(Nat.div_lt_iff_lt_mul hBp).2 (by omega)
  have HQ:=hid hQ;rw[←hQ]at HR;have hwx:wrap64 (X - Y)=X - Y:=by unfold wrap64;omega
  have hwa:wrap64 ((A:Int)* 67108864)=((A*67108864:Nat):Int):=by unfold wrap64;omega
  have hwq:wrap64 (((A*67108864:Nat):Int).tdiv (B:Int))=(Q:Int):=by
   rw[Int.tdiv_eq_ediv_of_nonneg (Int.natCast_nonneg _)];have:((A*67108864:Nat):Int) / (B:Int)=(Q:Int):=by rw[hQ];rfl
   rw[this];unfold wrap64;omega
  go_enter Tryz.func81,Tryz.ntmps81;go_wp2_with fail;refine HSW.mono ?_;rintro en w1 ⟨rfl,rfl⟩;go_wp2_with fail;refine HSV.mono ?_;rintro en w2 ⟨rfl,rfl⟩;clear HSW HSV;go_wp2_with fail;clear hwx hwa hwq;have hqI:(A:Int)* 67108864 / (B:Int)=(Q:Int):=by rw[hQ];rfl
  rw[hqI];obtain⟨mo,hmo⟩: ∃mo:Bool,mo=((A:Int)* 67108864 % (B:Int) != 0):=⟨_,rfl⟩;have HMO:Hid (decide (A*67108864 % B≠0)=mo):=by
   show _=_;rw[hmo];have e1:(A:Int)* 67108864 % (B:Int)=((A*67108864 % B:Nat):Int):=by simp
   rw[e1];cases hc:(A*67108864 % B) with
   |zero=>rfl
   |succ k=>simp;omega
  rw[←hmo];clear hmo hqI hQ c11 c12 hzI a1 a2 b1 b2 hBp;go_loopw [9] (fun kv wr'=> ∃k:Nat,kv=iV (k:Int)∧k≤3∧Hid (k=3→67108864≤Q)∧wr'=w2) (fun kv _=>4 - (intOf kv).toNat)
  case atStart=>exact⟨0,rfl,by omega,fun h=>by omega,rfl⟩
  case round=>
   obtain⟨k,rfl,hk,H3,rfl⟩:=hrel;obtain rfl|rfl|rfl|rfl:k=0∨k=1∨k=2∨k=3:=by omega
   ·have hcI:(16777216:Int)≤(Q:Int):=by omega
    clear q1 q2 hk;go_wp2;go_roundw
    case rel=>exact⟨1,rfl,by omega,fun h=>by omega,by trivial⟩
    case measure=>simp[intOf]
   ·have hcI:(16777216:Int)≤(Q:Int) / 2:=by omega
    clear q1 q2 hk;go_wp2;go_roundw
    case rel=>exact⟨2,rfl,by omega,fun h=>by omega,by trivial⟩
    case measure=>simp[intOf]
   ·by_cases h4:Q<67108864
    ·have hcI: ¬(16777216:Int)≤(Q:Int) / 4:=by omega
     clear hk H3;have HE:Hid (rAvg W V=avEnd A B Q 4 (X - Y - 24)):=by show _=_;rw[HR.out,if_pos (by omega)]
     have HF:Hid (∀up:Bool,avUp A B Q 4=up→rAvg W V=(if up then(if Q / 4+1=16777216 then((X - Y - 24)+151)* 8388608 else((Q / 4+1:Nat):Int) - 8388608+((X - Y - 24)+150)* 8388608) else((Q / 4:Nat):Int) - 8388608+((X - Y - 24)+150)* 8388608)):=fun up hup=>by
      rw[HE.out];unfold avEnd;rw[hup]
     have HM1:Hid (8388608≤Q / 4∧Q / 4<16777216):=by show _∧_;omega
     have HBD:Hid (-23≤X∧X≤40∧-23≤Y∧Y≤40):=⟨x1,x2,y1,y2⟩;clear q1 q2 h4
     go_upto_region 18 with fail
     ·have HUP1:Hid (avUp A B Q 4=true):=zN6 HMO.out (by assumption) (by assumption);by_cases hfull:Q / 4+1=16777216
      ·have HV:=hid (HF.out true HUP1.out);rw[if_pos rfl,if_pos hfull]at HV;have hfI:((Q:Int) / 4+1 == 16777216)=true:=by rw[beq_iff_eq];omega
       have HFU:=hid hfull;clear hfull;go_wp2;go_ret;refine⟨?_,rfl⟩;rw[HV.out];have h1:=HFU.out;have h2:=HBD.out;show Ending.returned (Value.int IntKind.i64 _)=Ending.returned (Value.int IntKind.i64 _)
       congr 2
       omega
      ·have HV:=hid (HF.out true HUP1.out);rw[if_pos rfl,if_neg hfull]at HV;have hfI:((Q:Int) / 4+1 == 16777216)=false:=by rw[beq_eq_false_iff_ne];omega
       clear hfull;go_wp2;go_ret;refine⟨?_,rfl⟩;rw[HV.out];have h1:=HM1.out;have h2:=HBD.out;show Ending.returned (Value.int IntKind.i64 _)=Ending.returned (Value.int IntKind.i64 _)
       congr 2
       omega
     ·have HUP1:Hid (avUp A B Q 4=true):=zN7 (by assumption) (by assumption);by_cases hfull:Q / 4+1=16777216
      ·have HV:=hid (HF.out true HUP1.out);rw[if_pos rfl,if_pos hfull]at HV;have hfI:((Q:Int) / 4+1 == 16777216)=true:=by rw[beq_iff_eq];omega
       have HFU:=hid hfull;clear hfull;go_wp2;go_ret;refine⟨?_,rfl⟩;rw[HV.out];have h1:=HFU.out;have h2:=HBD.out;show Ending.returned (Value.int IntKind.i64 _)=Ending.returned (Value.int IntKind.i64 _)
       congr 2
       omega
      ·have HV:=hid (HF.out true HUP1.out);rw[if_pos rfl,if_neg hfull]at HV;have hfI:((Q:Int) / 4+1 == 16777216)=false:=by rw[beq_eq_false_iff_ne];omega
       clear hfull;go_wp2;go_ret;refine⟨?_,rfl⟩;rw[HV.out];have h1:=HM1.out;have h2:=HBD.out;show Ending.returned (Value.int IntKind.i64 _)=Ending.returned (Value.int IntKind.i64 _)
       congr 2
       omega
     ·have HUP1:Hid (avUp A B Q 4=false):=zN9 HMO.out (by assumption) (by assumption) (by assumption);have HV:=hid (HF.out false HUP1.out);rw[if_neg (by decide)]at HV;have hfI:((Q:Int) / 4 == 16777216)=false:=by have:=HM1.out;rw[beq_eq_false_iff_ne];omega
      go_wp2;go_ret;refine⟨?_,rfl⟩;rw[HV.out];have h1:=HM1.out;have h2:=HBD.out;show Ending.returned (Value.int IntKind.i64 _)=Ending.returned (Value.int IntKind.i64 _)
      congr 2
      omega
     ·have HUP1:Hid (avUp A B Q 4=false):=zNa (by assumption) (by assumption);have HV:=hid (HF.out false HUP1.out);rw[if_neg (by decide)]at HV;have hfI:((Q:Int) / 4 == 16777216)=false:=by have:=HM1.out;rw[beq_eq_false_iff_ne];omega
      go_wp2;go_ret;refine⟨?_,rfl⟩;rw[HV.out];have h1:=HM1.out;have h2:=HBD.out;show Ending.returned (Value.int IntKind.i64 _)=Ending.returned (Value.int IntKind.i64 _)
      congr 2
      omega
     ·have HUP1:Hid (avUp A B Q 4=true):=zN8 (by assumption);by_cases hfull:Q / 4+1=16777216
      ·have HV:=hid (HF.out true HUP1.out);rw[if_pos rfl,if_pos hfull]at HV;have hfI:((Q:Int) / 4+1 == 16777216)=true:=by rw[beq_iff_eq];omega
       have HFU:=hid hfull;clear hfull;go_wp2;go_ret;refine⟨?_,rfl⟩;rw[HV.out];have h1:=HFU.out;have h2:=HBD.out;show Ending.returned (Value.int IntKind.i64 _)=Ending.returned (Value.int IntKind.i64 _)
       congr 2
       omega
      ·have HV:=hid (HF.out true HUP1.out);rw[if_pos rfl,if_neg hfull]at HV;have hfI:((Q:Int) / 4+1 == 16777216)=false:=by rw[beq_eq_false_iff_ne];omega
       clear hfull;go_wp2;go_ret;refine⟨?_,rfl⟩;rw[HV.out];have h1:=HM1.out;have h2:=HBD.out;show Ending.returned (Value.int IntKind.i64 _)=Ending.returned (Value.int IntKind.i64 _)
       congr 2
       omega
    ·have hcI:(16777216:Int)≤(Q:Int) / 4:=by omega
     clear q1 q2 hk;go_wp2;go_roundw
     case rel=>exact⟨3,rfl,by omega,fun _=>by omega,by trivial⟩
     case measure=>simp[intOf]
   ·have hcI: ¬(16777216:Int)≤(Q:Int) / 8:=by omega
    have h4: ¬Q<67108864:=by have:=H3.out rfl;omega
    clear hk H3;have HE:Hid (rAvg W V=avEnd A B Q 8 (X - Y - 23)):=by show _=_;rw[HR.out,if_neg (by omega)]
    have HF:Hid (∀up:Bool,avUp A B Q 8=up→rAvg W V=(if up then(if Q / 8+1=16777216 then((X - Y - 23)+151)* 8388608 else((Q / 8+1:Nat):Int) - 8388608+((X - Y - 23)+150)* 8388608) else((Q / 8:Nat):Int) - 8388608+((X - Y - 23)+150)* 8388608)):=fun up hup=>by
     rw[HE.out];unfold avEnd;rw[hup]
    have HM1:Hid (8388608≤Q / 8∧Q / 8<16777216):=by show _∧_;omega
    have HBD:Hid (-23≤X∧X≤40∧-23≤Y∧Y≤40):=⟨x1,x2,y1,y2⟩;clear q1 q2 h4
    go_upto_region 18 with fail
    ·have HUP1:Hid (avUp A B Q 8=true):=zNb HMO.out (by assumption) (by assumption);by_cases hfull:Q / 8+1=16777216
     ·have HV:=hid (HF.out true HUP1.out);rw[if_pos rfl,if_pos hfull]at HV;have hfI:((Q:Int) / 8+1 == 16777216)=true:=by rw[beq_iff_eq];omega
      have HFU:=hid hfull;clear hfull;go_wp2;go_ret;refine⟨?_,rfl⟩;rw[HV.out];have h1:=HFU.out;have h2:=HBD.out;show Ending.returned (Value.int IntKind.i64 _)=Ending.returned (Value.int IntKind.i64 _)
      congr 2
      omega
     ·have HV:=hid (HF.out true HUP1.out);rw[if_pos rfl,if_neg hfull]at HV;have hfI:((Q:Int) / 8+1 == 16777216)=false:=by rw[beq_eq_false_iff_ne];omega
      clear hfull;go_wp2;go_ret;refine⟨?_,rfl⟩;rw[HV.out];have h1:=HM1.out;have h2:=HBD.out;show Ending.returned (Value.int IntKind.i64 _)=Ending.returned (Value.int IntKind.i64 _)
      congr 2
      omega
    ·have HUP1:Hid (avUp A B Q 8=true):=zNc (by assumption) (by assumption);by_cases hfull:Q / 8+1=16777216
     ·have HV:=hid (HF.out true HUP1.out);rw[if_pos rfl,if_pos hfull]at HV;have hfI:((Q:Int) / 8+1 == 16777216)=true:=by rw[beq_iff_eq];omega
      have HFU:=hid hfull;clear hfull;go_wp2;go_ret;refine⟨?_,rfl⟩;rw[HV.out];have h1:=HFU.out;have h2:=HBD.out;show Ending.returned (Value.int IntKind.i64 _)=Ending.returned (Value.int IntKind.i64 _)
      congr 2
      omega
     ·have HV:=hid (HF.out true HUP1.out);rw[if_pos rfl,if_neg hfull]at HV;have hfI:((Q:Int) / 8+1 == 16777216)=false:=by rw[beq_eq_false_iff_ne];omega
      clear hfull;go_wp2;go_ret;refine⟨?_,rfl⟩;rw[HV.out];have h1:=HM1.out;have h2:=HBD.out;show Ending.returned (Value.int IntKind.i64 _)=Ending.returned (Value.int IntKind.i64 _)
      congr 2
      omega
    ·have HUP1:Hid (avUp A B Q 8=false):=zNe HMO.out (by assumption) (by assumption) (by assumption);have HV:=hid (HF.out false HUP1.out);rw[if_neg (by decide)]at HV;have hfI:((Q:Int) / 8 == 16777216)=false:=by have:=HM1.out;rw[beq_eq_false_iff_ne];omega
     go_wp2;go_ret;refine⟨?_,rfl⟩;rw[HV.out];have h1:=HM1.out;have h2:=HBD.out;show Ending.returned (Value.int IntKind.i64 _)=Ending.returned (Value.int IntKind.i64 _)
     congr 2
     omega
    ·have HUP1:Hid (avUp A B Q 8=false):=zNf (by assumption) (by assumption);have HV:=hid (HF.out false HUP1.out);rw[if_neg (by decide)]at HV;have hfI:((Q:Int) / 8 == 16777216)=false:=by have:=HM1.out;rw[beq_eq_false_iff_ne];omega
     go_wp2;go_ret;refine⟨?_,rfl⟩;rw[HV.out];have h1:=HM1.out;have h2:=HBD.out;show Ending.returned (Value.int IntKind.i64 _)=Ending.returned (Value.int IntKind.i64 _)
     congr 2
     omega
    ·have HUP1:Hid (avUp A B Q 8=true):=zNd (by assumption);by_cases hfull:Q / 8+1=16777216
     ·have HV:=hid (HF.out true HUP1.out);rw[if_pos rfl,if_pos hfull]at HV;have hfI:((Q:Int) / 8+1 == 16777216)=true:=by rw[beq_iff_eq];omega
      have HFU:=hid hfull;clear hfull;go_wp2;go_ret;refine⟨?_,rfl⟩;rw[HV.out];have h1:=HFU.out;have h2:=HBD.out;show Ending.returned (Value.int IntKind.i64 _)=Ending.returned (Value.int IntKind.i64 _)
      congr 2
      omega
     ·have HV:=hid (HF.out true HUP1.out);rw[if_pos rfl,if_neg hfull]at HV;have hfI:((Q:Int) / 8+1 == 16777216)=false:=by rw[beq_eq_false_iff_ne];omega
      clear hfull;go_wp2;go_ret;refine⟨?_,rfl⟩;rw[HV.out];have h1:=HM1.out;have h2:=HBD.out;show Ending.returned (Value.int IntKind.i64 _)=Ending.returned (Value.int IntKind.i64 _)
      congr 2
      omega
end Go.Proofs.YtilbfpnpkkkpgaaGreatDoor
