import Derived.Test.YtehmdohpmpbnnaaGreatDoorQ00
import Derived.Test.YtehmdohpmpbnnaaGreatDoorQ32
import Derived.Test.YtehmdohpmpbnnaaGreatDoorQ33
set_option linter.all false
set_option maxRecDepth 100000
set_option maxHeartbeats 8000000
namespace Go.Proofs.YtehmdohpmpbnnaaGreatDoor
variable{A B m t c:Nat}
open Go.Proofs.Tryz
open Go.Extern Go.Maps Go.RowKit
theorem xX(n d:Nat)(hd:d≤n.log2+2):Ieee.Toward.even.cut false n d=n / 2 ^ d+(decide (2 ^ d<2*(n % 2 ^ d)) || (2 ^ d == 2*(n % 2 ^ d) && n / 2 ^ d % 2 == 1)).toNat:=by
 unfold Ieee.Toward.cut;simp only[Nat.min_eq_left hd,Nat.shiftLeft_eq,Nat.one_mul]
def sgK(m:Nat):Nat:=if m.log2≤23 then m*2 ^ (23 - m.log2) else m / 2 ^ (m.log2 - 23)+(sgUp m).toNat
theorem zD(hm:0<m):Ieee.Toward.even.cut false (m <<< ((0:Int) - ((m.log2:Int) - 23)).toNat) ((m.log2:Int) - 23 - 0).toNat=sgK m:=by
 unfold sgK;by_cases C:m.log2≤23
 ·have A:((0:Int) - ((m.log2:Int) - 23)).toNat=23 - m.log2:=by omega
  have B:((m.log2:Int) - 23 - 0).toNat=0:=by omega
  rw[A,B,if_pos C,xX _ 0 (by omega),Nat.shiftLeft_eq];simp[Nat.mod_one]
 have A:((0:Int) - ((m.log2:Int) - 23)).toNat=0:=by omega
 have B:((m.log2:Int) - 23 - 0).toNat=m.log2 - 23:=by omega
 have E:m <<< 0=m:=by simp
 rw[A,B,if_neg C,E,xX _ _ (by omega)]
 congr 2
 unfold sgUp;have F:2 ^ (m.log2 - 23)=2*2 ^ (m.log2 - 24):=by
  have G:m.log2 - 23=m.log2 - 24+1:=by omega
  rw[G,Nat.pow_succ,Nat.mul_comm]
 rw[F];generalize 2 ^ (m.log2 - 24)=h;generalize m % (2*h)=r
 congr 1
 ·exact decide_eq_decide.2 (by omega)
 congr 1
 ·by_cases D:r=h
  ·subst D;simp
  rw[decide_eq_false D,beq_eq_false_iff_ne];omega
theorem zK3(hm:0<m):(sgK m=16777216∧jK m=8388608∧qH m=(m.log2:Int) - 22)∨(sgK m<16777216∧jK m=sgK m∧qH m=(m.log2:Int) - 23):=by
 obtain⟨D,A⟩:=zA2 m hm;unfold sgK jK qH at *;by_cases B:m.log2≤23
 ·rw[if_pos B]at *;rw[if_pos B];right;exact⟨A,rfl,by rw[if_pos B]⟩
 rw[if_neg B]at *;rw[if_neg B];cases E:sgUp m
 ·right;rw[E]at A;simp only[Bool.false_eq_true,if_false,Bool.false_and]at A⊢;exact⟨by simpa using A,by simp,by rw[if_neg B]⟩
 rw[E]at D A;simp only[if_true,Bool.true_and]at D A⊢;by_cases C:m / 2 ^ (m.log2 - 23)+1=16777216
 ·left;rw[if_pos C,decide_eq_true C];exact⟨by simpa using C,rfl,by rw[if_neg B];rfl⟩
 right;rw[if_neg C]at A⊢;rw[decide_eq_false C];exact⟨by simpa using A,by simp,by rw[if_neg B];rfl⟩
theorem zK4(hm:0<m)(hb:m.log2<100):Ieee.single.nearest false m 0=(m.log2+126)* 8388608+sgK m:=by
 have B:m≠0:=by omega
 have C:=zCz hm;rw[zD hm]at C;have D:max ((0:Int)+(m.log2:Int) - (23:Nat)) (-149)=(m.log2:Int) - 23:=by omega
 have e:Ieee.single.nearest false m 0=min (((m.log2:Int) - 23 - (-149)).toNat*8388608+Ieee.Toward.even.cut false (m <<< ((0:Int) - ((m.log2:Int) - 23)).toNat) ((m.log2:Int) - 23 - 0).toNat) 2139095040:=by
  unfold Ieee.Format.nearest;rw[if_neg B];simp only[zA6,zB,zB0,zAe,zAf,D]
 rw[e,zD hm];have A:((m.log2:Int) - 23 - (-149)).toNat=m.log2+126:=by omega
 rw[A];omega
theorem zD0(hm:0<m)(hb:m.log2<100):Ieee.single.read (Ieee.single.nearest false m 0)=.number false (jK m) (qH m):=by
 obtain⟨F,G⟩:=zAg hm hb;obtain⟨H,I⟩:=zA2 m hm;rw[zAh F G];rw[zK4 hm hb]at *;rcases zK3 hm with⟨E,A,B⟩|⟨E,A,B⟩
 ·rw[E,A,B];have C:((m.log2+126)* 8388608+16777216) % 8388608=0:=by omega
  have D:((m.log2+126)* 8388608+16777216) / 8388608=m.log2+128:=by omega
  rw[C,D,Nat.add_zero,show(-149+((m.log2+128 - 1:Nat):Int))=(m.log2:Int) - 22 by omega]
 rw[A]at H;rw[A,B];have C:((m.log2+126)* 8388608+sgK m) % 8388608=sgK m - 8388608:=by omega
 have D:((m.log2+126)* 8388608+sgK m) / 8388608=m.log2+127:=by omega
 rw[C,D,show 8388608+(sgK m - 8388608)=sgK m by omega,show(-149+((m.log2+127 - 1:Nat):Int))=(m.log2:Int) - 23 by omega]
theorem zD1{a:Nat}(h1:8388608≤a)(h2:a<16777216):a.log2=23:=by
 have A:a≠0:=by omega
 have u:a.log2<24:=(Nat.log2_lt A).2 (by simpa using h2);have l:23≤a.log2:=(Nat.le_log2 A).2 (by simpa using h1);omega
theorem zK5{X Y:Int}(a1:8388608≤A)(a2:A<16777216)(b1:8388608≤B)(b2:B<16777216):(Ieee.Datum.number false A X).quotient 25 (.number false B Y)=some (.number false (2*(A*33554432 / B)+(A*33554432 % B != 0).toNat) (X - Y - 26)):=by
 have H:=zD1 a1 a2;have I:=zD1 b1 b2;have C:¬B=0:=by omega
 have D:(2:Nat) ^ 25=33554432:=by decide
 have F:A <<< 25=A*33554432:=by rw[Nat.shiftLeft_eq,D]
 have G:X - Y - ((25:Nat):Int) - 1=X - Y - 26:=by omega
 have E:25+23 - 23=25:=by decide
 unfold Ieee.Datum.quotient;simp only[H,I,E,F,G,if_neg C,Bool.xor_false]
theorem zK6{mag:Nat}{place last:Int}(h0:mag≠0)(hl:max (place+(mag.log2:Int) - (23:Nat)) (-149)=last)(ht:(last - (-149)).toNat=t)(hc:Ieee.Toward.even.cut false (mag <<< (place - last).toNat) (last - place).toNat=c)(hm:t*8388608+c≤2139095040):Ieee.single.nearest false mag place=t*8388608+c:=by
 unfold Ieee.Format.nearest;rw[if_neg h0];simp only[zA6,zB,zB0,zAe,zAf,hl,ht,hc];exact Nat.min_eq_left hm
theorem zD2{D K:Nat}{p:Int}(hK:D.log2=K+23)(hD:0<D)(hp1: -140≤p)(hp2:p≤60)(hk:K≤10)(hcc:Ieee.Toward.even.cut false D K=c)(hc:c≤16777216):(Ieee.single.nearest false D p:Int)=(p+K+149)* 8388608+(c:Nat):=by
 obtain⟨t,F⟩:=Int.eq_ofNat_of_zero_le (show 0≤p+K+149 by omega);have B:(p - (p+K)).toNat=0:=by omega
 have C:((p+K) - p).toNat=K:=by omega
 have E:D <<< 0=D:=by simp
 have A:=zK6 (mag:=D) (place:=p) (last:=p+K) (t:=t) (c:=c) (by omega) (by omega) (by omega) (by rw[B,C,E];exact hcc) (by omega);rw[A];omega
theorem zK7(hB:0<B):∃t r0:Nat,(t=0∨t=1)∧r0=A*33554432 % B∧A*67108864 / B=2*(A*33554432 / B)+t∧(t=1→r0≠0)∧(t=0→(A*67108864 % B≠0↔r0≠0)):=by
 have E:=Nat.div_add_mod (A*33554432) B;have F:=Nat.mod_lt (A*33554432) hB;obtain⟨N,C⟩:∃N,N=A*33554432:=⟨_,rfl⟩;obtain⟨q,G⟩:∃q,q=N / B:=⟨_,rfl⟩;obtain⟨r,D⟩:∃r,r=N % B:=⟨_,rfl⟩;rw[←C]at E F;rw[←C];rw[←G,←D]at E;rw[←D]at F;rw[←G,←D];have H:A*67108864=2*(B*q)+2*r:=by omega
 by_cases I:B≤2*r
 ·refine⟨1,r,.inr rfl,rfl,?_,fun _=>by omega,fun h=>by omega⟩;refine Nat.div_eq_of_lt_le ?_ ?_
  ·rw[Nat.add_mul,Nat.mul_assoc,Nat.mul_comm q B];omega
  rw[Nat.add_mul,Nat.add_mul,Nat.mul_assoc,Nat.mul_comm q B];omega
 refine⟨0,r,.inl rfl,rfl,?_,fun h=>by omega,fun _=>?_⟩
 ·refine Nat.div_eq_of_lt_le ?_ ?_
  ·rw[Nat.add_mul,Nat.mul_assoc,Nat.mul_comm q B];omega
  rw[Nat.add_mul,Nat.add_mul,Nat.mul_assoc,Nat.mul_comm q B];omega
 have e:A*67108864 % B=2*r:=by
  rw[H,show 2*(B*q)+2*r=2*r+B*(2*q) by rw[Nat.mul_left_comm];omega,Nat.add_mul_mod_self_left];exact Nat.mod_eq_of_lt (by omega)
 rw[e];omega
theorem up_4{q r0:Nat}(ht:t=0∨t=1)(h1:t=1→r0≠0)(h0:t=0→(A*67108864 % B≠0↔r0≠0)):(decide (4<2*((2*q+(r0 != 0).toNat) % 4)) || (4 == 2*((2*q+(r0 != 0).toNat) % 4) && (2*q+(r0 != 0).toNat) / 4 % 2 == 1))=bD A B (2*q+t) 4:=by
 unfold bD;generalize A*67108864 % B=R at *;rw[Bool.eq_iff_iff];simp only[Bool.or_eq_true,Bool.and_eq_true,decide_eq_true_eq,beq_iff_eq];by_cases C:r0=0
 ·have e:(r0 != 0).toNat=0:=by rw[C];rfl
  rw[e];have:t=0:=by omega
  have:=h0 this;omega
 have e:(r0 != 0).toNat=1:=by
  have:(r0 != 0)=true:=by simpa using C
  rw[this];rfl
 rw[e];rcases ht with rfl|rfl
 ·have:=h0 rfl;omega
 omega
theorem up_8{q r0:Nat}(ht:t=0∨t=1)(h1:t=1→r0≠0)(h0:t=0→(A*67108864 % B≠0↔r0≠0)):(decide (8<2*((2*q+(r0 != 0).toNat) % 8)) || (8 == 2*((2*q+(r0 != 0).toNat) % 8) && (2*q+(r0 != 0).toNat) / 8 % 2 == 1))=bD A B (2*q+t) 8:=by
 unfold bD;generalize A*67108864 % B=R at *;rw[Bool.eq_iff_iff];simp only[Bool.or_eq_true,Bool.and_eq_true,decide_eq_true_eq,beq_iff_eq];by_cases C:r0=0
 ·have e:(r0 != 0).toNat=0:=by rw[C];rfl
  rw[e];have:t=0:=by omega
  have:=h0 this;omega
 have e:(r0 != 0).toNat=1:=by
  have:(r0 != 0)=true:=by simpa using C
  rw[this];rfl
 rw[e];rcases ht with rfl|rfl
 ·have:=h0 rfl;omega
 omega
theorem zD3{D k:Nat}(h1:2 ^ k≤D)(h2:D<2 ^ (k+1)):D.log2=k:=by
 have A:D≠0:=by have:=Nat.two_pow_pos k;omega
 have u:=(Nat.log2_lt A).2 h2;have l:=(Nat.le_log2 A).2 h1;omega
theorem zD4{Q P:Nat}{x p:Int}{K:Nat}{up:Bool}(hm:Q / P=m)(hu:bD A B Q P=up)(hc:c=m+up.toNat)(hx:x=p+K):(p+K+149)* 8388608+(c:Int)=qE A B Q P x:=by
 unfold qE;rw[hu,hm,hc,hx];cases up
 ·simp only[Bool.toNat_false,Nat.add_zero,Bool.false_eq_true,if_false];omega
 simp only[Bool.toNat_true,if_true];split<;>omega
theorem zK8{X Y:Int}(a1:8388608≤A)(a2:A<16777216)(b1:8388608≤B)(b2:B<16777216)(x1: -23≤X)(x2:X≤40)(y1: -23≤Y)(y2:Y≤40):(Ieee.single.nearest false (2*(A*33554432 / B)+(A*33554432 % B != 0).toNat) (X - Y - 26):Int)=if A*67108864 / B<67108864 then qE A B (A*67108864 / B) 4 (X - Y - 24) else qE A B (A*67108864 / B) 8 (X - Y - 23):=by
 obtain⟨t,D,N,I,O,L,J⟩:=zK7 (A:=A) (show 0<B by omega);have S:16777216≤A*33554432 / B:=(Nat.le_div_iff_mul_le (by omega)).2 (by omega);have T:A*33554432 / B<67108864:=(Nat.div_lt_iff_lt_mul (by omega)).2 (by omega);rw[←I,O];obtain⟨q,E⟩:∃q,q=A*33554432 / B:=⟨_,rfl⟩;rw[←E]at S T;rw[←E];have U:(D != 0).toNat≤1:=Bool.toNat_le _;by_cases M:2*q+t<67108864
 ·rw[if_pos M];have G:(2*q+(D != 0).toNat).log2=2+23:=by
   refine zD3 ?_ ?_
   ·show 33554432≤_;omega
   show _<67108864;omega
  have C:=xX (2*q+(D != 0).toNat) 2 (by omega);have F:(2:Nat) ^ 2=4:=by decide
  rw[F,up_4 (A:=A) (B:=B) N L J]at C;have H:(2*q+t) / 4=(2*q+(D != 0).toNat) / 4:=by omega
  have R:(bD A B (2*q+t) 4).toNat≤1:=Bool.toNat_le _;rw[zD2 G (by omega) (by omega) (by omega) (by omega) C (by omega)];exact zD4 (K:=2) H rfl rfl (by omega)
 rw[if_neg M];have G:(2*q+(D != 0).toNat).log2=3+23:=by
  refine zD3 ?_ ?_
  ·show 67108864≤_;omega
  show _<134217728;omega
 have C:=xX (2*q+(D != 0).toNat) 3 (by omega);have F:(2:Nat) ^ 3=8:=by decide
 rw[F,up_8 (A:=A) (B:=B) N L J]at C;have H:(2*q+t) / 8=(2*q+(D != 0).toNat) / 8:=by omega
 have R:(bD A B (2*q+t) 8).toNat≤1:=Bool.toNat_le _;rw[zD2 G (by omega) (by omega) (by omega) (by omega) C (by omega)];exact zD4 (K:=3) H rfl rfl (by omega)
theorem zK9{e:bf}{W V:Nat}(hV:e.gq=V)(hW:e.worth=W)(h1:W<4611686018427387904)(h2:V<4611686018427387904)(h3:0<V→0<W):∃r,avgR e=some r∧(r:Int)=rAvg W V∧r<4294967296:=by
 unfold avgR rAvg;by_cases H:V=0
 ·rw[if_pos (by omega),if_pos H];exact⟨0,rfl,rfl,by omega⟩
 have A:0<V:=by omega
 rw[if_neg (by omega),if_neg H,hV,hW];have I:∀m:Nat,0<m→m<4611686018427387904→m.log2<100:=fun m h0 h=>by
  have k:m.log2<62:=(Nat.log2_lt (by omega)).2 (by simpa using h);omega
 obtain⟨D,E⟩:=zA2 W (h3 A);obtain⟨F,G⟩:=zA2 V A;obtain⟨J,K⟩:=zAb W (h3 A) h1;obtain⟨L,M⟩:=zAb V A h2;have C:avgB (W:Int) (V:Int)=some (Ieee.single.write (.number false (2*(jK W*33554432 / jK V)+(jK W*33554432 % jK V != 0).toNat) (qH W - qH V - 26))):=by
  unfold avgB;rw[jF,jF];unfold Ieee.Format.div;rw[zD0 (h3 A) (I W (h3 A) h1),zD0 A (I V A h2)];have B:Ieee.single.fractionBits+2=25:=by rw[zAf]
  rw[B,zK5 D E F G];rfl
 refine⟨_,C,?_,zB1 _ _⟩;exact zK8 D E F G J K L M
end Go.Proofs.YtehmdohpmpbnnaaGreatDoor
