import Derived.Test.YtilbfpnpkkkpgaaGreatDoorQ00
import Derived.Test.YtilbfpnpkkkpgaaGreatDoorQ33
import Derived.Test.YtilbfpnpkkkpgaaGreatDoorQ34
import Derived.Test.YtilbfpnpkkkpgaaGreatDoorQ35
import Derived.Laws.EntriesVeiled
set_option linter.all false
set_option maxRecDepth 100000
set_option maxHeartbeats 8000000
namespace Go.Proofs.YtilbfpnpkkkpgaaGreatDoor
variable{A B m t c:Nat}
open Go.Extern Go.Maps Go.RowKit
theorem zD5(n d:Nat)(hd:d≤n.log2+2):Ieee.Toward.even.cut false n d=n / 2 ^ d+(decide (2 ^ d<2*(n % 2 ^ d)) || (2 ^ d == 2*(n % 2 ^ d) && n / 2 ^ d % 2 == 1)).toNat:=by
 unfold Ieee.Toward.cut;simp only[Nat.min_eq_left hd,Nat.shiftLeft_eq,Nat.one_mul]
def sgK(m:Nat):Nat:=if m.log2≤23 then m*2 ^ (23 - m.log2) else m / 2 ^ (m.log2 - 23)+(sgUp m).toNat
theorem zGi(hm:0<m):Ieee.Toward.even.cut false (m <<< ((0:Int) - ((m.log2:Int) - 23)).toNat) ((m.log2:Int) - 23 - 0).toNat=sgK m:=by
 unfold sgK;by_cases hL:m.log2≤23
 ·have e1:((0:Int) - ((m.log2:Int) - 23)).toNat=23 - m.log2:=by omega
  have e2:((m.log2:Int) - 23 - 0).toNat=0:=by omega
  rw[e1,e2,if_pos hL,zD5 _ 0 (by omega),Nat.shiftLeft_eq];simp[Nat.mod_one]
 ·have e1:((0:Int) - ((m.log2:Int) - 23)).toNat=0:=by omega
  have e2:((m.log2:Int) - 23 - 0).toNat=m.log2 - 23:=by omega
  have e3:m <<< 0=m:=by simp
  rw[e1,e2,if_neg hL,e3,zD5 _ _ (by omega)]
  congr 2
  unfold sgUp;have e4:2 ^ (m.log2 - 23)=2*2 ^ (m.log2 - 24):=by
   have e5:m.log2 - 23=m.log2 - 24+1:=by omega
   rw[e5,Nat.pow_succ,Nat.mul_comm]
  rw[e4];generalize 2 ^ (m.log2 - 24)=h;generalize m % (2*h)=r
  congr 1
  ·exact decide_eq_decide.2 (by omega)
  ·congr 1
   ·by_cases hr:r=h
    ·subst hr;simp
    ·rw[decide_eq_false hr,beq_eq_false_iff_ne];omega
theorem zP1(hm:0<m):(sgK m=16777216∧sgM m=8388608∧sgX m=(m.log2:Int) - 22)∨(sgK m<16777216∧sgM m=sgK m∧sgX m=(m.log2:Int) - 23):=by
 obtain⟨b1,b2⟩:=zBw m hm;unfold sgK sgM sgX at *;by_cases hL:m.log2≤23
 ·rw[if_pos hL]at *;rw[if_pos hL];right;exact⟨b2,rfl,by rw[if_pos hL]⟩
 ·rw[if_neg hL]at *;rw[if_neg hL];cases hu:sgUp m
  ·right;rw[hu]at b2;simp only[Bool.false_eq_true,if_false,Bool.false_and]at b2⊢;exact⟨by simpa using b2,by simp,by rw[if_neg hL]⟩
  ·rw[hu]at b1 b2;simp only[if_true,Bool.true_and]at b1 b2⊢;by_cases hf:m / 2 ^ (m.log2 - 23)+1=16777216
   ·left;rw[if_pos hf,decide_eq_true hf];exact⟨by simpa using hf,rfl,by rw[if_neg hL];rfl⟩
   ·right;rw[if_neg hf]at b2⊢;rw[decide_eq_false hf];exact⟨by simpa using b2,by simp,by rw[if_neg hL];rfl⟩
theorem zP2(hm:0<m)(hb:m.log2<100):Ieee.single.nearest false m 0=(m.log2+126)* 8388608+sgK m:=by
 have h0:m≠0:=by omega
 have hk:=zGh hm;rw[zGi hm]at hk;have hl:max ((0:Int)+(m.log2:Int) - (23:Nat)) (-149)=(m.log2:Int) - 23:=by omega
 have e:Ieee.single.nearest false m 0=min (((m.log2:Int) - 23 - (-149)).toNat*8388608+Ieee.Toward.even.cut false (m <<< ((0:Int) - ((m.log2:Int) - 23)).toNat) ((m.log2:Int) - 23 - 0).toNat) 2139095040:=by
  unfold Ieee.Format.nearest;rw[if_neg h0];simp only[zCc,zE6,zE7,zD1,zD2,hl]
 rw[e,zGi hm];have e2:((m.log2:Int) - 23 - (-149)).toNat=m.log2+126:=by omega
 rw[e2];omega
theorem zGj(hm:0<m)(hb:m.log2<100):Ieee.single.read (Ieee.single.nearest false m 0)=.number false (sgM m) (sgX m):=by
 obtain⟨b1,b2⟩:=zD3 hm hb;obtain⟨s1,s2⟩:=zBw m hm;rw[zD4 b1 b2];rw[zP2 hm hb]at *;rcases zP1 hm with⟨h1,h2,h3⟩|⟨h1,h2,h3⟩
 ·rw[h1,h2,h3];have q1:((m.log2+126)* 8388608+16777216) % 8388608=0:=by omega
  have q2:((m.log2+126)* 8388608+16777216) / 8388608=m.log2+128:=by omega
  rw[q1,q2,Nat.add_zero,show(-149+((m.log2+128 - 1:Nat):Int))=(m.log2:Int) - 22 by omega]
 ·rw[h2]at s1;rw[h2,h3];have q1:((m.log2+126)* 8388608+sgK m) % 8388608=sgK m - 8388608:=by omega
  have q2:((m.log2+126)* 8388608+sgK m) / 8388608=m.log2+127:=by omega
  rw[q1,q2,show 8388608+(sgK m - 8388608)=sgK m by omega,show(-149+((m.log2+127 - 1:Nat):Int))=(m.log2:Int) - 23 by omega]
theorem zGk{a:Nat}(h1:8388608≤a)(h2:a<16777216):a.log2=23:=by
 have hne:a≠0:=by omega
 have u:a.log2<24:=(Nat.log2_lt hne).2 (by simpa using h2);have l:23≤a.log2:=(Nat.le_log2 hne).2 (by simpa using h1);omega
theorem zP3{X Y:Int}(a1:8388608≤A)(a2:A<16777216)(b1:8388608≤B)(b2:B<16777216):(Ieee.Datum.number false A X).quotient 25 (.number false B Y)=some (.number false (2*(A*33554432 / B)+(A*33554432 % B != 0).toNat) (X - Y - 26)):=by
 have hA:=zGk a1 a2;have hB:=zGk b1 b2;have hB0: ¬B=0:=by omega
 have p25:(2:Nat) ^ 25=33554432:=by decide
 have e2:A <<< 25=A*33554432:=by rw[Nat.shiftLeft_eq,p25]
 have e3:X - Y - ((25:Nat):Int) - 1=X - Y - 26:=by omega
 have e1:25+23 - 23=25:=by decide
 unfold Ieee.Datum.quotient;simp only[hA,hB,e1,e2,e3,if_neg hB0,Bool.xor_false]
theorem zP4{mag:Nat}{place last:Int}(h0:mag≠0)(hl:max (place+(mag.log2:Int) - (23:Nat)) (-149)=last)(ht:(last - (-149)).toNat=t)(hc:Ieee.Toward.even.cut false (mag <<< (place - last).toNat) (last - place).toNat=c)(hm:t*8388608+c≤2139095040):Ieee.single.nearest false mag place=t*8388608+c:=by
 unfold Ieee.Format.nearest;rw[if_neg h0];simp only[zCc,zE6,zE7,zD1,zD2,hl,ht,hc];exact Nat.min_eq_left hm
theorem zGl{D K:Nat}{p:Int}(hK:D.log2=K+23)(hD:0<D)(hp1: -140≤p)(hp2:p≤60)(hk:K≤10)(hcc:Ieee.Toward.even.cut false D K=c)(hc:c≤16777216):(Ieee.single.nearest false D p:Int)=(p+K+149)* 8388608+(c:Nat):=by
 obtain⟨t,ht⟩:=Int.eq_ofNat_of_zero_le (show 0≤p+K+149 by omega);have e1:(p - (p+K)).toNat=0:=by omega
 have e2:((p+K) - p).toNat=K:=by omega
 have e3:D <<< 0=D:=by simp
 have key:=zP4 (mag:=D) (place:=p) (last:=p+K) (t:=t) (c:=c) (by omega) (by omega) (by omega) (by rw[e1,e2,e3];exact hcc) (by omega);rw[key];omega
theorem zP5(hB:0<B): ∃t r0:Nat,(t=0∨t=1)∧r0=A*33554432 % B∧A*67108864 / B=2*(A*33554432 / B)+t∧(t=1→r0≠0)∧(t=0→(A*67108864 % B≠0↔r0≠0)):=by
 have h1:=Nat.div_add_mod (A*33554432) B;have h2:=Nat.mod_lt (A*33554432) hB;obtain⟨N,hNN⟩: ∃N,N=A*33554432:=⟨_,rfl⟩;obtain⟨q,hq⟩: ∃q,q=N / B:=⟨_,rfl⟩;obtain⟨r,hr⟩: ∃r,r=N % B:=⟨_,rfl⟩;rw[←hNN]at h1 h2;rw[←hNN];rw[←hq,←hr]at h1;rw[←hr]at h2;rw[←hq,←hr];have hN:A*67108864=2*(B*q)+2*r:=by omega
 by_cases ht:B≤2*r
 ·refine⟨1,r,.inr rfl,rfl,?_,fun _=>by omega,fun h=>by omega⟩;refine Nat.div_eq_of_lt_le ?_ ?_
  ·rw[Nat.add_mul,Nat.mul_assoc,Nat.mul_comm q B];omega
  ·rw[Nat.add_mul,Nat.add_mul,Nat.mul_assoc,Nat.mul_comm q B];omega
 ·refine⟨0,r,.inl rfl,rfl,?_,fun h=>by omega,fun _=>?_⟩
  ·refine Nat.div_eq_of_lt_le ?_ ?_
   ·rw[Nat.add_mul,Nat.mul_assoc,Nat.mul_comm q B];omega
   ·rw[Nat.add_mul,Nat.add_mul,Nat.mul_assoc,Nat.mul_comm q B];omega
  ·have e:A*67108864 % B=2*r:=by
    rw[hN,show 2*(B*q)+2*r=2*r+B*(2*q) by rw[Nat.mul_left_comm];omega,Nat.add_mul_mod_self_left];exact Nat.mod_eq_of_lt (by omega)
   rw[e];omega
theorem up_4{q r0:Nat}(ht:t=0∨t=1)(h1:t=1→r0≠0)(h0:t=0→(A*67108864 % B≠0↔r0≠0)):(decide (4<2*((2*q+(r0 != 0).toNat) % 4)) || (4 == 2*((2*q+(r0 != 0).toNat) % 4) && (2*q+(r0 != 0).toNat) / 4 % 2 == 1))=avUp A B (2*q+t) 4:=by
 unfold avUp;generalize A*67108864 % B=R at *;rw[Bool.eq_iff_iff];simp only[Bool.or_eq_true,Bool.and_eq_true,decide_eq_true_eq,beq_iff_eq];by_cases hr:r0=0
 ·have e:(r0 != 0).toNat=0:=by rw[hr];rfl
  rw[e];have:t=0:=by omega
  have:=h0 this;omega
 ·have e:(r0 != 0).toNat=1:=by
   have:(r0 != 0)=true:=by simpa using hr
   rw[this];rfl
  rw[e];rcases ht with rfl|rfl
  ·have:=h0 rfl;omega
  ·omega
theorem up_8{q r0:Nat}(ht:t=0∨t=1)(h1:t=1→r0≠0)(h0:t=0→(A*67108864 % B≠0↔r0≠0)):(decide (8<2*((2*q+(r0 != 0).toNat) % 8)) || (8 == 2*((2*q+(r0 != 0).toNat) % 8) && (2*q+(r0 != 0).toNat) / 8 % 2 == 1))=avUp A B (2*q+t) 8:=by
 unfold avUp;generalize A*67108864 % B=R at *;rw[Bool.eq_iff_iff];simp only[Bool.or_eq_true,Bool.and_eq_true,decide_eq_true_eq,beq_iff_eq];by_cases hr:r0=0
 ·have e:(r0 != 0).toNat=0:=by rw[hr];rfl
  rw[e];have:t=0:=by omega
  have:=h0 this;omega
 ·have e:(r0 != 0).toNat=1:=by
   have:(r0 != 0)=true:=by simpa using hr
   rw[this];rfl
  rw[e];rcases ht with rfl|rfl
  ·have:=h0 rfl;omega
  ·omega
theorem zGm{D k:Nat}(h1:2 ^ k≤D)(h2:D<2 ^ (k+1)):D.log2=k:=by
 have hne:D≠0:=by have:=Nat.two_pow_pos k;omega
 have u:=(Nat.log2_lt hne).2 h2;have l:=(Nat.le_log2 hne).2 h1;omega
theorem zGn{Q P:Nat}{x p:Int}{K:Nat}{up:Bool}(hm:Q / P=m)(hu:avUp A B Q P=up)(hc:c=m+up.toNat)(hx:x=p+K):(p+K+149)* 8388608+(c:Int)=avEnd A B Q P x:=by
 unfold avEnd;rw[hu,hm,hc,hx];cases up
 ·simp only[Bool.toNat_false,Nat.add_zero,Bool.false_eq_true,if_false];omega
 ·simp only[Bool.toNat_true,if_true];split<;>omega
theorem zP6{X Y:Int}(a1:8388608≤A)(a2:A<16777216)(b1:8388608≤B)(b2:B<16777216)(x1: -23≤X)(x2:X≤40)(y1: -23≤Y)(y2:Y≤40):(Ieee.single.nearest false (2*(A*33554432 / B)+(A*33554432 % B != 0).toNat) (X - Y - 26):Int)=if A*67108864 / B<67108864 then avEnd A B (A*67108864 / B) 4 (X - Y - 24) else avEnd A B (A*67108864 / B) 8 (X - Y - 23):=by
 obtain⟨t,r0,ht,hr0,hQ,h1,h0⟩:=zP5 (A:=A) (show 0<B by omega);have q1:16777216≤A*33554432 / B:=(Nat.le_div_iff_mul_le (by omega)).2 (by omega);have q2:A*33554432 / B<67108864:=(Nat.div_lt_iff_lt_mul (by omega)).2 (by omega);rw[←hr0,hQ];obtain⟨q,hq0⟩: ∃q,q=A*33554432 / B:=⟨_,rfl⟩;rw[←hq0]at q1 q2;rw[←hq0];have hs:(r0 != 0).toNat≤1:=Bool.toNat_le _;by_cases hq:2*q+t<67108864
 ·rw[if_pos hq];have hL:(2*q+(r0 != 0).toNat).log2=2+23:=by
   refine zGm ?_ ?_
   ·show 33554432≤_;omega
   ·show _<67108864;omega
  have hcut:=zD5 (2*q+(r0 != 0).toNat) 2 (by omega);have e4:(2:Nat) ^ 2=4:=by decide
  rw[e4,up_4 (A:=A) (B:=B) ht h1 h0]at hcut;have hm:(2*q+t) / 4=(2*q+(r0 != 0).toNat) / 4:=by omega
  have hu:(avUp A B (2*q+t) 4).toNat≤1:=Bool.toNat_le _;rw[zGl hL (by omega) (by omega) (by omega) (by omega) hcut (by omega)];exact zGn (K:=2) hm rfl rfl (by omega)
 ·rw[if_neg hq];have hL:(2*q+(r0 != 0).toNat).log2=3+23:=by
   refine zGm ?_ ?_
   ·show 67108864≤_;omega
   ·show _<134217728;omega
  have hcut:=zD5 (2*q+(r0 != 0).toNat) 3 (by omega);have e4:(2:Nat) ^ 3=8:=by decide
  rw[e4,up_8 (A:=A) (B:=B) ht h1 h0]at hcut;have hm:(2*q+t) / 8=(2*q+(r0 != 0).toNat) / 8:=by omega
  have hu:(avUp A B (2*q+t) 8).toNat≤1:=Bool.toNat_le _;rw[zGl hL (by omega) (by omega) (by omega) (by omega) hcut (by omega)];exact zGn (K:=3) hm rfl rfl (by omega)
theorem zP7{e:Eng}{W V:Nat}(hV:e.volume=V)(hW:e.worth=W)(h1:W<4611686018427387904)(h2:V<4611686018427387904)(h3:0<V→0<W): ∃r,avgR e=some r∧(r:Int)=rAvg W V∧r<4294967296:=by
 unfold avgR rAvg;by_cases hz:V=0
 ·rw[if_pos (by omega),if_pos hz];exact⟨0,rfl,rfl,by omega⟩
 ·have hvp:0<V:=by omega
  rw[if_neg (by omega),if_neg hz,hV,hW];have lg: ∀m:Nat,0<m→m<4611686018427387904→m.log2<100:=fun m h0 h=>by
   have k:m.log2<62:=(Nat.log2_lt (by omega)).2 (by simpa using h);omega
  obtain⟨a1,a2⟩:=zBw W (h3 hvp);obtain⟨b1,b2⟩:=zBw V hvp;obtain⟨x1,x2⟩:=zCx W (h3 hvp) h1;obtain⟨y1,y2⟩:=zCx V hvp h2;have key:avgB (W:Int) (V:Int)=some (Ieee.single.write (.number false (2*(sgM W*33554432 / sgM V)+(sgM W*33554432 % sgM V != 0).toNat) (sgX W - sgX V - 26))):=by
   unfold avgB;rw[zCd,zCd];unfold Ieee.Format.div;rw[zGj (h3 hvp) (lg W (h3 hvp) h1),zGj hvp (lg V hvp h2)];have e25:Ieee.single.fractionBits+2=25:=by rw[zD2]
   rw[e25,zP3 a1 a2 b1 b2];rfl
  refine⟨_,key,?_,zE8 _ _⟩;exact zP6 a1 a2 b1 b2 x1 x2 y1 y2
section
variable {F:Nat→Prop} {base:Nat} {w:World} {b:Nat} {e:Eng} {g:Gh} {S:Sets} {v:Nat→Int}
theorem zSs(v:Nat→Int):termsV v=.agg #[iV (v 0),iV (v 1),iV (v 2),iV (v 3),iV (v 4),iV (v 5),iV (v 6),iV (v 7),iV (v 8)]:=rfl
def tabC(b:Nat):Array Value:=#[.nilFunc,.func (.func 58) #[iP b] #[],.func (.func 59) #[iP b] #[],.func (.func 60) #[iP b] #[],.func (.func 61) #[iP b] #[],.func (.func 62) #[iP b] #[]]
theorem zP8(e':Eng)(HC: ∀W,Below w.heap.size w W→Cl 58 #[iP b,termsV v] W fun en w'=>en=rV #[]∧Hid (Cend F base w b g e' w')):
 Cl 30 #[iP b,.agg #[iV 1,iV (v 0),iV (v 1),iV (v 2),iV (v 3),iV (v 4),iV (v 5),iV (v 6),iV (v 7),iV (v 8)]] w fun en w'=>en=rV #[]∧Hid (Cend F base w b g e' w'):=by
 have HCC:=hid HC;unfold termsV at HCC;have HB2:Hid (Bw w ((w.alloc (.cells #[iV 1,iV (v 0),iV (v 1),iV (v 2),iV (v 3),iV (v 4),iV (v 5),iV (v 6),iV (v 7),iV (v 8)] 59)).alloc (.cells (tabC b) 148))):=((Below.refl w.heap.size w).alloc (Nat.le_refl _) _).alloc (by simp) _;unfold tabC at HB2;go_enter Tryz.func30,Tryz.ntmps30;go_wp2_with fail;go_region_with(first|(go_at_call 58;refine(HCC _ (zB4 HB2)).mono ?_;rintro en w1 ⟨rfl,HZ⟩));all_goals(go_end0;exact⟨rfl,HZ⟩)
theorem zP9(e':Eng)(HC: ∀W,Below w.heap.size w W→Cl 59 #[iP b,termsV v] W fun en w'=>en=rV #[]∧Hid (Cend F base w b g e' w')):
 Cl 30 #[iP b,.agg #[iV 2,iV (v 0),iV (v 1),iV (v 2),iV (v 3),iV (v 4),iV (v 5),iV (v 6),iV (v 7),iV (v 8)]] w fun en w'=>en=rV #[]∧Hid (Cend F base w b g e' w'):=by
 have HCC:=hid HC;unfold termsV at HCC;have HB2:Hid (Bw w ((w.alloc (.cells #[iV 2,iV (v 0),iV (v 1),iV (v 2),iV (v 3),iV (v 4),iV (v 5),iV (v 6),iV (v 7),iV (v 8)] 59)).alloc (.cells (tabC b) 148))):=((Below.refl w.heap.size w).alloc (Nat.le_refl _) _).alloc (by simp) _;unfold tabC at HB2;go_enter Tryz.func30,Tryz.ntmps30;go_wp2_with fail;go_region_with(first|(go_at_call 59;refine(HCC _ (zB4 HB2)).mono ?_;rintro en w1 ⟨rfl,HZ⟩));all_goals(go_end0;exact⟨rfl,HZ⟩)
theorem zPa(e':Eng)(HC: ∀W,Below w.heap.size w W→Cl 60 #[iP b,termsV v] W fun en w'=>en=rV #[]∧Hid (Cend F base w b g e' w')):
 Cl 30 #[iP b,.agg #[iV 3,iV (v 0),iV (v 1),iV (v 2),iV (v 3),iV (v 4),iV (v 5),iV (v 6),iV (v 7),iV (v 8)]] w fun en w'=>en=rV #[]∧Hid (Cend F base w b g e' w'):=by
 have HCC:=hid HC;unfold termsV at HCC;have HB2:Hid (Bw w ((w.alloc (.cells #[iV 3,iV (v 0),iV (v 1),iV (v 2),iV (v 3),iV (v 4),iV (v 5),iV (v 6),iV (v 7),iV (v 8)] 59)).alloc (.cells (tabC b) 148))):=((Below.refl w.heap.size w).alloc (Nat.le_refl _) _).alloc (by simp) _;unfold tabC at HB2;go_enter Tryz.func30,Tryz.ntmps30;go_wp2_with fail;go_region_with(first|(go_at_call 60;refine(HCC _ (zB4 HB2)).mono ?_;rintro en w1 ⟨rfl,HZ⟩));all_goals(go_end0;exact⟨rfl,HZ⟩)
theorem zPb(e':Eng)(HC: ∀W,Below w.heap.size w W→Cl 61 #[iP b,termsV v] W fun en w'=>en=rV #[]∧Hid (Cend F base w b g e' w')):
 Cl 30 #[iP b,.agg #[iV 4,iV (v 0),iV (v 1),iV (v 2),iV (v 3),iV (v 4),iV (v 5),iV (v 6),iV (v 7),iV (v 8)]] w fun en w'=>en=rV #[]∧Hid (Cend F base w b g e' w'):=by
 have HCC:=hid HC;unfold termsV at HCC;have HB2:Hid (Bw w ((w.alloc (.cells #[iV 4,iV (v 0),iV (v 1),iV (v 2),iV (v 3),iV (v 4),iV (v 5),iV (v 6),iV (v 7),iV (v 8)] 59)).alloc (.cells (tabC b) 148))):=((Below.refl w.heap.size w).alloc (Nat.le_refl _) _).alloc (by simp) _;unfold tabC at HB2;go_enter Tryz.func30,Tryz.ntmps30;go_wp2_with fail;go_region_with(first|(go_at_call 61;refine(HCC _ (zB4 HB2)).mono ?_;rintro en w1 ⟨rfl,HZ⟩));all_goals(go_end0;exact⟨rfl,HZ⟩)
theorem zPc(e':Eng)(HC: ∀W,Below w.heap.size w W→Cl 62 #[iP b,termsV v] W fun en w'=>en=rV #[]∧Hid (Cend F base w b g e' w')):
 Cl 30 #[iP b,.agg #[iV 5,iV (v 0),iV (v 1),iV (v 2),iV (v 3),iV (v 4),iV (v 5),iV (v 6),iV (v 7),iV (v 8)]] w fun en w'=>en=rV #[]∧Hid (Cend F base w b g e' w'):=by
 have HCC:=hid HC;unfold termsV at HCC;have HB2:Hid (Bw w ((w.alloc (.cells #[iV 5,iV (v 0),iV (v 1),iV (v 2),iV (v 3),iV (v 4),iV (v 5),iV (v 6),iV (v 7),iV (v 8)] 59)).alloc (.cells (tabC b) 148))):=((Below.refl w.heap.size w).alloc (Nat.le_refl _) _).alloc (by simp) _;unfold tabC at HB2;go_enter Tryz.func30,Tryz.ntmps30;go_wp2_with fail;go_region_with(first|(go_at_call 62;refine(HCC _ (zB4 HB2)).mono ?_;rintro en w1 ⟨rfl,HZ⟩));all_goals(go_end0;exact⟨rfl,HZ⟩)
theorem zPd(kind:Int)(hk:1≤kind∧kind≤5)(h:CRep F base w b e g S)(inv:Eng.EInv e)(hH:Holds e S [] [])(hpg:Eng.Pegs e)(hv:Eng.VOk v)(hvb: ∀j,0≤v j+2147483648∧v j≤4294967296)(hro:Room 2200 e)(hsu:Sums 1000 e)(hd:Dr e)(hl:e.all.length+1≤100000000):
 Cl 30 #[iP b,.agg #[iV kind,iV (v 0),iV (v 1),iV (v 2),iV (v 3),iV (v 4),iV (v 5),iV (v 6),iV (v 7),iV (v 8)]] w fun en w'=>en=rV #[]∧Hid (Cend F base w b g (e.run kind v) w'):=by
 have hT: ∀{W w':World} {e':Eng},Bw w W→Cend F base W b g e' w'→Cend F base w b g e' w':=fun hB hz=>hz.from (zAp h.up hB)
 have hkk:kind=1∨kind=2∨kind=3∨kind=4∨kind=5:=by omega
 rcases hkk with rfl|rfl|rfl|rfl|rfl
 ·exact zP8 (e.run 1 v) fun W hB=>(zN1 (h.below hB) inv hH hv hvb (hro.mono (by omega)) hsu hd hl).mono fun en w' ⟨h1,h2⟩=>⟨h1,hT hB h2.out⟩
 ·exact zP9 (e.run 2 v) fun W hB=>(zLw (h.below hB) inv hH (hro.mono (by omega)) ⟨hv.id0,hv.id1⟩).mono fun en w' ⟨h1,h2⟩=>⟨h1,hT hB h2.out.cend⟩
 ·exact zPa (e.run 3 v) fun W hB=>(zN5 (h.below hB) inv hH hpg hvb (hro.mono (by omega)) hsu hd).mono fun en w' ⟨h1,h2⟩=>⟨h1,hT hB h2.out.cend⟩
 ·exact zPb (e.run 4 v) fun W hB=>(zLv (h.below hB) inv hH (hro.mono (by omega)) (by omega) ⟨hv.t0,hv.t1⟩).mono fun en w' ⟨h1,h2⟩=>⟨h1,hT hB h2.out.cend⟩
 ·exact zPc (e.run 5 v) fun W hB=>(zLu (h.below hB) inv hH (hro.mono (by omega)) (by omega)).mono fun en w' ⟨h1,h2⟩=>⟨h1,hT hB h2.out.cend⟩
end
end Go.Proofs.YtilbfpnpkkkpgaaGreatDoor
