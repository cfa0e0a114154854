import Derived.Test.YtehmdohpmpbnnaaGreatDoorQ00
import Derived.Test.YtehmdohpmpbnnaaGreatDoorQ09
import Derived.Test.YtehmdohpmpbnnaaGreatDoorQ10
import Derived.Deep.RegionHeld
import Derived.WalkMore
import Derived.ScopeJumps
set_option linter.all false
set_option maxRecDepth 100000
set_option maxHeartbeats 8000000
namespace Go.Proofs.YtehmdohpmpbnnaaGreatDoor
variable{w:World}{a:Nat→Addr}
open Go.Proofs.Tryz
open Go.Extern Go.RowKit
theorem zKm(s:ByteArray)(A pa pb:Nat)(w:World)(hW:qx w)(hpa:pa<9)(hpb:wid pa=pb)(hb4:pb=1∨pb=4)(h6:pa=6→pb=4)(ha:A+pb≤s.size)(hm:s.size≤1000000000):
 Cl 92 #[.string s,iV A,iV pa] w fun e w'=>e=.returned (iV (rd s.data.toList A (pa,pb)))∧w'=w:=by
 have I:=hW pa hpa;rw[hpb]at I;have N:(0:Int)≤(pa:Int)∧(pa:Int)<9:=by omega
 have R:=eX ((s.data.toList.drop A).take pb);have O:=oP ((s.data.toList.drop A).take pb) (Nat.le_trans (List.length_take_le _ _) (by omega));have K:=zBq s.data.toList A pa pb;have F:=zBr s.data.toList A pb;have C:=hid K;have D:=hid F;have J:=fun W=>zu s A pb W (by omega) ha hm
 have B:=hid J;generalize val ((s.data.toList.drop A).take pb)=x at *;by_cases H:pa=6
 ·subst H;have M:pb=4:=h6 rfl;subst M;go_enter func92,ntmps92;go_wp2_with fail;refine(B _).mono ?_;rintro e w' ⟨rfl,rfl⟩;go_wp2;go_ret;refine⟨sD ?_,rfl⟩;by_cases E:2147483648≤x
  ·rw[D.o E];unfold wrap64 wrap32;omega
  rw[C.o (by omega)];unfold wrap64 wrap32;omega
 have S:=beq_eq_false_iff_ne.2 (by omega);have L:=C (by omega);have G:=hid L;go_enter func92,ntmps92;go_wp2_with fail;refine(B _).mono ?_;rintro e w' ⟨rfl,rfl⟩;go_wp2;go_ret;exact⟨sD G.symm,rfl⟩
theorem zD6(v:Nat→Int)(w:World):
 Cl 93 #[vS v] w fun e w'=>e=.returned (vS v)∧Below w.heap.size w w':=by
 go_enter func93,ntmps93;go_wp2;refine bodyPost_ret (v:=vS v) (by simp[results,Tryz.results93,go_sem]) rfl ⟨rfl,?_⟩;repeat(first|exact Below.refl _ _|refine Below.setCell ?_ (by simp) _|refine Below.drew ?_|refine fu ?_ _)
theorem jX{P:Program}{a:Act}{Q:Exit→Act→World→Prop}{c rest:Code}(l:Nat)(hf:findLabel c l=some rest)
 (first:c.wp P (Exit.jump l (fun a w=>rest.wp P (Exit.noGoto Q) a w) Q) a w):(Code.scope c).wp P Q a w:=by
 intro b k K;have G:gotoIn l (.inScope c::k)=some (.code rest::.inScope c::k):=by simp[gotoIn,hf]
 obtain⟨e,E,H,D,A⟩:=first b (.inScope c::k) K
 cases e with
 |normal=>exact⟨.normal,E,H,D,.head step_scope (Steps.trans A (.one step_inScope))⟩
 |exit id=>exact⟨.exit id,E,H,D,fun k' hk=>.head step_scope (A k' (by simp[exitTo,hk]))⟩
 |goto l'=>
  obtain⟨rfl,J⟩:=D;obtain⟨L,F,I,C,B⟩:=J b (.inScope c::k) K;cases L with
  |normal=>exact⟨.normal,F,I,C,.of_steps (.head step_scope (A _ G)) (Steps.trans B (.one step_inScope))⟩
  |exit id=>exact⟨.exit id,F,I,C,fun k' hk=>Steps.trans (.head step_scope (A _ G)) (B k' (by simp[exitTo,hk]))⟩
  |goto l=>exact C.elim
  |ret=>exact⟨_,F,I,C,.of_steps (.head step_scope (A _ G)) B⟩
  |panic ch=>exact⟨_,F,I,C,.of_steps (.head step_scope (A _ G)) B⟩
  |outgrown=>exact⟨_,F,I,C,.of_steps (.head step_scope (A _ G)) B⟩
 |ret=>exact⟨_,E,H,D,.of_steps (.one step_scope) A⟩
 |panic ch=>exact⟨_,E,H,D,.of_steps (.one step_scope) A⟩
 |outgrown=>exact⟨_,E,H,D,.of_steps (.one step_scope) A⟩
def gV(a:Nat→Addr)(err:Value)(n:Int):Prop:=(err=.nilIface∧n=0)∨∃k:Nat,k<8∧err=.iface 309 (.pointer (some (a k)))∧n=(k:Int)+1
theorem gV.is{err:Value}{n:Int}(h:gV a err n)(w:World):xD w a err n (-1):=by
 rcases h with⟨A,B⟩|⟨k,A,B,C⟩
 ·exact .inl ⟨A,B,rfl⟩
 exact .inr (.inl ⟨k,A,B,C,rfl⟩)
abbrev z10:Array Value:=#[iV 0,iV 0,iV 0,iV 0,iV 0,iV 0,iV 0,iV 0,iV 0,iV 0]
abbrev z9:Array Value:=#[iV 0,iV 0,iV 0,iV 0,iV 0,iV 0,iV 0,iV 0,iV 0]
theorem errs3{st:Nat→ByteArray}(hE:lq w a st)(o1 o2 o3:Obj):lq (((w.alloc o1).alloc o2).alloc o3) a st:=((hE.alloc o1).alloc o2).alloc o3
theorem zKn(a:Nat→Addr)(st:Nat→ByteArray)(w:World)(hE:lq w a st):
 Cl 55 #[.string ⟨#[]⟩] w fun e w'=> ∃err,e=rV #[dD 0 (fun _=>0),iV 0,err]∧gV a err 4∧Below w.heap.size w w':=by
 have A:=(errs3 hE (.cells z10 81) (.cells z10 81) (.cells z9 27)).c3;go_enter func55,ntmps55;go_wp2_with fail;refine jX 0 rfl ?_;go_wp2_with fail
 go_step3
 refine⟨rfl,?_⟩;go_wp2_with fail;go_region;all_goals(try go_wp2)
 all_goals
  simp only[Exit.noGoto];refine bodyPost_ret (v:=.tuple #[dD 0 (fun _=>0),iV 0,.iface 309 (.pointer (some (a 3)))]) (by simp[results,Tryz.results55,go_sem]) rfl ⟨_,rfl,.inr ⟨3,by omega,rfl,rfl⟩,?_⟩;repeat(first|exact Below.refl _ _|refine Below.drew ?_|refine fu ?_ _)
theorem zKo(a:Nat→Addr)(st:Nat→ByteArray)(s:ByteArray)(w:World)(hE:lq w a st)(h:0<s.size)(h0:zw s 0=0):
 Cl 55 #[.string s] w fun e w'=> ∃err,e=rV #[dD 0 (fun _=>0),iV 0,err]∧gV a err 5∧Below w.heap.size w w':=by
 have C:=(errs3 hE (.cells z10 81) (.cells z10 81) (.cells z9 27)).c4;have A:=zh s 0 h;rw[h0]at A;have B:((s.size:Int) == 0)=false:=beq_eq_false_iff_ne.2 (by omega);go_enter func55,ntmps55;go_wp2_with fail;refine jX 1 rfl ?_;go_wp2_with fail
 go_step3
 refine⟨rfl,?_⟩;go_wp2_with fail;go_region;all_goals(try go_wp2)
 all_goals
  simp only[Exit.noGoto];refine bodyPost_ret (v:=.tuple #[dD 0 (fun _=>0),iV 0,.iface 309 (.pointer (some (a 4)))]) (by simp[results,Tryz.results55,go_sem]) rfl ⟨_,rfl,.inr ⟨4,by omega,rfl,rfl⟩,?_⟩;repeat(first|exact Below.refl _ _|refine Below.drew ?_|refine fu ?_ _)
theorem zKp(a:Nat→Addr)(st:Nat→ByteArray)(s:ByteArray)(w:World)(hE:lq w a st)(h:0<s.size)(h0:zw s 0≠0)(h1:s.size<zw s 0+1):
 Cl 55 #[.string s] w fun e w'=> ∃err,e=rV #[dD 0 (fun _=>0),iV 0,err]∧gV a err 4∧Below w.heap.size w w':=by
 have E:=(errs3 hE (.cells z10 81) (.cells z10 81) (.cells z9 27)).c3;have D:=zh s 0 h;have A:=mP s 0;generalize zw s 0=n at *;have C:wrap64 ((n:Nat):Int)=n:=by unfold wrap64;omega
 have F:=beq_eq_false_iff_ne.2 (by omega);have B:=beq_eq_false_iff_ne.2 (by omega);go_enter func55,ntmps55;go_wp2_with fail;refine jX 0 rfl ?_;go_wp2_with fail
 go_step3
 refine⟨rfl,?_⟩;go_wp2_with fail;go_region;all_goals(try go_wp2)
 all_goals
  simp only[Exit.noGoto];refine bodyPost_ret (v:=.tuple #[dD 0 (fun _=>0),iV 0,.iface 309 (.pointer (some (a 3)))]) (by simp[results,Tryz.results55,go_sem]) rfl ⟨_,rfl,.inr ⟨3,by omega,rfl,rfl⟩,?_⟩;repeat(first|exact Below.refl _ _|refine Below.drew ?_|refine fu ?_ _)
structure DecMem(w2:World)(R:Nat)(kd:Int):Prop where
 size:R+2<w2.heap.size
 res:∀j,j<10→w2.cell? (iA R j)=sI 0
 resF:∀j,w2.frozen? (iA R j)=false
 kind:w2.cell? (iA (R+1) 0)=sI kd
 cmd:∀j,j<9→w2.cell? (iA (R+1) (1+j))=sI 0
 cmdF:∀j,w2.frozen? (iA (R+1) j)=false
 num:∀j,j<9→w2.cell? (iA (R+2) j)=sI 0
 numF:∀j,w2.frozen? (iA (R+2) j)=false
theorem xY(w:World)(kd:Int)(w2:World)(W:World)(hW:W=((w.alloc (.cells z10 81)).alloc (.cells #[iV kd,iV 0,iV 0,iV 0,iV 0,iV 0,iV 0,iV 0,iV 0,iV 0] 81)).alloc (.cells z9 27))
 (hb:Below W.heap.size W w2):DecMem w2 w.heap.size kd:=by
 subst hW;have B:∀j,j<9→j=0∨j=1∨j=2∨j=3∨j=4∨j=5∨j=6∨j=7∨j=8:=fun j hj=>by omega
 have A:∀j,j<10→j=0∨j=1∨j=2∨j=3∨j=4∨j=5∨j=6∨j=7∨j=8∨j=9:=fun j hj=>by omega
 refine⟨by have:=hb.size;simp at this;omega,fun j hj=>?_,fun j=>?_,?_,fun j hj=>?_,fun j=>?_,fun j hj=>?_,fun j=>?_⟩
 ·rw[hb.cell (p:=(iA w.heap.size j)) (by simp;omega),World.cell?_alloc_lt _ _ _ (by simp;omega),World.cell?_alloc_lt _ _ _ (by simp)];rcases A j hj with rfl|rfl|rfl|rfl|rfl|rfl|rfl|rfl|rfl|rfl<;>simp
 ·rw[hb.frozen (p:=(iA w.heap.size j)) (by simp;omega),World.frozen?_alloc_old _ _ _ (by simp;omega),World.frozen?_alloc_old _ _ _ (by simp)];simp
 ·rw[hb.cell (p:=(iA (w.heap.size+1) 0)) (by simp),World.cell?_alloc_lt _ _ _ (by simp)];simp
 ·rw[hb.cell (p:=(iA (w.heap.size+1) (1+j))) (by simp),World.cell?_alloc_lt _ _ _ (by simp)];rcases B j hj with rfl|rfl|rfl|rfl|rfl|rfl|rfl|rfl|rfl<;>simp
 ·rw[hb.frozen (p:=(iA (w.heap.size+1) j)) (by simp),World.frozen?_alloc_old _ _ _ (by simp)];simp
 ·rw[hb.cell (p:=(iA (w.heap.size+2) j)) (by simp),World.cell?_alloc_at _ _ _ _ (by simp)];rcases B j hj with rfl|rfl|rfl|rfl|rfl|rfl|rfl|rfl|rfl<;>simp
 rw[hb.frozen (p:=(iA (w.heap.size+2) j)) (by simp),World.frozen?_alloc_at _ _ _ _ (by simp)]
theorem zKq(a:Nat→Addr)(st:Nat→ByteArray)(s:ByteArray)(w:World)(hE:lq w a st)(hW:qx w)(h:0<s.size)(h0:zw s 0≠0)(h1:zw s 0+1≤s.size)(hbad:¬(1≤zw s 1∧zw s 1≤5∧2+aY (terms (zw s 1))=zw s 0+1)):
 Cl 55 #[.string s] w fun e w'=> ∃err,e=rV #[dD 0 (fun _=>0),iV 0,err]∧gV a err 5∧Below w.heap.size w w':=by
 have hb:=zh s 0 h;have V:1<s.size:=by omega
 have d:=zh s 1 V;have y:=mP s 0;have Y:=mP s 1;have X:=hid hE;have c:=hid hW;generalize zw s 0=n at *;generalize zw s 1=kd at *;have R:=hid hbad;have A3:wrap64 ((n:Nat):Int)=n:=by unfold wrap64;omega
 have A2:wrap64 ((kd:Nat):Int)=kd:=by unfold wrap64;omega
 have hz:((n:Int) == 0)=false:=beq_eq_false_iff_ne.2 (by omega);have A1:((s.size:Int) == 0)=false:=beq_eq_false_iff_ne.2 (by omega);go_enter func55,ntmps55;go_wp2_with fail;refine jX 1 rfl ?_;go_wp2_with fail;refine(pZ (kd:Int) _).mono ?_;rintro e b ⟨ta,rfl,U,D⟩;have A:=hid (xY w (kd:Int) b _ rfl D);have B:=hid (((((Below.refl _ _).alloc (Nat.le_refl _) _).alloc (by simp) _).alloc (by simp;omega) _).trans (D.mono (by simp;omega)));have f:=(X.below B).c4;have x:4<w.heap.size:=zA X.c4;have z:¬w.heap.size=4:=by omega
 have Z:¬4=w.heap.size:=by omega
 have E:=A.res 0 (by omega);have g:=A.resF 0;have G:=A.res 1 (by omega);have i:=A.resF 1;have H:=A.res 2 (by omega);have j:=A.resF 2;have I:=A.res 3 (by omega);have k:=A.resF 3;have J:=A.res 4 (by omega);have l:=A.resF 4;have K:=A.res 5 (by omega);have m:=A.resF 5;have L:=A.res 6 (by omega);have p:=A.resF 6;have M:=A.res 7 (by omega);have q:=A.resF 7;have N:=A.res 8 (by omega);have t:=A.resF 8;have O:=A.res 9 (by omega);have u:=A.resF 9;by_cases hk:1≤(kd:Int)∧(kd:Int)≤5
 ·have C:decide (1≤(kd:Int)∧(kd:Int)≤5)=true:=by simp;omega
  rw[C];have A4:=zBl (terms (kd:Int));have A0:2+kN (terms (kd:Int))≠(n:Int)+1:=by
   intro e;exact R ⟨by omega,by omega,by omega⟩
  have T:=mM (kd:Int) ta b U (c.below B);generalize 2+kN (terms (kd:Int))=F at *;have S:=hid T;have hq:((1:Int)+(n:Int) != F)=true:=by rw[bne_iff_ne];omega
  go_wp2_with fail;refine S.mono ?_;rintro e w' ⟨rfl,rfl⟩;go_wp2_with fail
  go_step3
  refine⟨rfl,?_⟩;go_wp2_with fail;go_region;all_goals(try go_wp2)
  all_goals
   simp only[Exit.noGoto];refine bodyPost_ret (v:=.tuple #[dD 0 (fun _=>0),iV 0,.iface 309 (.pointer (some (a 4)))]) (by simp[results,Tryz.results55,go_sem,E,G,H,I,J,K,L,M,N,O]) rfl ⟨_,rfl,.inr ⟨4,by omega,rfl,rfl⟩,?_⟩;exact Below.drew (kT B _ _ _ _ _ _ _ _ _ _)
 have C:decide (1≤(kd:Int)∧(kd:Int)≤5)=false:=by simp;omega
 rw[C];go_wp2_with fail
 go_step3
 refine⟨rfl,?_⟩;go_wp2_with fail;go_region;all_goals(try go_wp2)
 all_goals
  simp only[Exit.noGoto];refine bodyPost_ret (v:=.tuple #[dD 0 (fun _=>0),iV 0,.iface 309 (.pointer (some (a 4)))]) (by simp[results,Tryz.results55,go_sem,E,G,H,I,J,K,L,M,N,O]) rfl ⟨_,rfl,.inr ⟨4,by omega,rfl,rfl⟩,?_⟩;exact Below.drew (kT B _ _ _ _ _ _ _ _ _ _)
theorem keep9{w':World}{B C:Nat}(h:Below B w w')(hC:B≤C)(x1 x2 x3 x4 x5 x6 x7 x8 x9:Value):Below B w (((((((((w'.setCell (iA C 1) x1).setCell (iA C 2) x2).setCell (iA C 3) x3).setCell (iA C 4) x4).setCell (iA C 5) x5).setCell (iA C 6) x6).setCell (iA C 7) x7).setCell (iA C 8) x8).setCell (iA C 9) x9):=
 ((((((((h.setCell (p:=(iA C 1)) hC x1).setCell (p:=(iA C 2)) hC x2).setCell (p:=(iA C 3)) hC x3).setCell (p:=(iA C 4)) hC x4).setCell (p:=(iA C 5)) hC x5).setCell (p:=(iA C 6)) hC x6).setCell (p:=(iA C 7)) hC x7).setCell (p:=(iA C 8)) hC x8).setCell (p:=(iA C 9)) hC x9
structure DecEnd(w4:World)(R:Nat)(kd:Int):Prop where
 fF:∀j,j<10→w4.cell? (iA R j)=sI 0
 frR:∀j,w4.frozen? (iA R j)=false
 kind:w4.cell? (iA (R+1) 0)=sI kd
 cellC:∀j,j<9→w4.cell? (iA (R+1) (1+j))=sI 0
 frC:∀j,w4.frozen? (iA (R+1) j)=false
theorem decEnd{w2 wr w4:World}{R:Nat}{kd:Int}(hm:DecMem w2 R kd)(hg:w2.grownBy wr (some (R+2)))(hb:Below wr.heap.size wr w4):DecEnd w4 R kd:=by
 have D:=hm.size;have C:=hg.size;have A:∀(b o:Nat),b<R+2→w4.cell? (iA b o)=w2.cell? (iA b o):=fun b o hbo=>
  (hb.cell (p:=(iA b o)) (by show b<wr.heap.size;omega)).trans (World.cell?_of_block (a:=(iA b o)) (hg.block b (by omega) (by intro e;injection e with e;omega)))
 have B:∀(b o:Nat),b<R+2→w4.frozen? (iA b o)=w2.frozen? (iA b o):=fun b o hbo=>
  (hb.frozen (p:=(iA b o)) (by show b<wr.heap.size;omega)).trans (World.frozen?_of_block (a:=(iA b o)) (hg.block b (by omega) (by intro e;injection e with e;omega)))
 exact⟨fun j hj=>(A R j (by omega)).trans (hm.res j hj),fun j=>(B R j (by omega)).trans (hm.resF j),(A (R+1) 0 (by omega)).trans hm.kind,
  fun j hj=>(A (R+1) (1+j) (by omega)).trans (hm.cmd j hj),fun j=>(B (R+1) j (by omega)).trans (hm.cmdF j)⟩
theorem zKr(a:Nat→Addr)(st:Nat→ByteArray)(s:ByteArray)(w:World)(hE:lq w a st)(hW:qx w)(h:0<s.size)(h0:zw s 0≠0)(h1:zw s 0+1≤s.size)(hm:s.size≤1000000000)(hok:1≤zw s 1∧zw s 1≤5∧2+aY (terms (zw s 1))=zw s 0+1):
 Cl 55 #[.string s] w fun e w'=>e=rV #[dD (zw s 1) (reads s.data.toList 2 (terms (zw s 1)) (fun _=>0)),iV ((zw s 0:Int)+1),.nilIface]∧Below w.heap.size w w':=by
 have hb:=zh s 0 h;have Bg:1<s.size:=by omega
 have Bv:=zh s 1 Bg;have T:=mP s 0;have Bs:=mP s 1;have HW:=hid hW;have h9:=dS (hW 0 (by omega));generalize zw s 0=n at *;generalize zw s 1=kd at *;obtain⟨By,Bz,A9⟩:=hok;have C8:wrap64 ((n:Nat):Int)=n:=by unfold wrap64;omega
 have C7:wrap64 ((kd:Nat):Int)=kd:=by unfold wrap64;omega
 have hz:=beq_eq_false_iff_ne.2 (by omega);have C5:=beq_eq_false_iff_ne.2 (by omega);have M:=hid A9;go_enter func55,ntmps55;go_wp2_with fail
 go_step3
 go_wp2_with fail;refine(nP (kd:Int) _).mono ?_;rintro e w2 ⟨ta,rfl,A2,z,B3⟩;have C:=xY w (kd:Int) w2 _ rfl z;have O:=hid (((((Below.refl _ _).alloc (Nat.le_refl _) _).alloc (by simp) _).alloc (by simp;omega) _).trans (z.mono (by simp;omega)));have C3:=C.size;have u:=hid (HW.below O);have Be:decide (1≤(kd:Int)∧(kd:Int)≤5)=true:=by simp;omega
 rw[Be];have q:=zBl (terms (kd:Int));have A1:=mM (kd:Int) ta w2 A2 u;have y:2+kN (terms (kd:Int))=(1:Int)+(n:Int):=by have:=M;omega
 rw[y]at A1;have Ae:=hid A1;go_wp2_with fail;refine Ae.mono ?_;rintro e w' ⟨rfl,rfl⟩;have N:(mz (kd:Int)).length=(terms (kd:Int)).length:=by simp[mz]
 have C1:=kC (kd:Int);have I:w'.grownBy w' (some (w.heap.size+2)):=⟨rfl,rfl,rfl,Nat.le_refl _,fun _ _ _=>rfl⟩;rcases A2 with⟨rfl,A5⟩|⟨ba,rfl,Bt,H⟩
 ·have ht:terms (kd:Int)= []:=by simpa [mz] using A5
  have HV:Hd (reads s.data.toList 2 (terms (kd:Int)) (fun _=>0)=fun _=>0):=by show _=_;rw[ht];rfl
  have E:=I;have Bj:=C.num 0 (by omega);have Bk:=C.num 1 (by omega);have Bl:=C.num 2 (by omega);have Bm:=C.num 3 (by omega);have Bn:=C.num 4 (by omega);have Bo:=C.num 5 (by omega);have Bp:=C.num 6 (by omega);have Bq:=C.num 7 (by omega);have Br:=C.num 8 (by omega);go_wp2_with fail;refine wp_loop_rounds 1 ?_;rw[rounds_succ];go_wp2_with fail;refine(zD6 (fun _=>0) _).mono ?_;rintro e w4 ⟨rfl,G⟩;have B:=decEnd C E G;have R:=hid (O.trans ((bG E (by omega) (by omega)).trans (G.mono (by have:=E.size;omega))));have Bf:=B.kind;have U:=B.fF 0 (by omega);have I:=B.frR 0;have X:=B.fF 1 (by omega);have B5:=B.frR 1;have Y:=B.fF 2 (by omega);have B6:=B.frR 2;have Z:=B.fF 3 (by omega);have B7:=B.frR 3;have b:=B.fF 4 (by omega);have B8:=B.frR 4;have c:=B.fF 5 (by omega);have B9:=B.frR 5;have d:=B.fF 6 (by omega);have Ba:=B.frR 6;have f:=B.fF 7 (by omega);have Bb:=B.frR 7;have g:=B.fF 8 (by omega)
  have Bc:=B.frR 8;have l:=B.fF 9 (by omega);have Bd:=B.frR 9;have Aj:=B.cellC 0 (by omega);have Ak:=B.cellC 1 (by omega);have Al:=B.cellC 2 (by omega);have Am:=B.cellC 3 (by omega);have An:=B.cellC 4 (by omega);have Ao:=B.cellC 5 (by omega);have Ap:=B.cellC 6 (by omega);have Aq:=B.cellC 7 (by omega);have Ar:=B.cellC 8 (by omega);have Au:=B.frC 1;have Av:=B.frC 2;have Aw:=B.frC 3;have Ax:=B.frC 4;have Ay:=B.frC 5;have Az:=B.frC 6;have B0:=B.frC 7;have B1:=B.frC 8;have B2:=B.frC 9;go_wp2;simp only[Exit.noGoto];refine bodyPost_ret (v:=.tuple #[dD (kd:Int) (fun _=>0),iV ((1:Int)+(n:Int)),.nilIface]) (by simp[results,Tryz.results55,go_sem,U,X,Y,Z,b,c,d,f,g,l]) rfl ⟨by rw[HV.o,Int.add_comm],?_⟩;exact kT (keep9 R (by omega) _ _ _ _ _ _ _ _ _) _ _ _ _ _ _ _ _ _ _
 rw[N];have HA:=hid H;have HL:=hid N;generalize hN:(terms (kd:Int)).length=L at *;have HN:=hid hN;have A0:ba≠w.heap.size+2:=by have:=B3 ba 0 _ _ rfl;simp at this;omega
 have HM:=hid C;go_wp2_with fail;go_loopw [10,47] (fun at_ i wr=> ∃k:Nat,k≤L∧i=iV k∧at_=iV ((2+aY ((terms (kd:Int)).take k):Nat):Int)∧w'.grownBy wr (some (w.heap.size+2))∧
  (∀j,j<9→cI wr (w.heap.size+2) j (reads s.data.toList 2 ((terms (kd:Int)).take k) (fun _=>0) j))∧(∀j,wr.frozen? (iA (w.heap.size+2) j)=false)) (fun _ i _=>L - (intOf i).toNat)
 case atStart=>exact⟨0,Nat.zero_le _,rfl,rfl,I,HM.num,HM.numF⟩
 case round=>
  obtain⟨k,C0,rfl,rfl,E,As,B4⟩:=hrel;have S:=hid As;have t:=hid B4;by_cases T:k<L
  ·have J:k<(terms (kd:Int)).length:=by rw[HN.o];exact T
   have hok:=bX (kd:Int) _ (List.getElem_mem J);have m:=zAk (kd:Int) _ (List.getElem_mem J);have q:aY ((terms (kd:Int)).take (k+1))=aY ((terms (kd:Int)).take k)+(terms (kd:Int))[k].2:=by
    rw[List.take_succ_eq_append_getElem J,zBm]
   have A8:reads s.data.toList 2 ((terms (kd:Int)).take (k+1)) (fun _=>0)=upd (reads s.data.toList 2 ((terms (kd:Int)).take k) (fun _=>0)) (terms (kd:Int))[k].1 (rd s.data.toList (2+aY ((terms (kd:Int)).take k)) (terms (kd:Int))[k]):=by
    rw[List.take_succ_eq_append_getElem J,zBn]
   have H:=E.cell (HA k (by rw[HL.o];exact T)) (by simpa using A0);have C6:=xB (terms (kd:Int)) (k+1);have C4:=M;simp only[mz,List.getElem_map]at H;generalize hp:(terms (kd:Int))[k]=p at *;obtain⟨F,pb⟩:=p;obtain⟨K,A6,A7⟩:=hok;simp only at K A6 A7 H q A8 m;have At:=S F K;have Bx:=t F;have Ag:=hid A8;have Ai:=hid q;have Bh:2+aY ((terms (kd:Int)).take k)+pb≤s.size:=by omega
   have Ab:qx wr:=fun i hi=>E.cell (u i hi) (by intro e;injection e with e;have e':9=w.heap.size+2:=e;omega)
   generalize hat':2+aY ((terms (kd:Int)).take k)=A at *;have Ac:=hid hat';have Bi:=zKm s A F pb wr Ab K m A6 A7 Bh hm;have Bw:∀x:Value,(wr.setCell (iA (w.heap.size+2) F) x).cell? (iA 9 F)=sI (pb:Int):=fun x=>by
    rw[World.cell?_setCell_other _ _ _ _ (by intro e;injection e with e1 e2;omega),Ab F K,m]
   have Af:Hd (∀x:Int,rd s.data.toList A (F,pb)=x→∀j,j<9→(wr.setCell (iA (w.heap.size+2) F) (iV x)).cell? (iA (w.heap.size+2) j)=sI (reads s.data.toList 2 ((terms (kd:Int)).take (k+1)) (fun _=>0) j)):=fun x hx j hj=>by
    rw[Ag.o,hx];unfold upd;by_cases A3:j=F
    ·subst A3;rw[if_pos rfl];exact World.cell?_setCell_same _ _ _ At
    rw[if_neg A3,World.cell?_setCell_other _ _ _ _ (by intro e;injection e with e1 e2;omega)];exact S j hj
   have Ad:Hd (∀(x:Value) (j:Nat),(wr.setCell (iA (w.heap.size+2) F) x).frozen? (iA (w.heap.size+2) j)=false):=fun x j=>by
    rw[World.frozen?_setCell];exact t j
   generalize hrx:rd s.data.toList A (F,pb)=x at *;have Bu:=hid hrx;have Ah:=hid Bi;have C2:(0:Int)≤(F:Int)∧(F:Int)<9:=by omega
   go_wp2_with fail;refine Ah.mono ?_;rintro e w3 ⟨rfl,rfl⟩;go_wp2;go_roundw
   case rel=>exact⟨k+1,by omega,by go_num,zA0 (by have:=Ac;rw[Ai.o];omega),sJ E _,Af _ rfl,Ad _⟩
   case measure=>simp[intOf];omega
  have A4:k=L:=by omega
  subst A4;have Aa:=List.take_of_length_le (by rw[HN.o];omega);rw[Aa];have D:Hd (∀j,j<9→cI wr (w.heap.size+2) j (reads s.data.toList 2 (terms (kd:Int)) (fun _=>0) j)):=by
   have:=S;rw[Aa]at this;exact this
  have Bj:=D 0 (by omega);have Bk:=D 1 (by omega);have Bl:=D 2 (by omega);have Bm:=D 3 (by omega);have Bn:=D 4 (by omega);have Bo:=D 5 (by omega);have Bp:=D 6 (by omega);have Bq:=D 7 (by omega);have Br:=D 8 (by omega);have C:=HM;generalize hVV:reads s.data.toList 2 (terms (kd:Int)) (fun _=>0)=V at *;have HV:=hid hVV;go_wp2_with fail;refine(zD6 V _).mono ?_;rintro e w4 ⟨rfl,G⟩;have B:=decEnd C E G;have R:=hid (O.trans ((bG E (by omega) (by omega)).trans (G.mono (by have:=E.size;omega))));have Bf:=B.kind;have U:=B.fF 0 (by omega);have I:=B.frR 0;have X:=B.fF 1 (by omega);have B5:=B.frR 1;have Y:=B.fF 2 (by omega);have B6:=B.frR 2;have Z:=B.fF 3 (by omega);have B7:=B.frR 3;have b:=B.fF 4 (by omega);have B8:=B.frR 4;have c:=B.fF 5 (by omega);have B9:=B.frR 5;have d:=B.fF 6 (by omega);have Ba:=B.frR 6;have f:=B.fF 7 (by omega);have Bb:=B.frR 7;have g:=B.fF 8 (by omega);have Bc:=B.frR 8
  have l:=B.fF 9 (by omega);have Bd:=B.frR 9;have Aj:=B.cellC 0 (by omega);have Ak:=B.cellC 1 (by omega);have Al:=B.cellC 2 (by omega);have Am:=B.cellC 3 (by omega);have An:=B.cellC 4 (by omega);have Ao:=B.cellC 5 (by omega);have Ap:=B.cellC 6 (by omega);have Aq:=B.cellC 7 (by omega);have Ar:=B.cellC 8 (by omega);have Au:=B.frC 1;have Av:=B.frC 2;have Aw:=B.frC 3;have Ax:=B.frC 4;have Ay:=B.frC 5;have Az:=B.frC 6;have B0:=B.frC 7;have B1:=B.frC 8;have B2:=B.frC 9;go_wp2;simp only[Exit.noGoto];refine bodyPost_ret (v:=.tuple #[dD (kd:Int) V,iV ((1:Int)+(n:Int)),.nilIface]) (by simp[results,Tryz.results55,go_sem,U,X,Y,Z,b,c,d,f,g,l]) rfl ⟨by rw[HV.o,Int.add_comm],?_⟩;exact kT (keep9 R (by omega) _ _ _ _ _ _ _ _ _) _ _ _ _ _ _ _ _ _ _
theorem zKs(a:Nat→Addr)(st:Nat→ByteArray)(s:ByteArray)(w:World)(hE:lq w a st)(hW:qx w)(hm:s.size≤1000000000):
 Cl 55 #[.string s] w fun e w'=> ∃err m,e=rV #[dD (qm s) (ku s),iV m,err]∧gV a err (jy s)∧m=(if jy s=0 then tq s else 0)∧Below w.heap.size w w':=by
 by_cases h:s.size=0
 ·obtain rfl:s=⟨#[]⟩:=by
   apply ByteArray.ext;exact Array.eq_empty_of_size_eq_zero h
  refine(zKn a st w hE).mono ?_;rintro e w' ⟨err,rfl,A,B⟩;exact⟨err,0,rfl,A,rfl,B⟩
 by_cases D:zw s 0=0
 ·have e:jy s=5:=by unfold jy;rw[if_neg h,if_pos D]
  have E:qm s=0:=by unfold qm;rw[e];rfl
  have F:ku s=fun _=>0:=by unfold ku;rw[e];rfl
  rw[e,E,F];refine(zKo a st s w hE (by omega) D).mono ?_;rintro e w' ⟨err,rfl,A,B⟩;exact⟨err,0,rfl,A,rfl,B⟩
 by_cases A:s.size<zw s 0+1
 ·have e:jy s=4:=by unfold jy;rw[if_neg h,if_neg D,if_pos A]
  have E:qm s=0:=by unfold qm;rw[e];rfl
  have F:ku s=fun _=>0:=by unfold ku;rw[e];rfl
  rw[e,E,F];refine(zKp a st s w hE (by omega) D A).mono ?_;rintro e w' ⟨err,rfl,A,B⟩;exact⟨err,0,rfl,A,rfl,B⟩
 by_cases C:1≤zw s 1∧zw s 1≤5∧2+aY (terms (zw s 1))=zw s 0+1
 ·obtain⟨E,F,G,e⟩:=zBt s (by omega) D (by omega) C;rw[e,E,F,G];refine(zKr a st s w hE hW (by omega) D (by omega) hm C).mono ?_;rintro e w' ⟨rfl,B⟩;exact⟨.nilIface,_,rfl,.inl ⟨rfl,rfl⟩,rfl,B⟩
 obtain⟨E,F,G,e⟩:=zBs s (by omega) D (by omega) C;rw[e,E,F];refine(zKq a st s w hE hW (by omega) D (by omega) C).mono ?_;rintro e w' ⟨err,rfl,A,B⟩;exact⟨err,0,rfl,A,rfl,B⟩
end Go.Proofs.YtehmdohpmpbnnaaGreatDoor
