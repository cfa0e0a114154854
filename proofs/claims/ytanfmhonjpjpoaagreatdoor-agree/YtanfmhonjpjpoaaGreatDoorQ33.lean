import Derived.Test.YtanfmhonjpjpoaaGreatDoorQ00
import Derived.Test.YtanfmhonjpjpoaaGreatDoorQ10
import Derived.Test.YtanfmhonjpjpoaaGreatDoorQ12
import Derived.Deep.RegionHeld
import Derived.WalkMore
import Derived.ScopeJumps
set_option linter.all false
set_option maxRecDepth 100000
set_option maxHeartbeats 8000000
namespace Go.Proofs.YtanfmhonjpjpoaaGreatDoor
variable{w:World}{a:Nat→Addr}
open Go.Extern Go.RowKit
theorem zQw(s:ByteArray)(A pa pb:Nat)(w:World)(hW:Wids w)(hpa:pa<9)(hpb:wid pa=pb)(hb4:pb=1∨pb=4)(h6:pa=6→pb=4)(ha:A+pb≤s.size)(hm:s.size≤1000000000):
 Cl 114 #[.string s,iV A,iV pa] w fun e w'=>e=.returned (iV (rd s.data.toList A (pa,pb)))∧w'=w:=by
 have hcw:=hW pa hpa;rw[hpb]at hcw;have hpz:(0:Int)≤(pa:Int)∧(pa:Int)<9:=by omega
 have hvn:=zBb ((s.data.toList.drop A).take pb);have hvl:=zBc ((s.data.toList.drop A).take pb) (Nat.le_trans (List.length_take_le _ _) (by omega));have HP:=zFs s.data.toList A pa pb;have HPN:=zFt s.data.toList A pb;have HP':=hid HP;have HPN':=hid HPN;have hna:=fun W=>zAx s A pb W (by omega) ha hm
 have HNA:=hid hna;generalize val ((s.data.toList.drop A).take pb)=x at *;by_cases h6':pa=6
 ·subst h6';have h4:pb=4:=h6 rfl;subst h4;go_enter Tryz.func114,Tryz.ntmps114;go_wp2_with fail;refine(HNA _).mono ?_;rintro e w' ⟨rfl,rfl⟩;go_wp2;go_ret;refine⟨zBr ?_,rfl⟩;by_cases hbig:2147483648≤x
  ·rw[HPN'.out hbig];unfold wrap64 wrap32;omega
  ·rw[HP'.out (by omega)];unfold wrap64 wrap32;omega
 ·have g6:=beq_eq_false_iff_ne.2 (by omega);have HR:=HP' (by omega);have HR':=hid HR;go_enter Tryz.func114,Tryz.ntmps114;go_wp2_with fail;refine(HNA _).mono ?_;rintro e w' ⟨rfl,rfl⟩;go_wp2;go_ret;exact⟨zBr HR'.symm,rfl⟩
theorem zHw(v:Nat→Int)(w:World):
 Cl 115 #[arrV v] w fun e w'=>e=.returned (arrV v)∧Below w.heap.size w w':=by
 go_enter Tryz.func115,Tryz.ntmps115;go_wp2;refine bodyPost_ret (v:=arrV v) (by simp[results,Tryz.results115,go_sem]) rfl ⟨rfl,?_⟩;repeat(first|exact Below.refl _ _|refine Below.setCell ?_ (by simp) _|refine Below.drew ?_|refine zA1 ?_ _)
theorem zD4{P:Program}{a:Act}{Q:Exit→Act→World→Prop}{c rest:Code}(l:Nat)(hf:findLabel c l=some rest)
 (first:c.wp P (Exit.jump l (fun a w=>rest.wp P (Exit.noGoto Q) a w) Q) a w):(Code.scope c).wp P Q a w:=by
 intro b k cs;have hg:gotoIn l (.inScope c::k)=some (.code rest::.inScope c::k):=by simp[gotoIn,hf]
 obtain⟨e,a₁,w₁,hq,harr⟩:=first b (.inScope c::k) cs
 cases e with
 |normal=>exact⟨.normal,a₁,w₁,hq,.head step_scope (Steps.trans harr (.one step_inScope))⟩
 |exit id=>exact⟨.exit id,a₁,w₁,hq,fun k' hk=>.head step_scope (harr k' (by simp[exitTo,hk]))⟩
 |goto l'=>
  obtain⟨rfl,hJ'⟩:=hq;obtain⟨e₂,a₂,w₂,hq₂,harr₂⟩:=hJ' b (.inScope c::k) cs;cases e₂ with
  |normal=>exact⟨.normal,a₂,w₂,hq₂,.of_steps (.head step_scope (harr _ hg)) (Steps.trans harr₂ (.one step_inScope))⟩
  |exit id=>exact⟨.exit id,a₂,w₂,hq₂,fun k' hk=>Steps.trans (.head step_scope (harr _ hg)) (harr₂ k' (by simp[exitTo,hk]))⟩
  |goto l=>exact hq₂.elim
  |ret=>exact⟨_,a₂,w₂,hq₂,.of_steps (.head step_scope (harr _ hg)) harr₂⟩
  |panic ch=>exact⟨_,a₂,w₂,hq₂,.of_steps (.head step_scope (harr _ hg)) harr₂⟩
  |outgrown=>exact⟨_,a₂,w₂,hq₂,.of_steps (.head step_scope (harr _ hg)) harr₂⟩
 |ret=>exact⟨_,a₁,w₁,hq,.of_steps (.one step_scope) harr⟩
 |panic ch=>exact⟨_,a₁,w₁,hq,.of_steps (.one step_scope) harr⟩
 |outgrown=>exact⟨_,a₁,w₁,hq,.of_steps (.one step_scope) harr⟩
def ErrBare(a:Nat→Addr)(err:Value)(n:Int):Prop:=(err=.nilIface∧n=0)∨∃k:Nat,k<8∧err=.iface 325 (.pointer (some (a k)))∧n=(k:Int)+1
theorem ErrBare.is{err:Value}{n:Int}(h:ErrBare a err n)(w:World):ErrIs w a err n (-1):=by
 rcases h with⟨h1,h2⟩|⟨k,h1,h2,h3⟩
 ·exact .inl ⟨h1,h2,rfl⟩
 ·exact .inr (.inl ⟨k,h1,h2,h3,rfl⟩)
abbrev z10:Array Value:=#[iV 0,iV 0,iV 0,iV 0,iV 0,iV 0,iV 0,iV 0,iV 0,iV 0]
abbrev z9:Array Value:=#[iV 0,iV 0,iV 0,iV 0,iV 0,iV 0,iV 0,iV 0,iV 0]
theorem errs3{st:Nat→ByteArray}(hE:Errs w a st)(o1 o2 o3:Obj):Errs (((w.alloc o1).alloc o2).alloc o3) a st:=((hE.alloc o1).alloc o2).alloc o3
theorem zQx(a:Nat→Addr)(st:Nat→ByteArray)(w:World)(hE:Errs w a st):
 Cl 71 #[.string ⟨#[]⟩] w fun e w'=> ∃err,e=rV #[cmdV 0 (fun _=>0),iV 0,err]∧ErrBare a err 4∧Below w.heap.size w w':=by
 have hc:=(errs3 hE (.cells z10 102) (.cells z10 102) (.cells z9 35)).c3;go_enter Tryz.func71,Tryz.ntmps71;go_wp2_with fail;refine zD4 0 rfl ?_;go_wp2_with fail
 go_step3
 refine⟨rfl,?_⟩;go_wp2_with fail;go_region;all_goals(try go_wp2)
 all_goals
  simp only[Exit.noGoto];refine bodyPost_ret (v:=.tuple #[cmdV 0 (fun _=>0),iV 0,.iface 325 (.pointer (some (a 3)))]) (by simp[results,Tryz.results71,go_sem]) rfl ⟨_,rfl,.inr ⟨3,by omega,rfl,rfl⟩,?_⟩;repeat(first|exact Below.refl _ _|refine Below.drew ?_|refine zA1 ?_ _)
theorem zQy(a:Nat→Addr)(st:Nat→ByteArray)(s:ByteArray)(w:World)(hE:Errs w a st)(h:0<s.size)(h0:bAt s 0=0):
 Cl 71 #[.string s] w fun e w'=> ∃err,e=rV #[cmdV 0 (fun _=>0),iV 0,err]∧ErrBare a err 5∧Below w.heap.size w w':=by
 have hc:=(errs3 hE (.cells z10 102) (.cells z10 102) (.cells z9 35)).c4;have hb:=zAm s 0 h;rw[h0]at hb;have hsz:((s.size:Int) == 0)=false:=beq_eq_false_iff_ne.2 (by omega);go_enter Tryz.func71,Tryz.ntmps71;go_wp2_with fail;refine zD4 1 rfl ?_;go_wp2_with fail
 go_step3
 refine⟨rfl,?_⟩;go_wp2_with fail;go_region;all_goals(try go_wp2)
 all_goals
  simp only[Exit.noGoto];refine bodyPost_ret (v:=.tuple #[cmdV 0 (fun _=>0),iV 0,.iface 325 (.pointer (some (a 4)))]) (by simp[results,Tryz.results71,go_sem]) rfl ⟨_,rfl,.inr ⟨4,by omega,rfl,rfl⟩,?_⟩;repeat(first|exact Below.refl _ _|refine Below.drew ?_|refine zA1 ?_ _)
theorem zQz(a:Nat→Addr)(st:Nat→ByteArray)(s:ByteArray)(w:World)(hE:Errs w a st)(h:0<s.size)(h0:bAt s 0≠0)(h1:s.size<bAt s 0+1):
 Cl 71 #[.string s] w fun e w'=> ∃err,e=rV #[cmdV 0 (fun _=>0),iV 0,err]∧ErrBare a err 4∧Below w.heap.size w w':=by
 have hc:=(errs3 hE (.cells z10 102) (.cells z10 102) (.cells z9 35)).c3;have hb:=zAm s 0 h;have hlt:=zAs s 0;generalize bAt s 0=n at *;have hwn:wrap64 ((n:Nat):Int)=n:=by unfold wrap64;omega
 have hz:=beq_eq_false_iff_ne.2 (by omega);have hsz:=beq_eq_false_iff_ne.2 (by omega);go_enter Tryz.func71,Tryz.ntmps71;go_wp2_with fail;refine zD4 0 rfl ?_;go_wp2_with fail
 go_step3
 refine⟨rfl,?_⟩;go_wp2_with fail;go_region;all_goals(try go_wp2)
 all_goals
  simp only[Exit.noGoto];refine bodyPost_ret (v:=.tuple #[cmdV 0 (fun _=>0),iV 0,.iface 325 (.pointer (some (a 3)))]) (by simp[results,Tryz.results71,go_sem]) rfl ⟨_,rfl,.inr ⟨3,by omega,rfl,rfl⟩,?_⟩;repeat(first|exact Below.refl _ _|refine Below.drew ?_|refine zA1 ?_ _)
structure DecMem(w2:World)(R:Nat)(kd:Int):Prop where
 size:R+2<w2.heap.size
 res: ∀j,j<10→w2.cell? (iA R j)=sI 0
 resF: ∀j,w2.frozen? (iA R j)=false
 kind:w2.cell? (iA (R+1) 0)=sI kd
 cmd: ∀j,j<9→w2.cell? (iA (R+1) (1+j))=sI 0
 cmdF: ∀j,w2.frozen? (iA (R+1) j)=false
 num: ∀j,j<9→w2.cell? (iA (R+2) j)=sI 0
 numF: ∀j,w2.frozen? (iA (R+2) j)=false
theorem zHx(w:World)(kd:Int)(w2:World)(W:World)(hW:W=((w.alloc (.cells z10 102)).alloc (.cells #[iV kd,iV 0,iV 0,iV 0,iV 0,iV 0,iV 0,iV 0,iV 0,iV 0] 102)).alloc (.cells z9 35))
 (hb:Below W.heap.size W w2):DecMem w2 w.heap.size kd:=by
 subst hW;have e9: ∀j,j<9→j=0∨j=1∨j=2∨j=3∨j=4∨j=5∨j=6∨j=7∨j=8:=fun j hj=>by omega
 have e10: ∀j,j<10→j=0∨j=1∨j=2∨j=3∨j=4∨j=5∨j=6∨j=7∨j=8∨j=9:=fun j hj=>by omega
 refine⟨by have:=hb.size;simp at this;omega,fun j hj=>?_,fun j=>?_,?_,fun j hj=>?_,fun j=>?_,fun j hj=>?_,fun j=>?_⟩
 ·rw[hb.cell (p:=(iA w.heap.size j)) (by simp;omega),World.cell?_alloc_lt _ _ _ (by simp;omega),World.cell?_alloc_lt _ _ _ (by simp)];rcases e10 j hj with rfl|rfl|rfl|rfl|rfl|rfl|rfl|rfl|rfl|rfl<;>simp
 ·rw[hb.frozen (p:=(iA w.heap.size j)) (by simp;omega),World.frozen?_alloc_old _ _ _ (by simp;omega),World.frozen?_alloc_old _ _ _ (by simp)];simp
 ·rw[hb.cell (p:=(iA (w.heap.size+1) 0)) (by simp),World.cell?_alloc_lt _ _ _ (by simp)];simp
 ·rw[hb.cell (p:=(iA (w.heap.size+1) (1+j))) (by simp),World.cell?_alloc_lt _ _ _ (by simp)];rcases e9 j hj with rfl|rfl|rfl|rfl|rfl|rfl|rfl|rfl|rfl<;>simp
 ·rw[hb.frozen (p:=(iA (w.heap.size+1) j)) (by simp),World.frozen?_alloc_old _ _ _ (by simp)];simp
 ·rw[hb.cell (p:=(iA (w.heap.size+2) j)) (by simp),World.cell?_alloc_at _ _ _ _ (by simp)];rcases e9 j hj with rfl|rfl|rfl|rfl|rfl|rfl|rfl|rfl|rfl<;>simp
 ·rw[hb.frozen (p:=(iA (w.heap.size+2) j)) (by simp),World.frozen?_alloc_at _ _ _ _ (by simp)]
theorem zR(a:Nat→Addr)(st:Nat→ByteArray)(s:ByteArray)(w:World)(hE:Errs w a st)(hW:Wids w)(h:0<s.size)(h0:bAt s 0≠0)(h1:bAt s 0+1≤s.size)(hbad: ¬(1≤bAt s 1∧bAt s 1≤5∧2+wsum (terms (bAt s 1))=bAt s 0+1)):
 Cl 71 #[.string s] w fun e w'=> ∃err,e=rV #[cmdV 0 (fun _=>0),iV 0,err]∧ErrBare a err 5∧Below w.heap.size w w':=by
 have hb:=zAm s 0 h;have hs1:1<s.size:=by omega
 have hb1:=zAm s 1 hs1;have hlt:=zAs s 0;have hlt1:=zAs s 1;have HE:=hid hE;have HW:=hid hW;generalize bAt s 0=n at *;generalize bAt s 1=kd at *;have HBD:=hid hbad;have hwn:wrap64 ((n:Nat):Int)=n:=by unfold wrap64;omega
 have hwk:wrap64 ((kd:Nat):Int)=kd:=by unfold wrap64;omega
 have hz:((n:Int) == 0)=false:=beq_eq_false_iff_ne.2 (by omega);have hsz:((s.size:Int) == 0)=false:=beq_eq_false_iff_ne.2 (by omega);go_enter Tryz.func71,Tryz.ntmps71;go_wp2_with fail;refine zD4 1 rfl ?_;go_wp2_with fail;refine(zF9 (kd:Int) _).mono ?_;rintro e w2 ⟨ta,rfl,hia,hb2⟩;have HM:=hid (zHx w (kd:Int) w2 _ rfl hb2);have HB2:=hid (((((Below.refl _ _).alloc (Nat.le_refl _) _).alloc (by simp) _).alloc (by simp;omega) _).trans (hb2.mono (by simp;omega)));have hce:=(HE.below HB2).c4;have hl4:4<w.heap.size:=zA4 HE.c4;have hn4: ¬w.heap.size=4:=by omega
 have hn4': ¬4=w.heap.size:=by omega
 have hr0:=HM.res 0 (by omega);have hg0:=HM.resF 0;have hr1:=HM.res 1 (by omega);have hg1:=HM.resF 1;have hr2:=HM.res 2 (by omega);have hg2:=HM.resF 2;have hr3:=HM.res 3 (by omega);have hg3:=HM.resF 3;have hr4:=HM.res 4 (by omega);have hg4:=HM.resF 4;have hr5:=HM.res 5 (by omega);have hg5:=HM.resF 5;have hr6:=HM.res 6 (by omega);have hg6:=HM.resF 6;have hr7:=HM.res 7 (by omega);have hg7:=HM.resF 7;have hr8:=HM.res 8 (by omega);have hg8:=HM.resF 8;have hr9:=HM.res 9 (by omega);have hg9:=HM.resF 9;by_cases hk:1≤(kd:Int)∧(kd:Int)≤5
 ·have hkd:decide (1≤(kd:Int)∧(kd:Int)≤5)=true:=by simp;omega
  rw[hkd];have hws:=zFo (terms (kd:Int));have hne:2+fsum (terms (kd:Int))≠(n:Int)+1:=by
   intro e;exact HBD ⟨by omega,by omega,by omega⟩
  have hfr:=zDk (kd:Int) ta w2 hia (HW.below HB2);generalize 2+fsum (terms (kd:Int))=F at *;have HFR:=hid hfr;have hq:((1:Int)+(n:Int) != F)=true:=by rw[bne_iff_ne];omega
  go_wp2_with fail;refine HFR.mono ?_;rintro e w' ⟨rfl,rfl⟩;go_wp2_with fail
  go_step3
  refine⟨rfl,?_⟩;go_wp2_with fail;go_region;all_goals(try go_wp2)
  all_goals
   simp only[Exit.noGoto];refine bodyPost_ret (v:=.tuple #[cmdV 0 (fun _=>0),iV 0,.iface 325 (.pointer (some (a 4)))]) (by simp[results,Tryz.results71,go_sem,hr0,hr1,hr2,hr3,hr4,hr5,hr6,hr7,hr8,hr9]) rfl ⟨_,rfl,.inr ⟨4,by omega,rfl,rfl⟩,?_⟩;exact Below.drew (keep10 HB2 _ _ _ _ _ _ _ _ _ _)
 ·have hkd:decide (1≤(kd:Int)∧(kd:Int)≤5)=false:=by simp;omega
  rw[hkd];go_wp2_with fail
  go_step3
  refine⟨rfl,?_⟩;go_wp2_with fail;go_region;all_goals(try go_wp2)
  all_goals
   simp only[Exit.noGoto];refine bodyPost_ret (v:=.tuple #[cmdV 0 (fun _=>0),iV 0,.iface 325 (.pointer (some (a 4)))]) (by simp[results,Tryz.results71,go_sem,hr0,hr1,hr2,hr3,hr4,hr5,hr6,hr7,hr8,hr9]) rfl ⟨_,rfl,.inr ⟨4,by omega,rfl,rfl⟩,?_⟩;exact Below.drew (keep10 HB2 _ _ _ _ _ _ _ _ _ _)
theorem keep9{w':World}{B C:Nat}(h:Below B w w')(hC:B≤C)(x1 x2 x3 x4 x5 x6 x7 x8 x9:Value):Below B w (((((((((w'.setCell (iA C 1) x1).setCell (iA C 2) x2).setCell (iA C 3) x3).setCell (iA C 4) x4).setCell (iA C 5) x5).setCell (iA C 6) x6).setCell (iA C 7) x7).setCell (iA C 8) x8).setCell (iA C 9) x9):=
 ((((((((h.setCell (p:=(iA C 1)) hC x1).setCell (p:=(iA C 2)) hC x2).setCell (p:=(iA C 3)) hC x3).setCell (p:=(iA C 4)) hC x4).setCell (p:=(iA C 5)) hC x5).setCell (p:=(iA C 6)) hC x6).setCell (p:=(iA C 7)) hC x7).setCell (p:=(iA C 8)) hC x8).setCell (p:=(iA C 9)) hC x9
structure DecEnd(w4:World)(R:Nat)(kd:Int):Prop where
 cellR: ∀j,j<10→w4.cell? (iA R j)=sI 0
 frR: ∀j,w4.frozen? (iA R j)=false
 kind:w4.cell? (iA (R+1) 0)=sI kd
 cellC: ∀j,j<9→w4.cell? (iA (R+1) (1+j))=sI 0
 frC: ∀j,w4.frozen? (iA (R+1) j)=false
theorem decEnd{w2 wr w4:World}{R:Nat}{kd:Int}(hm:DecMem w2 R kd)(hg:w2.grownBy wr (some (R+2)))(hb:Below wr.heap.size wr w4):DecEnd w4 R kd:=by
 have hs:=hm.size;have hs':=hg.size;have cc: ∀(b o:Nat),b<R+2→w4.cell? (iA b o)=w2.cell? (iA b o):=fun b o hbo=>
  (hb.cell (p:=(iA b o)) (by show b<wr.heap.size;omega)).trans (World.cell?_of_block (a:=(iA b o)) (hg.block b (by omega) (by intro e;injection e with e;omega)))
 have ff: ∀(b o:Nat),b<R+2→w4.frozen? (iA b o)=w2.frozen? (iA b o):=fun b o hbo=>
  (hb.frozen (p:=(iA b o)) (by show b<wr.heap.size;omega)).trans (World.frozen?_of_block (a:=(iA b o)) (hg.block b (by omega) (by intro e;injection e with e;omega)))
 exact⟨fun j hj=>(cc R j (by omega)).trans (hm.res j hj),fun j=>(ff R j (by omega)).trans (hm.resF j),(cc (R+1) 0 (by omega)).trans hm.kind,
  fun j hj=>(cc (R+1) (1+j) (by omega)).trans (hm.cmd j hj),fun j=>(ff (R+1) j (by omega)).trans (hm.cmdF j)⟩
theorem zR0(a:Nat→Addr)(st:Nat→ByteArray)(s:ByteArray)(w:World)(hE:Errs w a st)(hW:Wids w)(h:0<s.size)(h0:bAt s 0≠0)(h1:bAt s 0+1≤s.size)(hm:s.size≤1000000000)(hok:1≤bAt s 1∧bAt s 1≤5∧2+wsum (terms (bAt s 1))=bAt s 0+1):
 Cl 71 #[.string s] w fun e w'=>e=rV #[cmdV (bAt s 1) (reads s.data.toList 2 (terms (bAt s 1)) (fun _=>0)),iV ((bAt s 0:Int)+1),.nilIface]∧Below w.heap.size w w':=by
 have hb:=zAm s 0 h;have hs1:1<s.size:=by omega
 have hb1:=zAm s 1 hs1;have hlt:=zAs s 0;have hlt1:=zAs s 1;have HW:=hid hW;have h9:=zBf (hW 0 (by omega));generalize bAt s 0=n at *;generalize bAt s 1=kd at *;obtain⟨hk1,hk5,hsum⟩:=hok;have hwn:wrap64 ((n:Nat):Int)=n:=by unfold wrap64;omega
 have hwk:wrap64 ((kd:Nat):Int)=kd:=by unfold wrap64;omega
 have hz:=beq_eq_false_iff_ne.2 (by omega);have hsz:=beq_eq_false_iff_ne.2 (by omega);have HSUM:=hid hsum;go_enter Tryz.func71,Tryz.ntmps71;go_wp2_with fail
 go_step3
 go_wp2_with fail;refine(zF8 (kd:Int) _).mono ?_;rintro e w2 ⟨ta,rfl,hia,hb2,hfa⟩;have hmem:=zHx w (kd:Int) w2 _ rfl hb2;have HB2:=hid (((((Below.refl _ _).alloc (Nat.le_refl _) _).alloc (by simp) _).alloc (by simp;omega) _).trans (hb2.mono (by simp;omega)));have hs2:=hmem.size;have HW2:=hid (HW.below HB2);have hkd:decide (1≤(kd:Int)∧(kd:Int)≤5)=true:=by simp;omega
 rw[hkd];have hws:=zFo (terms (kd:Int));have hfr:=zDk (kd:Int) ta w2 hia HW2;have hFeq:2+fsum (terms (kd:Int))=(1:Int)+(n:Int):=by have:=HSUM;omega
 rw[hFeq]at hfr;have HFR:=hid hfr;go_wp2_with fail;refine HFR.mono ?_;rintro e w' ⟨rfl,rfl⟩;have hlen:(whichs (kd:Int)).length=(terms (kd:Int)).length:=by simp[whichs]
 have hn9:=zBs (kd:Int);have hg0:w'.grownBy w' (some (w.heap.size+2)):=⟨rfl,rfl,rfl,Nat.le_refl _,fun _ _ _=>rfl⟩;rcases hia with⟨rfl,hnil⟩|⟨ba,rfl,hne',hca⟩
 ·have ht:terms (kd:Int)= []:=by simpa [whichs] using hnil
  have HV:Hid (reads s.data.toList 2 (terms (kd:Int)) (fun _=>0)=fun _=>0):=by show _=_;rw[ht];rfl
  have hgr:=hg0;have hv0:=hmem.num 0 (by omega);have hv1:=hmem.num 1 (by omega);have hv2:=hmem.num 2 (by omega);have hv3:=hmem.num 3 (by omega);have hv4:=hmem.num 4 (by omega);have hv5:=hmem.num 5 (by omega);have hv6:=hmem.num 6 (by omega);have hv7:=hmem.num 7 (by omega);have hv8:=hmem.num 8 (by omega);go_wp2_with fail;refine wp_loop_rounds 1 ?_;rw[rounds_succ];go_wp2_with fail;refine(zHw (fun _=>0) _).mono ?_;rintro e w4 ⟨rfl,hb4⟩;have HD:=decEnd hmem hgr hb4;have HB4:=hid (HB2.trans ((zB2 hgr (by omega) (by omega)).trans (hb4.mono (by have:=hgr.size;omega))));have hkk:=HD.kind;have hr0:=HD.cellR 0 (by omega);have hg0:=HD.frR 0;have hr1:=HD.cellR 1 (by omega);have hg1:=HD.frR 1;have hr2:=HD.cellR 2 (by omega);have hg2:=HD.frR 2;have hr3:=HD.cellR 3 (by omega);have hg3:=HD.frR 3;have hr4:=HD.cellR 4 (by omega);have hg4:=HD.frR 4;have hr5:=HD.cellR 5 (by omega);have hg5:=HD.frR 5
  have hr6:=HD.cellR 6 (by omega);have hg6:=HD.frR 6;have hr7:=HD.cellR 7 (by omega);have hg7:=HD.frR 7;have hr8:=HD.cellR 8 (by omega);have hg8:=HD.frR 8;have hr9:=HD.cellR 9 (by omega);have hg9:=HD.frR 9;have hc0:=HD.cellC 0 (by omega);have hc1:=HD.cellC 1 (by omega);have hc2:=HD.cellC 2 (by omega);have hc3:=HD.cellC 3 (by omega);have hc4:=HD.cellC 4 (by omega);have hc5:=HD.cellC 5 (by omega);have hc6:=HD.cellC 6 (by omega);have hc7:=HD.cellC 7 (by omega);have hc8:=HD.cellC 8 (by omega);have hf1:=HD.frC 1;have hf2:=HD.frC 2;have hf3:=HD.frC 3;have hf4:=HD.frC 4;have hf5:=HD.frC 5;have hf6:=HD.frC 6;have hf7:=HD.frC 7;have hf8:=HD.frC 8;have hf9:=HD.frC 9;go_wp2;simp only[Exit.noGoto]
  refine bodyPost_ret (v:=.tuple #[cmdV (kd:Int) (fun _=>0),iV ((1:Int)+(n:Int)),.nilIface]) (by simp[results,Tryz.results71,go_sem,hr0,hr1,hr2,hr3,hr4,hr5,hr6,hr7,hr8,hr9]) rfl ⟨by rw[HV.out,Int.add_comm],?_⟩;exact keep10 (keep9 HB4 (by omega) _ _ _ _ _ _ _ _ _) _ _ _ _ _ _ _ _ _ _
 ·rw[hlen];have HA:=hid hca;have HL:=hid hlen;generalize hN:(terms (kd:Int)).length=L at *;have HN:=hid hN;have hbaC:ba≠w.heap.size+2:=by have:=hfa ba 0 _ _ rfl;simp at this;omega
  have HM:=hid hmem;go_wp2_with fail;go_loopw [10,47] (fun at_ i wr=> ∃k:Nat,k≤L∧i=iV k∧at_=iV ((2+wsum ((terms (kd:Int)).take k):Nat):Int)∧w'.grownBy wr (some (w.heap.size+2))∧
   (∀j,j<9→cI wr (w.heap.size+2) j (reads s.data.toList 2 ((terms (kd:Int)).take k) (fun _=>0) j))∧(∀j,wr.frozen? (iA (w.heap.size+2) j)=false)) (fun _ i _=>L - (intOf i).toNat)
  case atStart=>exact⟨0,Nat.zero_le _,rfl,rfl,hg0,HM.num,HM.numF⟩
  case round=>
   obtain⟨k,hkL,rfl,rfl,hgr,hcv,hfz⟩:=hrel;have HCV:=hid hcv;have HFZ:=hid hfz;by_cases hlt:k<L
   ·have hkt:k<(terms (kd:Int)).length:=by rw[HN.out];exact hlt
    have hok:=zAh (kd:Int) _ (List.getElem_mem hkt);have hwd:=zDj (kd:Int) _ (List.getElem_mem hkt);have hws:wsum ((terms (kd:Int)).take (k+1))=wsum ((terms (kd:Int)).take k)+(terms (kd:Int))[k].2:=by
     rw[List.take_succ_eq_append_getElem hkt,zFp]
    have hrd:reads s.data.toList 2 ((terms (kd:Int)).take (k+1)) (fun _=>0)=upd (reads s.data.toList 2 ((terms (kd:Int)).take k) (fun _=>0)) (terms (kd:Int))[k].1 (rd s.data.toList (2+wsum ((terms (kd:Int)).take k)) (terms (kd:Int))[k]):=by
     rw[List.take_succ_eq_append_getElem hkt,zFq]
    have hca:=hgr.cell (HA k (by rw[HL.out];exact hlt)) (by simpa using hbaC);have htl:=zFr (terms (kd:Int)) (k+1);have hsm:=HSUM;simp only[whichs,List.getElem_map]at hca;generalize hp:(terms (kd:Int))[k]=p at *;obtain⟨pa,pb⟩:=p;obtain⟨hp1,hp2,hp3⟩:=hok;simp only at hp1 hp2 hp3 hca hws hrd hwd;have hcx:=HCV pa hp1;have hfx:=HFZ pa;have HRD:=hid hrd;have HWS:=hid hws;have hsl:2+wsum ((terms (kd:Int)).take k)+pb≤s.size:=by omega
    have hwr:Wids wr:=fun i hi=>hgr.cell (HW2 i hi) (by intro e;injection e with e;have e':9=w.heap.size+2:=e;omega)
    generalize hat':2+wsum ((terms (kd:Int)).take k)=A at *;have HAT:=hid hat';have hta:=zQw s A pa pb wr hwr hp1 hwd hp2 hp3 hsl hm;have hcw: ∀x:Value,(wr.setCell (iA (w.heap.size+2) pa) x).cell? (iA 9 pa)=sI (pb:Int):=fun x=>by
     rw[World.cell?_setCell_other _ _ _ _ (by intro e;injection e with e1 e2;omega),hwr pa hp1,hwd]
    have HNX:Hid (∀x:Int,rd s.data.toList A (pa,pb)=x→∀j,j<9→(wr.setCell (iA (w.heap.size+2) pa) (iV x)).cell? (iA (w.heap.size+2) j)=sI (reads s.data.toList 2 ((terms (kd:Int)).take (k+1)) (fun _=>0) j)):=fun x hx j hj=>by
     rw[HRD.out,hx];unfold upd;by_cases hjp:j=pa
     ·subst hjp;rw[if_pos rfl];exact World.cell?_setCell_same _ _ _ hcx
     ·rw[if_neg hjp,World.cell?_setCell_other _ _ _ _ (by intro e;injection e with e1 e2;omega)];exact HCV j hj
    have HFK:Hid (∀(x:Value) (j:Nat),(wr.setCell (iA (w.heap.size+2) pa) x).frozen? (iA (w.heap.size+2) j)=false):=fun x j=>by
     rw[World.frozen?_setCell];exact HFZ j
    generalize hrx:rd s.data.toList A (pa,pb)=x at *;have HRX:=hid hrx;have HTA:=hid hta;have hpz:(0:Int)≤(pa:Int)∧(pa:Int)<9:=by omega
    go_wp2_with fail;refine HTA.mono ?_;rintro e w3 ⟨rfl,rfl⟩;go_wp2;go_roundw
    case rel=>exact⟨k+1,by omega,by go_num,zAr (by have:=HAT;rw[HWS.out];omega),zCl hgr _,HNX _ rfl,HFK _⟩
    case measure=>simp[intOf];omega
   ·have hkL':k=L:=by omega
    subst hkL';have htk:=List.take_of_length_le (by rw[HN.out];omega);rw[htk];have HCV2:Hid (∀j,j<9→cI wr (w.heap.size+2) j (reads s.data.toList 2 (terms (kd:Int)) (fun _=>0) j)):=by
     have:=HCV;rw[htk]at this;exact this
    have hv0:=HCV2 0 (by omega);have hv1:=HCV2 1 (by omega);have hv2:=HCV2 2 (by omega);have hv3:=HCV2 3 (by omega);have hv4:=HCV2 4 (by omega);have hv5:=HCV2 5 (by omega);have hv6:=HCV2 6 (by omega);have hv7:=HCV2 7 (by omega);have hv8:=HCV2 8 (by omega);have hmem:=HM;generalize hVV:reads s.data.toList 2 (terms (kd:Int)) (fun _=>0)=V at *;have HV:=hid hVV;go_wp2_with fail;refine(zHw V _).mono ?_;rintro e w4 ⟨rfl,hb4⟩;have HD:=decEnd hmem hgr hb4;have HB4:=hid (HB2.trans ((zB2 hgr (by omega) (by omega)).trans (hb4.mono (by have:=hgr.size;omega))));have hkk:=HD.kind;have hr0:=HD.cellR 0 (by omega);have hg0:=HD.frR 0;have hr1:=HD.cellR 1 (by omega);have hg1:=HD.frR 1;have hr2:=HD.cellR 2 (by omega);have hg2:=HD.frR 2;have hr3:=HD.cellR 3 (by omega);have hg3:=HD.frR 3;have hr4:=HD.cellR 4 (by omega);have hg4:=HD.frR 4;have hr5:=HD.cellR 5 (by omega);have hg5:=HD.frR 5
    have hr6:=HD.cellR 6 (by omega);have hg6:=HD.frR 6;have hr7:=HD.cellR 7 (by omega);have hg7:=HD.frR 7;have hr8:=HD.cellR 8 (by omega);have hg8:=HD.frR 8;have hr9:=HD.cellR 9 (by omega);have hg9:=HD.frR 9;have hc0:=HD.cellC 0 (by omega);have hc1:=HD.cellC 1 (by omega);have hc2:=HD.cellC 2 (by omega);have hc3:=HD.cellC 3 (by omega);have hc4:=HD.cellC 4 (by omega);have hc5:=HD.cellC 5 (by omega);have hc6:=HD.cellC 6 (by omega);have hc7:=HD.cellC 7 (by omega);have hc8:=HD.cellC 8 (by omega);have hf1:=HD.frC 1;have hf2:=HD.frC 2;have hf3:=HD.frC 3;have hf4:=HD.frC 4;have hf5:=HD.frC 5;have hf6:=HD.frC 6;have hf7:=HD.frC 7;have hf8:=HD.frC 8;have hf9:=HD.frC 9;go_wp2;simp only[Exit.noGoto];refine bodyPost_ret (v:=.tuple #[cmdV (kd:Int) V,iV ((1:Int)+(n:Int)),.nilIface]) (by simp[results,Tryz.results71,go_sem,hr0,hr1,hr2,hr3,hr4,hr5,hr6,hr7,hr8,hr9]) rfl ⟨by rw[HV.out,Int.add_comm],?_⟩
    exact keep10 (keep9 HB4 (by omega) _ _ _ _ _ _ _ _ _) _ _ _ _ _ _ _ _ _ _
theorem zR1(a:Nat→Addr)(st:Nat→ByteArray)(s:ByteArray)(w:World)(hE:Errs w a st)(hW:Wids w)(hm:s.size≤1000000000):
 Cl 71 #[.string s] w fun e w'=> ∃err m,e=rV #[cmdV (nextK s) (nextV s),iV m,err]∧ErrBare a err (nextE s)∧m=(if nextE s=0 then nextM s else 0)∧Below w.heap.size w w':=by
 by_cases h:s.size=0
 ·obtain rfl:s=⟨#[]⟩:=by
   apply ByteArray.ext;exact Array.eq_empty_of_size_eq_zero h
  refine(zQx a st w hE).mono ?_;rintro e w' ⟨err,rfl,h1,h2⟩;exact⟨err,0,rfl,h1,rfl,h2⟩
 by_cases h0:bAt s 0=0
 ·have e:nextE s=5:=by unfold nextE;rw[if_neg h,if_pos h0]
  have e1:nextK s=0:=by unfold nextK;rw[e];rfl
  have e2:nextV s=fun _=>0:=by unfold nextV;rw[e];rfl
  rw[e,e1,e2];refine(zQy a st s w hE (by omega) h0).mono ?_;rintro e w' ⟨err,rfl,h1,h2⟩;exact⟨err,0,rfl,h1,rfl,h2⟩
 by_cases h1:s.size<bAt s 0+1
 ·have e:nextE s=4:=by unfold nextE;rw[if_neg h,if_neg h0,if_pos h1]
  have e1:nextK s=0:=by unfold nextK;rw[e];rfl
  have e2:nextV s=fun _=>0:=by unfold nextV;rw[e];rfl
  rw[e,e1,e2];refine(zQz a st s w hE (by omega) h0 h1).mono ?_;rintro e w' ⟨err,rfl,h1,h2⟩;exact⟨err,0,rfl,h1,rfl,h2⟩
 by_cases hok:1≤bAt s 1∧bAt s 1≤5∧2+wsum (terms (bAt s 1))=bAt s 0+1
 ·obtain⟨e1,e2,e3,e⟩:=zFv s (by omega) h0 (by omega) hok;rw[e,e1,e2,e3];refine(zR0 a st s w hE hW (by omega) h0 (by omega) hm hok).mono ?_;rintro e w' ⟨rfl,h2⟩;exact⟨.nilIface,_,rfl,.inl ⟨rfl,rfl⟩,rfl,h2⟩
 ·obtain⟨e1,e2,e3,e⟩:=zFu s (by omega) h0 (by omega) hok;rw[e,e1,e2];refine(zR a st s w hE hW (by omega) h0 (by omega) hok).mono ?_;rintro e w' ⟨err,rfl,h1,h2⟩;exact⟨err,0,rfl,h1,rfl,h2⟩
end Go.Proofs.YtanfmhonjpjpoaaGreatDoor
