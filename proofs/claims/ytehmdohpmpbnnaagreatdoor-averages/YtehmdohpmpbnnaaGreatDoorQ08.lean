import Derived.Test.YtehmdohpmpbnnaaGreatDoorQ00
import Derived.Test.YtehmdohpmpbnnaaGreatDoorQ05
import Derived.Test.YtehmdohpmpbnnaaGreatDoorQ06
import Derived.Test.YtehmdohpmpbnnaaGreatDoorQ07
import Derived.Below
import Derived.Deep.RegionHeld
import Derived.Deep.RegionWith
import Derived.Laws.DeepStrings4
set_option linter.all false
set_option maxRecDepth 100000
set_option maxHeartbeats 8000000
namespace Go.Proofs.YtehmdohpmpbnnaaGreatDoor
variable{w w':World}{a:Nat→Addr}{s:Nat→ByteArray}
open Go.Proofs.Tryz
section
open Go.Extern Go.Extern.Stop Go.RowKit Go.Stop
structure lq(w:World)(a:Nat→Addr)(s:Nat→ByteArray):Prop where
 c0:w.cell? (iA 0 0)=some (.iface 309 (.pointer (some (a 0))))
 c1:w.cell? (iA 1 0)=some (.iface 309 (.pointer (some (a 1))))
 c2:w.cell? (iA 2 0)=some (.iface 309 (.pointer (some (a 2))))
 c3:w.cell? (iA 3 0)=some (.iface 309 (.pointer (some (a 3))))
 c4:w.cell? (iA 4 0)=some (.iface 309 (.pointer (some (a 4))))
 c5:w.cell? (iA 5 0)=some (.iface 309 (.pointer (some (a 5))))
 c6:w.cell? (iA 6 0)=some (.iface 309 (.pointer (some (a 6))))
 c7:w.cell? (iA 7 0)=some (.iface 309 (.pointer (some (a 7))))
 handle:w.cell? (iA 8 0)=some (.iface 222 (.agg #[.pointer (some (iA 11 71))]))
 ne:∀i j,i<8→j<8→i≠j→a i≠a j
 row:∀k,k<8→∃c t,w.heap[(a k).block]? =some (.cells c t (0,0))
 str:∀k,k<8→w.cell? (a k)=some (.string (s k))∧(s k).size≠0∧(s k).size≤1000
theorem lq.below(h:lq w a s)(hb:Below w.heap.size w w'):lq w' a s:=
 ⟨(hb.cell (zA h.c0)).trans h.c0,(hb.cell (zA h.c1)).trans h.c1,(hb.cell (zA h.c2)).trans h.c2,(hb.cell (zA h.c3)).trans h.c3,
  (hb.cell (zA h.c4)).trans h.c4,(hb.cell (zA h.c5)).trans h.c5,(hb.cell (zA h.c6)).trans h.c6,(hb.cell (zA h.c7)).trans h.c7,
  (hb.cell (zA h.handle)).trans h.handle,h.ne,
  fun k hk=>by
   obtain⟨c,t,hr⟩:=h.row k hk;exact⟨c,t,(hb.block _ (zA (h.str k hk).1)).trans hr⟩,
  fun k hk=>⟨(hb.cell (zA (h.str k hk).1)).trans (h.str k hk).1,(h.str k hk).2⟩⟩
theorem lq.alloc(h:lq w a s)(o:Obj):lq (w.alloc o) a s:=
 h.below ((Below.refl _ _).alloc (Nat.le_refl _) o)
abbrev kD(a:Nat→Addr):Array Value:=#[.iface 309 (.pointer (some (a 0))),.iface 309 (.pointer (some (a 1))),.iface 309 (.pointer (some (a 2))),.iface 309 (.pointer (some (a 3))),.iface 309 (.pointer (some (a 4))),.iface 309 (.pointer (some (a 5))),.iface 309 (.pointer (some (a 6))),.iface 309 (.pointer (some (a 7)))]
theorem listCell(a:Nat→Addr)(w:World)(t:TypeId)(j:Nat)(hj:j<8):(w.alloc (.cells (kD a) t)).cell? (iA w.heap.size j)=some (.iface 309 (.pointer (some (a j)))):=by
 have h:j=0∨j=1∨j=2∨j=3∨j=4∨j=5∨j=6∨j=7:=by omega
 rcases h with rfl|rfl|rfl|rfl|rfl|rfl|rfl|rfl<;>simp
theorem kR(w:World):Cl 28 #[.nilIface] w fun e w'=>e=rV #[iV 0,iV (-1)]∧w'=w:=by
 go_enter func28,ntmps28;go_wp2;go_ret2;exact⟨rfl,rfl⟩
theorem zBj(a:Nat→Addr)(s:Nat→ByteArray)(k:Nat)(hk:k<8)(w:World)(hE:lq w a s):
 Cl 28 #[.iface 309 (.pointer (some (a k)))] w fun e w'=>e=rV #[iV ((k:Int)+1),iV (-1)]∧Below w.heap.size w w':=by
 have A:=hE.alloc (.cells (kD a) 71);obtain⟨c0,c1,c2,S,T,U,V,X,-,-,-,-⟩:=hE;have D:=listCell a w 71;have N:=hid D;go_enter func28,ntmps28;go_wp2;go_loop [4,20] (fun n i=> ∃j:Nat,j≤8∧i=iV j∧n=iV (if k<j then(k:Int)+1 else 0)) (fun _ i=>8 - (intOf i).toNat)
 case atStart=>exact⟨0,by omega,rfl,rfl⟩
 case round=>
  obtain⟨j,Z,rfl,rfl⟩:=hrel;by_cases C:j<8
  ·have Y:=N j C;obtain⟨J,L,F⟩:=A.row j C;obtain⟨K,M,G⟩:=A.row k hk;rcases Nat.lt_trichotomy j k with B|B|B
   ·have E:=A.ne k j hk C (by omega);rw[if_neg (by omega)];go_wp2_with(go_at_call 52;refine(zAm _ _ K J M L _ E G F).mono ?_;rintro e w' ⟨rfl,rfl⟩);go_round
    case rel=>exact⟨j+1,by omega,by go_num,by rw[if_neg (by omega)]⟩
    case measure=>simp[intOf];omega
   ·subst B;rw[if_neg (by omega)];go_wp2_with(go_at_call 52;refine(zBi _ _).mono ?_;rintro e w' ⟨rfl,rfl⟩);go_round
    case rel=>exact⟨j+1,by omega,by go_num,by rw[if_pos (by omega)]⟩
    case measure=>simp[intOf];omega
   have E:=A.ne k j hk C (by omega);rw[if_pos B];go_wp2_with(go_at_call 52;refine(zAm _ _ K J M L _ E G F).mono ?_;rintro e w' ⟨rfl,rfl⟩);go_round
   case rel=>exact⟨j+1,by omega,by go_num,by rw[if_pos (by omega)]⟩
   case measure=>simp[intOf];omega
  have I:j=8:=by omega
  subst I;rw[if_pos hk];have O:((k:Int)+1 == 0)=false:=beq_eq_false_iff_ne.2 (by omega);have H:=A.alloc (.cells #[.pointer none] 124);have R:=H.handle;go_wp2_with(go_at_call 53;refine(zEl _ _ (.pointer none) _ R (by simp)).mono ?_;rintro e w' ⟨rfl,rfl⟩);go_ret2;refine⟨rfl,?_⟩;exact(((((Below.refl _ _).alloc (Nat.le_refl _) _).alloc (by simp) _).alloc (by simp;omega) _).alloc (by simp;omega) _).alloc (by simp;omega) _
end
section
open Go.Extern Go.RowKit
theorem fu(h:Below w.heap.size w w')(o:Obj):Below w.heap.size w (w'.alloc o):=h.alloc h.size o
abbrev dD(kind:Int)(v:Nat→Int):Value:=.agg #[iV kind,iV (v 0),iV (v 1),iV (v 2),iV (v 3),iV (v 4),iV (v 5),iV (v 6),iV (v 7),iV (v 8)]
abbrev vS(v:Nat→Int):Value:=.agg #[iV (v 0),iV (v 1),iV (v 2),iV (v 3),iV (v 4),iV (v 5),iV (v 6),iV (v 7),iV (v 8)]
theorem zEm(v:Nat→Int)(w:World):
 Cl 88 #[vS v] w fun e w'=>e=.returned (vS v)∧Below w.heap.size w w':=by
 go_enter func88,ntmps88;go_wp2;refine bodyPost_ret (v:=vS v) (by simp[results,Tryz.results88,go_sem]) rfl ⟨rfl,?_⟩;repeat(first|exact Below.refl _ _|refine Below.setCell ?_ (by simp) _|refine Below.drew ?_|refine fu ?_ _)
theorem keep9o{B C:Nat}(h:Below B w w')(hC:B≤C)(o0 o1 o2 o3 o4 o5 o6 o7 o8:Nat)(x0 x1 x2 x3 x4 x5 x6 x7 x8:Value):Below B w (((((((((w'.setCell (iA C o0) x0).setCell (iA C o1) x1).setCell (iA C o2) x2).setCell (iA C o3) x3).setCell (iA C o4) x4).setCell (iA C o5) x5).setCell (iA C o6) x6).setCell (iA C o7) x7).setCell (iA C o8) x8):=
 (((((((((h.setCell (p:=(iA C o0)) hC x0).setCell (p:=(iA C o1)) hC x1).setCell (p:=(iA C o2)) hC x2).setCell (p:=(iA C o3)) hC x3).setCell (p:=(iA C o4)) hC x4).setCell (p:=(iA C o5)) hC x5).setCell (p:=(iA C o6)) hC x6).setCell (p:=(iA C o7)) hC x7).setCell (p:=(iA C o8)) hC x8)
abbrev NumS(B:Nat)(kind:Int)(v:Nat→Int)(W:World):Prop:=W.cell? (iA B 0)=sI kind∧W.cell? (iA B 1)=sI (v 0)∧W.cell? (iA B 2)=sI (v 1)∧W.cell? (iA B 3)=sI (v 2)∧W.cell? (iA B 4)=sI (v 3)∧W.cell? (iA B 5)=sI (v 4)∧W.cell? (iA B 6)=sI (v 5)∧W.cell? (iA B 7)=sI (v 6)∧W.cell? (iA B 8)=sI (v 7)∧W.cell? (iA B 9)=sI (v 8)∧W.there (B+1) 0 9
theorem numS0(w:World)(kind:Int)(v:Nat→Int):NumS w.heap.size kind v (((w.alloc (.cells #[iV kind,iV (v 0),iV (v 1),iV (v 2),iV (v 3),iV (v 4),iV (v 5),iV (v 6),iV (v 7),iV (v 8)] 81)).alloc (.cells #[iV 0,iV 0,iV 0,iV 0,iV 0,iV 0,iV 0,iV 0,iV 0] 27)).drew):=by
 refine⟨by simp,by simp,by simp,by simp,by simp,by simp,by simp,by simp,by simp,by simp,fun j hj=>?_⟩;have h:j=0∨j=1∨j=2∨j=3∨j=4∨j=5∨j=6∨j=7∨j=8:=by omega
 rcases h with rfl|rfl|rfl|rfl|rfl|rfl|rfl|rfl|rfl<;>exact⟨by simp,by simp⟩
theorem numOut(B:Nat)(W:World)(l:List Value)(j:Nat):(W.setCells (B+1) 0 l).cell? (iA B j)=W.cell? (iA B j):=World.cell?_setCells_out _ _ _ _ _ (by intro e;simp at e)
theorem numS1(B:Nat)(kind:Int)(v:Nat→Int)(W:World)(l:List Value)(h:W.cell? (iA B 0)=sI kind∧W.cell? (iA B 1)=sI (v 0)∧W.cell? (iA B 2)=sI (v 1)∧W.cell? (iA B 3)=sI (v 2)∧W.cell? (iA B 4)=sI (v 3)∧W.cell? (iA B 5)=sI (v 4)∧W.cell? (iA B 6)=sI (v 5)∧W.cell? (iA B 7)=sI (v 6)∧W.cell? (iA B 8)=sI (v 7)∧W.cell? (iA B 9)=sI (v 8)∧W.there (B+1) 0 9):W.cell? (iA B 0)=sI kind∧W.cell? (iA B 1)=sI (v 0)∧W.cell? (iA B 2)=sI (v 1)∧W.cell? (iA B 3)=sI (v 2)∧W.cell? (iA B 4)=sI (v 3)∧W.cell? (iA B 5)=sI (v 4)∧W.cell? (iA B 6)=sI (v 5)∧W.cell? (iA B 7)=sI (v 6)∧W.cell? (iA B 8)=sI (v 7)∧W.cell? (iA B 9)=sI (v 8)∧(W.setCells (B+1) 0 l).there (B+1) 0 9:=by
 obtain⟨C,D,E,F,G,H,I,J,K,L,A⟩:=h;exact⟨C,D,E,F,G,H,I,J,K,L,World.there_setCells A _ _ _⟩
theorem zEn(kind:Int)(v:Nat→Int)(w:World):
 Cl 63 #[dD kind v] w fun e w'=>e=rV #[iV kind,vS v]∧Below w.heap.size w w':=by
 have B:∀x∈([iV (v 0),iV (v 1),iV (v 2),iV (v 3),iV (v 4),iV (v 5),iV (v 6),iV (v 7),iV (v 8)]:List Value),x.oneCell'=true:=by
  intro x A;simp at A;rcases A with rfl|rfl|rfl|rfl|rfl|rfl|rfl|rfl|rfl<;>rfl
 have D:(prog.info? 27).map (·.size)=some ([iV (v 0),iV (v 1),iV (v 2),iV (v 3),iV (v 4),iV (v 5),iV (v 6),iV (v 7),iV (v 8)]:List Value).length:=by
  show _=some 9;kernel_rfl
 go_enter func63,ntmps63;go_wp2_with fail
 go_region_held (fun w'=>w'.cell? (iA w.heap.size 0)=sI kind∧w'.cell? (iA w.heap.size 1)=sI (v 0)∧w'.cell? (iA w.heap.size 2)=sI (v 1)∧w'.cell? (iA w.heap.size 3)=sI (v 2)∧w'.cell? (iA w.heap.size 4)=sI (v 3)∧w'.cell? (iA w.heap.size 5)=sI (v 4)∧w'.cell? (iA w.heap.size 6)=sI (v 5)∧w'.cell? (iA w.heap.size 7)=sI (v 6)∧w'.cell? (iA w.heap.size 8)=sI (v 7)∧w'.cell? (iA w.heap.size 9)=sI (v 8)∧w'.there (w.heap.size+1) 0 9) (first|(simp only[numOut];exact numS1 w.heap.size kind v _ _ (by assumption))|exact numS0 w kind v) (fail)
 simp only[World.setCells];go_wp2;refine bodyPost_ret (v:=.tuple #[iV kind,vS v]) (by simp[results,Tryz.results63,go_sem]) rfl ⟨rfl,?_⟩;exact keep9o (C:=w.heap.size+1) ((fu (fu (Below.refl _ _) _) _).drew) (by omega) _ _ _ _ _ _ _ _ _ _ _ _ _ _ _ _ _ _
theorem zEo(kind:Int)(v:Nat→Int)(w:World):
 Cl 30 #[iV kind,vS v] w fun e w'=>e=.returned (dD kind v)∧Below w.heap.size w w':=by
 go_enter func30,ntmps30;go_wp2_with fail
 go_region_held (fun w'=>w'.cell? (iA w.heap.size 0)=sI (v 0)∧w'.cell? (iA w.heap.size 1)=sI (v 1)∧w'.cell? (iA w.heap.size 2)=sI (v 2)∧w'.cell? (iA w.heap.size 3)=sI (v 3)∧w'.cell? (iA w.heap.size 4)=sI (v 4)∧w'.cell? (iA w.heap.size 5)=sI (v 5)∧w'.cell? (iA w.heap.size 6)=sI (v 6)∧w'.cell? (iA w.heap.size 7)=sI (v 7)∧w'.cell? (iA w.heap.size 8)=sI (v 8)) (go_keep) (fail)
 go_wp2;refine bodyPost_ret (v:=dD kind v) (by simp[results,Tryz.results30,go_sem]) rfl ⟨rfl,?_⟩;repeat(first|exact Below.refl _ _|refine Below.setCell ?_ (by simp<;>omega) _|refine Below.drew ?_|refine fu ?_ _)
end
section
open Go.Extern Go.Extern.Stop Go.RowKit Go.Stop
theorem zBk(e t:Addr)(old:Value)(w:World)(hg:w.cell? (iA 8 0)=some (.iface 222 (.agg #[.pointer (some (iA 11 71))])))(ht0:w.cell? t=some old)(hf0:w.frozen? t=false):
 Cl 53 #[.iface 124 (.pointer (some e)),.iface 126 (.pointer (some t))] w fun ev w'=>ev=rB true∧w'.cell? t=some (.pointer (some e))∧Below t.block w w':=by
 refine(zEk e t old w hg ht0 hf0).mono ?_;rintro ev w' ⟨rfl,rfl⟩;have A:=zA ht0;refine⟨rfl,?_,?_⟩
 ·refine World.cell?_setCell_same (u:=old) _ _ _ ?_;rw[World.cell?_alloc_lt _ _ t (by simp;omega),World.cell?_alloc_lt _ _ t (by simp;omega),World.cell?_alloc_lt _ _ t (by simp;omega),World.cell?_alloc_lt _ _ t A];exact ht0
 exact(((((Below.refl _ _).alloc (by omega) _).alloc (by simp;omega) _).alloc (by simp;omega) _).alloc (by simp;omega) _).setCell (Nat.le_refl _) _
theorem wZ(a:Nat→Addr)(s:Nat→ByteArray)(k:Nat)(hk:k<8)(pb po:Nat)(n:Int)(w:World)(hE:lq w a s)
 (h0:w.cell? (iA pb po)=sI n) (h1:w.cell? (iA pb (po+1))=some (.iface 309 (.pointer (some (a k))))):
 Cl 28 #[.iface 124 (.pointer (some (iA pb po)))] w fun e w'=>e=rV #[iV ((k:Int)+1),iV n]∧Below w.heap.size w w':=by
 have A:=hE.alloc (.cells (kD a) 71);have G:pb<w.heap.size:=zA h0;have D:(w.alloc (.cells (kD a) 71)).cell? (iA pb (po+1))=some (.iface 309 (.pointer (some (a k)))):=by
  rw[World.cell?_alloc_lt _ _ _ G];exact h1
 have J:((w.alloc (.cells (kD a) 71)).alloc (.cells #[.pointer none] 124)).cell? (iA pb po)=sI n:=by
  rw[World.cell?_alloc_lt _ _ _ (by simp;omega),World.cell?_alloc_lt _ _ _ G];exact h0
 obtain⟨c0,c1,c2,b,c,d,f,g,-,-,-,-⟩:=hE;have E:=listCell a w 71;have V:=hid E;go_enter func28,ntmps28;go_wp2;go_loop [4,20] (fun n i=> ∃j:Nat,j≤8∧i=iV j∧n=iV (if k<j then(k:Int)+1 else 0)) (fun _ i=>8 - (intOf i).toNat)
 case atStart=>exact⟨0,by omega,rfl,rfl⟩
 case round=>
  obtain⟨j,h,rfl,rfl⟩:=hrel;by_cases C:j<8
  ·have Y:=V j C;obtain⟨N,S,H⟩:=A.row j C;obtain⟨O,T,I⟩:=A.row k hk;rcases Nat.lt_trichotomy j k with B|B|B
   ·have F:=A.ne k j hk C (by omega);rw[if_neg (by omega)];go_wp2_with(go_at_call 52;refine(tZ _ _ _ _ O N T S _ D F I H).mono ?_;rintro e w' ⟨rfl,rfl⟩);go_round
    case rel=>exact⟨j+1,by omega,by go_num,by rw[if_neg (by omega)]⟩
    case measure=>simp[intOf];omega
   ·subst B;rw[if_neg (by omega)];go_wp2_with(go_at_call 52;refine(zEi _ _ _ _ D).mono ?_;rintro e w' ⟨rfl,rfl⟩);go_round
    case rel=>exact⟨j+1,by omega,by go_num,by rw[if_pos (by omega)]⟩
    case measure=>simp[intOf];omega
   have F:=A.ne k j hk C (by omega);rw[if_pos B];go_wp2_with(go_at_call 52;refine(tZ _ _ _ _ O N T S _ D F I H).mono ?_;rintro e w' ⟨rfl,rfl⟩);go_round
   case rel=>exact⟨j+1,by omega,by go_num,by rw[if_pos (by omega)]⟩
   case measure=>simp[intOf];omega
  have M:j=8:=by omega
  subst M;rw[if_pos hk];have X:((k:Int)+1 == 0)=false:=beq_eq_false_iff_ne.2 (by omega);have L:=A.alloc (.cells #[.pointer none] 124);have Z:=L.handle;have K:Bw w ((w.alloc (.cells (kD a) 71)).alloc (.cells #[.pointer none] 124)):=((Below.refl _ _).alloc (Nat.le_refl _) _).alloc (by simp) _;go_wp2_with fail;refine(zBk _ _ (.pointer none) _ Z (by simp) (by simp)).mono ?_;rintro e w' ⟨rfl,Y,R⟩;have l:cI w' pb po n:=(R.cell (p:=(iA pb po)) (by simp;omega)).trans J;have U:=hid (K.trans (R.mono (by simp)));go_wp2_with fail;go_region;all_goals(try go_wp2)
  all_goals(go_ret2;exact⟨rfl,U.drew⟩)
end
section
open Go.Extern Go.RowKit
def xh(s:ByteArray)(p a n:Nat):Int:=val ((s.data.toList.drop (p+a)).take n)
def xA(s:ByteArray)(p:Nat):List Int:=[xh s p 0 1,xh s p 1 4,xh s p 5 4,xh s p 9 4,xh s p 13 4,xh s p 17 4,xh s p 21 1]
abbrev bM(l0 l1 l2 l3 l4 l5 l6:Int):Value:=.agg #[iV l0,iV l1,iV l2,iV l3,iV l4,iV l5,iV l6]
theorem zAn(s:ByteArray)(p a n:Nat)(h:n≤4):0≤xh s p a n∧xh s p a n<4294967296:=
 ⟨eX _,oP _ (Nat.le_trans (List.length_take_le _ _) h)⟩
theorem errs1{st:Nat→ByteArray}(hE:lq w a st)(o1:Obj):lq (w.alloc o1) a st:=hE.alloc o1
theorem nT(a:Nat→Addr)(st:Nat→ByteArray)(s:ByteArray)(w:World)(hE:lq w a st)(h:s.size<22):
 Cl 142 #[.string s] w fun e w'=>e=rV #[bM 0 0 0 0 0 0 0,.iface 309 (.pointer (some (a 3)))]∧Below w.heap.size w w':=by
 have A:=(errs1 hE (.cells #[iV 0,iV 0,iV 0,iV 0,iV 0,iV 0,iV 0] 55)).c3;go_enter func142,ntmps142;go_wp2_with fail;go_region;all_goals(try go_wp2)
 all_goals
  refine bodyPost_ret (v:=.tuple #[bM 0 0 0 0 0 0 0,.iface 309 (.pointer (some (a 3)))]) (by simp[results,Tryz.results142,go_sem]) rfl ⟨rfl,?_⟩;exact(((Below.refl _ _).alloc (Nat.le_refl _) _).drew)
theorem qR(a:Nat→Addr)(st:Nat→ByteArray)(s:ByteArray)(w:World)(hE:lq w a st)(h:22≤s.size)(hm:s.size≤1000000000)(hk:xh s 0 0 1<1∨8<xh s 0 0 1):
 Cl 142 #[.string s] w fun e w'=>e=rV #[bM 0 0 0 0 0 0 0,.iface 309 (.pointer (some (a 5)))]∧Below w.heap.size w w':=by
 have C:=(errs1 hE (.cells #[iV 0,iV 0,iV 0,iV 0,iV 0,iV 0,iV 0] 55)).c5;have A:=fun W=>zu s 0 1 W (by omega) (by omega) hm
 have e:val ((s.data.toList.drop 0).take 1)=xh s 0 0 1:=rfl;rw[e]at A;generalize xh s 0 0 1=k at *;have B:=hid A;rcases hk with hk|hk;all_goals
  go_enter func142,ntmps142;go_wp2_with fail;refine(B _).mono ?_;rintro e w' ⟨rfl,rfl⟩;go_wp2_with fail;go_region;all_goals(try go_wp2)
  all_goals
   refine bodyPost_ret (v:=.tuple #[bM 0 0 0 0 0 0 0,.iface 309 (.pointer (some (a 5)))]) (by simp[results,Tryz.results142,go_sem]) rfl ⟨rfl,?_⟩;exact(((Below.refl _ _).alloc (Nat.le_refl _) _).drew)
theorem vB(s:ByteArray)(w:World)(h:22≤s.size)(hm:s.size≤1000000000)(hk:1≤xh s 0 0 1∧xh s 0 0 1≤8):
 Cl 142 #[.string s] w fun e w'=>e=rV #[bM (xh s 0 0 1) (xh s 0 1 4) (xh s 0 5 4) (xh s 0 9 4) (xh s 0 13 4) (xh s 0 17 4) (xh s 0 21 1),.nilIface]∧Below w.heap.size w w':=by
 have A:=fun W=>zu s 0 1 W (by omega) (by omega) hm
 have O:val ((s.data.toList.drop 0).take 1)=xh s 0 0 1:=by simp[xh]
 rw[O]at A;generalize xh s 0 0 1=k0 at *;have H:=hid A;have B:=fun W=>zu s 1 4 W (by omega) (by omega) hm
 have R:val ((s.data.toList.drop 1).take 4)=xh s 0 1 4:=by simp[xh]
 rw[R]at B;generalize xh s 0 1 4=k1 at *;have I:=hid B;have C:=fun W=>zu s 5 4 W (by omega) (by omega) hm
 have S:val ((s.data.toList.drop 5).take 4)=xh s 0 5 4:=by simp[xh]
 rw[S]at C;generalize xh s 0 5 4=k2 at *;have J:=hid C;have D:=fun W=>zu s 9 4 W (by omega) (by omega) hm
 have T:val ((s.data.toList.drop 9).take 4)=xh s 0 9 4:=by simp[xh]
 rw[T]at D;generalize xh s 0 9 4=k3 at *;have K:=hid D;have E:=fun W=>zu s 13 4 W (by omega) (by omega) hm
 have U:val ((s.data.toList.drop 13).take 4)=xh s 0 13 4:=by simp[xh]
 rw[U]at E;generalize xh s 0 13 4=k4 at *;have L:=hid E;have F:=fun W=>zu s 17 4 W (by omega) (by omega) hm
 have V:val ((s.data.toList.drop 17).take 4)=xh s 0 17 4:=by simp[xh]
 rw[V]at F;generalize xh s 0 17 4=k5 at *;have M:=hid F;have G:=fun W=>zu s 21 1 W (by omega) (by omega) hm
 have X:val ((s.data.toList.drop 21).take 1)=xh s 0 21 1:=by simp[xh]
 rw[X]at G;generalize xh s 0 21 1=k6 at *;have N:=hid G;obtain⟨Y,Z⟩:=hk;go_enter func142,ntmps142;go_wp2_with fail;refine(H _).mono ?_;rintro e w' ⟨rfl,rfl⟩;go_wp2_with fail;refine(I _).mono ?_;rintro e w' ⟨rfl,rfl⟩;go_wp2_with fail;refine(J _).mono ?_;rintro e w' ⟨rfl,rfl⟩;go_wp2_with fail;refine(K _).mono ?_;rintro e w' ⟨rfl,rfl⟩;go_wp2_with fail;refine(L _).mono ?_;rintro e w' ⟨rfl,rfl⟩;go_wp2_with fail;refine(M _).mono ?_;rintro e w' ⟨rfl,rfl⟩;go_wp2_with fail;refine(N _).mono ?_;rintro e w' ⟨rfl,rfl⟩;go_wp2;refine bodyPost_ret (v:=.tuple #[bM k0 k1 k2 k3 k4 k5 k6,.nilIface]) (by simp[results,Tryz.results142,go_sem]) rfl ⟨rfl,?_⟩;exact((Below.refl _ _).alloc (Nat.le_refl _) _)
end
end Go.Proofs.YtehmdohpmpbnnaaGreatDoor
