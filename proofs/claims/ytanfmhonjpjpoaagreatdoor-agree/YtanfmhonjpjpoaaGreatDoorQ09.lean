import Derived.Test.YtanfmhonjpjpoaaGreatDoorQ00
import Derived.Test.YtanfmhonjpjpoaaGreatDoorQ06
import Derived.Test.YtanfmhonjpjpoaaGreatDoorQ07
import Derived.Test.YtanfmhonjpjpoaaGreatDoorQ08
import Derived.Below
import Derived.Deep.RegionHeld
import Derived.Deep.RegionWith
import Derived.Laws.DeepStrings4
set_option linter.all false
set_option maxRecDepth 100000
set_option maxHeartbeats 8000000
namespace Go.Proofs.YtanfmhonjpjpoaaGreatDoor
variable{w w':World}{a:Nat→Addr}{s:Nat→ByteArray}
section
open Go.Extern Go.Extern.Stop Go.RowKit Go.Stop
structure Errs(w:World)(a:Nat→Addr)(s:Nat→ByteArray):Prop where
 c0:w.cell? (iA 0 0)=some (.iface 325 (.pointer (some (a 0))))
 c1:w.cell? (iA 1 0)=some (.iface 325 (.pointer (some (a 1))))
 c2:w.cell? (iA 2 0)=some (.iface 325 (.pointer (some (a 2))))
 c3:w.cell? (iA 3 0)=some (.iface 325 (.pointer (some (a 3))))
 c4:w.cell? (iA 4 0)=some (.iface 325 (.pointer (some (a 4))))
 c5:w.cell? (iA 5 0)=some (.iface 325 (.pointer (some (a 5))))
 c6:w.cell? (iA 6 0)=some (.iface 325 (.pointer (some (a 6))))
 c7:w.cell? (iA 7 0)=some (.iface 325 (.pointer (some (a 7))))
 handle:w.cell? (iA 8 0)=some (.iface 248 (.agg #[.pointer (some (iA 11 79))]))
 ne: ∀i j,i<8→j<8→i≠j→a i≠a j
 row: ∀k,k<8→∃c t,w.heap[(a k).block]? =some (.cells c t (0,0))
 str: ∀k,k<8→w.cell? (a k)=some (.string (s k))∧(s k).size≠0∧(s k).size≤1000
theorem Errs.below(h:Errs w a s)(hb:Below w.heap.size w w'):Errs w' a s:=
 ⟨(hb.cell (zA4 h.c0)).trans h.c0,(hb.cell (zA4 h.c1)).trans h.c1,(hb.cell (zA4 h.c2)).trans h.c2,(hb.cell (zA4 h.c3)).trans h.c3,
  (hb.cell (zA4 h.c4)).trans h.c4,(hb.cell (zA4 h.c5)).trans h.c5,(hb.cell (zA4 h.c6)).trans h.c6,(hb.cell (zA4 h.c7)).trans h.c7,
  (hb.cell (zA4 h.handle)).trans h.handle,h.ne,
  fun k hk=>by
   obtain⟨c,t,hr⟩:=h.row k hk;exact⟨c,t,(hb.block _ (zA4 (h.str k hk).1)).trans hr⟩,
  fun k hk=>⟨(hb.cell (zA4 (h.str k hk).1)).trans (h.str k hk).1,(h.str k hk).2⟩⟩
theorem Errs.alloc(h:Errs w a s)(o:Obj):Errs (w.alloc o) a s:=
 h.below ((Below.refl _ _).alloc (Nat.le_refl _) o)
abbrev listCells(a:Nat→Addr):Array Value:=#[.iface 325 (.pointer (some (a 0))),.iface 325 (.pointer (some (a 1))),.iface 325 (.pointer (some (a 2))),.iface 325 (.pointer (some (a 3))),.iface 325 (.pointer (some (a 4))),.iface 325 (.pointer (some (a 5))),.iface 325 (.pointer (some (a 6))),.iface 325 (.pointer (some (a 7)))]
theorem listCell(a:Nat→Addr)(w:World)(t:TypeId)(j:Nat)(hj:j<8):(w.alloc (.cells (listCells a) t)).cell? (iA w.heap.size j)=some (.iface 325 (.pointer (some (a j)))):=by
 have h:j=0∨j=1∨j=2∨j=3∨j=4∨j=5∨j=6∨j=7:=by omega
 rcases h with rfl|rfl|rfl|rfl|rfl|rfl|rfl|rfl<;>simp
theorem zCk(w:World):Cl 29 #[.nilIface] w fun e w'=>e=rV #[iV 0,iV (-1)]∧w'=w:=by
 go_enter Tryz.func29,Tryz.ntmps29;go_wp2;go_ret2;exact⟨rfl,rfl⟩
theorem zFi(a:Nat→Addr)(s:Nat→ByteArray)(k:Nat)(hk:k<8)(w:World)(hE:Errs w a s):
 Cl 29 #[.iface 325 (.pointer (some (a k)))] w fun e w'=>e=rV #[iV ((k:Int)+1),iV (-1)]∧Below w.heap.size w w':=by
 have hE1:=hE.alloc (.cells (listCells a) 79);obtain⟨c0,c1,c2,c3,c4,c5,c6,c7,-,-,-,-⟩:=hE;have hcell:=listCell a w 79;have HC:=hid hcell;go_enter Tryz.func29,Tryz.ntmps29;go_wp2;go_loop [4,20] (fun n i=> ∃j:Nat,j≤8∧i=iV j∧n=iV (if k<j then(k:Int)+1 else 0)) (fun _ i=>8 - (intOf i).toNat)
 case atStart=>exact⟨0,by omega,rfl,rfl⟩
 case round=>
  obtain⟨j,hj,rfl,rfl⟩:=hrel;by_cases hlt:j<8
  ·have hc:=HC j hlt;obtain⟨cj,tj,hrj⟩:=hE1.row j hlt;obtain⟨ck,tk,hrk⟩:=hE1.row k hk;rcases Nat.lt_trichotomy j k with hjk|hjk|hjk
   ·have hne:=hE1.ne k j hk hlt (by omega);rw[if_neg (by omega)];go_wp2_with(go_at_call 51;refine(zDm _ _ ck cj tk tj _ hne hrk hrj).mono ?_;rintro e w' ⟨rfl,rfl⟩);go_round
    case rel=>exact⟨j+1,by omega,by go_num,by rw[if_neg (by omega)]⟩
    case measure=>simp[intOf];omega
   ·subst hjk;rw[if_neg (by omega)];go_wp2_with(go_at_call 51;refine(zFg _ _).mono ?_;rintro e w' ⟨rfl,rfl⟩);go_round
    case rel=>exact⟨j+1,by omega,by go_num,by rw[if_pos (by omega)]⟩
    case measure=>simp[intOf];omega
   ·have hne:=hE1.ne k j hk hlt (by omega);rw[if_pos hjk];go_wp2_with(go_at_call 51;refine(zDm _ _ ck cj tk tj _ hne hrk hrj).mono ?_;rintro e w' ⟨rfl,rfl⟩);go_round
    case rel=>exact⟨j+1,by omega,by go_num,by rw[if_pos (by omega)]⟩
    case measure=>simp[intOf];omega
  ·have hj8:j=8:=by omega
   subst hj8;rw[if_pos hk];have hb0:((k:Int)+1 == 0)=false:=beq_eq_false_iff_ne.2 (by omega);have hE2:=hE1.alloc (.cells #[.pointer none] 130);have hh:=hE2.handle;go_wp2_with(go_at_call 52;refine(zKj _ _ (.pointer none) _ hh (by simp)).mono ?_;rintro e w' ⟨rfl,rfl⟩);go_ret2;refine⟨rfl,?_⟩;exact(((((Below.refl _ _).alloc (Nat.le_refl _) _).alloc (by simp) _).alloc (by simp;omega) _).alloc (by simp;omega) _).alloc (by simp;omega) _
end
section
open Go.Extern Go.RowKit
theorem zA1(h:Below w.heap.size w w')(o:Obj):Below w.heap.size w (w'.alloc o):=h.alloc h.size o
abbrev cmdV(kind:Int)(v:Nat→Int):Value:=.agg #[iV kind,iV (v 0),iV (v 1),iV (v 2),iV (v 3),iV (v 4),iV (v 5),iV (v 6),iV (v 7),iV (v 8)]
abbrev arrV(v:Nat→Int):Value:=.agg #[iV (v 0),iV (v 1),iV (v 2),iV (v 3),iV (v 4),iV (v 5),iV (v 6),iV (v 7),iV (v 8)]
theorem zKk(v:Nat→Int)(w:World):
 Cl 110 #[arrV v] w fun e w'=>e=.returned (arrV v)∧Below w.heap.size w w':=by
 go_enter Tryz.func110,Tryz.ntmps110;go_wp2;refine bodyPost_ret (v:=arrV v) (by simp[results,Tryz.results110,go_sem]) rfl ⟨rfl,?_⟩;repeat(first|exact Below.refl _ _|refine Below.setCell ?_ (by simp) _|refine Below.drew ?_|refine zA1 ?_ _)
theorem keep9o{B C:Nat}(h:Below B w w')(hC:B≤C)(o0 o1 o2 o3 o4 o5 o6 o7 o8:Nat)(x0 x1 x2 x3 x4 x5 x6 x7 x8:Value):Below B w (((((((((w'.setCell (iA C o0) x0).setCell (iA C o1) x1).setCell (iA C o2) x2).setCell (iA C o3) x3).setCell (iA C o4) x4).setCell (iA C o5) x5).setCell (iA C o6) x6).setCell (iA C o7) x7).setCell (iA C o8) x8):=
 (((((((((h.setCell (p:=(iA C o0)) hC x0).setCell (p:=(iA C o1)) hC x1).setCell (p:=(iA C o2)) hC x2).setCell (p:=(iA C o3)) hC x3).setCell (p:=(iA C o4)) hC x4).setCell (p:=(iA C o5)) hC x5).setCell (p:=(iA C o6)) hC x6).setCell (p:=(iA C o7)) hC x7).setCell (p:=(iA C o8)) hC x8)
abbrev NumS(B:Nat)(kind:Int)(v:Nat→Int)(W:World):Prop:=W.cell? (iA B 0)=sI kind∧W.cell? (iA B 1)=sI (v 0)∧W.cell? (iA B 2)=sI (v 1)∧W.cell? (iA B 3)=sI (v 2)∧W.cell? (iA B 4)=sI (v 3)∧W.cell? (iA B 5)=sI (v 4)∧W.cell? (iA B 6)=sI (v 5)∧W.cell? (iA B 7)=sI (v 6)∧W.cell? (iA B 8)=sI (v 7)∧W.cell? (iA B 9)=sI (v 8)∧W.there (B+1) 0 9
theorem numS0(w:World)(kind:Int)(v:Nat→Int):NumS w.heap.size kind v (((w.alloc (.cells #[iV kind,iV (v 0),iV (v 1),iV (v 2),iV (v 3),iV (v 4),iV (v 5),iV (v 6),iV (v 7),iV (v 8)] 102)).alloc (.cells #[iV 0,iV 0,iV 0,iV 0,iV 0,iV 0,iV 0,iV 0,iV 0] 35)).drew):=by
 refine⟨by simp,by simp,by simp,by simp,by simp,by simp,by simp,by simp,by simp,by simp,fun j hj=>?_⟩;have h:j=0∨j=1∨j=2∨j=3∨j=4∨j=5∨j=6∨j=7∨j=8:=by omega
 rcases h with rfl|rfl|rfl|rfl|rfl|rfl|rfl|rfl|rfl<;>exact⟨by simp,by simp⟩
theorem numOut(B:Nat)(W:World)(l:List Value)(j:Nat):(W.setCells (B+1) 0 l).cell? (iA B j)=W.cell? (iA B j):=World.cell?_setCells_out _ _ _ _ _ (by intro e;simp at e)
theorem numS1(B:Nat)(kind:Int)(v:Nat→Int)(W:World)(l:List Value)(h:W.cell? (iA B 0)=sI kind∧W.cell? (iA B 1)=sI (v 0)∧W.cell? (iA B 2)=sI (v 1)∧W.cell? (iA B 3)=sI (v 2)∧W.cell? (iA B 4)=sI (v 3)∧W.cell? (iA B 5)=sI (v 4)∧W.cell? (iA B 6)=sI (v 5)∧W.cell? (iA B 7)=sI (v 6)∧W.cell? (iA B 8)=sI (v 7)∧W.cell? (iA B 9)=sI (v 8)∧W.there (B+1) 0 9):W.cell? (iA B 0)=sI kind∧W.cell? (iA B 1)=sI (v 0)∧W.cell? (iA B 2)=sI (v 1)∧W.cell? (iA B 3)=sI (v 2)∧W.cell? (iA B 4)=sI (v 3)∧W.cell? (iA B 5)=sI (v 4)∧W.cell? (iA B 6)=sI (v 5)∧W.cell? (iA B 7)=sI (v 6)∧W.cell? (iA B 8)=sI (v 7)∧W.cell? (iA B 9)=sI (v 8)∧(W.setCells (B+1) 0 l).there (B+1) 0 9:=by
 obtain⟨h0,h1,h2,h3,h4,h5,h6,h7,h8,h9,h10⟩:=h;exact⟨h0,h1,h2,h3,h4,h5,h6,h7,h8,h9,World.there_setCells h10 _ _ _⟩
theorem zKl(kind:Int)(v:Nat→Int)(w:World):
 Cl 94 #[cmdV kind v] w fun e w'=>e=rV #[iV kind,arrV v]∧Below w.heap.size w w':=by
 have h1: ∀x∈([iV (v 0),iV (v 1),iV (v 2),iV (v 3),iV (v 4),iV (v 5),iV (v 6),iV (v 7),iV (v 8)]:List Value),x.oneCell'=true:=by
  intro x hx;simp at hx;rcases hx with rfl|rfl|rfl|rfl|rfl|rfl|rfl|rfl|rfl<;>rfl
 have h3:(Tryz.prog.info? 35).map (·.size)=some ([iV (v 0),iV (v 1),iV (v 2),iV (v 3),iV (v 4),iV (v 5),iV (v 6),iV (v 7),iV (v 8)]:List Value).length:=by
  show _=some 9;kernel_rfl
 go_enter Tryz.func94,Tryz.ntmps94;go_wp2_with fail
 go_region_held (fun w'=>w'.cell? (iA w.heap.size 0)=sI kind∧w'.cell? (iA w.heap.size 1)=sI (v 0)∧w'.cell? (iA w.heap.size 2)=sI (v 1)∧w'.cell? (iA w.heap.size 3)=sI (v 2)∧w'.cell? (iA w.heap.size 4)=sI (v 3)∧w'.cell? (iA w.heap.size 5)=sI (v 4)∧w'.cell? (iA w.heap.size 6)=sI (v 5)∧w'.cell? (iA w.heap.size 7)=sI (v 6)∧w'.cell? (iA w.heap.size 8)=sI (v 7)∧w'.cell? (iA w.heap.size 9)=sI (v 8)∧w'.there (w.heap.size+1) 0 9) (first|(simp only[numOut];exact numS1 w.heap.size kind v _ _ (by assumption))|exact numS0 w kind v) (fail)
 simp only[World.setCells];go_wp2;refine bodyPost_ret (v:=.tuple #[iV kind,arrV v]) (by simp[results,Tryz.results94,go_sem]) rfl ⟨rfl,?_⟩;exact keep9o (C:=w.heap.size+1) ((zA1 (zA1 (Below.refl _ _) _) _).drew) (by omega) _ _ _ _ _ _ _ _ _ _ _ _ _ _ _ _ _ _
theorem zKm(kind:Int)(v:Nat→Int)(w:World):
 Cl 39 #[iV kind,arrV v] w fun e w'=>e=.returned (cmdV kind v)∧Below w.heap.size w w':=by
 go_enter Tryz.func39,Tryz.ntmps39;go_wp2_with fail
 go_region_held (fun w'=>w'.cell? (iA w.heap.size 0)=sI (v 0)∧w'.cell? (iA w.heap.size 1)=sI (v 1)∧w'.cell? (iA w.heap.size 2)=sI (v 2)∧w'.cell? (iA w.heap.size 3)=sI (v 3)∧w'.cell? (iA w.heap.size 4)=sI (v 4)∧w'.cell? (iA w.heap.size 5)=sI (v 5)∧w'.cell? (iA w.heap.size 6)=sI (v 6)∧w'.cell? (iA w.heap.size 7)=sI (v 7)∧w'.cell? (iA w.heap.size 8)=sI (v 8)) (go_keep) (fail)
 go_wp2;refine bodyPost_ret (v:=cmdV kind v) (by simp[results,Tryz.results39,go_sem]) rfl ⟨rfl,?_⟩;repeat(first|exact Below.refl _ _|refine Below.setCell ?_ (by simp<;>omega) _|refine Below.drew ?_|refine zA1 ?_ _)
end
section
open Go.Extern Go.Extern.Stop Go.RowKit Go.Stop
theorem zFj(e t:Addr)(old:Value)(w:World)(hg:w.cell? (iA 8 0)=some (.iface 248 (.agg #[.pointer (some (iA 11 79))])))(ht0:w.cell? t=some old)(hf0:w.frozen? t=false):
 Cl 52 #[.iface 130 (.pointer (some e)),.iface 132 (.pointer (some t))] w fun ev w'=>ev=rB true∧w'.cell? t=some (.pointer (some e))∧Below t.block w w':=by
 refine(zKi e t old w hg ht0 hf0).mono ?_;rintro ev w' ⟨rfl,rfl⟩;have hl:=zA4 ht0;refine⟨rfl,?_,?_⟩
 ·refine World.cell?_setCell_same (u:=old) _ _ _ ?_;rw[World.cell?_alloc_lt _ _ t (by simp;omega),World.cell?_alloc_lt _ _ t (by simp;omega),World.cell?_alloc_lt _ _ t (by simp;omega),World.cell?_alloc_lt _ _ t hl];exact ht0
 ·exact(((((Below.refl _ _).alloc (by omega) _).alloc (by simp;omega) _).alloc (by simp;omega) _).alloc (by simp;omega) _).setCell (Nat.le_refl _) _
theorem zFk(a:Nat→Addr)(s:Nat→ByteArray)(k:Nat)(hk:k<8)(pb po:Nat)(n:Int)(w:World)(hE:Errs w a s)
 (h0:w.cell? (iA pb po)=sI n) (h1:w.cell? (iA pb (po+1))=some (.iface 325 (.pointer (some (a k))))):
 Cl 29 #[.iface 130 (.pointer (some (iA pb po)))] w fun e w'=>e=rV #[iV ((k:Int)+1),iV n]∧Below w.heap.size w w':=by
 have hE1:=hE.alloc (.cells (listCells a) 79);have hpb:pb<w.heap.size:=zA4 h0;have h11:(w.alloc (.cells (listCells a) 79)).cell? (iA pb (po+1))=some (.iface 325 (.pointer (some (a k)))):=by
  rw[World.cell?_alloc_lt _ _ _ hpb];exact h1
 have h02:((w.alloc (.cells (listCells a) 79)).alloc (.cells #[.pointer none] 130)).cell? (iA pb po)=sI n:=by
  rw[World.cell?_alloc_lt _ _ _ (by simp;omega),World.cell?_alloc_lt _ _ _ hpb];exact h0
 obtain⟨c0,c1,c2,c3,c4,c5,c6,c7,-,-,-,-⟩:=hE;have hcell:=listCell a w 79;have HC:=hid hcell;go_enter Tryz.func29,Tryz.ntmps29;go_wp2;go_loop [4,20] (fun n i=> ∃j:Nat,j≤8∧i=iV j∧n=iV (if k<j then(k:Int)+1 else 0)) (fun _ i=>8 - (intOf i).toNat)
 case atStart=>exact⟨0,by omega,rfl,rfl⟩
 case round=>
  obtain⟨j,hj,rfl,rfl⟩:=hrel;by_cases hlt:j<8
  ·have hc:=HC j hlt;obtain⟨cj,tj,hrj⟩:=hE1.row j hlt;obtain⟨ck,tk,hrk⟩:=hE1.row k hk;rcases Nat.lt_trichotomy j k with hjk|hjk|hjk
   ·have hne:=hE1.ne k j hk hlt (by omega);rw[if_neg (by omega)];go_wp2_with(go_at_call 51;refine(zFh _ _ _ _ ck cj tk tj _ h11 hne hrk hrj).mono ?_;rintro e w' ⟨rfl,rfl⟩);go_round
    case rel=>exact⟨j+1,by omega,by go_num,by rw[if_neg (by omega)]⟩
    case measure=>simp[intOf];omega
   ·subst hjk;rw[if_neg (by omega)];go_wp2_with(go_at_call 51;refine(zKg _ _ _ _ h11).mono ?_;rintro e w' ⟨rfl,rfl⟩);go_round
    case rel=>exact⟨j+1,by omega,by go_num,by rw[if_pos (by omega)]⟩
    case measure=>simp[intOf];omega
   ·have hne:=hE1.ne k j hk hlt (by omega);rw[if_pos hjk];go_wp2_with(go_at_call 51;refine(zFh _ _ _ _ ck cj tk tj _ h11 hne hrk hrj).mono ?_;rintro e w' ⟨rfl,rfl⟩);go_round
    case rel=>exact⟨j+1,by omega,by go_num,by rw[if_pos (by omega)]⟩
    case measure=>simp[intOf];omega
  ·have hj8:j=8:=by omega
   subst hj8;rw[if_pos hk];have hb0:((k:Int)+1 == 0)=false:=beq_eq_false_iff_ne.2 (by omega);have hE2:=hE1.alloc (.cells #[.pointer none] 130);have hh:=hE2.handle;have hB0:Bw w ((w.alloc (.cells (listCells a) 79)).alloc (.cells #[.pointer none] 130)):=((Below.refl _ _).alloc (Nat.le_refl _) _).alloc (by simp) _;go_wp2_with fail;refine(zFj _ _ (.pointer none) _ hh (by simp) (by simp)).mono ?_;rintro e w' ⟨rfl,hc,hb⟩;have hq:cI w' pb po n:=(hb.cell (p:=(iA pb po)) (by simp;omega)).trans h02;have HB:=hid (hB0.trans (hb.mono (by simp)));go_wp2_with fail;go_region;all_goals(try go_wp2)
   all_goals(go_ret2;exact⟨rfl,HB.drew⟩)
end
section
open Go.Extern Go.RowKit
def fld(s:ByteArray)(p a n:Nat):Int:=val ((s.data.toList.drop (p+a)).take n)
def recL(s:ByteArray)(p:Nat):List Int:=[fld s p 0 1,fld s p 1 4,fld s p 5 4,fld s p 9 4,fld s p 13 4,fld s p 17 4,fld s p 21 1]
abbrev recW(l0 l1 l2 l3 l4 l5 l6:Int):Value:=.agg #[iV l0,iV l1,iV l2,iV l3,iV l4,iV l5,iV l6]
theorem zSm(s:ByteArray)(p a n:Nat)(h:n≤4):0≤fld s p a n∧fld s p a n<4294967296:=
 ⟨zBb _,zBc _ (Nat.le_trans (List.length_take_le _ _) h)⟩
theorem errs1{st:Nat→ByteArray}(hE:Errs w a st)(o1:Obj):Errs (w.alloc o1) a st:=hE.alloc o1
theorem zFl(a:Nat→Addr)(st:Nat→ByteArray)(s:ByteArray)(w:World)(hE:Errs w a st)(h:s.size<22):
 Cl 130 #[.string s] w fun e w'=>e=rV #[recW 0 0 0 0 0 0 0,.iface 325 (.pointer (some (a 3)))]∧Below w.heap.size w w':=by
 have hc:=(errs1 hE (.cells #[iV 0,iV 0,iV 0,iV 0,iV 0,iV 0,iV 0] 73)).c3;go_enter Tryz.func130,Tryz.ntmps130;go_wp2_with fail;go_region;all_goals(try go_wp2)
 all_goals
  refine bodyPost_ret (v:=.tuple #[recW 0 0 0 0 0 0 0,.iface 325 (.pointer (some (a 3)))]) (by simp[results,Tryz.results130,go_sem]) rfl ⟨rfl,?_⟩;exact(((Below.refl _ _).alloc (Nat.le_refl _) _).drew)
theorem zFm(a:Nat→Addr)(st:Nat→ByteArray)(s:ByteArray)(w:World)(hE:Errs w a st)(h:22≤s.size)(hm:s.size≤1000000000)(hk:fld s 0 0 1<1∨8<fld s 0 0 1):
 Cl 130 #[.string s] w fun e w'=>e=rV #[recW 0 0 0 0 0 0 0,.iface 325 (.pointer (some (a 5)))]∧Below w.heap.size w w':=by
 have hc:=(errs1 hE (.cells #[iV 0,iV 0,iV 0,iV 0,iV 0,iV 0,iV 0] 73)).c5;have hna:=fun W=>zAx s 0 1 W (by omega) (by omega) hm
 have e:val ((s.data.toList.drop 0).take 1)=fld s 0 0 1:=rfl;rw[e]at hna;generalize fld s 0 0 1=k at *;have HNA:=hid hna;rcases hk with hk|hk;all_goals
  go_enter Tryz.func130,Tryz.ntmps130;go_wp2_with fail;refine(HNA _).mono ?_;rintro e w' ⟨rfl,rfl⟩;go_wp2_with fail;go_region;all_goals(try go_wp2)
  all_goals
   refine bodyPost_ret (v:=.tuple #[recW 0 0 0 0 0 0 0,.iface 325 (.pointer (some (a 5)))]) (by simp[results,Tryz.results130,go_sem]) rfl ⟨rfl,?_⟩;exact(((Below.refl _ _).alloc (Nat.le_refl _) _).drew)
theorem zFn(s:ByteArray)(w:World)(h:22≤s.size)(hm:s.size≤1000000000)(hk:1≤fld s 0 0 1∧fld s 0 0 1≤8):
 Cl 130 #[.string s] w fun e w'=>e=rV #[recW (fld s 0 0 1) (fld s 0 1 4) (fld s 0 5 4) (fld s 0 9 4) (fld s 0 13 4) (fld s 0 17 4) (fld s 0 21 1),.nilIface]∧Below w.heap.size w w':=by
 have hn0:=fun W=>zAx s 0 1 W (by omega) (by omega) hm
 have e0:val ((s.data.toList.drop 0).take 1)=fld s 0 0 1:=by simp[fld]
 rw[e0]at hn0;generalize fld s 0 0 1=k0 at *;have HN0:=hid hn0;have hn1:=fun W=>zAx s 1 4 W (by omega) (by omega) hm
 have e1:val ((s.data.toList.drop 1).take 4)=fld s 0 1 4:=by simp[fld]
 rw[e1]at hn1;generalize fld s 0 1 4=k1 at *;have HN1:=hid hn1;have hn2:=fun W=>zAx s 5 4 W (by omega) (by omega) hm
 have e2:val ((s.data.toList.drop 5).take 4)=fld s 0 5 4:=by simp[fld]
 rw[e2]at hn2;generalize fld s 0 5 4=k2 at *;have HN2:=hid hn2;have hn3:=fun W=>zAx s 9 4 W (by omega) (by omega) hm
 have e3:val ((s.data.toList.drop 9).take 4)=fld s 0 9 4:=by simp[fld]
 rw[e3]at hn3;generalize fld s 0 9 4=k3 at *;have HN3:=hid hn3;have hn4:=fun W=>zAx s 13 4 W (by omega) (by omega) hm
 have e4:val ((s.data.toList.drop 13).take 4)=fld s 0 13 4:=by simp[fld]
 rw[e4]at hn4;generalize fld s 0 13 4=k4 at *;have HN4:=hid hn4;have hn5:=fun W=>zAx s 17 4 W (by omega) (by omega) hm
 have e5:val ((s.data.toList.drop 17).take 4)=fld s 0 17 4:=by simp[fld]
 rw[e5]at hn5;generalize fld s 0 17 4=k5 at *;have HN5:=hid hn5;have hn6:=fun W=>zAx s 21 1 W (by omega) (by omega) hm
 have e6:val ((s.data.toList.drop 21).take 1)=fld s 0 21 1:=by simp[fld]
 rw[e6]at hn6;generalize fld s 0 21 1=k6 at *;have HN6:=hid hn6;obtain⟨hk1,hk8⟩:=hk;go_enter Tryz.func130,Tryz.ntmps130;go_wp2_with fail;refine(HN0 _).mono ?_;rintro e w' ⟨rfl,rfl⟩;go_wp2_with fail;refine(HN1 _).mono ?_;rintro e w' ⟨rfl,rfl⟩;go_wp2_with fail;refine(HN2 _).mono ?_;rintro e w' ⟨rfl,rfl⟩;go_wp2_with fail;refine(HN3 _).mono ?_;rintro e w' ⟨rfl,rfl⟩;go_wp2_with fail;refine(HN4 _).mono ?_;rintro e w' ⟨rfl,rfl⟩;go_wp2_with fail;refine(HN5 _).mono ?_;rintro e w' ⟨rfl,rfl⟩;go_wp2_with fail;refine(HN6 _).mono ?_;rintro e w' ⟨rfl,rfl⟩;go_wp2;refine bodyPost_ret (v:=.tuple #[recW k0 k1 k2 k3 k4 k5 k6,.nilIface]) (by simp[results,Tryz.results130,go_sem]) rfl ⟨rfl,?_⟩;exact((Below.refl _ _).alloc (Nat.le_refl _) _)
end
end Go.Proofs.YtanfmhonjpjpoaaGreatDoor
