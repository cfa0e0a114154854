import Derived.Test.YtanfmhonjpjpoaaGreatDoorQ00
import Derived.Test.YtanfmhonjpjpoaaGreatDoorQ02
import Derived.Test.YtanfmhonjpjpoaaGreatDoorQ06
import Derived.Deep.AppendLies
import Derived.Laws.OwnMore
import Derived.Deep.QuietTactic
import Derived.BigQuiet
set_option linter.all false
set_option maxRecDepth 100000
set_option maxHeartbeats 8000000
namespace Go.Proofs.YtanfmhonjpjpoaaGreatDoor
variable{w a w':World}{F:Nat→Prop}{e:Eng}{b base g k:Nat}{dv av:Value}{side:Int}
open Go.Extern Go.RowKit
def wordAt(ws:List ByteArray)(k:Int):ByteArray:=ws.getD (ws.length - 1 - (pickN k ws.length).toNat) ⟨#[]⟩
theorem zLv(k:Int)(n:Nat)(h:0<n):(pickN k n).toNat<n:=by have:=zF3 k n (by omega);omega
theorem zSu(B base:Nat)(wv:Value)(ws:List ByteArray)(k:Int)(w:World)(hc:w.cell? (iA B 4)=some wv)(hown:w.ownsRow base 9 1 wv ws.length (ws.map Value.string))(hl:ws.length≤1000000000)
 (h1: -9223372036854775808≤k) (h2:k≤9223372036854775807):
 Cl 54 #[iP B,iV k] w fun e w'=>e=.returned (.string (wordAt ws k))∧∃m,w'=w.drewN m:=by
 by_cases h0:ws.length=0
 ·have hws:ws= []:=List.length_eq_zero_iff.1 h0;subst hws;rcases hown.2 with⟨rfl,-⟩|⟨g,cap,cur,rfl,hg,hh,hle,hmx,hsz2,htk⟩;all_goals
   try clear hh htk hsz2
   go_enter Tryz.func54,Tryz.ntmps54;go_wp2;go_ret;exact⟨rfl,0,rfl⟩
 ·have hp:=zLv k ws.length (by omega);have hpb:=zF3 k ws.length (by omega);have hix:ws.length - 1 - (pickN k ws.length).toNat<ws.length:=by omega
  have hcc:=fun g hg=>World.ownsRow.cells hown (g:=g) hg (ws.length - 1 - (pickN k ws.length).toNat) (.string (wordAt ws k)) (by
   rw[List.getElem?_map,List.getElem?_eq_getElem hix];unfold wordAt;rw[List.getD_eq_getElem?_getD,List.getElem?_eq_getElem hix];rfl)
  rcases hown.2 with⟨rfl,hn⟩|⟨g,cap,cur,rfl,hg,hh,hle,hmx,hsz2,htk⟩
  ·exact absurd hn h0
  ·have hcell:=hcc g rfl;rw[Addr.add_lit]at hcell;generalize hW:wordAt ws k=t at *;have HW:=hid hW;generalize hN:ws.length=n at *;have hpk:=fun W=>zJw k (n:Int) W h1 h2 (by omega) (by omega)
   have HPK:=hid hpk;obtain⟨q,hq⟩: ∃q:Nat,pickN k n=q:=⟨(pickN k n).toNat,by omega⟩;rw[hq]at hp hpb hcell hix;have HPQ:Hid (∀W,Cl 33 #[iV k,iV (n:Int)] W fun e w'=>e=.returned (iV (q:Int))∧w'=W):=fun W=>by rw[←hq];exact HPK W
   simp only[Int.toNat_natCast]at hp hcell hix;have hne:=beq_eq_false_iff_ne.2 (by omega);obtain⟨j,hj⟩: ∃j,n - 1 - q=j:=⟨_,rfl⟩;rw[hj]at hcell;have hcell':w.cell? (iA g j)=some (.string t):=by simpa using hcell
   have hwr1:IntKind.i64.wrap ((n:Int) - 1)=(n:Int) - 1:=by simp only[IntKind.wrap,IntKind.bits,IntKind.signed];simp;omega
   have hwr2:IntKind.i64.wrap ((n:Int) - 1 - (q:Int))=(j:Int):=by simp only[IntKind.wrap,IntKind.bits,IntKind.signed];simp;omega
   have hjb:(j:Int)<(n:Int):=by omega
   go_enter Tryz.func54,Tryz.ntmps54;go_wp2_with fail;go_quiet ((go_at_call 33;exact Calls.quiet_of_same (HPQ _)));go_wp2;go_ret;exact⟨rfl,_,rfl⟩
theorem zDw{P:Program}{t:TypeId}{z:Value}{s:Nat}(h:(P.info? t).map (fun i=>(i.size,i.bytes))=some (s,b))(hz:(P.info? t).map (fun i=>i.zero)=some (some z)): ∃i,P.info? t=some i∧i.zero=some z∧i.size=s∧i.bytes=b:=by
 obtain⟨i,hi,e⟩:=Option.map_eq_some_iff.1 h;rw[hi]at hz;simp at e hz;exact⟨i,hi,hz,e.1,e.2⟩
theorem Tryz.infoStr:(Tryz.prog.info? 9).map (fun i=>(i.size,i.bytes))=some (1,16):=by kernel_rfl
theorem Tryz.zeroStr:(Tryz.prog.info? 9).map (fun i=>i.zero)=some (some (.string ⟨#[]⟩)):=by kernel_rfl
theorem zA7(w:World)(b o:Nat)(u:Value)(cur:Array Value)(ty:TypeId)(fr:Nat×Nat)(h:w.heap[b]? =some (.cells cur ty fr)):(w.setCell (iA b o) u).heap[b]? =some (.cells (cur.setIfInBounds o u) ty fr):=by
 simp[World.setCell,Array.getElem?_modify,h]
structure Kept(B:Nat)(wv:Value)(w w':World):Prop where
 os:w'.os=w.os
 tape:w'.tape=w.tape
 output:w'.output=w.output
 size:w.heap.size≤w'.heap.size
 cell: ∀j,j≠4→j≠8→w'.cell? (iA B j)=w.cell? (iA B j)
 froz: ∀j,w'.frozen? (iA B j)=w.frozen? (iA B j)
 block: ∀b,b<w.heap.size→b≠B→some b≠wv.ownBlock→w'.heap[b]? =w.heap[b]?
 own: ∀cur ty fr,w.heap[B]? =some (.cells cur ty fr)→∃cur',w'.heap[B]? =some (.cells cur' ty fr)
theorem zSv(B base:Nat)(wv:Value)(ws:List ByteArray)(left:Int)(t:ByteArray)(w:World)(h4:w.cell? (iA B 4)=some wv)(h8:w.cell? (iA B 8)=sI left)(hf: ∀j,w.frozen? (iA B j)=false)
 (hown:w.ownsRow base 9 1 wv ws.length (ws.map Value.string)) (hB:B<base) (hbs:base≤w.heap.size) (hl:ws.length≤1000000000) (ht:t.size≤1000000000000) (hl1: -1000000000000≤left) (hl2:left≤1000000000000):
 Cl 61 #[iP B,.string t] w fun e w'=>e=rV #[]∧∃wv',w'.cell? (iA B 4)=some wv'∧w'.cell? (iA B 8)=sI (left - (t.size:Int))∧
  w'.ownsRow base 9 1 wv' (ws.length+1) ((ws++ [t]).map Value.string)∧(∀q,wv'.ownBlock=some q→wv.ownBlock=some q∨w.heap.size≤q)∧Kept B wv w w':=by
 obtain⟨i0,hi,hz0,hz1,hz2⟩:=zDw Tryz.infoStr Tryz.zeroStr;have hf8:=hf 8;have hf4:=hf 4;have HF:Hid (∀j,w.frozen? (iA B j)=false):=hf;have hown1:=ownsRow_setCell_below hown (a:=(iA B 8)) hB (iV (left - (t.size:Int)));have h41:(w.setCell (iA B 8) (iV (left - (t.size:Int)))).cell? (iA B 4)=some wv:=by
  rw[World.cell?_setCell_other _ _ _ _ (by intro e;injection e with e1 e2;omega)];exact h4
 go_enter Tryz.func61,Tryz.ntmps61;go_wp2_with(at_builtin;refine wpList_append_lies _ rfl _ _ 52 rfl base 9 i0 (.string ⟨#[]⟩) 1 16 Tryz.underlying52 hi hz0 hz1 hz2 rfl (by decide) _ _ _ rfl (hown1.alloc _) (iA w.heap.size 0) 1 1 [.string t] rfl rfl ?c1 ?c2 (by decide) ?c3 ?c4 ?c5 (w.heap.size+1) ?c6 ?_)
 case c1=>
  intro j u hj
  match j,hj with
  |0,hj=>
   simp at hj;subst hj;rw[show((iA w.heap.size 0):Addr).add 0=(iA w.heap.size 0) from rfl,World.cell?_alloc_at _ _ _ _ (by simp[World.setCell])];rfl
 case c2=>intro u hu;simp at hu;subst hu;rfl
 case c3=>unfold maxLen;omega
 case c4=>omega
 case c5=>simp;omega
 case c6=>simp
 intro g' cap' w1 hown2 hgrow hat _;have HAT:Hid (wv.ownBlock=some g'∨g'=w.heap.size+1):=hat;have hrow: ∀q,wv.ownBlock=some q→base≤q:=fun q hq=>(hown.lt q hq).1
 have hBr:some B≠wv.ownBlock:=fun e=>by have:=hrow B e.symm;omega
 have hBl:B<w.heap.size:=by omega
 have hszS:(w.setCell (iA B 8) (iV (left - (t.size:Int)))).heap.size=w.heap.size:=by simp[World.setCell]
 have hWB: ∀j,((w.setCell (iA B 8) (iV (left - (t.size:Int)))).alloc (.cells #[.string t] 9)).cell? (iA B j)=(w.setCell (iA B 8) (iV (left - (t.size:Int)))).cell? (iA B j):=fun j=>World.cell?_alloc_lt _ _ _ (by rw[hszS];exact hBl)
 have hblk:w1.heap[B]? =((w.setCell (iA B 8) (iV (left - (t.size:Int)))).alloc (.cells #[.string t] 9)).heap[B]? :=hgrow.block B (by simp;omega) hBr;have c1': ∀j,w1.cell? (iA B j)=(w.setCell (iA B 8) (iV (left - (t.size:Int)))).cell? (iA B j):=fun j=>(World.cell?_of_block (a:=(iA B j)) hblk).trans (hWB j)
 have f1': ∀j,w1.frozen? (iA B j)=w.frozen? (iA B j):=fun j=>(World.frozen?_of_block (a:=(iA B j)) hblk).trans (by
  rw[World.frozen?_alloc_old _ _ _ (by rw[hszS];exact Nat.ne_of_lt hBl),World.frozen?_setCell])
 have hq4:=(c1' 4).trans h41;have hqf:=(f1' 4).trans hf4;have HC8:Hid (cI w1 B 8 (left - (t.size:Int))):=(c1' 8).trans (World.cell?_setCell_same _ _ _ h8);have HCJ:Hid (∀j,j≠4→j≠8→w1.cell? (iA B j)=w.cell? (iA B j)):=fun j _ h=>(c1' j).trans (World.cell?_setCell_other _ _ _ _ (by intro e;injection e with e1 e2;omega))
 have HFJ:Hid (∀j,w1.frozen? (iA B j)=w.frozen? (iA B j)):=f1';have HO:Hid (∀x,(w1.setCell (iA B 4) x).ownsRow base 9 1 (sL g' (ws.length+1) cap') (ws.length+1) ((ws++ [t]).map Value.string)):=fun x=>by
  rw[List.map_append];exact ownsRow_setCell_below hown2 (a:=(iA B 4)) hB x
 have HBK:Hid (∀b,b<w.heap.size→b≠B→some b≠wv.ownBlock→w1.heap[b]? =w.heap[b]?):=fun b h1 h2 h3=>by
  rw[hgrow.block b (by simp;omega) h3,Below.heap_alloc _ _ _ (by rw[hszS];exact h1)];exact Below.heap_setCell _ _ _ _ h2
 have HSZ:Hid (w.heap.size≤w1.heap.size):=by
  have h:=hgrow.size;rw[show((w.setCell (iA B 8) (iV (left - (t.size:Int)))).alloc (.cells #[.string t] 9)).heap.size=w.heap.size+1 by simp]at h;show w.heap.size≤w1.heap.size;omega
 have HOWN:Hid (∀cur ty fr,w.heap[B]? =some (.cells cur ty fr)→∃cur',w1.heap[B]? =some (.cells cur' ty fr)):=fun cur ty fr h=>⟨_,by
  rw[hblk,Below.heap_alloc _ _ _ (by rw[hszS];exact hBl)];exact zA7 _ _ _ _ _ _ _ h⟩
 have HOS:Hid (w1.os=w.os∧w1.tape=w.tape∧w1.output=w.output):=⟨hgrow.os,hgrow.tape,hgrow.output⟩;go_wp2;go_end0;refine⟨rfl,_,World.cell?_setCell_same _ _ _ hq4,?_,HO.out _,(fun q hq=>by
  have:g'=q:=by simpa [Value.ownBlock] using hq
  subst this;rcases HAT.out with h|h
  ·exact .inl h
  ·exact .inr (by omega)),⟨HOS.1,HOS.2.1,HOS.2.2,?_,fun j h1 h2=>?_,fun j=>?_,fun b h1 h2 h3=>?_,fun cur ty fr h=>?_⟩⟩
 ·rw[World.cell?_setCell_other _ _ _ _ (by intro e;injection e with e1 e2;omega)];exact HC8.out
 ·have:=HSZ.out;simpa [World.setCell] using this
 ·rw[World.cell?_setCell_other _ _ _ _ (by intro e;injection e with e1 e2;omega)];exact HCJ.out j h1 h2
 ·rw[World.frozen?_setCell];exact HFJ.out j
 ·exact(Below.heap_setCell _ _ _ _ h2).trans (HBK.out b h1 h2 h3)
 ·obtain⟨cur',h'⟩:=HOWN.out cur ty fr h;exact⟨_,zA7 _ _ _ _ _ _ _ h'⟩
structure Touch(F:Nat→Prop)(w w':World):Prop where
 os:w'.os=w.os
 tape:w'.tape=w.tape
 output:w'.output=w.output
 size:w.heap.size≤w'.heap.size
 block: ∀k,k<w.heap.size→¬F k→w'.heap[k]? =w.heap[k]?
theorem Touch.refl(F:Nat→Prop)(w:World):Touch F w w:=⟨rfl,rfl,rfl,Nat.le_refl _,fun _ _ _=>rfl⟩
theorem Touch.trans{b c:World}(h:Touch F a b)(k:Touch F b c):Touch F a c:=
 ⟨k.os.trans h.os,k.tape.trans h.tape,k.output.trans h.output,Nat.le_trans h.size k.size,fun i hi hf=>(k.block i (Nat.lt_of_lt_of_le hi h.size) hf).trans (h.block i hi hf)⟩
theorem Touch.drew(h:Touch F a w):Touch F a w.drew:=⟨h.os,h.tape,h.output,h.size,h.block⟩
theorem Touch.drewN(h:Touch F a w)(n:Nat):Touch F a (w.drewN n):=⟨h.os,h.tape,h.output,h.size,h.block⟩
theorem Touch.set(h:Touch F a w)(b o:Nat)(u:Value)(hb:F b):Touch F a (w.setCell (iA b o) u):=
 ⟨h.os,h.tape,h.output,by simpa using h.size,fun k hk hf=>(Below.heap_setCell w (iA b o) u k (fun e=>hf (e▸hb))).trans (h.block k hk hf)⟩
theorem Touch.alloc(h:Touch F a w)(o:Obj):Touch F a (w.alloc o):=
 ⟨h.os,h.tape,h.output,Nat.le_trans h.size (by simp),fun k hk hf=>(Below.heap_alloc w o k (Nat.lt_of_lt_of_le hk h.size)).trans (h.block k hk hf)⟩
theorem Touch.below(h:Touch F a w)(hb:Below w.heap.size w w'):Touch F a w':=
 ⟨hb.os.trans h.os,hb.tape.trans h.tape,hb.output.trans h.output,Nat.le_trans h.size hb.size,fun k hk hf=>(hb.block k (Nat.lt_of_lt_of_le hk h.size)).trans (h.block k hk hf)⟩
theorem Touch.grown{row:Option Nat}(h:Touch F a w)(hg:w.grownBy w' row)(hr: ∀k,row=some k→F k):Touch F a w':=
 ⟨hg.os.trans h.os,hg.tape.trans h.tape,hg.output.trans h.output,Nat.le_trans h.size hg.size,fun k hk hf=>(hg.block k (Nat.lt_of_lt_of_le hk h.size) (fun e=>hf (hr k e.symm))).trans (h.block k hk hf)⟩
def Ord.cells(o:Ord):List Int:=[o.id,o.side,o.typ,o.qty,o.peak,o.off,o.life,o.time,o.status,o.price,o.opn,o.filled,o.cancelled,o.shown,o.stamp]
def rows(l:List Ord):List Value:=l.flatMap fun o=>o.cells.map (iV)
theorem zLw: ∀l:List Ord,(rows l).length=15*l.length
 | []=>rfl
 |o::r=>by
  have ih:=zLw r;have e1:rows (o::r)=o.cells.map (iV)++rows r:=rfl;rw[e1,List.length_append,ih,List.length_map,List.length_cons];have:o.cells.length=15:=rfl;omega
theorem zSw(l:List Ord)(o:Ord):rows (l++ [o])=rows l++o.cells.map (iV):=by simp[rows]
theorem zGp: ∀(l:List Ord) (i j:Nat) (o:Ord) (x:Int),l[i]? =some o→o.cells[j]? =some x→(rows l)[15*i+j]? =sI x
 | [],i,j,o,x,h,_=>by simp at h
 |y::r,0,j,o,x,h,hx=>by
  simp at h;subst h;have hj:j<15:=by have:=(List.getElem?_eq_some_iff.1 hx).1;simpa [Ord.cells] using this
  simp only[rows,List.flatMap_cons,Nat.mul_zero,Nat.zero_add];rw[List.getElem?_append_left (by simpa [Ord.cells] using hj),List.getElem?_map,hx];rfl
 |y::r,i+1,j,o,x,h,hx=>by
  have ih:=zGp r i j o x (by simpa using h) hx;simp only[rows,List.flatMap_cons]at ih⊢;rw[List.getElem?_append_right (by simp[Ord.cells];omega)];have:15*(i+1)+j - (List.map (iV) y.cells).length=15*i+j:=by simp[Ord.cells];omega
  rw[this];exact ih
theorem zGq: ∀(l:List Ord) (i j:Nat) (f:Ord→Ord) (x:Int),(∀o,l[i]? =some o→(f o).cells=o.cells.set j x)→j<15→i<l.length→(rows l).set (15*i+j) (iV x)=rows (l.modify i f)
 | [],i,j,f,x,_,_,h=>absurd h (Nat.not_lt_zero _)
 |y::r,0,j,f,x,h,hj,_=>by
  have:=h y rfl;simp only[rows,List.flatMap_cons,Nat.mul_zero,Nat.zero_add,List.modify_zero_cons,this,List.map_set];rw[List.set_append_left _ _ (by simpa [Ord.cells] using hj)]
 |y::r,i+1,j,f,x,h,hj,hi=>by
  have ih:=zGq r i j f x (fun o ho=>h o (by simpa using ho)) hj (by simpa using hi);simp only[rows,List.flatMap_cons,List.modify_succ_cons]at ih⊢;rw[List.set_append_right _ _ (by simp[Ord.cells];omega)];have:15*(i+1)+j - (List.map (iV) y.cells).length=15*i+j:=by simp[Ord.cells];omega
  rw[this,ih]
def engCells(e:Eng)(dv av:Value):Array Value:=#[iV e.mo,iV e.mp,iV e.mq,dv,iV (e.drawn:Int),av,.string ⟨e.rest.toArray⟩,iV e.now,iV (e.seq:Int),iV (e.stamp:Int),.string ⟨e.out.toArray⟩,iV e.worth,iV e.volume]
structure RefRep(F:Nat→Prop)(base:Nat)(w:World)(b:Nat)(e:Eng)(dv av:Value):Prop where
 blk:w.heap[b]? =some (.cells (engCells e dv av) 152 (0,0))
 own:F b
 up: ∀k,w.heap.size≤k→F k
 low:base≤w.heap.size
 dr:w.ownsRow base 3 1 dv e.draws.length (e.draws.map (iV))
 al:w.ownsRow base 202 15 av e.all.length (rows e.all)
 alF: ∀q,av.ownBlock=some q→F q
theorem zCs{B:Nat}{t:TypeId}{s:Nat}{v:Value}{n:Nat}{xs:List Value}(h:w.ownsRow B t s v n xs)(hk: ∀k,k<w.heap.size→w'.heap[k]? =w.heap[k]?):w'.ownsRow B t s v n xs:=by
 refine⟨h.1,?_⟩;rcases h.2 with h2|⟨g,cap,cur,hv,hg,hh,r⟩
 ·exact .inl h2
 ·exact .inr ⟨g,cap,cur,hv,hg,by rw[hk g (Array.getElem?_eq_some_iff.1 hh).1];exact hh,r⟩
namespace RefRep
variable {F:Nat→Prop} {base:Nat} {w w':World} {b:Nat} {e:Eng} {dv av:Value}
theorem lt(h:RefRep F base w b e dv av):b<w.heap.size:=(Array.getElem?_eq_some_iff.1 h.blk).1
theorem cell(h:RefRep F base w b e dv av)(j:Nat):w.cell? (iA b j)=(engCells e dv av)[j]? :=by simp[World.cell?,h.blk]
theorem froz(h:RefRep F base w b e dv av)(j:Nat):w.frozen? (iA b j)=false:=by simp[World.frozen?,h.blk]
theorem keep(h:RefRep F base w b e dv av)(hs:w.heap.size≤w'.heap.size)(hk: ∀k,k<w.heap.size→w'.heap[k]? =w.heap[k]?):RefRep F base w' b e dv av:=
 ⟨(hk b h.lt).trans h.blk,h.own,fun k hk'=>h.up k (Nat.le_trans hs hk'),Nat.le_trans h.low hs,zCs h.dr hk,zCs h.al hk,h.alF⟩
theorem below(h:RefRep F base w b e dv av)(hb:Below w.heap.size w w'):RefRep F base w' b e dv av:=h.keep hb.size hb.block
theorem alloc(h:RefRep F base w b e dv av)(o:Obj):RefRep F base (w.alloc o) b e dv av:=h.keep (by simp) (fun k hk=>Below.heap_alloc w o k hk)
theorem drew(h:RefRep F base w b e dv av):RefRep F base w.drew b e dv av:=⟨h.blk,h.own,h.up,h.low,h.dr,h.al,h.alF⟩
theorem drewN(h:RefRep F base w b e dv av)(n:Nat):RefRep F base (w.drewN n) b e dv av:=⟨h.blk,h.own,h.up,h.low,h.dr,h.al,h.alF⟩
theorem set(h:RefRep F base w b e dv av)(j:Nat)(u:Value)(e':Eng)(hc:(engCells e dv av).setIfInBounds j u=engCells e' dv av)(hd:e'.draws=e.draws)(ha:e'.all=e.all):RefRep F base (w.setCell (iA b j) u) b e' dv av:=by
 have hb:=zA7 w b j u _ _ _ h.blk;have oth: ∀{t:TypeId} {s:Nat} {v:Value} {n:Nat} {xs:List Value},t≠152→w.ownsRow base t s v n xs→(w.setCell (iA b j) u).ownsRow base t s v n xs:=by
  intro t s v n xs ht ho;refine⟨ho.1,?_⟩;rcases ho.2 with h2|⟨g,cap,cur,hv,hg,hh,r⟩
  ·exact .inl h2
  ·refine .inr ⟨g,cap,cur,hv,hg,?_,r⟩;rw[Below.heap_setCell _ _ _ _ (fun e1=>?_)]
   ·exact hh
   ·have e1:g=b:=e1;rw[e1,h.blk]at hh;injection hh with hh;injection hh with _ hh _;exact ht hh.symm
 exact⟨by rw[hb,hc],h.own,fun k hk=>h.up k (by simpa using hk),by simpa using h.low,hd▸oth (by decide) h.dr,ha▸oth (by decide) h.al,h.alF⟩
end RefRep
abbrev recCells(a b c d e f g:Int):Array Value:=#[iV a,iV b,iV c,iV d,iV e,iV f,iV g]
def nat63(x:Int):Prop:=0≤x∧x≤9223372036854775807
theorem zLx(g:Nat)(w:World)(k s i o p q r:Int)(hb:w.heap[g]? =some (.cells (recCells k s i o p q r) 195 (0,0)))(h1:nat63 k)(h2:nat63 s)(h3:nat63 i)(h4:nat63 o)(h5:nat63 p)(h6:nat63 q)(h7:nat63 r):
 Cl 190 #[iP g] w fun e w'=>e=.returned (.string ⟨(Eng.recB k s i o p q r).toArray⟩)∧Below w.heap.size w w':=by
 have hg:g<w.heap.size:=(Array.getElem?_eq_some_iff.1 hb).1;have HC:Hid (∀W:World,Bw w W→∀j,W.cell? (iA g j)=(recCells k s i o p q r)[j]?):=fun W hW j=>by simp[World.cell?,hW.block g hg,hb]
 have HB:Hid (Bw w w):=Below.refl _ _;go_enter Tryz.func190,Tryz.ntmps190;have c0:cI w g 0 k:=HC w HB 0;go_wp2_with fail;refine(zAg k 1 w (by omega) h1.1 h1.2).mono ?_;rintro e w1 ⟨rfl,hq1⟩;replace HB:Hid (Bw w w1):=HB.trans (hq1.mono HB.size);have c1:cI w1 g 1 s:=HC w1 HB 1;go_wp2_with fail;refine(zAg s 4 w1 (by omega) h2.1 h2.2).mono ?_;rintro e w2 ⟨rfl,hq2⟩;replace HB:Hid (Bw w w2):=HB.trans (hq2.mono HB.size);have c2:cI w2 g 2 i:=HC w2 HB 2;go_wp2_with fail;refine(zAg i 4 w2 (by omega) h3.1 h3.2).mono ?_;rintro e w3 ⟨rfl,hq3⟩;replace HB:Hid (Bw w w3):=HB.trans (hq3.mono HB.size);have c3:cI w3 g 3 o:=HC w3 HB 3;go_wp2_with fail;refine(zAg o 4 w3 (by omega) h4.1 h4.2).mono ?_;rintro e w4 ⟨rfl,hq4⟩;replace HB:Hid (Bw w w4):=HB.trans (hq4.mono HB.size);have c4:cI w4 g 4 p:=HC w4 HB 4;go_wp2_with fail;refine(zAg p 4 w4 (by omega) h5.1 h5.2).mono ?_;rintro e w5 ⟨rfl,hq5⟩
 replace HB:Hid (Bw w w5):=HB.trans (hq5.mono HB.size);have c5:cI w5 g 5 q:=HC w5 HB 5;go_wp2_with fail;refine(zAg q 4 w5 (by omega) h6.1 h6.2).mono ?_;rintro e w6 ⟨rfl,hq6⟩;replace HB:Hid (Bw w w6):=HB.trans (hq6.mono HB.size);have c6:cI w6 g 6 r:=HC w6 HB 6;go_wp2_with fail;refine(zAg r 1 w6 (by omega) h7.1 h7.2).mono ?_;rintro e w7 ⟨rfl,hq7⟩;replace HB:Hid (Bw w w7):=HB.trans (hq7.mono HB.size);have hbl:=zA2;go_wp2;go_ret;refine⟨?_,HB⟩;simp only[zAc,Eng.recB];rfl
theorem zSx(l m:List UInt8):(⟨l.toArray⟩:ByteArray)++ ⟨m.toArray⟩=⟨(l++m).toArray⟩:=zAc l m
theorem zGr(h:RefRep F base w b e dv av)(k s i o p q r:Int)(hs:e.seq<4611686018427387904)(ho:e.out.length≤70368744177664)(h1:nat63 k)(h3:nat63 i)(h4:nat63 o)(h5:nat63 p)(h6:nat63 q)(h7:nat63 r):
 Cl 138 #[iP b,.agg (recCells k s i o p q r)] w fun en w'=>en=rV #[]∧RefRep F base w' b (e.tell k i o p q r) dv av∧Touch F w w':=by
 have HR:Hid (RefRep F base w b e dv av):=h;have hlt:=h.lt;have h8:Hid (nat63 ((e.seq+1:Nat):Int)):=⟨by omega,by omega⟩;have c8:cI w b 8 (e.seq:Int):=h.cell 8;have f8:=h.froz 8;have HR1:Hid (RefRep F base (w.setCell (iA b 8) (iV ((e.seq:Int)+1))) b { e with seq:=e.seq+1 } dv av):=h.set 8 _ _ rfl rfl rfl;have c8':(w.setCell (iA b 8) (iV ((e.seq:Int)+1))).cell? (iA b 8)=sI ((e.seq:Int)+1):=HR1.cell 8;go_enter Tryz.func138,Tryz.ntmps138;go_wp2_with fail;have HR2:Hid (RefRep F base ((w.setCell (iA b 8) (iV ((e.seq:Int)+1))).alloc (.cells (recCells k ((e.seq:Int)+1) i o p q r) 195)) b { e with seq:=e.seq+1 } dv av):=HR1.alloc _;have HT2:Hid (Touch F w ((w.setCell (iA b 8) (iV ((e.seq:Int)+1))).alloc (.cells (recCells k ((e.seq:Int)+1) i o p q r) 195))):=((Touch.refl F w).set b 8 _ HR.own).alloc _
 have HN:Hid (((w.setCell (iA b 8) (iV ((e.seq:Int)+1))).alloc (.cells (recCells k ((e.seq:Int)+1) i o p q r) 195)).heap[w.heap.size]? =some (.cells (recCells k ((e.seq:Int)+1) i o p q r) 195 (0,0))):=by
  show _=_;have:=heap_alloc_new (w.setCell (iA b 8) (iV ((e.seq:Int)+1))) (.cells (recCells k ((e.seq:Int)+1) i o p q r) 195);simpa using this
 generalize ((w.setCell (iA b 8) (iV ((e.seq:Int)+1))).alloc (.cells (recCells k ((e.seq:Int)+1) i o p q r) 195))=W2 at *;refine(zLx w.heap.size W2 k ((e.seq:Int)+1) i o p q r HN h1 (by have:=h8.out;simpa using this) h3 h4 h5 h6 h7).mono ?_;rintro en w3 ⟨rfl,hb3⟩;replace HR2:Hid (RefRep F base w3 b { e with seq:=e.seq+1 } dv av):=HR2.below hb3;replace HT2:Hid (Touch F w w3):=HT2.below hb3;have c10:w3.cell? (iA b 10)=some (.string ⟨e.out.toArray⟩):=HR2.cell 10;have f10:=HR2.froz 10;have hbl:=Eng.recB_length k ((e.seq:Int)+1) i o p q r;generalize hq:Eng.recB k ((e.seq:Int)+1) i o p q r=rb at *;have HQ:Hid (Eng.recB k ((e.seq:Int)+1) i o p q r=rb):=hq;go_wp2;go_end0;refine⟨rfl,?_,HT2.set b 10 _ HR2.own⟩;refine HR2.set 10 _ _ ?_ rfl rfl;have e1:(e.tell k i o p q r).out=e.out++rb:=by
  show e.out++Eng.recB k ((e.seq+1:Nat):Int) i o p q r=_;rw[←HQ.out];rfl
 rw[zAc];simp only[engCells,e1];rfl
structure OrdsAt(w:World)(g:Nat)(l:List Ord):Prop where
 cell: ∀(i j:Nat) (o:Ord) (x:Int),l[i]? =some o→o.cells[j]? =some x→w.cell? (iA g (i*15+j))=sI x
 froz: ∀j,w.frozen? (iA g j)=false
theorem OrdsAt.cell0{l:List Ord}(h:OrdsAt w g l)(i:Nat)(o:Ord)(ho:l[i]? =some o):w.cell? (iA g (i*15))=sI o.id:=h.cell i 0 o o.id ho rfl
theorem OrdsAt.drew{l:List Ord}(h:OrdsAt w g l):OrdsAt w.drew g l:=⟨h.cell,h.froz⟩
theorem RefRep.shape(h:RefRep F base w b e dv av):(av=.slice none 0 0∧e.all= [])∨∃g cap,av=sL g e.all.length cap∧F g∧OrdsAt w g e.all∧g≠b∧g<w.heap.size:=by
 rcases h.al.2 with⟨h1,h2⟩|⟨g,cap,cur,hv,hg,hh,h3⟩
 ·exact .inl ⟨h1,List.length_eq_zero_iff.1 h2⟩
 ·right;have hal:=h.al;rw[hv]at hal;refine⟨g,cap,hv,h.alF g (by rw[hv];rfl),⟨fun i j o x ho hx=>?_,fun j=>hal.frozenAt j⟩,fun e1=>?_,(Array.getElem?_eq_some_iff.1 hh).1⟩
  ·have hi:i<e.all.length:=(List.getElem?_eq_some_iff.1 ho).1;have hj:j<15:=by have:=(List.getElem?_eq_some_iff.1 hx).1;simpa [Ord.cells] using this
   rw[hal.cellAt (i*15+j) (by omega),Nat.mul_comm i 15];exact zGp e.all i j o x ho hx
  ·rw[e1,h.blk]at hh;injection hh with hh;injection hh with _ hh _;exact absurd hh (by decide)
def idxV:Option Nat→Int
 |some i=>(i:Int)
 |none=> -1
namespace Eng
theorem find_at{id:Int}{o:Ord}(h1: ∀(j:Nat) (x:Ord),j<k→e.all[j]? =some x→x.id≠id)(h2:e.all[k]? =some o)(h3:o.id=id):e.find id=some k:=by
 unfold find;rw[List.findIdx?_eq_some_iff_getElem];have hk:=(List.getElem?_eq_some_iff.1 h2).1;refine⟨hk,?_,fun j hj=>?_⟩
 ·have:e.all[k]=o:=(List.getElem?_eq_some_iff.1 h2).2;simp[this,h3]
 ·have:=h1 j e.all[j] hj (List.getElem?_eq_getElem (by omega));simpa using this
theorem find_no{id:Int}(h1: ∀(j:Nat) (x:Ord),j<e.all.length→e.all[j]? =some x→x.id≠id):e.find id=none:=by
 unfold find;rw[List.findIdx?_eq_none_iff];intro x hx;obtain⟨j,hj⟩:=List.getElem?_of_mem hx;have:=h1 j x (List.getElem?_eq_some_iff.1 hj).1 hj;simpa using this
def aliveTo(e:Eng)(n:Nat):Nat:=(e.all.take n).countP (fun o=>o.status == 1)
theorem aliveTo_le(e:Eng)(n:Nat):e.aliveTo n≤n:=Nat.le_trans List.countP_le_length (by rw[List.length_take];exact Nat.min_le_left _ _)
theorem aliveTo_succ(e:Eng)(n:Nat)(o:Ord)(h:e.all[n]? =some o):e.aliveTo (n+1)=e.aliveTo n+(if o.status == 1 then 1 else 0):=by
 unfold aliveTo;rw[List.take_add_one,h,List.countP_append];simp[List.countP_cons]
theorem aliveTo_all(e:Eng):e.aliveTo e.all.length=e.alive:=by unfold aliveTo alive;rw[List.take_length]
end Eng
theorem zLy(h:RefRep F base w b e dv av)(id:Int)(hm:e.all.length≤1000000000):
 Cl 140 #[iP b,iV id] w fun en w'=>en=.returned (iV (idxV (e.find id)))∧w'=w:=by
 have c5:w.cell? (iA b 5)=some av:=h.cell 5;rcases h.shape with⟨rfl,he⟩|⟨g,cap,rfl,hF,hO,hgb,hgs⟩
 ·have hf:e.find id=none:=Eng.find_no (fun j x hj=>by rw[he]at hj;exact absurd hj (Nat.not_lt_zero _));rw[hf];clear h hf;go_enter Tryz.func140,Tryz.ntmps140;go_wp2;go_loopw [5] (fun i wr=>i=iV 0∧wr=w) (fun _ _=>0)
  case atStart=>exact⟨rfl,rfl⟩
  case round=>
   obtain⟨rfl,rfl⟩:=hrel;go_wp2;go_ret;exact⟨rfl,rfl⟩
 ·have HO:Hid (OrdsAt w g e.all):=hO;clear h hO;have HL:Hid (∀k,k<e.all.length→∃o,e.all[k]? =some o):=fun k hk=>⟨_,List.getElem?_eq_getElem hk⟩
  generalize hn:e.all.length=n at *;go_enter Tryz.func140,Tryz.ntmps140;go_wp2;go_loopw [5] (fun i wr=> ∃k:Nat,i=iV k∧k≤n∧(∀(j:Nat) (x:Ord),j<k→e.all[j]? =some x→x.id≠id)∧wr=w) (fun i _=>n - (intOf i).toNat)
  case atStart=>exact⟨0,rfl,Nat.zero_le _,fun j x hj=>absurd hj (Nat.not_lt_zero _),rfl⟩
  case round=>
   obtain⟨k,rfl,hk,hno,rfl⟩:=hrel;have HNO:Hid (∀(j:Nat) (x:Ord),j<k→e.all[j]? =some x→x.id≠id):=hno;clear hno;by_cases hlt:k<n
   ·have hkI:(k:Int)<(n:Int):=by omega
    obtain⟨o,ho⟩:=HL.out k hlt;have c0:=HO.cell0 k o ho;have HOK:Hid (e.all[k]? =some o):=ho;clear ho;generalize hid:o.id=oid at *;have HID:Hid (o.id=oid):=hid;clear hid;cases e0:(oid == id)
    ·go_wp2;go_roundw
     case rel=>
      refine⟨k+1,by go_num,by omega,fun j x hj hx=>?_,by first|rfl|trivial⟩;by_cases hjk:j<k
      ·exact HNO.out j x hjk hx
      ·obtain rfl:j=k:=by omega
       obtain rfl:o=x:=Option.some.inj (HOK.out.symm.trans hx);rw[HID.out];simpa using e0
     case measure=>simp[intOf];omega
    ·have hres:e.find id=some k:=Eng.find_at HNO.out HOK.out (by rw[HID.out];simpa using e0);have HRES:Hid (e.find id=some k):=hres;clear hres;go_wp2;go_ret;exact⟨by rw[HRES.out];rfl,rfl⟩
   ·have hkM: ¬(k:Int)<(n:Int):=by omega
    have hres:e.find id=none:=Eng.find_no (fun j x hj hx=>HNO.out j x (by omega) hx);have HRES:Hid (e.find id=none):=hres;clear hres;go_wp2;go_ret;exact⟨by rw[HRES.out];rfl,rfl⟩
theorem zGs(h:RefRep F base w b e dv av)(hm:e.all.length≤1000000000):
 Cl 228 #[iP b] w fun en w'=>en=.returned (iV (e.alive:Int))∧w'=w:=by
 have c5:w.cell? (iA b 5)=some av:=h.cell 5;rcases h.shape with⟨rfl,he⟩|⟨g,cap,rfl,hF,hO,hgb,hgs⟩
 ·have hf:e.alive=0:=by unfold Eng.alive;rw[he];rfl
  rw[hf];go_enter Tryz.func228,Tryz.ntmps228;go_wp2;go_loopw [3,4] (fun m i wr=>m=iV 0∧i=iV 0∧wr=w) (fun _ _ _=>0)
  case atStart=>exact⟨rfl,rfl,rfl⟩
  case round=>
   obtain⟨rfl,rfl,rfl⟩:=hrel;go_wp2;go_ret;exact⟨rfl,rfl⟩
 ·have HO:=hid hO;have HL:Hid (∀k,k<e.all.length→∃o,e.all[k]? =some o):=fun k hk=>⟨_,List.getElem?_eq_getElem hk⟩
  have HA:=hid (Eng.aliveTo_all e);generalize hn:e.all.length=n at *;go_enter Tryz.func228,Tryz.ntmps228;go_wp2;go_loopw [3,4] (fun m i wr=> ∃k:Nat,i=iV k∧k≤n∧m=iV (e.aliveTo k:Int)∧wr=w) (fun _ i _=>n - (intOf i).toNat)
  case atStart=>exact⟨0,rfl,Nat.zero_le _,rfl,rfl⟩
  case round=>
   obtain⟨k,rfl,hk,rfl,rfl⟩:=hrel;have hle:=Eng.aliveTo_le e k;by_cases hlt:k<n
   ·have hkI:(k:Int)<(n:Int):=by omega
    obtain⟨o,ho⟩:=HL k hlt;have c8:=HO.cell k 8 o o.status ho rfl;have HS:=hid (Eng.aliveTo_succ e k o ho);generalize o.status=os at *;generalize hq:e.aliveTo k=a at *;cases e0:(os == 1)
    ·go_wp2;go_roundw
     case rel=>exact⟨k+1,by go_num,by omega,by rw[HS.out,e0];rfl,by first|rfl|trivial⟩
     case measure=>simp[intOf];omega
    ·go_wp2;go_roundw
     case rel=>exact⟨k+1,by go_num,by omega,by rw[HS.out,e0];exact zAr (by simp),by first|rfl|trivial⟩
     case measure=>simp[intOf];omega
   ·have hkM: ¬(k:Int)<(n:Int):=by omega
    obtain rfl:k=n:=by omega
    go_wp2;go_ret;exact⟨by rw[HA.out];rfl,rfl⟩
theorem OrdsAt.c15{l:List Ord}(h:OrdsAt w g l)(i:Nat)(o:Ord)(ho:l[i]? =some o):w.cell? (iA g (i*15))=sI o.id∧w.cell? (iA g (i*15+1))=sI o.side∧w.cell? (iA g (i*15+2))=sI o.typ∧w.cell? (iA g (i*15+3))=sI o.qty∧w.cell? (iA g (i*15+4))=sI o.peak∧w.cell? (iA g (i*15+5))=sI o.off∧w.cell? (iA g (i*15+6))=sI o.life∧w.cell? (iA g (i*15+7))=sI o.time∧w.cell? (iA g (i*15+8))=sI o.status∧w.cell? (iA g (i*15+9))=sI o.price∧w.cell? (iA g (i*15+10))=sI o.opn∧w.cell? (iA g (i*15+11))=sI o.filled∧w.cell? (iA g (i*15+12))=sI o.cancelled∧w.cell? (iA g (i*15+13))=sI o.shown∧w.cell? (iA g (i*15+14))=sI o.stamp:=
 ⟨h.cell i 0 o _ ho rfl,h.cell i 1 o _ ho rfl,h.cell i 2 o _ ho rfl,h.cell i 3 o _ ho rfl,h.cell i 4 o _ ho rfl,h.cell i 5 o _ ho rfl,h.cell i 6 o _ ho rfl,h.cell i 7 o _ ho rfl,h.cell i 8 o _ ho rfl,h.cell i 9 o _ ho rfl,h.cell i 10 o _ ho rfl,h.cell i 11 o _ ho rfl,h.cell i 12 o _ ho rfl,h.cell i 13 o _ ho rfl,h.cell i 14 o _ ho rfl⟩
theorem OrdsAt.below{l:List Ord}(h:OrdsAt w g l)(hb:Below w.heap.size w w')(hg:g<w.heap.size):OrdsAt w' g l:=
 ⟨fun i j o x ho hx=>(hb.cell (p:=(iA g (i*15+j))) hg).trans (h.cell i j o x ho hx),fun j=>(hb.frozen (p:=(iA g j)) hg).trans (h.froz j)⟩
theorem zAo{B:Nat}(h:Below B w w')(o:Obj)(hB:B≤w'.heap.size):Below B w (w'.alloc o):=h.alloc hB o
namespace Eng
theorem firstTo_skip{l:List Ord}{o:Ord}(ho:l[k]? =some o)(h:rests side o=false):firstTo l side (k+1)=firstTo l side k:=by
 show(match l[k]? with|none=>_|some x=>_)=_;rw[ho];simp only[h];rfl
theorem firstTo_new{l:List Ord}{o:Ord}(ho:l[k]? =some o)(h:rests side o=true)(hb:firstTo l side k=none):firstTo l side (k+1)=some k:=by
 show(match l[k]? with|none=>_|some x=>_)=_;rw[ho];simp only[h,hb];rfl
theorem firstTo_old{l:List Ord}{bb:Nat}{o y:Ord}(ho:l[k]? =some o)(h:rests side o=true)(hb:firstTo l side k=some bb)(hy:l[bb]? =some y):firstTo l side (k+1)=if ahead side o y then some k else some bb:=by
 show(match l[k]? with|none=>_|some x=>_)=_;rw[ho];simp only[h,hb,hy];rfl
end Eng
theorem zLz(h:RefRep F base w b e dv av)(side:Int)(hm:e.all.length≤1000000000):
 Cl 229 #[iP b,iV side] w fun en w'=>en=.returned (iV (idxV (e.first side)))∧Below w.heap.size w w':=by
 have c5:w.cell? (iA b 5)=some av:=h.cell 5;rcases h.shape with⟨rfl,he⟩|⟨g,cap,rfl,hF,hO,hgb,hgs⟩
 ·have hf:e.first side=none:=by unfold Eng.first;rw[he];rfl
  rw[hf];go_enter Tryz.func229,Tryz.ntmps229;go_wp2;go_loopw [5,6] (fun m i wr=>m=iV (-1)∧i=iV 0∧wr=w) (fun _ _ _=>0)
  case atStart=>exact⟨rfl,rfl,rfl⟩
  case round=>
   obtain⟨rfl,rfl,rfl⟩:=hrel;go_wp2;go_ret;exact⟨rfl,Below.refl _ _⟩
 ·have HO:Hid (OrdsAt w g e.all):=hO;have hblt:=h.lt;have HL:Hid (∀k,k<e.all.length→∃o,e.all[k]? =some o):=fun k hk=>⟨_,List.getElem?_eq_getElem hk⟩
  have HA:Hid (Eng.firstTo e.all side e.all.length=e.first side):=rfl;generalize hn:e.all.length=n at *;go_enter Tryz.func229,Tryz.ntmps229;go_wp2;go_loopw [5,6] (fun m i wr=> ∃k:Nat,i=iV k∧k≤n∧m=iV (idxV (Eng.firstTo e.all side k))∧Bw w wr) (fun _ i _=>n - (intOf i).toNat)
  case atStart=>exact⟨0,rfl,Nat.zero_le _,rfl,Below.refl _ _⟩
  case round=>
   obtain⟨k,rfl,hk,rfl,hb⟩:=hrel;have c5r:wr.cell? (iA b 5)=some (sL g n cap):=(hb.cell (p:=(iA b 5)) hblt).trans c5;have HOR:Hid (OrdsAt wr g e.all):=HO.below hb hgs;have HB:Hid (Bw w wr):=hb;have hbs:=hb.size;have hbr:b<wr.heap.size:=by omega
   have hgr:g<wr.heap.size:=by omega
   by_cases hlt:k<n
   ·have hkI:(k:Int)<(n:Int):=by omega
    obtain⟨o,ho⟩:=HL k hlt;have HK:Hid (e.all[k]? =some o):=ho;obtain⟨c0,c1,c2,c3,c4,c5',c6,c7,c8,c9,c10,c11,c12,c13,c14⟩:=HOR.out.c15 k o ho;cases q1:(o.side != side)
    ·cases q2:(o.shown == 0)
     ·have hr:Hid (Eng.rests side o=true):=by
       show _=_;unfold Eng.rests;have:(o.side == side)=true:=by simpa using q1
       rw[this];simpa using q2
      rcases hb:Eng.firstTo e.all side k with _|bb
      ·have HN:Hid (Eng.firstTo e.all side (k+1)=some k):=Eng.firstTo_new HK hr.out hb;have hix:idxV none= -1:=rfl;go_wp2;go_roundw
       case rel=>exact⟨k+1,by go_num,by omega,congrArg (fun z=>iV (idxV z)) HN.symm,by repeat(first|exact HB|refine zAo ?_ _ (by first|omega|(simp;omega)))⟩
       case measure=>simp[intOf];omega
      ·have hbk:bb<k:=(Eng.firstTo_some hb).1;obtain⟨y,hy⟩:=HL bb (by omega);obtain⟨d0,d1,d2,d3,d4,d5,d6,d7,d8,d9,d10,d11,d12,d13,d14⟩:=HOR.out.c15 bb y hy;have HN:Hid (Eng.firstTo e.all side (k+1)=if Eng.ahead side o y then some k else some bb):=Eng.firstTo_old HK hr.out hb hy;have hix:idxV (some bb)=(bb:Int):=rfl;have hbI:(bb:Int)<(n:Int):=by omega
       have hb0: ¬(bb:Int)<0:=by omega
       cases q3:(side == 2)
       ·have hA:Eng.ahead side o y=(decide (y.price<o.price) || (o.price == y.price && decide (o.stamp<y.stamp))):=by
         unfold Eng.ahead;have: ¬side=2:=by simpa using q3
         rw[if_neg this]
        have HAH:Hid (Eng.ahead side o y=(decide (y.price<o.price) || (o.price == y.price && decide (o.stamp<y.stamp)))):=hA;by_cases q4:y.price<o.price
        ·have HZ:Hid (Eng.firstTo e.all side (k+1)=some k):=by show _=_;rw[HN.out,HAH.out];simp[q4]
         go_wp2;go_roundw
         case rel=>exact⟨k+1,by go_num,by omega,congrArg (fun z=>iV (idxV z)) HZ.symm,by repeat(first|exact HB|refine zAo ?_ _ (by first|omega|(simp;omega)))⟩
         case measure=>simp[intOf];omega
        ·cases q5:(o.price == y.price)
         ·have HZ:Hid (Eng.firstTo e.all side (k+1)=some bb):=by show _=_;rw[HN.out,HAH.out,q5];simp[q4]
          go_wp2;go_roundw
          case rel=>exact⟨k+1,by go_num,by omega,congrArg (fun z=>iV (idxV z)) HZ.symm,by repeat(first|exact HB|refine zAo ?_ _ (by first|omega|(simp;omega)))⟩
          case measure=>simp[intOf];omega
         ·by_cases q6:o.stamp<y.stamp
          ·have HZ:Hid (Eng.firstTo e.all side (k+1)=some k):=by show _=_;rw[HN.out,HAH.out,q5];simp[q6]
           go_wp2;go_roundw
           case rel=>exact⟨k+1,by go_num,by omega,congrArg (fun z=>iV (idxV z)) HZ.symm,by repeat(first|exact HB|refine zAo ?_ _ (by first|omega|(simp;omega)))⟩
           case measure=>simp[intOf];omega
          ·have HZ:Hid (Eng.firstTo e.all side (k+1)=some bb):=by show _=_;rw[HN.out,HAH.out,q5];simp[q4,q6]
           go_wp2;go_roundw
           case rel=>exact⟨k+1,by go_num,by omega,congrArg (fun z=>iV (idxV z)) HZ.symm,by repeat(first|exact HB|refine zAo ?_ _ (by first|omega|(simp;omega)))⟩
           case measure=>simp[intOf];omega
       ·have hA:Eng.ahead side o y=(decide (o.price<y.price) || (o.price == y.price && decide (o.stamp<y.stamp))):=by
         unfold Eng.ahead;have:side=2:=by simpa using q3
         rw[if_pos this]
        have HAH:Hid (Eng.ahead side o y=(decide (o.price<y.price) || (o.price == y.price && decide (o.stamp<y.stamp)))):=hA;by_cases q4:o.price<y.price
        ·have HZ:Hid (Eng.firstTo e.all side (k+1)=some k):=by show _=_;rw[HN.out,HAH.out];simp[q4]
         go_wp2;go_roundw
         case rel=>exact⟨k+1,by go_num,by omega,congrArg (fun z=>iV (idxV z)) HZ.symm,by repeat(first|exact HB|refine zAo ?_ _ (by first|omega|(simp;omega)))⟩
         case measure=>simp[intOf];omega
        ·cases q5:(o.price == y.price)
         ·have HZ:Hid (Eng.firstTo e.all side (k+1)=some bb):=by show _=_;rw[HN.out,HAH.out,q5];simp[q4]
          go_wp2;go_roundw
          case rel=>exact⟨k+1,by go_num,by omega,congrArg (fun z=>iV (idxV z)) HZ.symm,by repeat(first|exact HB|refine zAo ?_ _ (by first|omega|(simp;omega)))⟩
          case measure=>simp[intOf];omega
         ·by_cases q6:o.stamp<y.stamp
          ·have HZ:Hid (Eng.firstTo e.all side (k+1)=some k):=by show _=_;rw[HN.out,HAH.out,q5];simp[q6]
           go_wp2;go_roundw
           case rel=>exact⟨k+1,by go_num,by omega,congrArg (fun z=>iV (idxV z)) HZ.symm,by repeat(first|exact HB|refine zAo ?_ _ (by first|omega|(simp;omega)))⟩
           case measure=>simp[intOf];omega
          ·have HZ:Hid (Eng.firstTo e.all side (k+1)=some bb):=by show _=_;rw[HN.out,HAH.out,q5];simp[q4,q6]
           go_wp2;go_roundw
           case rel=>exact⟨k+1,by go_num,by omega,congrArg (fun z=>iV (idxV z)) HZ.symm,by repeat(first|exact HB|refine zAo ?_ _ (by first|omega|(simp;omega)))⟩
           case measure=>simp[intOf];omega
     ·have hs0:o.shown=0:=by simpa using q2
      have HN:Hid (Eng.firstTo e.all side (k+1)=Eng.firstTo e.all side k):=Eng.firstTo_skip HK (by unfold Eng.rests;rw[hs0];simp);go_wp2;go_roundw
      case rel=>exact⟨k+1,by go_num,by omega,by rw[HN.out],by repeat(first|exact HB|refine zAo ?_ _ (by first|omega|(simp;omega)))⟩
      case measure=>simp[intOf];omega
    ·have hs0:(o.side == side)=false:=by simpa using q1
     have HN:Hid (Eng.firstTo e.all side (k+1)=Eng.firstTo e.all side k):=Eng.firstTo_skip HK (by unfold Eng.rests;rw[hs0];rfl);go_wp2;go_roundw
     case rel=>exact⟨k+1,by go_num,by omega,by rw[HN.out],by repeat(first|exact HB|refine zAo ?_ _ (by first|omega|(simp;omega)))⟩
     case measure=>simp[intOf];omega
   ·have hkM: ¬(k:Int)<(n:Int):=by omega
    obtain rfl:k=n:=by omega
    go_wp2;go_ret;exact⟨by rw[HA.out];rfl,HB⟩
end Go.Proofs.YtanfmhonjpjpoaaGreatDoor
