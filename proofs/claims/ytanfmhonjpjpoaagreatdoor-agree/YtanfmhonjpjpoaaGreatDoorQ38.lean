import Derived.Test.YtanfmhonjpjpoaaGreatDoorQ00
import Derived.Test.YtanfmhonjpjpoaaGreatDoorQ09
import Derived.Test.YtanfmhonjpjpoaaGreatDoorQ27
import Derived.Test.YtanfmhonjpjpoaaGreatDoorQ28
import Derived.Test.YtanfmhonjpjpoaaGreatDoorQ30
import Derived.Test.YtanfmhonjpjpoaaGreatDoorQ32
import Derived.Test.YtanfmhonjpjpoaaGreatDoorQ37
import Derived.Deep.RegionHeld3
set_option linter.all false
set_option maxRecDepth 100000
set_option maxHeartbeats 8000000
namespace Go.Proofs.YtanfmhonjpjpoaaGreatDoor
variable{b:Nat}{c:Array Value}
open Go.Extern Go.Maps Go.RowKit
section
variable {pr:Nat→Option (Array Value×TypeId)} {base:Nat} {w w':World} {ab lm em n:Nat}
theorem Same.below{a b:World}(h:Same a b)(m:Nat):Below m a b:=⟨h.os,h.tape,h.output,by rw[h.heap];exact Nat.le_refl _,fun k _=>by rw[h.heap]⟩
def cellI(w:World)(b j:Nat):Int:=match w.cell? ⟨b,j,none⟩ with|some (.int .i64 x)=>x|_=>0
def ordIn(w:World)(b:Nat):Ord:=⟨cellI w b 0,cellI w b 1,cellI w b 2,cellI w b 4,cellI w b 5,cellI w b 6,cellI w b 7,cellI w b 8,1,cellI w b 3,cellI w b 4 - cellI w b 10,cellI w b 10,0,cellI w b 11,cellI w b 12⟩
def entIn(E:List (Int×List Int))(i:Nat):Ord:=match E[i]? with|some (a,[_,s,p,n,f,c,h])=>⟨a,0,0,0,0,0,0,0,s,p,n,f,c,h,0⟩|_=>ord0
theorem zJ1{E:List (Int×List Int)}(h: ∀p∈E,∃o:Ord,p=(o.id,o.state)):((List.range E.length).map fun i=>((entIn E i).id,(entIn E i).state))=E:=by
 apply List.ext_getElem?;intro i;by_cases hi:i<E.length
 ·rw[List.getElem?_map,List.getElem?_range hi,Option.map_some];obtain⟨o,ho⟩:=h _ (List.getElem_mem hi);have hx:E[i]? =some (o.id,o.state):=by rw[List.getElem?_eq_getElem hi,ho]
  unfold entIn;rw[hx];rfl
 ·rw[List.getElem?_eq_none (by simp;omega),List.getElem?_eq_none (by omega)]
theorem zRj{w:World}(h: ∃o,OA w b 0 o∧AOk o){W:World}(hb:Below w.heap.size w W):
 Calls Tryz.prog 77 #[.pointer (some ⟨b,0,none⟩),.int .i64 1] W fun en w'=>en=.returned (.agg #[.int .i64 (ordIn w b).id,.int .i64 (ordIn w b).status,.int .i64 (ordIn w b).price,.int .i64 (ordIn w b).opn,.int .i64 (ordIn w b).filled,.int .i64 (ordIn w b).cancelled,.int .i64 (ordIn w b).shown])∧Below W.heap.size W w':=by
 obtain⟨o,h1,h2⟩:=h;have e1:ordIn w b={ o with status:=1,opn:=o.qty - o.filled,cancelled:=0 }:=by
  unfold ordIn cellI;rw[h1.cell 0,h1.cell 1,h1.cell 2,h1.cell 3,h1.cell 4,h1.cell 5,h1.cell 6,h1.cell 7,h1.cell 8,h1.cell 10,h1.cell 11,h1.cell 12];rfl
 rw[e1];exact zH7 (o:=o) (h1.below hb) h2.opn
end
section
variable {pr:Nat→Option (Array Value×TypeId)} {base:Nat} {w w':World} {ab lm em n:Nat}
def prOf(w:World)(b:Nat):Option (Array Value×TypeId):=match w.heap[b]? with
 |some (.cells c t (0,0))=>if t=73∨t=134 then some (c,t) else none
 |_=>none
theorem zJ2{t:TypeId}(h:w.heap[b]? =some (.cells c t (0,0)))(ht:t=73∨t=134):prOf w b=some (c,t):=by
 unfold prOf;rw[h];simp only;rw[if_pos ht]
theorem zRk{t:TypeId}(h:prOf w b=some (c,t)):t≠234∧w.heap[b]? =some (.cells c t (0,0)):=by
 unfold prOf at h;split at h
 ·rename_i c' t' hb;split at h
  ·rename_i ht;injection h with h;injection h with h1 h2;subst h1 h2;refine⟨?_,hb⟩;rcases ht with rfl|rfl<;>decide
  ·cases h
 ·cases h
theorem zD5(k i:Nat)(h:i<k):k - (intOf (.int .i64 ((i:Int)+1))).toNat<k - (intOf (.int .i64 (i:Int))).toNat:=by
 simp[intOf];omega
def seven(x0 x1 x2 x3 x4 x5 x6:Int):Nat→Int
 |0=>x0|1=>x1|2=>x2|3=>x3|4=>x4|5=>x5|6=>x6|_=>0
end
structure Tells(M:List Ord)(B:List Ent):Prop where
 srt:M.Pairwise (fun x y=>x.id≤y.id)
 ids:(M.map Ord.id).Nodup
 sts: ∀s,s∈M.map Ord.state↔s∈B.map (fun x=>x.so.state)
section
variable {pr:Nat→Option (Array Value×TypeId)} {base:Nat} {w w':World} {ab lm em n:Nat} {L:List (Int×Option Nat)} {E:List (Int×List Int)} {B:List Ent}
theorem zRl{U:World}{bs:List Nat}{ps:List (Int×Option Nat)}{M:List Ord}(h:AX pr base U ab lm em n L E B)(hEB: ∀(j:Nat) (x:Ent),B[j]? =some x→EB x)(hps:ps.Perm L)(hpb:ps.map Prod.snd=bs.map some)(hM:M.Perm (bs.map (ordIn U)++(List.range E.length).map (entIn E)))(hso:M.Pairwise (fun x y=>x.id≤y.id)):Tells M B:=by
 have K2: ∀(j:Nat) (x:Ent) (q:Nat),B[j]? =some x→x.live=true→(x.id,some q)∈L→(ordIn U q).state=x.so.state:=by
  intro j x q hx hl hq;obtain⟨q',m1,o1⟩:=h.lv j x hx hl;obtain rfl:=h.uniq m1 hq;have e1:ordIn U q'={ x.ao with status:=1,opn:=x.ao.qty - x.ao.filled,cancelled:=0 }:=by
   unfold ordIn cellI;rw[o1.cell 0,o1.cell 1,o1.cell 2,o1.cell 3,o1.cell 4,o1.cell 5,o1.cell 6,o1.cell 7,o1.cell 8,o1.cell 10,o1.cell 11,o1.cell 12];rfl
  rw[e1];have kb:=hEB j x hx;have h1:=kb.liv (.inl hl);have h2:=kb.sum;unfold Ent.so;rw[if_pos hl];show[x.id,1,x.price,x.qty - x.filled,x.filled,0,x.shown]= [x.id,1,x.price,x.opn,x.filled,0,x.shown];have:x.qty - x.filled=x.opn:=by omega
  rw[this]
 have K1: ∀p∈L,∃(j:Nat) (x:Ent) (q:Nat),B[j]? =some x∧x.live=true∧x.id=p.1∧p.2=some q∧(ordIn U q).state=x.so.state:=by
  intro p hp;obtain⟨j,x,h1,h2,h3⟩:=h.ol p hp;obtain⟨q,o,e1,_⟩:=h.aw.ords p hp;refine⟨j,x,q,h1,h2,h3,e1,K2 j x q h1 h2 ?_⟩;rw[h3,←e1];exact hp
 have hbs:bs.map (ordIn U)=ps.map (fun p=>ordIn U (p.2.getD 0)):=by
  have e1:=congrArg (List.map (fun o:Option Nat=>ordIn U (o.getD 0))) hpb;rw[List.map_map,List.map_map]at e1;exact e1.symm
 have hid1:(ps.map (fun p=>ordIn U (p.2.getD 0))).map Ord.id=ps.map Prod.fst:=by
  rw[List.map_map];refine List.map_congr_left fun p hp=>?_
  obtain⟨j,x,q,h1,h2,h3,h4,h5⟩:=K1 p (hps.mem_iff.1 hp);show(ordIn U (p.2.getD 0)).id=p.1;rw[h4,←h3];show(ordIn U q).id=x.id;rw[←Ent.so_id x];unfold Ord.state at h5;injection h5
 have hE1:=zJ1 h.aw.ents;have hid2:((List.range E.length).map (entIn E)).map Ord.id=E.map Prod.fst:=by
  have:=congrArg (List.map Prod.fst) hE1;rw[List.map_map]at this;rw[List.map_map];exact this
 have hst2:((List.range E.length).map (entIn E)).map Ord.state=E.map Prod.snd:=by
  have:=congrArg (List.map Prod.snd) hE1;rw[List.map_map]at this;rw[List.map_map];exact this
 have hnL:=h.aw.live.nodup keyedInt;have hnE:=h.aw.ended.nodup keyedInt;refine⟨hso,?_,fun s=>⟨fun hs=>?_,fun hs=>?_⟩⟩
 ·rw[(hM.map Ord.id).nodup_iff,List.map_append,hbs,hid1,hid2,List.nodup_append];refine⟨(hps.map Prod.fst).nodup_iff.2 hnL,hnE,fun a ha c hc e=>?_⟩;subst e;obtain⟨p,hp,rfl⟩:=List.mem_map.1 ha;obtain⟨p',hp',e2⟩:=List.mem_map.1 hc;obtain⟨j,x,h1,h2,h3⟩:=h.ol p (hps.mem_iff.1 hp);obtain⟨j',x',h1',h2',h3'⟩:=h.oe p' hp';have:=h.ids j j' x x' h1 h1' (by rw[h3,h3',e2]);subst this;obtain rfl:=Option.some.inj (h1.symm.trans h1');rw[h2]at h2';cases h2'
 ·obtain⟨o,ho,rfl⟩:=List.mem_map.1 hs;have ho:=hM.mem_iff.1 ho;rw[hbs]at ho;rcases List.mem_append.1 ho with ho|ho
  ·obtain⟨p,hp,rfl⟩:=List.mem_map.1 ho;obtain⟨j,x,q,h1,h2,h3,h4,h5⟩:=K1 p (hps.mem_iff.1 hp);rw[h4];show(ordIn U q).state∈_;rw[h5];exact List.mem_map_of_mem (f:=fun x:Ent=>x.so.state) (List.mem_of_getElem? h1)
  ·have:o.state∈E.map Prod.snd:=by rw[←hst2];exact List.mem_map_of_mem ho
   obtain⟨p,hp,e1⟩:=List.mem_map.1 this;obtain⟨j,x,h1,h2,h3⟩:=h.oe p hp;have e2:=zCj hnE hp (h.en j x h1 h2) h3.symm;rw[←e1,e2];exact List.mem_map_of_mem (f:=fun x:Ent=>x.so.state) (List.mem_of_getElem? h1)
 ·obtain⟨x,hx,rfl⟩:=List.mem_map.1 hs;obtain⟨j,hj⟩:=List.getElem?_of_mem hx;rw[(hM.map Ord.state).mem_iff,List.map_append,hbs];cases hl:x.live with
  |true=>
   obtain⟨q,m1,o1⟩:=h.lv j x hj hl;refine List.mem_append_left _ (List.mem_map.2 ⟨ordIn U q,List.mem_map.2 ⟨(x.id,some q),hps.mem_iff.2 m1,rfl⟩,K2 j x q hj hl m1⟩)
  |false=>
   rw[hst2];exact List.mem_append_right _ (List.mem_map.2 ⟨_,h.en j x hj hl,rfl⟩)
theorem zRm(h:AX pr base w ab lm em n L E B)(hn:n≤100000000)(hEB: ∀(j:Nat) (x:Ent),B[j]? =some x→EB x): ∀Y,Same w Y→Calls Tryz.prog 85 #[.map (some lm)] Y fun en w1=> ∃hb:Nat,en=.returned (.func (.func 133) #[] #[.pointer (some ⟨hb,0,none⟩)])∧w1.cell? ⟨ab,0,none⟩=some (.map (some lm))∧w1.cell? ⟨ab,1,none⟩=some (.map (some em))∧
 Hid (∀Z,Same w1 Z→Calls Tryz.prog 84 #[.func (.func 133) #[] #[.pointer (some ⟨hb,0,none⟩)]] Z fun en w2=> ∃(p:Option Addr) (m c:Nat),en=.returned (.slice p m c)∧w2.cell? ⟨ab,0,none⟩=some (.map (some lm))∧w2.cell? ⟨ab,1,none⟩=some (.map (some em))∧
  Hid (∀U,Same w2 U→Calls Tryz.prog 48 #[.slice p m c,.map (some em)] U fun en w3=> ∃g0 ml:Nat,en=.returned (.slice (some ⟨g0,0,none⟩) ml ml)∧w3.cell? ⟨ab,0,none⟩=some (.map (some lm))∧w3.cell? ⟨ab,1,none⟩=some (.map (some em))∧Hid (∃M:List Ord,M.length=ml∧M.length≤2*n∧w3.ownsRow w.heap.size 48 7 (.slice (some ⟨g0,0,none⟩) ml ml) ml (M.flatMap encS)∧Below w.heap.size w w3∧Tells M B))):=by
 intro Y hY;refine(zRi lm Y).mono ?_;rintro en w1 ⟨rfl,rfl⟩;have hb1:Below Y.heap.size Y (Y.alloc (.cells #[.map (some lm)] 110)):=(Below.refl _ Y).alloc (Nat.le_refl _) _;have h1:=(h.same hY).below hb1;have hc:=(Boxed.new Y 110 (.map (some lm)));have hB1:Below w.heap.size w (Y.alloc (.cells #[.map (some lm)] 110)):=(hY.below _).trans (hb1.mono (by rw[hY.heap];exact Nat.le_refl _));refine⟨_,rfl,h1.aw.c0,h1.aw.c1,?_⟩;generalize Y.alloc (.cells #[.map (some lm)] 110)=w1 at *;intro Z hZ;have h2:=h1.same hZ;have hc2:Boxed Z Y.heap.size 110 (.map (some lm)):=by unfold Boxed;rw[hZ.heap];exact hc
 refine(zRh Y.heap.size lm L (fun p hp=>by obtain⟨q,o,e1,_⟩:=h2.aw.ords p hp;exact⟨q,e1⟩) (by have:=h.aw.ll;omega) Z hc2.lt hc2.cell h2.aw.live).mono ?_;rintro en w2 ⟨v,bs,ps,rfl,hps,hpb,hrow,hb2⟩;have h3:=h2.below hb2;have hB2:Below w.heap.size w w2:=(hB1.trans (hZ.below _)).trans (hb2.mono (by rw[hZ.heap];exact hB1.size));obtain⟨p,m,c,rfl,hm⟩: ∃p m c,v=.slice p m c∧m=bs.length:=by
  rcases hrow.2 with⟨rfl,h0⟩|⟨g,cap,cur,rfl,_⟩
  ·exact⟨_,_,_,rfl,h0.symm⟩
  ·exact⟨_,_,_,rfl,rfl⟩
 subst hm;refine⟨p,_,c,rfl,h3.aw.c0,h3.aw.c1,?_⟩;intro U hU;have h4:=h3.same hU;have hB3:Below w.heap.size w U:=hB2.trans (hU.below _);have hrow4:U.ownsRow 0 158 1 (.slice p bs.length c) bs.length (bs.map ptrV):=by
  have e1:(bs.map fun x=>Value.pointer (some ⟨x,0,none⟩))=bs.map ptrV:=rfl;rw[e1]at hrow;refine⟨hrow.1,?_⟩;rcases hrow.2 with h0|⟨g,cap,cur,e2,hg,hh,r⟩
  ·exact .inl h0
  ·exact .inr ⟨g,cap,cur,e2,Nat.zero_le _,by rw[hU.heap];exact hh,r⟩
 have hin: ∀b∈bs,∃o,OA U b 0 o∧AOk o:=fun b hb=>by
  have e1:some b∈ps.map Prod.snd:=by rw[hpb];exact List.mem_map_of_mem hb
  obtain⟨x,hx,e2⟩:=List.mem_map.1 e1;obtain⟨q,o,e3,_,e4,e5⟩:=h4.aw.ords x (hps.mem_iff.1 hx);have:b=q:=by rw[e2]at e3;injection e3
  subst this;exact⟨o,e4,e5⟩
 have hpl:bs.length=L.length:=by
  have e1:=congrArg List.length hpb;simp at e1;rw[←e1];exact hps.length_eq
 refine(zHt bs.length (bs.map (ordIn U)) (by simp) bs (List.range E.length) (entIn E) em p c rfl (by rw[zJ1 h4.aw.ents];exact h4.aw.ended) hrow4 (by have:=h.aw.ll;omega) (by have:=h.aw.el;simp;omega) ?_).mono ?_
 ·intro j b o hj ho W hW;rw[List.getElem?_map,hj]at ho;injection ho with ho;subst ho;exact zRj (hin b (List.mem_of_getElem? hj)) hW
 ·rintro en w3 ⟨g0,M,rfl,hM,hso,hown,hb3⟩;have hml:M.length=L.length+E.length:=by rw[hM.length_eq];simp[hpl]
  have h5:=h4.below hb3;refine⟨g0,M.length,rfl,h5.aw.c0,h5.aw.c1,M,rfl,by have:=h.aw.ll;have:=h.aw.el;omega,?_,hB3.trans (hb3.mono hB3.size),zRl h4 hEB hps hpb hM hso⟩;refine⟨hown.1,?_⟩;rcases hown.2 with h0|⟨g,cap,cur,e2,hg,r⟩
  ·exact .inl h0
  ·exact .inr ⟨g,cap,cur,e2,Nat.le_trans hB3.size hg,r⟩
end
section
variable {pr:Nat→Option (Array Value×TypeId)} {base:Nat} {w w':World} {ab lm em n:Nat} {L:List (Int×Option Nat)} {E:List (Int×List Int)} {B:List Ent}
theorem AX.guard(h:AX pr base w ab lm em n L E B):AX (prOf w) base w ab lm em n L E B:=
 ⟨⟨h.aw.blk,h.aw.live,h.aw.ended,h.aw.ords,h.aw.ents,h.aw.ne,h.aw.lo,h.aw.ll,h.aw.el,fun b c t hb=>zRk hb⟩,h.lv,h.en,h.ol,h.oe,h.ids⟩
theorem zD6(s:ByteArray): ∀k,(rowsC s k).length=k*7
 |0=>rfl
 |k+1=>by rw[zCn,List.length_append,zD6 s k];simp[recL];omega
theorem zRn(s:ByteArray)(k j i:Nat)(hj:j<k)(hi:i<7):(rowsC s k)[j*7+i]? =((recL s (22*j)).map (Value.int .i64))[i]? :=by
 induction k with
 |zero=>omega
 |succ k ih=>
  rw[zCn];by_cases e:j<k
  ·rw[List.getElem?_append_left (by rw[zD6];omega)];exact ih e
  ·have:j=k:=by omega
   subst this;rw[List.getElem?_append_right (by rw[zD6];omega),zD6,show j*7+i - j*7=i by omega]
theorem Run.step{b c:Book}{rs:List Rcd}{i:Nat}(h:Run b (rs.drop i) c)(hi:i<rs.length)(hE: ∀(j:Nat) (x:Ent),b.l[j]? =some x→EB x): ∃(off:Int) (d:Book),Ask b rs[i] off d∧Run d (rs.drop (i+1)) c:=by
 rw[List.drop_eq_getElem_cons hi]at h;obtain⟨off,d,h1,h2,h3,h4⟩:=h;exact⟨off,d,⟨Book.take_cases h1 h3,h2,h3,hE⟩,h4⟩
def AEnd(ad:Nat→Addr)(w:World)(s:ByteArray)(K m:Nat)(B:List Ent)(e:Ending)(w':World):Prop:=Below w.heap.size w w'∧
 ((m=K∧22*K=s.size∧∃g0 ml:Nat,e=.returned (.tuple #[.slice (some ⟨g0,0,none⟩) ml ml,.nilIface])∧∃M:List Ord,M.length=ml∧ml≤1000000000∧w'.ownsRow w.heap.size 48 7 (.slice (some ⟨g0,0,none⟩) ml ml) ml (M.flatMap encS)∧Tells M B)∨
  (¬(m=K∧22*K=s.size)∧∃(j b:Nat),j<8∧e=.returned (.tuple #[.slice none 0 0,.iface 130 (.pointer (some ⟨b,0,none⟩))])∧w'.cell? ⟨b,0,none⟩=some (.int .i64 ((m:Int)+1))∧w'.cell? ⟨b,1,none⟩=some (.iface 325 (.pointer (some (ad j))))))
def ALoop(w w1 wr:World)(ab em i:Nat)(rs:List Rcd)(b:Book):Prop:= ∃(b':Book) (L:List (Int×Option Nat)) (E:List (Int×List Int)),Run b' (rs.drop i) b∧(∀(j:Nat) (x:Ent),b'.l[j]? =some x→EB x)∧AX (prOf w1) w.heap.size wr ab w.heap.size em (2*i) L E b'.l∧Below w.heap.size w wr
theorem zRo(ad:Nat→Addr)(st:Nat→ByteArray)(s:ByteArray)(w:World)(hE:Errs w ad st)(hm:s.size≤1000000000)(K:Nat)(hok: ∀i,i<K→okRec s i)(hK:22*K≤s.size∧s.size<22*K+22)(rs:List Rcd)(b:Book)(hrl:rs.length≤K)(hrow: ∀(i:Nat) (r:Rcd),rs[i]? =some r→recL s (22*i)= [r.kind,(i:Int)+1,r.id,r.other,r.price,r.qty,r.reason])(hrun:Run ⟨[],0⟩ rs b)(hend:rs.length=K∨fld s (22*rs.length) 1 4≠(rs.length:Int)+1):
 Calls Tryz.prog 50 #[.string s] w fun e w'=>AEnd ad w s K rs.length b.l e w':=by
 have HM:=mkM;have HME:=mkE;have hA0:AX (fun _=>none) w.heap.size (((w.alloc (.map #[] 0)).alloc (.map #[] 0)).alloc (.cells #[.map (some w.heap.size),.map (some (w.heap.size+1))] 166)) (w.heap.size+1+1) w.heap.size (w.heap.size+1) 0 [] [] ([]:List Ent):=by
  have b0:(((w.alloc (.map #[] 0)).alloc (.map #[] 0)).alloc (.cells #[.map (some w.heap.size),.map (some (w.heap.size+1))] 166)).heap[w.heap.size]? =some (.map #[] 0):=zC (zC (zBn rfl));have b1:(((w.alloc (.map #[] 0)).alloc (.map #[] 0)).alloc (.cells #[.map (some w.heap.size),.map (some (w.heap.size+1))] 166)).heap[w.heap.size+1]? =some (.map #[] 0):=zC (zBn (by simp));exact⟨⟨zBn (by simp),zEg ptrElem b0,zEg aggElem b1,(fun p hp=>by cases hp),(fun p hp=>by cases hp),by omega,⟨by omega,by omega,by omega⟩,Nat.le_refl _,Nat.le_refl _,(fun b c t hb=>by cases hb)⟩,(fun i x hx=>by simp at hx),(fun i x hx=>by simp at hx),(fun p hp=>by cases hp),(fun p hp=>by cases hp),(fun i j x y hx=>by simp at hx)⟩
 have hB0:Below w.heap.size w (((w.alloc (.map #[] 0)).alloc (.map #[] 0)).alloc (.cells #[.map (some w.heap.size),.map (some (w.heap.size+1))] 166)):=((Grow.refl w).alloc _).alloc _ |>.alloc _
 have HRA:Hid (Calls Tryz.prog 82 #[.string s] (((w.alloc (.map #[] 0)).alloc (.map #[] 0)).alloc (.cells #[.map (some w.heap.size),.map (some (w.heap.size+1))] 166)) fun e w'=> ∃(v err:Value),e=.returned (.tuple #[v,err])∧Hid (Below (((w.alloc (.map #[] 0)).alloc (.map #[] 0)).alloc (.cells #[.map (some w.heap.size),.map (some (w.heap.size+1))] 166)).heap.size (((w.alloc (.map #[] 0)).alloc (.map #[] 0)).alloc (.cells #[.map (some w.heap.size),.map (some (w.heap.size+1))] 166)) w'∧w'.ownsRow (((w.alloc (.map #[] 0)).alloc (.map #[] 0)).alloc (.cells #[.map (some w.heap.size),.map (some (w.heap.size+1))] 166)).heap.size 73 7 v K (rowsC s K)∧((22*K=s.size∧err=.nilIface)∨(¬22*K=s.size∧FaultAt w' ad 3 K err)))):=by
  refine(zPz ad st s _ (hE.below hB0) (by omega)).mono ?_;rintro e w' ⟨k,v,err,rfl,hk,hb1,hrow,hko,hah⟩;have hkK:k=K:=by
   rcases Nat.lt_trichotomy k K with c|c|c
   ·have h0:=hok k c;rcases hah with⟨a1,_⟩|⟨a1,a2,_⟩|⟨a1,a2,_⟩
    ·have:=h0.1;omega
    ·have:=h0.1;omega
    ·exact absurd h0 a2
   ·exact c
   ·have:=(hko K c).1;omega
  subst hkK;refine⟨v,err,rfl,hid ⟨hb1,hrow,?_⟩⟩;rcases hah with⟨a1,a2⟩|⟨a1,a2,a3⟩|⟨a1,a2,a3⟩
  ·exact .inl ⟨a1,a2⟩
  ·exact .inr ⟨by omega,a3⟩
  ·omega
 have HA0:=hid (And.intro hA0 hB0);have HEE:Hid (∀X,Below w.heap.size w X→Errs X ad st):=fun X hX=>hE.below hX
 have HR:=hid (And.intro hrow (And.intro hrun hend));have HRL:=hid hrl;have HK:Hid (22*K≤1000000000):=Nat.le_trans hK.1 hm;clear hA0 hB0 hE hrow hrun hend hrl hK hok hm;go_enter Tryz.func50,Tryz.ntmps50;go_wp2_with fail;clear HM HME;generalize hW0:((w.alloc (.map #[] 0)).alloc (.map #[] 0)).alloc (.cells #[.map (some w.heap.size),.map (some (w.heap.size+1))] 166)=W0 at *;clear hW0;refine HRA.out.mono ?_;rintro e w1 ⟨v,err,rfl,HBR⟩;obtain⟨hb1,hrow,hrf⟩:=HBR.out;have HA1:Hid (AX (prOf w1) w.heap.size w1 (w.heap.size+1+1) w.heap.size (w.heap.size+1) 0 [] [] ([]:List Ent)∧Below w.heap.size w w1):=⟨(HA0.out.1.below hb1).guard,HA0.out.2.trans (hb1.mono HA0.out.1.lw)⟩;have HROW:=hid hrow;have HRF:=hid hrf;obtain⟨p,c,rfl,hp⟩: ∃p c,v=.slice p K c∧(K=0∨∃g,p=some ⟨g,0,none⟩):=by
  rcases hrow.2 with⟨rfl,h0⟩|⟨g,cap,cur,rfl,_⟩
  ·exact⟨_,_,by rw[h0],.inl h0⟩
  ·exact⟨_,_,rfl,.inr ⟨g,rfl⟩⟩
 have HP:=hid hp;clear hb1 hrow hrf HRA HA0 hp HBR;generalize hab:w.heap.size+1+1=ab at *;generalize hem:w.heap.size+1=em at *;clear hab hem;go_wp2_with fail;go_loopw [22] (fun iv wr=> ∃i:Nat,iv=.int .i64 i∧i≤rs.length∧Hid (ALoop w w1 wr ab em i rs b)) (fun iv _=>K - (intOf iv).toNat)
 case atStart=>exact⟨0,rfl,Nat.zero_le _,hid ⟨⟨[],0⟩,[],[],by rw[List.drop_zero];exact HR.out.2.1,(fun j x hx=>by simp at hx),HA1.out.1,HA1.out.2⟩⟩
 case round=>
  obtain⟨i,rfl,hi,HI⟩:=hrel;have HIR:=hid hi;clear hi;by_cases hlt:i<K
  ·have hkI:(i:Int)<(K:Int):=by omega
   have hw1:wrap64 ((i:Int)+1)=(i:Int)+1:=by have:=HK.out;unfold wrap64;omega
   obtain⟨g,rfl⟩:=HP.out.resolve_left (by omega);have hLW:w.heap.size≤wr.heap.size:=by obtain⟨_,_,_,_,_,h3,_⟩:=HI.out;exact h3.lw
   have hrw:wr.ownsRow W0.heap.size 73 7 (.slice (some ⟨g,0,none⟩) K c) K (rowsC s K):=by
    obtain⟨_,_,_,_,_,h3,_⟩:=HI.out;refine⟨HROW.out.1,?_⟩;rcases HROW.out.2 with h0|⟨g',cap,cur,e2,hg,hh,r⟩
    ·exact .inl h0
    ·exact .inr ⟨g',cap,cur,e2,hg,(h3.aw.rows _ _ _ (zJ2 hh (.inl rfl))).2,r⟩
   obtain⟨x0,x1,x2,x3,x4,x5,x6,hx⟩: ∃x0 x1 x2 x3 x4 x5 x6,recL s (22*i)= [x0,x1,x2,x3,x4,x5,x6]:=⟨_,_,_,_,_,_,_,rfl⟩;have cj: ∀j,j<7→wr.cell? ⟨g,i*7+j,none⟩=([x0,x1,x2,x3,x4,x5,x6].map (Value.int .i64))[j]? :=fun j hj=>by
    rw[←hx,←zRn s K i j hlt hj];exact hrw.cellAt (i*7+j) (by omega)
   have c0:wr.cell? ⟨g,i*7,none⟩=some (.int .i64 x0):=cj 0 (by omega);have c1:wr.cell? ⟨g,i*7+1,none⟩=some (.int .i64 x1):=cj 1 (by omega);have c2:wr.cell? ⟨g,i*7+2,none⟩=some (.int .i64 x2):=cj 2 (by omega);have c3:wr.cell? ⟨g,i*7+3,none⟩=some (.int .i64 x3):=cj 3 (by omega);have c4:wr.cell? ⟨g,i*7+4,none⟩=some (.int .i64 x4):=cj 4 (by omega);have c5:wr.cell? ⟨g,i*7+5,none⟩=some (.int .i64 x5):=cj 5 (by omega);have c6:wr.cell? ⟨g,i*7+6,none⟩=some (.int .i64 x6):=cj 6 (by omega)
   have HT:Hid (Calls Tryz.prog 83 #[.pointer (some ⟨ab,0,none⟩),.int .i64 ((i:Int)+1),recW x0 x1 x2 x3 x4 x5 x6] (wr.alloc (.cells #[.int .i64 x0,.int .i64 x1,.int .i64 x2,.int .i64 x3,.int .i64 x4,.int .i64 x5,.int .i64 x6] 73)) fun en w'=>(en=.returned .nilIface∧Hid (i+1≤rs.length∧ALoop w w1 w' ab em (i+1) rs b))∨(en=.returned (.iface 325 (.pointer (some (ad 6))))∧Hid (i=rs.length∧¬rs.length=K∧Below w.heap.size w w'))):=by
    have hbx:Below wr.heap.size wr (wr.alloc (.cells #[.int .i64 x0,.int .i64 x1,.int .i64 x2,.int .i64 x3,.int .i64 x4,.int .i64 x5,.int .i64 x6] 73)):=(Below.refl _ wr).alloc (Nat.le_refl _) _;obtain⟨b',L,E,g1,g2,g3,g4⟩:=HI.out;have hbl:=g4.trans (hbx.mono hLW);by_cases hir:i<rs.length
    ·obtain⟨off,d,hA,hR⟩:=g1.step hir g2;have hr:=HR.out.1 i rs[i] (List.getElem?_eq_getElem hir);rw[hx]at hr;injection hr with r0 hr;injection hr with r1 hr;injection hr with r2 hr;injection hr with r3 hr;injection hr with r4 hr;injection hr with r5 hr;injection hr with r6 hr;have hK7:KR7 (noSeq (seven x0 x1 x2 x3 x4 x5 x6)) rs[i]:=⟨r0,rfl,r2,r3,r4,r5,r6⟩;have hkk:KOk (seven x0 x1 x2 x3 x4 x5 x6):=fun j=>by
      have h1:=hK7.ok hA.fits (fun j hj=>by match j,hj with|j+7,_=>rfl) j
      match j with
      |0=>exact h1
      |1=>show 0≤x1∧x1≤4294967295;rw[r1];have:=HK.out;omega
      |2=>exact h1
      |3=>exact h1
      |4=>exact h1
      |5=>exact h1
      |6=>exact h1
      |_+7=>exact h1
     refine(zQu ((i:Int)+1) (seven x0 x1 x2 x3 x4 x5 x6) hkk hK7 hA (g3.below hbx) (by have:=HK.out;omega) r1).mono ?_;rintro en w' ⟨rfl,HZ⟩;obtain⟨L',E',z1,z2⟩:=HZ.out;exact .inl ⟨rfl,hid ⟨hir,d,L',E',hR,hA.eb',z1,hbl.trans z2⟩⟩
    ·have hie:i=rs.length:=by have:=HIR.out;omega
     have hne:fld s (22*rs.length) 1 4≠(rs.length:Int)+1:=HR.out.2.2.resolve_left (by omega);have hx1:x1=fld s (22*i) 1 4:=by
      have:=hx;unfold recL at this;injection this with _ this;injection this with this _;exact this.symm
     refine(zQv ad st ((i:Int)+1) (seven x0 x1 x2 x3 x4 x5 x6) (HEE.out _ hbl) (by show x1≠_;rw[hx1,hie];exact hne)).mono ?_;rintro en w' ⟨rfl,hb⟩;exact .inr ⟨rfl,hid ⟨hie,by omega,hbl.trans (hb.mono (Nat.le_trans hLW hbx.size))⟩⟩
   clear hrw cj hx HP HROW HRF HA1 hLW;go_wp2_with fail;refine HT.out.mono ?_;rintro en w2 (⟨rfl,HZ⟩|⟨rfl,HZ⟩)
   ·clear HT c0 c1 c2 c3 c4 c5 c6;go_wp2;go_roundw
    case rel=>exact⟨i+1,by go_num,HZ.out.1,hid HZ.out.2⟩
    case measure=>
     rw[hw1];exact zD5 K i hlt
   ·clear HT c0 c1 c2 c3 c4 c5 c6;have HLW:Hid (w.heap.size≤w2.heap.size):=HZ.out.2.2.size;go_wp2;go_ret2;obtain⟨z1,z2,z3⟩:=HZ.out;exact⟨z3.alloc HLW.out _,.inr ⟨fun c=>z2 c.1,6,w2.heap.size,by omega,rfl,by rw[←z1];simp,by simp⟩⟩
  ·have hke:rs.length=K∧i=K:=by have:=HIR.out;have:=HRL.out;omega
   obtain⟨hke1,hke2⟩:=hke;have HKE:=hid hke1;clear hke1;subst hke2;have hkI: ¬(i:Int)<(i:Int):=by omega
   have hng:Below wr.heap.size wr (wr.alloc (.cells #[.pointer none] 130)):=(Below.refl _ wr).alloc (Nat.le_refl _) _;obtain⟨b',L,E,g1,g2,g3,g4⟩:=HI.out;obtain rfl:b'=b:=by rw[List.drop_eq_nil_of_le (by have:=HKE.out;omega)]at g1;exact g1
   have HEB:=hid g2;have HI2:Hid (AX (prOf w1) w.heap.size (wr.alloc (.cells #[.pointer none] 130)) ab w.heap.size em (2*i) L E b'.l∧Below w.heap.size w (wr.alloc (.cells #[.pointer none] 130))):=⟨g3.below hng,g4.trans (hng.mono g3.lw)⟩;have hbx:=Boxed.new wr 130 (.pointer none);have HSZ:Hid (w.heap.size≤wr.heap.size):=g3.lw;have hlw:w.heap.size≤wr.heap.size:=HSZ.out;have HG3:=hid g3;clear g1 g2 g3 g4 HI;rcases HRF.out with⟨hsz,rfl⟩|⟨hsz,b,rfl,hfb⟩
   ·have HSZE:=hid hsz;clear hsz;have HC:=hid (zRm HI2.out.1 (by have:=HK.out;omega) HEB.out);have a0:=HI2.out.1.aw.c0;have a1:=HI2.out.1.aw.c1;have HAS:=hid (zKh (.iface 132 (.pointer (some ⟨wr.heap.size,0,none⟩))) (wr.alloc (.cells #[.pointer none] 130)));clear hng HA1 HROW HP hbx hlw HRF HG3;go_wp2_with fail;refine HAS.out.mono ?_;rintro e w2 ⟨rfl,rfl⟩;clear HAS;generalize wr.alloc (.cells #[.pointer none] 130)=W at *;generalize hrb:wr.heap.size=rb at *;clear hrb;go_wp2_with fail;go_region_held3(fun X=>X.cell? ⟨ab,0,none⟩=some (.map (some w.heap.size))∧X.cell? ⟨ab,1,none⟩=some (.map (some em))) (go_keep) (first
     |(go_at_call 85;refine(HC.out _ (by first|exact(Same.refl W).drew|exact(Same.refl W).drewN _)).mono ?_;rintro en w3 ⟨hb,rfl,e0,e1,HC2⟩)
     |(go_at_call 84;refine(HC2.out _ (by first|exact Same.refl w3|exact(Same.refl w3).drew|exact(Same.refl w3).drewN _)).mono ?_;rintro en w4 ⟨q,m,c',rfl,f0,f1,HC3⟩)
     |(go_at_call 48;refine(HC3.out _ (by first|exact Same.refl w4|exact(Same.refl w4).drew|exact(Same.refl w4).drewN _)).mono ?_;rintro en w5 ⟨g0,ml,rfl,k0,k1,HZ⟩))
    all_goals(
     go_wp2;go_ret2;obtain⟨M,m1,m2,m3,m4,m5⟩:=HZ.out;refine⟨HI2.out.2.trans (m4.mono HI2.out.1.lw),.inl ⟨HKE.out,HSZE.out,g0,ml,rfl,M,m1,by have:=HK.out;omega,?_,m5⟩⟩;refine⟨m3.1,?_⟩;rcases m3.2 with h0|⟨g',cap,cur,e2,hg,r⟩
     ·exact .inl h0
     ·exact .inr ⟨g',cap,cur,e2,Nat.le_trans HI2.out.1.lw hg,r⟩)
   ·have HSZE:=hid hsz;clear hsz;have hfr:=(HG3.out.aw.rows _ _ _ (zJ2 hfb (.inr rfl))).2;have hbl:b<wr.heap.size:=(Array.getElem?_eq_some_iff.1 hfr).1;have HAS:Hid (Calls Tryz.prog 52 #[.iface 130 (.pointer (some ⟨b,0,none⟩)),.iface 132 (.pointer (some ⟨wr.heap.size,0,none⟩))] (wr.alloc (.cells #[.pointer none] 130)) fun ev w'=>ev=.returned (.bool true)∧w'.cell? ⟨wr.heap.size,0,none⟩=some (.pointer (some ⟨b,0,none⟩))∧w'.cell? ⟨b,0,none⟩=some (.int .i64 (i:Int))∧w'.cell? ⟨b,1,none⟩=some (.iface 325 (.pointer (some (ad 3))))∧Hid (Below w.heap.size w w')):=by
     refine(zFj ⟨b,0,none⟩ ⟨wr.heap.size,0,none⟩ (.pointer none) _ (HEE.out _ HI2.out.2).handle hbx.cell hbx.frozen).mono ?_;rintro ev w' ⟨rfl,h1,h2⟩;have hbb:w'.heap[b]? =some (.cells #[.int .i64 (i:Int),.iface 325 (.pointer (some (ad 3)))] 134 (0,0)):=by
      rw[h2.block b hbl,hng.block b hbl];exact hfr
     exact⟨rfl,h1,by simp[World.cell?,hbb],by simp[World.cell?,hbb],HI2.out.2.trans (h2.mono hlw)⟩
    clear hng HA1 HROW HP hbx hlw hfr hbl HRF HG3;go_wp2_with fail;refine HAS.out.mono ?_;rintro e w2 ⟨rfl,h1,h2,h3,HB2⟩;clear HAS;generalize wr.heap.size=rb at *;have hwi:IntKind.i64.wrap ((i:Int)+1)=(i:Int)+1:=by have:=HK.out;exact zA8 _ (by omega) (by omega)
    go_wp2_with fail;go_region_held3(fun X=>X.cell? ⟨rb,0,none⟩=some (.pointer (some ⟨b,0,none⟩))∧X.cell? ⟨b,0,none⟩=some (.int .i64 (i:Int))∧X.cell? ⟨b,1,none⟩=some (.iface 325 (.pointer (some (ad 3))))) (go_keep) (fail);all_goals(
     go_wp2;go_ret2;refine⟨?_,.inr ⟨fun c=>HSZE.out c.2,3,w2.heap.size,by omega,rfl,?_,?_⟩⟩
     ·first
      |exact HB2.out.alloc HB2.out.size _
      |exact(HB2.out.trans ((Same.refl w2).drew.below _)).alloc HB2.out.size _
     ·rw[HKE.out];simp
     ·simp)
end
def PEnd(w:World)(s:ByteArray)(K m:Nat)(B:List Ent)(e:Ending)(w':World):Prop:=Below w.heap.size w w'∧
 ((m=K∧22*K=s.size∧∃g0 ml:Nat,e=.returned (.tuple #[.slice (some ⟨g0,0,none⟩) ml ml,.int .i64 0,.int .i64 (-1)])∧∃M:List Ord,M.length=ml∧ml≤1000000000∧w'.ownsRow w.heap.size 48 7 (.slice (some ⟨g0,0,none⟩) ml ml) ml (M.flatMap encS)∧Tells M B)∨
  (¬(m=K∧22*K=s.size)∧∃nn:Int,nn≠0∧e=.returned (.tuple #[.slice none 0 0,.int .i64 nn,.int .i64 ((m:Int)+1)])))
theorem zRp(ad:Nat→Addr)(st:Nat→ByteArray)(s:ByteArray)(w:World)(hE:Errs w ad st)(hm:s.size≤1000000000)(K:Nat)(hok: ∀i,i<K→okRec s i)(hK:22*K≤s.size∧s.size<22*K+22)(rs:List Rcd)(b:Book)(hrl:rs.length≤K)(hrow: ∀(i:Nat) (r:Rcd),rs[i]? =some r→recL s (22*i)= [r.kind,(i:Int)+1,r.id,r.other,r.price,r.qty,r.reason])(hrun:Run ⟨[],0⟩ rs b)(hend:rs.length=K∨fld s (22*rs.length) 1 4≠(rs.length:Int)+1):
 Calls Tryz.prog 28 #[.string s] w fun e w'=>AEnd ad w s K rs.length b.l e w':=by
 have HC:=hid (zRo ad st s w hE hm K hok hK rs b hrl hrow hrun hend);clear hE hm hok hK hrl hrow hrun hend;go_enter Tryz.func28,Tryz.ntmps28;go_wp2_with fail;refine HC.out.mono ?_;rintro e w1 ⟨hb,⟨hq1,hq2,g0,ml,rfl,hM⟩|⟨hno,j,fb,hj,rfl,h1,h2⟩⟩
 ·have HZ:=hid (And.intro hb (And.intro hq1 (And.intro hq2 hM)));clear hb hq1 hq2 hM HC;go_wp2;go_ret2;exact⟨HZ.out.1,.inl ⟨HZ.out.2.1,HZ.out.2.2.1,g0,ml,rfl,HZ.out.2.2.2⟩⟩
 ·have HZ:=hid (And.intro hb (And.intro hno (And.intro hj (And.intro h1 h2))));clear hb hno hj h1 h2 HC;go_wp2;go_ret2;exact⟨HZ.out.1,.inr ⟨HZ.out.2.1,j,fb,HZ.out.2.2.1,rfl,HZ.out.2.2.2⟩⟩
theorem zEi(ad:Nat→Addr)(st:Nat→ByteArray)(s:ByteArray)(w:World)(hE:Errs w ad st)(hm:s.size≤1000000000)(K:Nat)(hok: ∀i,i<K→okRec s i)(hK:22*K≤s.size∧s.size<22*K+22)(rs:List Rcd)(b:Book)(hrl:rs.length≤K)(hrow: ∀(i:Nat) (r:Rcd),rs[i]? =some r→recL s (22*i)= [r.kind,(i:Int)+1,r.id,r.other,r.price,r.qty,r.reason])(hrun:Run ⟨[],0⟩ rs b)(hend:rs.length=K∨fld s (22*rs.length) 1 4≠(rs.length:Int)+1):
 Calls Tryz.prog 17 #[.string s] w fun e w'=>PEnd w s K rs.length b.l e w':=by
 have HC:=hid (zRp ad st s w hE hm K hok hK rs b hrl hrow hrun hend);have HE:Hid (∀X,Below w.heap.size w X→Errs X ad st):=fun X hX=>hE.below hX
 clear hE hm hok hK hrl hrow hrun hend;go_enter Tryz.func17,Tryz.ntmps17;go_wp2_with fail;refine HC.out.mono ?_;rintro e w1 ⟨hb,⟨hq1,hq2,g0,ml,rfl,hM⟩|⟨hno,j,fb,hj,rfl,h1,h2⟩⟩
 ·have HZ:=hid (And.intro hb (And.intro hq1 (And.intro hq2 hM)));clear hb hq1 hq2 hM HC HE;go_wp2_with fail;refine(zCk _).mono ?_;rintro e w2 ⟨rfl,rfl⟩;go_wp2;go_ret3;exact⟨HZ.out.1,.inl ⟨HZ.out.2.1,HZ.out.2.2.1,g0,ml,rfl,HZ.out.2.2.2⟩⟩
 ·have HN:=hid (zFk ad st j hj fb 0 ((rs.length:Int)+1) w1 (HE.out w1 hb) h1 h2);have HB:=hid hb;have HNO:=hid hno;have HJ:Hid (((j:Int)+1)≠0):=by show _≠_;omega
  clear hb hj h1 h2 HC HE hno;generalize (j:Int)+1=nn at *;generalize hpp:(rs.length:Int)+1=pl at *;go_wp2_with fail;refine HN.out.mono ?_;rintro e w2 ⟨rfl,hb2⟩;have HB2:Hid (Below w.heap.size w w2):=HB.out.trans (hb2.mono HB.out.size);clear hb2 HN;go_wp2;go_ret3;subst hpp;exact⟨HB2.out,.inr ⟨HNO.out,nn,HJ.out,rfl⟩⟩
end Go.Proofs.YtanfmhonjpjpoaaGreatDoor
