import Derived.Test.YtanfmhonjpjpoaaGreatDoorQ00
import Derived.Test.YtanfmhonjpjpoaaGreatDoorQ03
import Derived.Test.YtanfmhonjpjpoaaGreatDoorQ05
import Derived.Test.YtanfmhonjpjpoaaGreatDoorQ09
import Derived.Test.YtanfmhonjpjpoaaGreatDoorQ12
import Derived.Test.YtanfmhonjpjpoaaGreatDoorQ13
import Derived.Test.YtanfmhonjpjpoaaGreatDoorQ23
import Derived.Test.YtanfmhonjpjpoaaGreatDoorQ31
import Derived.Test.YtanfmhonjpjpoaaGreatDoorQ33
import Derived.Deep.LoopGhost
import Derived.Laws.IdiomStrings
set_option linter.all false
set_option maxRecDepth 100000
set_option maxHeartbeats 8000000
namespace Go.Proofs.YtanfmhonjpjpoaaGreatDoor
variable{w w' w1 wr w2 w3:World}{m g n B base b:Nat}{f:Nat→Int}{r0:List UInt8}{xs:List Value}{F G:Nat→Prop}{ad:Nat→Addr}{st:Nat→ByteArray}{dv av:Value}
section
open Go.Extern Go.RowKit
def nextB(s:ByteArray):Int:=if nextE s=0 then nextM s else 0
theorem zHy(a:Nat→Addr)(st:Nat→ByteArray)(s:ByteArray)(w:World)(hE:Errs w a st)(hW:Wids w)(hm:s.size≤1000000000):
 Cl 71 #[.string s] w fun e w'=> ∃err,e=rV #[cmdV (nextK s) (nextV s),iV (nextB s),err]∧ErrBare a err (nextE s)∧Below w.heap.size w w':=by
 refine(zR1 a st s w hE hW hm).mono ?_;rintro e w' ⟨err,m,h1,h2,h3,h4⟩;exact⟨err,by rw[h1,h3];rfl,h2,h4⟩
theorem zR2(a:Nat→Addr)(st:Nat→ByteArray)(s:ByteArray)(w:World)(hE:Errs w a st)(hW:Wids w)(hm:s.size≤1000000000):
 Cl 93 #[.string s] w fun e w'=> ∃err,e=rV #[cmdV (nextK s) (nextV s),iV (nextB s),err]∧ErrBare a err (nextE s)∧Below w.heap.size w w':=by
 have hE1:=hE.alloc (.cells #[iV 0,iV 0,iV 0,iV 0,iV 0,iV 0,iV 0,iV 0,iV 0,iV 0] 102);have hW1:=hW.below ((Below.refl _ _).alloc (Nat.le_refl _) (.cells #[iV 0,iV 0,iV 0,iV 0,iV 0,iV 0,iV 0,iV 0,iV 0,iV 0] 102));go_enter Tryz.func93,Tryz.ntmps93;go_wp2_with fail;refine(zHy a st s _ hE1 hW1 hm).mono ?_;rintro e w1 ⟨err,rfl,her,hb⟩;have HER:=hid her;have HB:=hid (((Below.refl _ _).alloc (Nat.le_refl _) _).trans (hb.mono (by simp)));have hs1:w.heap.size<w1.heap.size:=by have:=hb.size;simp at this;omega
 have hr0:=(hb.cell (p:=(iA w.heap.size 0)) (by simp)).trans (show _=sI 0 by simp);have hg0:=(hb.frozen (p:=(iA w.heap.size 0)) (by simp)).trans (show _=false by simp);have hr1:=(hb.cell (p:=(iA w.heap.size 1)) (by simp)).trans (show _=sI 0 by simp);have hg1:=(hb.frozen (p:=(iA w.heap.size 1)) (by simp)).trans (show _=false by simp);have hr2:=(hb.cell (p:=(iA w.heap.size 2)) (by simp)).trans (show _=sI 0 by simp);have hg2:=(hb.frozen (p:=(iA w.heap.size 2)) (by simp)).trans (show _=false by simp);have hr3:=(hb.cell (p:=(iA w.heap.size 3)) (by simp)).trans (show _=sI 0 by simp);have hg3:=(hb.frozen (p:=(iA w.heap.size 3)) (by simp)).trans (show _=false by simp);have hr4:=(hb.cell (p:=(iA w.heap.size 4)) (by simp)).trans (show _=sI 0 by simp);have hg4:=(hb.frozen (p:=(iA w.heap.size 4)) (by simp)).trans (show _=false by simp)
 have hr5:=(hb.cell (p:=(iA w.heap.size 5)) (by simp)).trans (show _=sI 0 by simp);have hg5:=(hb.frozen (p:=(iA w.heap.size 5)) (by simp)).trans (show _=false by simp);have hr6:=(hb.cell (p:=(iA w.heap.size 6)) (by simp)).trans (show _=sI 0 by simp);have hg6:=(hb.frozen (p:=(iA w.heap.size 6)) (by simp)).trans (show _=false by simp);have hr7:=(hb.cell (p:=(iA w.heap.size 7)) (by simp)).trans (show _=sI 0 by simp);have hg7:=(hb.frozen (p:=(iA w.heap.size 7)) (by simp)).trans (show _=false by simp);have hr8:=(hb.cell (p:=(iA w.heap.size 8)) (by simp)).trans (show _=sI 0 by simp);have hg8:=(hb.frozen (p:=(iA w.heap.size 8)) (by simp)).trans (show _=false by simp);have hr9:=(hb.cell (p:=(iA w.heap.size 9)) (by simp)).trans (show _=sI 0 by simp);have hg9:=(hb.frozen (p:=(iA w.heap.size 9)) (by simp)).trans (show _=false by simp);go_wp2
 refine bodyPost_ret (v:=.tuple #[cmdV (nextK s) (nextV s),iV (nextB s),err]) (by simp[results,Tryz.results93,go_sem,hr0,hr1,hr2,hr3,hr4,hr5,hr6,hr7,hr8,hr9]) rfl ⟨err,rfl,HER,keep10 HB _ _ _ _ _ _ _ _ _ _⟩
theorem keep9r(h:Below B w w')(x0 x1 x2 x3 x4 x5 x6 x7 x8:Value):Below B w (((((((((w'.setCell (iA B 0) x0).setCell (iA B 1) x1).setCell (iA B 2) x2).setCell (iA B 3) x3).setCell (iA B 4) x4).setCell (iA B 5) x5).setCell (iA B 6) x6).setCell (iA B 7) x7).setCell (iA B 8) x8):=
 ((((((((h.setCell (Nat.le_refl B) x0).setCell (Nat.le_refl B) x1).setCell (Nat.le_refl B) x2).setCell (Nat.le_refl B) x3).setCell (Nat.le_refl B) x4).setCell (Nat.le_refl B) x5).setCell (Nat.le_refl B) x6).setCell (Nat.le_refl B) x7).setCell (Nat.le_refl B) x8
theorem rcell{t:TypeId}(_hs:w.heap.size<w3.heap.size)(h:Below (w.heap.size+1) (w.alloc (.cells z9 t)) w3)(j:Nat)(hj:j<9):w3.cell? (iA w.heap.size j)=sI 0:=by
 rw[h.cell (p:=(iA w.heap.size j)) (by simp)];have e:j=0∨j=1∨j=2∨j=3∨j=4∨j=5∨j=6∨j=7∨j=8:=by omega
 rcases e with rfl|rfl|rfl|rfl|rfl|rfl|rfl|rfl|rfl<;>simp
theorem rfroz{t:TypeId}(h:Below (w.heap.size+1) (w.alloc (.cells z9 t)) w3)(j:Nat):w3.frozen? (iA w.heap.size j)=false:=by
 rw[h.frozen (p:=(iA w.heap.size j)) (by simp)];simp
theorem zT7(a:Nat→Addr)(st:Nat→ByteArray)(s:ByteArray)(w:World)(hE:Errs w a st)(hW:Wids w)(hm:s.size≤1000000000):
 Cl 55 #[.string s] w fun e w'=>e=rV #[iV (nextK s),arrV (nextV s),iV (nextB s),iV (nextE s)]∧Below w.heap.size w w':=by
 have hB1:Bw w (w.alloc (.cells z9 35)):=(Below.refl _ _).alloc (Nat.le_refl _) _;have hE1:=hE.below hB1;have hW1:=hW.below hB1;go_enter Tryz.func55,Tryz.ntmps55;go_wp2_with fail;refine(zR2 a st s _ hE1 hW1 hm).mono ?_;rintro e w1 ⟨err,rfl,her,hb⟩;have HB1:Hid (Bw w w1):=hB1.trans (hb.mono (by simp));have HR1:Hid (Below (w.heap.size+1) (w.alloc (.cells z9 35)) w1):=hb.mono (by simp);have hs1:w.heap.size<w1.heap.size:=by have:=hb.size;simp at this;omega
 have HER:Hid (ErrBare a err (nextE s)):=her;generalize hKK:nextK s=K at *;generalize hVV:nextV s=V at *;generalize hBB:nextB s=Bn at *;generalize hEE:nextE s=En at *;have HKK:Hid (nextK s=K):=hKK;have HVV:Hid (nextV s=V):=hVV;have HBB:Hid (nextB s=Bn):=hBB;have HEE:Hid (nextE s=En):=hEE;have hnb:=zGk a st err En (-1) (w1.alloc (.cells #[iV K,iV (V 0),iV (V 1),iV (V 2),iV (V 3),iV (V 4),iV (V 5),iV (V 6),iV (V 7),iV (V 8)] 102)) (hE.below (zA1 HB1 _)) (HER.is _);have HNB:Hid (Cl 29 #[err] (w1.alloc (.cells #[iV K,iV (V 0),iV (V 1),iV (V 2),iV (V 3),iV (V 4),iV (V 5),iV (V 6),iV (V 7),iV (V 8)] 102)) fun e w'=>e=rV #[iV En,iV (-1)]∧Below (w1.alloc (.cells #[iV K,iV (V 0),iV (V 1),iV (V 2),iV (V 3),iV (V 4),iV (V 5),iV (V 6),iV (V 7),iV (V 8)] 102)).heap.size (w1.alloc (.cells #[iV K,iV (V 0),iV (V 1),iV (V 2),iV (V 3),iV (V 4),iV (V 5),iV (V 6),iV (V 7),iV (V 8)] 102)) w'):=hnb
 go_wp2_with fail;refine HNB.mono ?_;rintro e w2 ⟨rfl,hb2⟩;have hk0:=(hb2.cell (p:=(iA w1.heap.size 0)) (by simp)).trans (show _=sI K by simp);have hk1:=(hb2.cell (p:=(iA w1.heap.size 1)) (by simp)).trans (show _=sI (V 0) by simp);have hk2:=(hb2.cell (p:=(iA w1.heap.size 2)) (by simp)).trans (show _=sI (V 1) by simp);have hk3:=(hb2.cell (p:=(iA w1.heap.size 3)) (by simp)).trans (show _=sI (V 2) by simp);have hk4:=(hb2.cell (p:=(iA w1.heap.size 4)) (by simp)).trans (show _=sI (V 3) by simp);have hk5:=(hb2.cell (p:=(iA w1.heap.size 5)) (by simp)).trans (show _=sI (V 4) by simp);have hk6:=(hb2.cell (p:=(iA w1.heap.size 6)) (by simp)).trans (show _=sI (V 5) by simp);have hk7:=(hb2.cell (p:=(iA w1.heap.size 7)) (by simp)).trans (show _=sI (V 6) by simp);have hk8:=(hb2.cell (p:=(iA w1.heap.size 8)) (by simp)).trans (show _=sI (V 7) by simp)
 have hk9:=(hb2.cell (p:=(iA w1.heap.size 9)) (by simp)).trans (show _=sI (V 8) by simp);have hs2:w.heap.size+1≤w2.heap.size:=by have:=hb2.size;simp at this;omega
 have HB2:Hid (Bw w w2):=(zA1 HB1 _).trans (hb2.mono (by simp;omega));have HR2:Hid (Below (w.heap.size+1) (w.alloc (.cells z9 35)) w2):=(HR1.alloc (by omega) _).trans (hb2.mono (by simp;omega));go_wp2_with fail;refine(zKl K V _).mono ?_;rintro e w3 ⟨rfl,hb3⟩;have hs3:w.heap.size<w3.heap.size:=by have:=hb3.size;omega
 have HB3:Hid (Bw w w3):=HB2.trans (hb3.mono (by omega));have HR3:Hid (Below (w.heap.size+1) (w.alloc (.cells z9 35)) w3):=HR2.trans (hb3.mono (by omega));have hr0:=rcell hs3 HR3 0 (by omega);have hg0:=rfroz HR3 0;have hr1:=rcell hs3 HR3 1 (by omega);have hg1:=rfroz HR3 1;have hr2:=rcell hs3 HR3 2 (by omega);have hg2:=rfroz HR3 2;have hr3:=rcell hs3 HR3 3 (by omega);have hg3:=rfroz HR3 3;have hr4:=rcell hs3 HR3 4 (by omega);have hg4:=rfroz HR3 4;have hr5:=rcell hs3 HR3 5 (by omega);have hg5:=rfroz HR3 5;have hr6:=rcell hs3 HR3 6 (by omega);have hg6:=rfroz HR3 6;have hr7:=rcell hs3 HR3 7 (by omega);have hg7:=rfroz HR3 7;have hr8:=rcell hs3 HR3 8 (by omega);have hg8:=rfroz HR3 8;go_wp2_with fail;go_region;all_goals(try go_wp2)
 all_goals
  refine bodyPost_ret (v:=.tuple #[iV K,arrV V,iV Bn,iV En]) (by simp[results,Tryz.results55,go_sem,hr0,hr1,hr2,hr3,hr4,hr5,hr6,hr7,hr8,hs3]) rfl ⟨by rw[HKK.out,HVV.out,HBB.out,HEE.out],?_⟩;exact Below.drew (zA1 (keep9r HB3 _ _ _ _ _ _ _ _ _) _)
end
section
open Go.Extern Go.Maps Go.RowKit
theorem zR3(s:ByteArray)(h:nextE s=0):1≤nextK s∧nextK s≤5:=by
 unfold nextK;rw[if_pos h];unfold nextE at h;by_cases h0:s.size=0
 ·rw[if_pos h0]at h;exact absurd h (by decide)
 rw[if_neg h0]at h;by_cases h1:bAt s 0=0
 ·rw[if_pos h1]at h;exact absurd h (by decide)
 rw[if_neg h1]at h;by_cases h2:s.size<bAt s 0+1
 ·rw[if_pos h2]at h;exact absurd h (by decide)
 rw[if_neg h2]at h;by_cases h3:okDec s=true
 ·unfold okDec at h3;simp at h3;omega
 ·rw[if_neg h3]at h;exact absurd h (by decide)
theorem zHz(t:List UInt8): ∀(l:List (Nat×Nat)) (a:Nat) (v:Nat→Int),(-2147483648≤v 6∧v 6≤4294967296)→(∀p∈l,p.2≤4)→-2147483648≤reads t a l v 6∧reads t a l v 6≤4294967296
 | [],a,v,hv,_=>hv
 |p::l,a,v,hv,hl=>by
  refine zHz t l (a+p.2) _ ?_ (fun q hq=>hl q (List.mem_cons_of_mem _ hq));unfold upd;split
  ·have hp:=hl p (List.mem_cons_self ..);have h0:=zBb ((t.drop a).take p.2);have h1:=zBc ((t.drop a).take p.2) (by rw[List.length_take];omega);unfold rd;split
   ·rename_i hc;have:=hc.2;omega
   ·omega
  ·exact hv
theorem zR4(s:ByteArray)(j:Nat):0≤nextV s j+2147483648∧nextV s j≤4294967296:=by
 by_cases hj:j=6
 ·subst hj;unfold nextV;split
  ·have:=zHz s.data.toList (terms (bAt s 1)) 2 (fun _=>0) ⟨by show -2147483648≤(0:Int);omega,by show(0:Int)≤4294967296;omega⟩ (fun p hp=>by have:=zAh _ p hp;omega);omega
  ·exact⟨by show(0:Int)≤0+2147483648;omega,by show(0:Int)≤4294967296;omega⟩
 ·have:=zC2 s j hj;omega
theorem zR5(b:Addr)(w:World):Cl 51 #[.nilIface,.iface 325 (.pointer (some b))] w fun e w'=>e=rB false∧w'=w:=by
 have heq:(binOp .eql 79 .nilIface (.iface 325 (.pointer (some b)))).run Tryz.prog w=.ok (.bool false) w:=by kernel_rfl
 go_enter Tryz.func51,Tryz.ntmps51;go_wp2;go_ret;exact⟨rfl,rfl⟩
theorem zR6(s:ByteArray)(w:World)(hlim:s.size≤281474976710656):Cl 75 #[.string s] w fun en w'=>en=.returned (.string s)∧Below w.heap.size w w':=by
 have HC:=hid (Tryz.stringslite_Clone s w hlim);go_enter Tryz.func75,Tryz.ntmps75;go_wp2_with fail;refine HC.mono ?_;rintro en w1 ⟨rfl,hb⟩;have HB:=hid hb;go_wp2;go_ret;exact⟨rfl,HB⟩
theorem zJ(l:List UInt8)(m:Nat)(w:World)(h:m≤l.length):
 (Instr.slice 9 (.string (ba l)) (sI (m:Int)) none none).run Tryz.prog w=.ok (.string ⟨(l.drop m).toArray⟩) w:=by
 have hs:m≤(ba l).size:=by rw[zA3];exact h
 rw[run_slice_string_from_if w 9 (ba l) .i64 (m:Int) Tryz.underlying9,if_pos (by omega)]
 congr 2
 apply ByteArray.ext;rw[ByteArray.data_extract];apply Array.toList_inj.1;rw[Array.toList_extract,List.extract_eq_take_drop,Int.toNat_natCast];refine(List.take_of_length_le ?_).trans ?_
 ·rw[zA3];simp[ba]
 ·simp[ba]
section
variable {F:Nat→Prop} {base:Nat} {w w0:World} {b:Nat} {e:Eng} {g:Gh} {S:Sets}
structure Env(w0:World)(F:Nat→Prop)(ad:Nat→Addr)(st:Nat→ByteArray):Prop where
 errs:Errs w0 ad st
 wids:Wids w0
 far: ∀k,F k→w0.heap.size≤k
theorem Env.at(h:Env w0 F ad st)(hb:Below w0.heap.size w0 w):Errs w ad st∧Wids w:=⟨h.errs.below hb,h.wids.below hb⟩
theorem zCc{a:World}(h:Below B a w)(hT:Touch F w w')(hF: ∀k,F k→B≤k)(hB:B≤w.heap.size):Below B a w':=⟨hT.os.trans h.os,hT.tape.trans h.tape,hT.output.trans h.output,Nat.le_trans h.size hT.size,fun k hk=>(hT.block k (Nat.lt_of_lt_of_le hk hB) (fun hc=>by have:=hF k hc;omega)).trans (h.block k hk)⟩
def Ctk(F:Nat→Prop)(base:Nat)(w0 w:World)(b:Nat)(g:Gh)(e0:Eng)(r0:List UInt8)(E:Eng)(wr:World):Prop:=Taking e0 E∧Eng.Pegs E∧Cend F base w b g (E.wr r0) wr∧Below w0.heap.size w0 wr∧E.all.length+E.rest.length≤99999999
theorem Room.wrC{E:Eng}(h:Room n E.cut)(r:List UInt8):Room n (E.wr r):=⟨h.seq,h.stm,h.out,h.len,h.drw⟩
theorem zJ0{E:Eng}(h:Eng.EInv E)(r:List UInt8):Eng.EInv (E.wr r):=h.cong rfl rfl rfl rfl rfl rfl
theorem Ctk.pegs{e0 E:Eng}(hEnv:Env w0 F ad st)(hT:Taking e0 E)(hn:nextE (ba E.rest)≠4)(hp:Eng.Pegs E.frame)(hC:Cend F base w b g (E.frame.wr r0) w1)(hB:Below w0.heap.size w0 w1)(hup: ∀k,w.heap.size≤k→F k)(hsm:E.all.length+E.rest.length≤99999999):
 Cl 74 #[iP b] w1 fun en w2=>en=rV #[]∧Hid (Ctk F base w0 w b g e0 r0 E.frame.follow w2):=by
 obtain⟨g',S',h1,h2,h3,h4,h5⟩:=hC;obtain⟨m1,m2,m3,m4,m5,m6,m7⟩:=hT.mid hn;obtain⟨t1,t2⟩:=hT.step hn;have hl:E.frame.all.length≤100000000:=by
  have k1:=(Eng.frame_more hT.inv).2.1.len1;have k3:E.cut.all.length=E.all.length:=rfl;omega
 refine(zP9 h1 (zJ0 m6 r0) h2 (hp.cong rfl) ⟨m7.seq,m7.stm,m7.out,m7.len,m7.drw⟩ hl).mono ?_;rintro en w2 ⟨rfl,hz⟩;obtain⟨t,S2,r1,r2,r3⟩:=hz.out;rw[Eng.follow_wr]at r1 r2;refine⟨rfl,t1,hp.follow,⟨_,S2,r1,r2,h3.trans r3,h4,h5⟩,zCc hB r3 hEnv.far hB.size,?_⟩;have k1:=(Eng.step_more hT.inv).2.1;have k2:=k1.len1;have k3:E.cut.all.length=E.all.length:=rfl;omega
theorem Cend.below{e':Eng}(h:Cend F base w b g e' w1)(hb:Below w1.heap.size w1 w2):Cend F base w b g e' w2:=by
 obtain⟨g',S',h1,h2,h3,h4⟩:=h;exact⟨g',S',h1.below hb,h2,h3.trans (zAp h1.up hb),h4⟩
theorem zT8{a:World}(h:Below a.heap.size a w1)(hb:Below w1.heap.size w1 w2):Below a.heap.size a w2:=zAa h hb
theorem Ctk.below{e0 E:Eng}(h:Ctk F base w0 w b g e0 r0 E w1)(hb:Below w1.heap.size w1 w2):Ctk F base w0 w b g e0 r0 E w2:=⟨h.1,h.2.1,h.2.2.1.below hb,zAa h.2.2.2.1 hb,h.2.2.2.2⟩
theorem Ctk.reject{e0 E:Eng}(h:Ctk F base w0 w b g e0 r0 E wr)(h5:nextE (ba E.rest)=5)(hF: ∀k,F k→w0.heap.size≤k):
 Cl 72 #[iP b,iV 0,iV 1] wr fun en w1=>en=rV #[]∧Hid (Eng.Pegs E.frame∧Cend F base w b g (E.frame.wr r0) w1∧Below w0.heap.size w0 w1):=by
 obtain⟨hT,hp,⟨g',S',h1,h2,h3,h4,h5'⟩,hB,hsm⟩:=h;have hn:nextE (ba E.rest)≠4:=by omega
 obtain⟨m1,_⟩:=hT.mid hn;have hfr:E.frame=E.cut.reject 0 1:=if_pos h5;refine(zC9 0 1 h1 h2 ((m1.mono (by omega)).wrC r0) ⟨by omega,by omega⟩ ⟨by omega,by omega⟩).mono ?_;rintro en w1 ⟨rfl,hz⟩;obtain⟨t,S2,r1,r2,r3⟩:=hz.out;refine⟨rfl,by rw[hfr];exact hp.cong rfl,⟨{ g' with txt:=t },S2,by rw[hfr];exact r1,by rw[hfr];exact r2,h3.trans r3,h4,h5'⟩,zCc hB r3 hF hB.size⟩
theorem Ctk.carry{e0 E:Eng}(h:Ctk F base w0 w b g e0 r0 E wr)(h0:nextE (ba E.rest)=0)(hF: ∀k,F k→w0.heap.size≤k):
 Cl 73 #[iP b,.agg #[iV (nextK (ba E.rest)),iV (nextV (ba E.rest) 0),iV (nextV (ba E.rest) 1),iV (nextV (ba E.rest) 2),iV (nextV (ba E.rest) 3),iV (nextV (ba E.rest) 4),iV (nextV (ba E.rest) 5),iV (nextV (ba E.rest) 6),iV (nextV (ba E.rest) 7),iV (nextV (ba E.rest) 8)]] wr fun en w1=>en=rV #[]∧Hid (Eng.Pegs E.frame∧Cend F base w b g (E.frame.wr r0) w1∧Below w0.heap.size w0 w1):=by
 obtain⟨hT,hp,⟨g',S',h1,h2,h3,h4,h5'⟩,hB,hsm⟩:=h;have hn:nextE (ba E.rest)≠4:=by omega
 obtain⟨m1,m2,m3,m4,m5,m6,m7⟩:=hT.mid hn;have hfr:E.frame=E.cut.run (nextK (ba E.rest)) (nextV (ba E.rest)):=if_neg (by omega);refine(zQg (nextK (ba E.rest)) (zR3 _ h0) h1 (zJ0 hT.inv r0) h2 (hp.cong rfl) (zAn _) (zR4 _) (m1.wrC r0) ⟨m2.v0,m2.v1,m2.w0,m2.w1⟩ ⟨m3.len,m3.bd⟩ (by show E.all.length+1≤_;have:E.rest.length≥0:=Nat.zero_le _;omega)).mono ?_;rintro en w1 ⟨rfl,hz⟩;obtain⟨g2,S2,r1,r2,r3,r4,r5⟩:=hz.out;have hE:(E.wr r0).run (nextK (ba E.rest)) (nextV (ba E.rest))=E.frame.wr r0:=by
  rw[hfr,Eng.run_wr];show _=((E.wr (E.rest.drop (nextM (ba E.rest)).toNat)).run _ _).wr r0;rw[Eng.run_wr,Eng.wr_wr]
 rw[hE]at r1 r2;refine⟨rfl,by rw[hfr];exact Eng.Pegs.run (e:=E.cut) (hp.cong rfl) m5 _ (zAn _),⟨g2,S2,r1,r2,h3.trans r3,r4.trans h4,r5.trans h5'⟩,zCc hB r3 hF hB.size⟩
end
section
variable {F:Nat→Prop} {base:Nat} {w w0:World} {b:Nat} {e:Eng} {g:Gh} {S:Sets} {ad:Nat→Addr} {st:Nat→ByteArray}
theorem zR7{e0 E:Eng}(hEnv:Env w0 F ad st)(h:Ctk F base w0 w b g e0 r0 E wr):
 Cl 71 #[.string (ba E.rest)] wr fun en w1=> ∃err,en=rV #[.agg #[iV (nextK (ba E.rest)),iV (nextV (ba E.rest) 0),iV (nextV (ba E.rest) 1),iV (nextV (ba E.rest) 2),iV (nextV (ba E.rest) 3),iV (nextV (ba E.rest) 4),iV (nextV (ba E.rest) 5),iV (nextV (ba E.rest) 6),iV (nextV (ba E.rest) 7),iV (nextV (ba E.rest) 8)],iV (nextB (ba E.rest)),err]∧((nextE (ba E.rest)=4∧err=.iface 325 (.pointer (some (ad 3))))∨(nextE (ba E.rest)=5∧err=.iface 325 (.pointer (some (ad 4))))∨(nextE (ba E.rest)=0∧err=.nilIface))∧Hid (Ctk F base w0 w b g e0 r0 E w1):=by
 obtain⟨hE,hW⟩:=hEnv.at h.2.2.2.1;refine(zHy ad st (ba E.rest) wr hE hW (by rw[zA3];have:=h.2.2.2.2;omega)).mono ?_;rintro en w1 ⟨err,rfl,h1,h2⟩;refine⟨err,rfl,?_,h.below h2⟩;rcases h1 with⟨q1,q2⟩|⟨k,q1,q2,q3⟩
 ·exact .inr (.inr ⟨q2,q1⟩)
 ·rcases zKv (ba E.rest) with hc|hc|hc
  ·omega
  ·left;have:k=3:=by omega
   subst this;exact⟨hc,q2⟩
  ·right;left;have:k=4:=by omega
   subst this;exact⟨hc,q2⟩
theorem Ctk.clone{e0 E:Eng}(h:Ctk F base w0 w b g e0 r0 E wr):
 Cl 75 #[.string (ba E.rest)] wr fun en w1=>en=.returned (.string (ba E.rest))∧w1.cell? (iA b 5)=some (.string (ba r0))∧w1.frozen? (iA b 5)=false∧Hid (Cend F base w b g E (w1.setCell (iA b 5) (.string (ba E.rest)))∧Below w0.heap.size w0 w1):=by
 refine(zR6 (ba E.rest) wr (by rw[zA3];have:=h.2.2.2.2;omega)).mono ?_;rintro en w1 ⟨rfl,hb⟩;obtain⟨hT,hp,⟨g',S',h1,h2,h3,h4⟩,hB,hsm⟩:=h.below hb;refine⟨rfl,h1.cell 5,h1.froz 5,⟨g',S',?_,h2.cong rfl,h3.set b 5 _ h1.own,h4⟩,hB⟩;exact h1.set 5 _ E (by simp[codCells,Eng.wr,ba]) rfl rfl rfl rfl
theorem zR8(s:ByteArray)(h:nextE s=5):nextM s=1+(bAt s 0:Int)∧0<s.size:=by
 unfold nextE at h;by_cases h0:s.size=0
 ·rw[if_pos h0]at h;exact absurd h (by decide)
 rw[if_neg h0]at h;unfold nextM;rw[if_neg h0];by_cases h1:bAt s 0=0
 ·rw[if_pos h1,h1];exact⟨rfl,by omega⟩
 ·rw[if_neg h1]at h⊢;by_cases h2:s.size<bAt s 0+1
  ·rw[if_pos h2]at h;exact absurd h (by decide)
  ·rw[if_neg h2];exact⟨by omega,by omega⟩
theorem index0(s:ByteArray)(w:World)(h:0<s.size):(Instr.index 9 (.string s) (iV 0)).run Tryz.prog w=.ok (.int .u8 (bAt s 0:Int)) w:=by
 rw[run_index_string (w:=w) 9 s .i64 0 Tryz.underlying9];simp[h,zAm]
theorem zR9(hEnv:Env w0 F ad st)(h:CRep F base w b e g S)(hH:Holds e S [] [])(hpg:Eng.Pegs e)(hB:Below w0.heap.size w0 w)(t:List UInt8)(hT:Taking (e.wr (e.rest++t)) (e.wr (e.rest++t)))(hsm:e.all.length+(e.rest++t).length≤99999999):
 Cl 40 #[iP b,.string (ba t)] w fun en w'=>en=rV #[]∧Hid (Cend F base w b g (Eng.steps (e.rest++t).length (e.wr (e.rest++t))) w'∧Below w0.heap.size w0 w'):=by
 have c5:w.cell? (iA b 5)=some (.string (ba e.rest)):=h.cell 5;have HC0:Hid (Ctk F base w0 w b g (e.wr (e.rest++t)) e.rest (e.wr (e.rest++t)) w):=⟨hT,hpg.cong rfl,⟨g,S,h,hH,Touch.refl F w,rfl,rfl⟩,hB,hsm⟩;have HENV:=hid hEnv;have HUP:=hid h.up;have HOWN:=hid h.own;have hcat:ba e.rest++ba t=ba (e.rest++t):=by
  apply ByteArray.ext;simp[ba]
 have hs1:(ba t).size≤1000000000:=by rw[zA3];rw[List.length_append]at hsm;omega
 have hs2:(ba e.rest).size≤1000000000:=by rw[zA3];rw[List.length_append]at hsm;omega
 clear h hH hpg hB hT hsm hEnv;go_enter Tryz.func40,Tryz.ntmps40;go_wp2_with fail
 go_loopg [1] (e.rest++t).length (fun k tv wr=> ∃E,k=E.rest.length∧tv=.string (ba E.rest)∧Ctk F base w0 w b g (e.wr (e.rest++t)) e.rest E wr)
 case atStart=>exact⟨e.wr (e.rest++t),rfl,rfl,HC0.out⟩
 case round=>
  clear HC0 c5 hcat;obtain⟨E,rfl,rfl,hc⟩:=hrel;have HC:=hid hc;have HD:=hid (zR7 HENV.out hc);clear hc;go_wp2_with fail;refine HD.mono ?_;rintro en w1 ⟨err,rfl,hcase,HC1⟩;clear HD HC;rcases hcase with⟨h4,rfl⟩|⟨h5,rfl⟩|⟨h0,rfl⟩
  ·have HDN:Hid (Eng.steps (e.rest++t).length (e.wr (e.rest++t))=E):=HC1.1.done h4;clear h4;generalize nextK (ba E.rest)=K at *;generalize nextV (ba E.rest)=V at *;generalize nextB (ba E.rest)=N at *;have HC2:Hid (Ctk F base w0 w b g (e.wr (e.rest++t)) e.rest E (w1.alloc (.cells #[iV K,iV (V 0),iV (V 1),iV (V 2),iV (V 3),iV (V 4),iV (V 5),iV (V 6),iV (V 7),iV (V 8)] 102))):=HC1.below ((Below.refl _ _).alloc (Nat.le_refl _) _);have e3:=(HENV.at HC2.2.2.2.1).1.c3;clear HC1;go_wp2_with fail;generalize w1.alloc (.cells #[iV K,iV (V 0),iV (V 1),iV (V 2),iV (V 3),iV (V 4),iV (V 5),iV (V 6),iV (V 7),iV (V 8)] 102)=W at *;refine(zFg (ad 3) W).mono ?_;rintro en w2 ⟨rfl,rfl⟩;have HCL:=hid HC2.clone;clear e3;go_wp2_with fail;refine HCL.mono ?_;rintro en w3 ⟨rfl,b5,fb5,HZ⟩;clear HCL HC2;go_wp2;go_end0;refine⟨rfl,?_⟩;have hz:=HZ.out;rw[HDN.out]
   exact⟨hz.1,zCc hz.2 ((Touch.refl F _).set b 5 _ HOWN.out) HENV.far hz.2.size⟩
  ·have HRJ:=hid (fun W (hW:Ctk F base w0 w b g (e.wr (e.rest++t)) e.rest E W)=>hW.reject h5 HENV.far);have HH5:=hid h5;obtain⟨hm,hs0⟩:=zR8 _ h5;have hix:=fun W=>index0 (ba E.rest) W hs0
   have hb0:=zAs (ba E.rest) 0;have hmb:=zDp (ba E.rest) (by omega);have hwm:wrap64 (1+(bAt (ba E.rest) 0:Int))=nextM (ba E.rest):=by unfold wrap64;omega
   have hwm2:IntKind.i64.wrap (bAt (ba E.rest) 0:Int)=(bAt (ba E.rest) 0:Int):=zA8 _ (by omega) (by omega);have hcut: ∀W,(Instr.slice 9 (.string (ba E.rest)) (sI (nextM (ba E.rest))) none none).run Tryz.prog W=.ok (.string ⟨(E.rest.drop (nextM (ba E.rest)).toNat).toArray⟩) W:=fun W=>by
    have:=zJ E.rest (nextM (ba E.rest)).toNat W (by have:=hmb.2;rw[zA3]at this;omega);rw[Int.toNat_of_nonneg (by omega)]at this;exact this
   have HNXT:Hid (∀W,Ctk F base w0 w b g (e.wr (e.rest++t)) e.rest E.frame.follow W→(Value.string ⟨(E.rest.drop (nextM (ba E.rest)).toNat).toArray⟩=.string (ba E.frame.follow.rest))∧E.frame.follow.rest.length<E.rest.length):=fun W hW=>by
    have hk:=(Eng.step_more HC1.1.inv).2.1;refine⟨by rw[hk.rest];rfl,?_⟩;exact(HC1.1.step (by omega)).2
   have HPG:=hid (fun W hp hC hB=>Ctk.pegs (base:=base) (b:=b) (g:=g) (r0:=e.rest) (w1:=W) HENV.out HC1.1 (by omega) hp hC hB HUP.out HC1.2.2.2.2);clear h5 hs0 hb0 hmb hm;generalize nextK (ba E.rest)=K at *;generalize nextV (ba E.rest)=V at *;generalize nextB (ba E.rest)=N at *;have HC2:Hid (Ctk F base w0 w b g (e.wr (e.rest++t)) e.rest E (w1.alloc (.cells #[iV K,iV (V 0),iV (V 1),iV (V 2),iV (V 3),iV (V 4),iV (V 5),iV (V 6),iV (V 7),iV (V 8)] 102))):=HC1.below ((Below.refl _ _).alloc (Nat.le_refl _) _);have e3:=(HENV.at HC2.2.2.2.1).1.c3;clear HC1;go_wp2_with fail;generalize w1.alloc (.cells #[iV K,iV (V 0),iV (V 1),iV (V 2),iV (V 3),iV (V 4),iV (V 5),iV (V 6),iV (V 7),iV (V 8)] 102)=W at *;have hE:=(HENV.at HC2.2.2.2.1).1;obtain⟨ca,ta,hra⟩:=hE.row 4 (by omega);obtain⟨cb,tb,hrb⟩:=hE.row 3 (by omega)
   refine(zDm (ad 4) (ad 3) ca cb ta tb W (hE.ne 4 3 (by omega) (by omega) (by omega)) hra hrb).mono ?_;rintro en w2 ⟨rfl,rfl⟩;have HR2:=hid (HRJ.out _ HC2.out);clear e3 hE hra hrb HRJ HC2;go_wp2_with fail;refine HR2.mono ?_;rintro en w3 ⟨rfl,HZ⟩;have HP2:=hid (HPG.out w3 HZ.1 HZ.2.1 HZ.2.2);clear HPG HR2 HZ;go_wp2_with fail;refine HP2.mono ?_;rintro en w4 ⟨rfl,HC4⟩;clear HP2;have hnx:=HNXT.out w4 HC4.out;have HLT:=hid hnx.2;have heq:=hnx.1;clear hnx;have HEQ:=hid heq;clear heq;go_wp2
   go_roundg E.frame.follow.rest.length
   case rel=>exact⟨E.frame.follow,rfl,HEQ.out,HC4.out⟩
   case measure=>exact HLT.out
  ·have HCY:=hid (fun W (hW:Ctk F base w0 w b g (e.wr (e.rest++t)) e.rest E W)=>hW.carry h0 HENV.far);have hmb:=zDp (ba E.rest) (by omega);have hNB:nextB (ba E.rest)=nextM (ba E.rest):=if_pos h0;have hcut: ∀W,(Instr.slice 9 (.string (ba E.rest)) (sI (nextM (ba E.rest))) none none).run Tryz.prog W=.ok (.string ⟨(E.rest.drop (nextM (ba E.rest)).toNat).toArray⟩) W:=fun W=>by
    have:=zJ E.rest (nextM (ba E.rest)).toNat W (by have:=hmb.2;rw[zA3]at this;omega);rw[Int.toNat_of_nonneg (by omega)]at this;exact this
   have HNXT:Hid (∀W,Ctk F base w0 w b g (e.wr (e.rest++t)) e.rest E.frame.follow W→(Value.string ⟨(E.rest.drop (nextM (ba E.rest)).toNat).toArray⟩=.string (ba E.frame.follow.rest))∧E.frame.follow.rest.length<E.rest.length):=fun W hW=>by
    have hk:=(Eng.step_more HC1.1.inv).2.1;refine⟨by rw[hk.rest];rfl,?_⟩;exact(HC1.1.step (by omega)).2
   have HPG:=hid (fun W hp hC hB=>Ctk.pegs (base:=base) (b:=b) (g:=g) (r0:=e.rest) (w1:=W) HENV.out HC1.1 (by omega) hp hC hB HUP.out HC1.2.2.2.2);rw[hNB];clear h0 hmb hNB;generalize nextK (ba E.rest)=K at *;generalize nextV (ba E.rest)=V at *;have HC2:Hid (Ctk F base w0 w b g (e.wr (e.rest++t)) e.rest E (w1.alloc (.cells #[iV K,iV (V 0),iV (V 1),iV (V 2),iV (V 3),iV (V 4),iV (V 5),iV (V 6),iV (V 7),iV (V 8)] 102))):=HC1.below ((Below.refl _ _).alloc (Nat.le_refl _) _);have e3:=(HENV.at HC2.2.2.2.1).1.c3;have hb1:=heap_alloc_new w1 (.cells #[iV K,iV (V 0),iV (V 1),iV (V 2),iV (V 3),iV (V 4),iV (V 5),iV (V 6),iV (V 7),iV (V 8)] 102);clear HC1;go_wp2_with fail;generalize w1.alloc (.cells #[iV K,iV (V 0),iV (V 1),iV (V 2),iV (V 3),iV (V 4),iV (V 5),iV (V 6),iV (V 7),iV (V 8)] 102)=W at *;have r0:W.cell? (iA w1.heap.size 0)=sI K:=by simp[World.cell?,hb1]
   have r1:W.cell? (iA w1.heap.size 1)=sI (V 0):=by simp[World.cell?,hb1]
   have r2:W.cell? (iA w1.heap.size 2)=sI (V 1):=by simp[World.cell?,hb1]
   have r3:W.cell? (iA w1.heap.size 3)=sI (V 2):=by simp[World.cell?,hb1]
   have r4:W.cell? (iA w1.heap.size 4)=sI (V 3):=by simp[World.cell?,hb1]
   have r5:W.cell? (iA w1.heap.size 5)=sI (V 4):=by simp[World.cell?,hb1]
   have r6:W.cell? (iA w1.heap.size 6)=sI (V 5):=by simp[World.cell?,hb1]
   have r7:W.cell? (iA w1.heap.size 7)=sI (V 6):=by simp[World.cell?,hb1]
   have r8:W.cell? (iA w1.heap.size 8)=sI (V 7):=by simp[World.cell?,hb1]
   have r9:W.cell? (iA w1.heap.size 9)=sI (V 8):=by simp[World.cell?,hb1]
   clear hb1;refine(zR5 (ad 3) W).mono ?_;rintro en w2 ⟨rfl,rfl⟩;have HR2:=hid (HCY.out _ HC2.out);clear e3 HCY HC2;go_wp2_with fail;refine HR2.mono ?_;rintro en w3 ⟨rfl,HZ⟩;have HP2:=hid (HPG.out w3 HZ.1 HZ.2.1 HZ.2.2);clear HPG HR2 HZ r0 r1 r2 r3 r4 r5 r6 r7 r8 r9;go_wp2_with fail;refine HP2.mono ?_;rintro en w4 ⟨rfl,HC4⟩;clear HP2;have hnx:=HNXT.out w4 HC4.out;have HLT:=hid hnx.2;have heq:=hnx.1;clear hnx;have HEQ:=hid heq;clear heq;go_wp2
   go_roundg E.frame.follow.rest.length
   case rel=>exact⟨E.frame.follow,rfl,HEQ.out,HC4.out⟩
   case measure=>exact HLT.out
end
section
variable {F:Nat→Prop} {base:Nat} {w w0:World} {b:Nat} {e:Eng} {g:Gh} {S:Sets} {ad:Nat→Addr} {st:Nat→ByteArray}
def Eng.hush(e:Eng):Eng:={ e with out:=[] }
theorem CRep.hush(h:CRep F base w b e g S):CRep F base (w.setCell (iA b 7) (.slice none 0 0)) b e.hush { g with txt:=.slice none 0 0 } S:=by
 have hb:=zA7 w b 7 (.slice none 0 0) _ _ _ h.blk;have oth: ∀k,k≠b→(w.setCell (iA b 7) (.slice none 0 0)).heap[k]? =w.heap[k]? :=fun k hk=>Below.heap_setCell _ _ _ _ hk
 have hB:=h.body.keep (w':=w.setCell (iA b 7) (.slice none 0 0)) fun k hk h1 h2=>oth k (fun e1=>h2 _ _ (e1▸h.blk))
 refine⟨by rw[hb];rfl,h.own,fun k hk=>h.up k (by simpa using hk),by simpa using h.low,⟨World.ownsRow_nil _ _ _ _,fun q hq=>by simp[Value.ownBlock]at hq⟩,⟨hB.day,hB.oth,hB.ended,hB.buyB,hB.selB,hB.buy,hB.sel,hB.maps,hB.ord,hB.inj,hB.drw,hB.dls,hB.fd,hB.fo⟩,fun i hi=>by have:=h.old i hi;show g.blk i<_;simpa using this,h.fb⟩
theorem zRa(h:CRep F base w b e g S):Cl 41 #[.pointer (some (iA b 6))] w fun en w'=>en=.returned (.string (ba e.out))∧Hid (CRep F base w' b e.hush { g with txt:=.slice none 0 0 } S∧Touch F w w'):=by
 have c7:w.cell? (iA b 7)=some g.txt:=h.cell 7;have f7:=h.froz 7;have HZ:Hid (CRep F base (w.setCell (iA b 7) (.slice none 0 0)) b e.hush { g with txt:=.slice none 0 0 } S∧Touch F w (w.setCell (iA b 7) (.slice none 0 0))):=⟨h.hush,(Touch.refl F w).set b 7 _ h.own⟩;have hrow:=h.txt.row;by_cases h0:e.out.length=0
 ·have ho:=List.length_eq_zero_iff.1 h0;have HO:Hid (ba e.out=⟨#[]⟩):=by show _=_;rw[ho];rfl
  rcases hrow.2 with⟨hv,_⟩|⟨d,cap,cur,hv,hg,hh,r⟩
  ·rw[hv]at c7;have hcv:(convert 107 9 (.slice none 0 0)).run Tryz.prog w=.ok (.string ⟨#[]⟩) w:=by kernel_rfl
   go_enter Tryz.func41,Tryz.ntmps41;go_wp2;go_ret;exact⟨by rw[HO.out];rfl,HZ⟩
  ·rw[hv,h0]at c7;have hcv:(convert 107 9 (sL d 0 cap)).run Tryz.prog w=.ok (.string ⟨#[]⟩) w:=by kernel_rfl
   go_enter Tryz.func41,Tryz.ntmps41;go_wp2;go_ret;exact⟨by rw[HO.out];rfl,HZ⟩
 ·obtain⟨hcv,d,c,hv⟩:=zDu w base g.txt e.out.length e.out hrow rfl (by omega);rw[hv]at c7 hcv;generalize e.out.length=n at *;go_enter Tryz.func41,Tryz.ntmps41;go_wp2;go_ret;exact⟨rfl,HZ⟩
theorem zRb(hEnv:Env w0 F ad st)(h:CRep F base w b e g S)(hH:Holds e S [] [])(hpg:Eng.Pegs e)(hout:e.out= [])(hB:Below w0.heap.size w0 w)(t:List UInt8)(hT:Taking (e.begin_ t) (e.begin_ t))(hsm:e.all.length+(e.rest++t).length≤99999999):
 Cl 22 #[iP b,.string (ba t)] w fun en w'=>en=.returned (.string (ba (e.apply t).out))∧Hid (Cend F base w b g (e.apply t).hush w'∧Below w0.heap.size w0 w'):=by
 have he:e.begin_ t=e.wr (e.rest++t):=by
  unfold Eng.begin_ Eng.wr;rw[←hout]
 have ha:e.apply t=Eng.steps (e.rest++t).length (e.wr (e.rest++t)):=by
  unfold Eng.apply;rw[he,List.length_append]
 rw[he]at hT;have HTB:=hid (zR9 hEnv h hH hpg hB t hT hsm);rw[←ha]at HTB;have HHO:Hid (∀W,Cend F base w b g (e.apply t) W∧Bw w0 W→Cl 41 #[.pointer (some (iA b 6))] W fun en w'=>en=.returned (.string (ba (e.apply t).out))∧Hid (Cend F base w b g (e.apply t).hush w'∧Bw w0 w')):=by
  rintro W ⟨⟨g',S',h1,h2,h3,h4,h5⟩,hBW⟩;refine(zRa h1).mono ?_;rintro en w' ⟨rfl,hz⟩;obtain⟨q1,q2⟩:=hz.out;exact⟨rfl,⟨_,S',q1,h2.cong rfl,h3.trans q2,h4,h5⟩,zCc hBW q2 hEnv.far hBW.size⟩
 clear h hH hpg hout hB hT hsm hEnv he ha;generalize e.apply t=e9 at *;go_enter Tryz.func22,Tryz.ntmps22;go_wp2_with fail;refine HTB.mono ?_;rintro en w1 ⟨rfl,HZ⟩;have HH:=hid (HHO.out w1 HZ.out);clear HHO HTB HZ;go_wp2_with fail;refine HH.mono ?_;rintro en w2 ⟨rfl,HY⟩;go_wp2;go_ret;exact⟨rfl,HY⟩
end
theorem zB0{e:TypeId}{size:Nat}{v:Value}(h:w.ownsRow B e size v n xs)(hb: ∀q,v.ownBlock=some q→w'.heap[q]? =w.heap[q]?):w'.ownsRow B e size v n xs:=by
 refine⟨h.1,?_⟩;rcases h.2 with h2|⟨g,cap,cur,hv,hg,hh,r⟩
 ·exact .inl h2
 ·exact .inr ⟨g,cap,cur,hv,hg,by rw[hb g (by rw[hv];rfl)];exact hh,r⟩
theorem CRep.move{e:Eng}{g:Gh}{S:Sets}(h:CRep F base w b e g S)(hs:w.heap.size≤w'.heap.size)(hk: ∀k,k<w.heap.size→F k→w'.heap[k]? =w.heap[k]? ∧G k)(hu: ∀k,w'.heap.size≤k→G k):CRep G base w' b e g S:=by
 have C:=h.body;have hm: ∀{V:Type} {E:Elem V} {m:Nat} {l:List (Int×V)},PM E Tryz.prog 3 w m l→F m→PM E Tryz.prog 3 w' m l:=fun hp hF=>hp.of_block (hk _ hp.lt hF).1
 have hc: ∀{k:Nat} {o:Obj},w.heap[k]? =some o→F k→w'.heap[k]? =some o∧G k:=fun hq hF=>by
  obtain⟨h1,h2⟩:=hk _ (Array.getElem?_eq_some_iff.1 hq).1 hF;exact⟨h1.trans hq,h2⟩
 have hr: ∀{t:TypeId} {s:Nat} {v:Value} {n:Nat} {xs:List Value},w.ownsRow base t s v n xs→(∀q,v.ownBlock=some q→F q)→w'.ownsRow base t s v n xs:=fun ho hF=>zB0 ho fun q hq=>(hk q (ho.lt q hq).2 (hF q hq)).1
 obtain⟨f1,f2,f3,f4,f5,f6⟩:=C.fd;exact⟨(hc h.blk h.own).1,(hc h.blk h.own).2,hu,Nat.le_trans h.low hs,⟨hr h.txt.row h.txt.own,fun q hq=>(hk q (h.txt.lt q hq) (h.txt.own q hq)).2⟩,
  ⟨hm C.day f1,hm C.oth f2,hm C.ended f3,(hc C.buyB h.fb.1).1,(hc C.selB h.fb.2.1).1,hm C.buy f4,hm C.sel f5,C.maps,fun i o ho hst=>(hc (C.ord i o ho hst) (C.fo i (List.getElem?_eq_some_iff.1 ho).1)).1,C.inj,(hc C.drw f6).1,hr C.dls h.fb.2.2,
   ⟨(hk _ C.day.lt f1).2,(hk _ C.oth.lt f2).2,(hk _ C.ended.lt f3).2,(hk _ C.buy.lt f4).2,(hk _ C.sel.lt f5).2,(hc C.drw f6).2⟩,fun i hi=>(hk _ (h.old i hi) (C.fo i hi)).2⟩,
  fun i hi=>Nat.lt_of_lt_of_le (h.old i hi) hs,(hc C.buyB h.fb.1).2,(hc C.selB h.fb.2.1).2,fun q hq=>(hk q (C.dls.lt q hq).2 (h.fb.2.2 q hq)).2⟩
theorem RefRep.move{e:Eng}(h:RefRep F base w b e dv av)(hd: ∀q,dv.ownBlock=some q→F q)(hs:w.heap.size≤w'.heap.size)(hk: ∀k,k<w.heap.size→F k→w'.heap[k]? =w.heap[k]? ∧G k)(hu: ∀k,w'.heap.size≤k→G k):RefRep G base w' b e dv av:=by
 have hb:=hk b h.lt h.own;exact⟨hb.1.trans h.blk,hb.2,hu,Nat.le_trans h.low hs,zB0 h.dr fun q hq=>(hk q (h.dr.lt q hq).2 (hd q hq)).1,zB0 h.al fun q hq=>(hk q (h.al.lt q hq).2 (h.alF q hq)).1,fun q hq=>(hk q (h.al.lt q hq).2 (h.alF q hq)).2⟩
theorem RefRep.wider{e:Eng}(h:RefRep F base w b e dv av)(hFG: ∀k,F k→G k):RefRep G base w b e dv av:=⟨h.blk,hFG _ h.own,fun k hk=>hFG _ (h.up k hk),h.low,h.dr,h.al,fun q hq=>hFG _ (h.alF q hq)⟩
structure Tag where
 v:Option (Nat ⊕ Nat ⊕ Nat ⊕ Nat×Nat)
abbrev Tag.own:Tag:=⟨none⟩
abbrev Tag.code(i:Nat):Tag:=⟨some (.inl i)⟩
abbrev Tag.doc(i:Nat):Tag:=⟨some (.inr (.inl i))⟩
abbrev Tag.dsk(i:Nat):Tag:=⟨some (.inr (.inr (.inl i)))⟩
abbrev Tag.lst(i j:Nat):Tag:=⟨some (.inr (.inr (.inr (i,j))))⟩
structure Duo where
 nb:Nat
 eb:Nat
 db:Nat
 base:Nat
 base2:Nat
 all:ByteArray
 e:Eng
 g:Gh
 S:Sets
 dv:Value
 av:Value
def Duo.cells(p:Duo):List Value:=[.pointer (some ⟨p.nb,0,none⟩),.pointer (some ⟨p.db,0,none⟩),.string p.all]
structure DuoOk(tag:Nat→Tag)(i:Nat)(w:World)(p:Duo):Prop where
 dsk:w.heap[p.nb]? =some (.cells #[.pointer (some ⟨p.eb,0,none⟩),.pointer (some ⟨p.g.drwB,0,none⟩)] 67 (0,0))
 tdsk:tag p.nb=.dsk i
 code:CRep (fun k=>tag k=.code i∨w.heap.size≤k) p.base w p.eb p.e.hush p.g p.S
 doc:RefRep (fun k=>tag k=.doc i∨w.heap.size≤k) p.base2 w p.db p.e p.dv p.av
 tdv: ∀q,p.dv.ownBlock=some q→tag q=.doc i
 holds:Holds p.e p.S [] []
 good:Good p.e p.all.size
theorem DuoOk.move{tag tag':Nat→Tag}{i:Nat}{p:Duo}(h:DuoOk tag i w p)(hs:w.heap.size≤w'.heap.size)(hk: ∀k,k<w.heap.size→(tag k=.code i∨tag k=.doc i∨tag k=.dsk i)→w'.heap[k]? =w.heap[k]? ∧tag' k=tag k):DuoOk tag' i w' p:=by
 have hn:=hk p.nb (Array.getElem?_eq_some_iff.1 h.dsk).1 (.inr (.inr h.tdsk));refine⟨hn.1.trans h.dsk,hn.2.trans h.tdsk,h.code.move hs (fun k hlt hF=>?_) (fun k hk=>.inr hk),h.doc.move (fun q hq=>.inl (h.tdv q hq)) hs (fun k hlt hF=>?_) (fun k hk=>.inr hk),fun q hq=>?_,h.holds,h.good⟩
 ·have ht:tag k=.code i:=hF.resolve_right (by omega);obtain⟨h1,h2⟩:=hk k hlt (.inl ht);exact⟨h1,.inl (h2.trans ht)⟩
 ·have ht:tag k=.doc i:=hF.resolve_right (by omega);obtain⟨h1,h2⟩:=hk k hlt (.inr (.inl ht));exact⟨h1,.inl (h2.trans ht)⟩
 ·have ht:=h.tdv q hq;exact(hk q (h.doc.dr.lt q hq).2 (.inr (.inl ht))).2.trans ht
def Cells7(w:World)(g:Nat)(T:TypeId)(m:Nat)(f:Nat→Int):Prop:= ∃cur,w.heap[g]? =some (.cells cur T (0,0))∧7*m≤cur.size∧∀j,j<7*m→cur[j]? =some (.int .i64 (f j))
theorem Cells7.cell{T:TypeId}(h:Cells7 w g T m f)(j:Nat)(hj:j<7*m):w.cell? (iA g j)=sI (f j):=by
 obtain⟨cur,h1,_,h3⟩:=h;simp[World.cell?,h1,h3 j hj]
theorem Cells7.froz{T:TypeId}(h:Cells7 w g T m f)(j:Nat):w.frozen? (iA g j)=false:=by
 obtain⟨cur,h1,_,_⟩:=h;simp[World.frozen?,h1]
theorem Cells7.lt{T:TypeId}(h:Cells7 w g T m f):g<w.heap.size:=by
 obtain⟨cur,h1,_⟩:=h;exact(Array.getElem?_eq_some_iff.1 h1).1
theorem Cells7.of_block{T:TypeId}(h:Cells7 w g T m f)(e:w'.heap[g]? =w.heap[g]?):Cells7 w' g T m f:=by
 obtain⟨cur,h1,h2⟩:=h;exact⟨cur,e.trans h1,h2⟩
theorem Cells7.set{T:TypeId}(h:Cells7 w g T m f)(o:Nat)(x:Int):Cells7 (w.setCell (iA g o) (iV x)) g T m (fun j=>if j=o then x else f j):=by
 obtain⟨cur,h1,h2,h3⟩:=h;refine⟨_,zA7 _ _ _ _ _ _ _ h1,by simpa using h2,fun j hj=>?_⟩;by_cases e:o=j
 ·subst e;rw[Array.getElem?_setIfInBounds_self_of_lt (by omega)];show some _=some (iV (if o=o then x else f o));rw[if_pos rfl]
 ·rw[Array.getElem?_setIfInBounds_ne e];show _=some (iV (if j=o then x else f j));rw[if_neg (fun e'=>e (Eq.symm e'))];exact h3 j hj
theorem Cells7.cong{T:TypeId}{f':Nat→Int}(h:Cells7 w g T m f)(e: ∀j,j<7*m→f' j=f j):Cells7 w g T m f':=by
 obtain⟨cur,h1,h2,h3⟩:=h;exact⟨cur,h1,h2,fun j hj=>by rw[e j hj];exact h3 j hj⟩
def Half(tag:Nat→Tag)(t:Tag)(T:TypeId)(w:World)(v:Value)(m:Nat)(f:Nat→Int):Prop:= ∃p c,v=.slice p m c∧(m=0∨∃g,p=some ⟨g,0,none⟩∧tag g=t∧Cells7 w g T m f)
theorem Half.nil(tag:Nat→Tag)(t:Tag)(T:TypeId)(w:World)(f:Nat→Int):Half tag t T w (.slice none 0 0) 0 f:=⟨none,0,rfl,.inl rfl⟩
theorem Half.move{tag tag':Nat→Tag}{t:Tag}{T:TypeId}{v:Value}(h:Half tag t T w v m f)(hk: ∀k,k<w.heap.size→tag k=t→w'.heap[k]? =w.heap[k]? ∧tag' k=tag k):Half tag' t T w' v m f:=by
 obtain⟨p,c,h1,h2⟩:=h;refine⟨p,c,h1,?_⟩;rcases h2 with h2|⟨g,h2,ht,h3⟩
 ·exact .inl h2
 ·obtain⟨a,b⟩:=hk g h3.lt ht;exact .inr ⟨g,h2,b.trans ht,h3.of_block a⟩
def ListOk(tag:Nat→Tag)(i:Nat)(w:World)(r q s t:Value):Prop:= ∃m f m' f',m≤1000000000∧m'≤1000000000∧Half tag (.lst i 0) 73 w r m f∧Half tag (.lst i 1) 73 w q m f∧Half tag (.lst i 2) 48 w s m' f'∧Half tag (.lst i 3) 48 w t m' f'
theorem ListOk.move{tag tag':Nat→Tag}{i:Nat}{r q s t:Value}(h:ListOk tag i w r q s t)(hk: ∀k j,k<w.heap.size→tag k=.lst i j→w'.heap[k]? =w.heap[k]? ∧tag' k=tag k):ListOk tag' i w' r q s t:=by
 obtain⟨m,f,m',f',a,b,h1,h2,h3,h4⟩:=h;exact⟨m,f,m',f',a,b,h1.move fun k=>hk k 0,h2.move fun k=>hk k 1,h3.move fun k=>hk k 2,h4.move fun k=>hk k 3⟩
def ListsOk(tag:Nat→Tag)(w:World)(xs:List Value)(n:Nat):Prop:= ∀i,i<n→∃r q s t,xs[4*i]? =some r∧xs[4*i+1]? =some q∧xs[4*i+2]? =some s∧xs[4*i+3]? =some t∧ListOk tag i w r q s t
theorem ListsOk.move{tag tag':Nat→Tag}(h:ListsOk tag w xs n)(hk: ∀k i j,k<w.heap.size→tag k=.lst i j→w'.heap[k]? =w.heap[k]? ∧tag' k=tag k):ListsOk tag' w' xs n:=fun i hi=>by
 obtain⟨r,q,s,t,h1,h2,h3,h4,h5⟩:=h i hi;exact⟨r,q,s,t,h1,h2,h3,h4,h5.move fun k=>hk k i⟩
theorem ListsOk.nil(tag:Nat→Tag)(w:World):ListsOk tag w [] 0:=fun i h=>absurd h (Nat.not_lt_zero i)
theorem ListsOk.snoc{tag:Nat→Tag}(h:ListsOk tag w xs n)(hl:xs.length=n*4){r q s t:Value}(hr:ListOk tag n w r q s t):ListsOk tag w (xs++ [r,q,s,t]) (n+1):=fun i hi=>by
 by_cases e:i<n
 ·obtain⟨r',q',s',t',h1,h2,h3,h4,h5⟩:=h i e;refine⟨r',q',s',t',?_,?_,?_,?_,h5⟩
  ·rw[List.getElem?_append_left (by omega)];exact h1
  ·rw[List.getElem?_append_left (by omega)];exact h2
  ·rw[List.getElem?_append_left (by omega)];exact h3
  ·rw[List.getElem?_append_left (by omega)];exact h4
 ·have:i=n:=by omega
  subst this;refine⟨r,q,s,t,?_,?_,?_,?_,hr⟩
  ·rw[List.getElem?_append_right (by omega),show 4*i - xs.length=0 by omega];rfl
  ·rw[List.getElem?_append_right (by omega),show 4*i+1 - xs.length=1 by omega];rfl
  ·rw[List.getElem?_append_right (by omega),show 4*i+2 - xs.length=2 by omega];rfl
  ·rw[List.getElem?_append_right (by omega),show 4*i+3 - xs.length=3 by omega];rfl
end
end Go.Proofs.YtanfmhonjpjpoaaGreatDoor
