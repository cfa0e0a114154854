import Derived.Test.YtehmdohpmpbnnaaGreatDoorQ00
import Derived.Test.YtehmdohpmpbnnaaGreatDoorQ03
import Derived.Test.YtehmdohpmpbnnaaGreatDoorQ04
import Derived.Test.YtehmdohpmpbnnaaGreatDoorQ08
import Derived.Test.YtehmdohpmpbnnaaGreatDoorQ10
import Derived.Test.YtehmdohpmpbnnaaGreatDoorQ11
import Derived.Test.YtehmdohpmpbnnaaGreatDoorQ12
import Derived.Test.YtehmdohpmpbnnaaGreatDoorQ21
import Derived.Test.YtehmdohpmpbnnaaGreatDoorQ34
import Derived.Test.YtehmdohpmpbnnaaGreatDoorQ37
import Derived.Deep.LoopGhost
import Derived.Laws.IdiomStrings
set_option linter.all false
set_option maxRecDepth 100000
set_option maxHeartbeats 8000000
namespace Go.Proofs.YtehmdohpmpbnnaaGreatDoor
variable{w w' w1 wr w2 w3:World}{n g m B base b size:Nat}{xs xs':List Value}{f:Nat→Int}{r0:List UInt8}{v dv av v':Value}{F G:Nat→Prop}{ad:Nat→Addr}{st:Nat→ByteArray}
open Go.Proofs.Tryz
section
open Go.Extern Go.RowKit
def oG(s:ByteArray):Int:=if jy s=0 then tq s else 0
theorem oH(a:Nat→Addr)(st:Nat→ByteArray)(s:ByteArray)(w:World)(hE:lq w a st)(hW:qx w)(hm:s.size≤1000000000):
 Cl 55 #[.string s] w fun e w'=> ∃err,e=rV #[dD (qm s) (ku s),iV (oG s),err]∧gV a err (jy s)∧Below w.heap.size w w':=by
 refine(zKs a st s w hE hW hm).mono ?_;rintro e w' ⟨err,m,A,B,C,D⟩;exact⟨err,by rw[A,C];rfl,B,D⟩
theorem zKt(a:Nat→Addr)(st:Nat→ByteArray)(s:ByteArray)(w:World)(hE:lq w a st)(hW:qx w)(hm:s.size≤1000000000):
 Cl 62 #[.string s] w fun e w'=> ∃err,e=rV #[dD (qm s) (ku s),iV (oG s),err]∧gV a err (jy s)∧Below w.heap.size w w':=by
 have C:=hE.alloc (.cells #[iV 0,iV 0,iV 0,iV 0,iV 0,iV 0,iV 0,iV 0,iV 0,iV 0] 81);have D:=hW.below ((Below.refl _ _).alloc (Nat.le_refl _) (.cells #[iV 0,iV 0,iV 0,iV 0,iV 0,iV 0,iV 0,iV 0,iV 0,iV 0] 81));go_enter func62,ntmps62;go_wp2_with fail;refine(oH a st s _ C D hm).mono ?_;rintro e g ⟨err,rfl,E,A⟩;have B:=hid E;have R:=hid (((Below.refl _ _).alloc (Nat.le_refl _) _).trans (A.mono (by simp)));have f:w.heap.size<g.heap.size:=by have:=A.size;simp at this;omega
 have F:=(A.cell (p:=(iA w.heap.size 0)) (by simp)).trans (show _=sI 0 by simp);have S:=(A.frozen (p:=(iA w.heap.size 0)) (by simp)).trans (show _=false by simp);have G:=(A.cell (p:=(iA w.heap.size 1)) (by simp)).trans (show _=sI 0 by simp);have T:=(A.frozen (p:=(iA w.heap.size 1)) (by simp)).trans (show _=false by simp);have H:=(A.cell (p:=(iA w.heap.size 2)) (by simp)).trans (show _=sI 0 by simp);have U:=(A.frozen (p:=(iA w.heap.size 2)) (by simp)).trans (show _=false by simp);have I:=(A.cell (p:=(iA w.heap.size 3)) (by simp)).trans (show _=sI 0 by simp);have V:=(A.frozen (p:=(iA w.heap.size 3)) (by simp)).trans (show _=false by simp);have J:=(A.cell (p:=(iA w.heap.size 4)) (by simp)).trans (show _=sI 0 by simp);have X:=(A.frozen (p:=(iA w.heap.size 4)) (by simp)).trans (show _=false by simp);have K:=(A.cell (p:=(iA w.heap.size 5)) (by simp)).trans (show _=sI 0 by simp)
 have Y:=(A.frozen (p:=(iA w.heap.size 5)) (by simp)).trans (show _=false by simp);have L:=(A.cell (p:=(iA w.heap.size 6)) (by simp)).trans (show _=sI 0 by simp);have Z:=(A.frozen (p:=(iA w.heap.size 6)) (by simp)).trans (show _=false by simp);have M:=(A.cell (p:=(iA w.heap.size 7)) (by simp)).trans (show _=sI 0 by simp);have b:=(A.frozen (p:=(iA w.heap.size 7)) (by simp)).trans (show _=false by simp);have N:=(A.cell (p:=(iA w.heap.size 8)) (by simp)).trans (show _=sI 0 by simp);have c:=(A.frozen (p:=(iA w.heap.size 8)) (by simp)).trans (show _=false by simp);have O:=(A.cell (p:=(iA w.heap.size 9)) (by simp)).trans (show _=sI 0 by simp);have d:=(A.frozen (p:=(iA w.heap.size 9)) (by simp)).trans (show _=false by simp);go_wp2
 refine bodyPost_ret (v:=.tuple #[dD (qm s) (ku s),iV (oG s),err]) (by simp[results,Tryz.results62,go_sem,F,G,H,I,J,K,L,M,N,O]) rfl ⟨err,rfl,B,kT R _ _ _ _ _ _ _ _ _ _⟩
theorem keep9r(h:Below B w w')(x0 x1 x2 x3 x4 x5 x6 x7 x8:Value):Below B w (((((((((w'.setCell (iA B 0) x0).setCell (iA B 1) x1).setCell (iA B 2) x2).setCell (iA B 3) x3).setCell (iA B 4) x4).setCell (iA B 5) x5).setCell (iA B 6) x6).setCell (iA B 7) x7).setCell (iA B 8) x8):=
 ((((((((h.setCell (Nat.le_refl B) x0).setCell (Nat.le_refl B) x1).setCell (Nat.le_refl B) x2).setCell (Nat.le_refl B) x3).setCell (Nat.le_refl B) x4).setCell (Nat.le_refl B) x5).setCell (Nat.le_refl B) x6).setCell (Nat.le_refl B) x7).setCell (Nat.le_refl B) x8
theorem xZ{t:TypeId}(_hs:w.heap.size<w3.heap.size)(h:Below (w.heap.size+1) (w.alloc (.cells z9 t)) w3)(j:Nat)(hj:j<9):w3.cell? (iA w.heap.size j)=sI 0:=by
 rw[h.cell (p:=(iA w.heap.size j)) (by simp)];have e:j=0∨j=1∨j=2∨j=3∨j=4∨j=5∨j=6∨j=7∨j=8:=by omega
 rcases e with rfl|rfl|rfl|rfl|rfl|rfl|rfl|rfl|rfl<;>simp
theorem yA{t:TypeId}(h:Below (w.heap.size+1) (w.alloc (.cells z9 t)) w3)(j:Nat):w3.frozen? (iA w.heap.size j)=false:=by
 rw[h.frozen (p:=(iA w.heap.size j)) (by simp)];simp
theorem zKu(a:Nat→Addr)(st:Nat→ByteArray)(s:ByteArray)(w:World)(hE:lq w a st)(hW:qx w)(hm:s.size≤1000000000):
 Cl 36 #[.string s] w fun e w'=>e=rV #[iV (qm s),vS (ku s),iV (oG s),iV (jy s)]∧Below w.heap.size w w':=by
 have F:Bw w (w.alloc (.cells z9 27)):=(Below.refl _ _).alloc (Nat.le_refl _) _;have X:=hE.below F;have Y:=hW.below F;go_enter func36,ntmps36;go_wp2_with fail;refine(zKt a st s _ X Y hm).mono ?_;rintro e D ⟨E,rfl,b,Z⟩;have H:Hd (Bw w D):=F.trans (Z.mono (by simp));have S:Hd (Below (w.heap.size+1) (w.alloc (.cells z9 27)) D):=Z.mono (by simp);have Ae:w.heap.size<D.heap.size:=by have:=Z.size;simp at this;omega
 have N:Hd (gV a E (jy s)):=b;generalize hKK:qm s=K at *;generalize hVV:ku s=V at *;generalize hBB:oG s=Bn at *;generalize hEE:jy s=En at *;have O:Hd (qm s=K):=hKK;have U:Hd (ku s=V):=hVV;have L:Hd (oG s=Bn):=hBB;have M:Hd (jy s=En):=hEE;have c:=vU a st E En (-1) (D.alloc (.cells #[iV K,iV (V 0),iV (V 1),iV (V 2),iV (V 3),iV (V 4),iV (V 5),iV (V 6),iV (V 7),iV (V 8)] 81)) (hE.below (fu H _)) (N.is _);have R:Hd (Cl 28 #[E] (D.alloc (.cells #[iV K,iV (V 0),iV (V 1),iV (V 2),iV (V 3),iV (V 4),iV (V 5),iV (V 6),iV (V 7),iV (V 8)] 81)) fun e w'=>e=rV #[iV En,iV (-1)]∧Below (D.alloc (.cells #[iV K,iV (V 0),iV (V 1),iV (V 2),iV (V 3),iV (V 4),iV (V 5),iV (V 6),iV (V 7),iV (V 8)] 81)).heap.size (D.alloc (.cells #[iV K,iV (V 0),iV (V 1),iV (V 2),iV (V 3),iV (V 4),iV (V 5),iV (V 6),iV (V 7),iV (V 8)] 81)) w'):=c;go_wp2_with fail;refine R.mono ?_;rintro e n ⟨rfl,B⟩
 have A4:=(B.cell (p:=(iA D.heap.size 0)) (by simp)).trans (show _=sI K by simp);have A5:=(B.cell (p:=(iA D.heap.size 1)) (by simp)).trans (show _=sI (V 0) by simp);have A6:=(B.cell (p:=(iA D.heap.size 2)) (by simp)).trans (show _=sI (V 1) by simp);have A7:=(B.cell (p:=(iA D.heap.size 3)) (by simp)).trans (show _=sI (V 2) by simp);have A8:=(B.cell (p:=(iA D.heap.size 4)) (by simp)).trans (show _=sI (V 3) by simp);have A9:=(B.cell (p:=(iA D.heap.size 5)) (by simp)).trans (show _=sI (V 4) by simp);have Aa:=(B.cell (p:=(iA D.heap.size 6)) (by simp)).trans (show _=sI (V 5) by simp);have Ab:=(B.cell (p:=(iA D.heap.size 7)) (by simp)).trans (show _=sI (V 6) by simp);have Ac:=(B.cell (p:=(iA D.heap.size 8)) (by simp)).trans (show _=sI (V 7) by simp);have Ad:=(B.cell (p:=(iA D.heap.size 9)) (by simp)).trans (show _=sI (V 8) by simp)
 have Af:w.heap.size+1≤n.heap.size:=by have:=B.size;simp at this;omega
 have I:Hd (Bw w n):=(fu H _).trans (B.mono (by simp;omega));have T:Hd (Below (w.heap.size+1) (w.alloc (.cells z9 27)) n):=(S.alloc (by omega) _).trans (B.mono (by simp;omega));go_wp2_with fail;refine(zEn K V _).mono ?_;rintro e q ⟨rfl,G⟩;have C:w.heap.size<q.heap.size:=by have:=G.size;omega
 have J:Hd (Bw w q):=I.trans (G.mono (by omega));have A:Hd (Below (w.heap.size+1) (w.alloc (.cells z9 27)) q):=T.trans (G.mono (by omega));have d:=xZ C A 0 (by omega);have t:=yA A 0;have f:=xZ C A 1 (by omega);have u:=yA A 1;have g:=xZ C A 2 (by omega);have x:=yA A 2;have h:=xZ C A 3 (by omega);have y:=yA A 3;have i:=xZ C A 4 (by omega);have z:=yA A 4;have j:=xZ C A 5 (by omega);have A0:=yA A 5;have k:=xZ C A 6 (by omega);have A1:=yA A 6;have l:=xZ C A 7 (by omega);have A2:=yA A 7;have m:=xZ C A 8 (by omega);have A3:=yA A 8;go_wp2_with fail;go_region;all_goals(try go_wp2)
 all_goals
  refine bodyPost_ret (v:=.tuple #[iV K,vS V,iV Bn,iV En]) (by simp[results,Tryz.results36,go_sem,d,f,g,h,i,j,k,l,m,C]) rfl ⟨by rw[O.o,U.o,L.o,M.o],?_⟩;exact Below.drew (fu (keep9r J _ _ _ _ _ _ _ _ _) _)
end
section
open Go.Extern Go.Maps Go.RowKit
theorem zKv(s:ByteArray)(h:jy s=0):1≤qm s∧qm s≤5:=by
 unfold qm;rw[if_pos h];unfold jy at h;by_cases B:s.size=0
 ·rw[if_pos B]at h;exact absurd h (by decide)
 rw[if_neg B]at h;by_cases C:zw s 0=0
 ·rw[if_pos C]at h;exact absurd h (by decide)
 rw[if_neg C]at h;by_cases D:s.size<zw s 0+1
 ·rw[if_pos D]at h;exact absurd h (by decide)
 rw[if_neg D]at h;by_cases A:okDec s=true
 ·unfold okDec at A;simp at A;omega
 rw[if_neg A]at h;exact absurd h (by decide)
theorem zD7(t:List UInt8):∀(l:List (Nat×Nat)) (a:Nat) (v:Nat→Int),(-2147483648≤v 6∧v 6≤4294967296)→(∀p∈l,p.2≤4)→-2147483648≤reads t a l v 6∧reads t a l v 6≤4294967296
 | [],a,v,hv,_=>hv
 |p::l,a,v,hv,hl=>by
  refine zD7 t l (a+p.2) _ ?_ (fun q hq=>hl q (List.mem_cons_of_mem _ hq));unfold upd;split
  ·have hp:=hl p (List.mem_cons_self ..);have h0:=eX ((t.drop a).take p.2);have h1:=oP ((t.drop a).take p.2) (by rw[List.length_take];omega);unfold rd;split
   ·rename_i hc;have:=hc.2;omega
   omega
  exact hv
theorem zKw(s:ByteArray)(j:Nat):0≤ku s j+2147483648∧ku s j≤4294967296:=by
 by_cases A:j=6
 ·subst A;unfold ku;split
  ·have:=zD7 s.data.toList (terms (zw s 1)) 2 (fun _=>0) ⟨by show -2147483648≤(0:Int);omega,by show(0:Int)≤4294967296;omega⟩ (fun p hp=>by have:=bX _ p hp;omega);omega
  exact⟨by show(0:Int)≤0+2147483648;omega,by show(0:Int)≤4294967296;omega⟩
 have:=kU s j A;omega
theorem zKx(b:Addr)(w:World):Cl 52 #[.nilIface,.iface 309 (.pointer (some b))] w fun e w'=>e=rB false∧w'=w:=by
 have A:(binOp .eql 71 .nilIface (.iface 309 (.pointer (some b)))).run prog w=.ok (.bool false) w:=by kernel_rfl
 go_enter func52,ntmps52;go_wp2;go_ret;exact⟨rfl,rfl⟩
theorem zKy(s:ByteArray)(w:World)(hlim:s.size≤281474976710656):Cl 59 #[.string s] w fun en w'=>en=.returned (.string s)∧Below w.heap.size w w':=by
 have B:=hid (Tryz.stringslite_Clone s w hlim);go_enter func59,ntmps59;go_wp2_with fail;refine B.mono ?_;rintro en D ⟨rfl,C⟩;have A:=hid C;go_wp2;go_ret;exact⟨rfl,A⟩
theorem zD8(l:List UInt8)(m:Nat)(w:World)(h:m≤l.length):
 (Instr.slice 9 (.string (ba l)) (sI (m:Int)) none none).run prog w=.ok (.string ⟨(l.drop m).toArray⟩) w:=by
 have A:m≤(ba l).size:=by rw[zx];exact h
 rw[run_slice_string_from_if w 9 (ba l) .i64 (m:Int) underlying9,if_pos (by omega)]
 congr 2
 apply ByteArray.ext;rw[ByteArray.data_extract];apply Array.toList_inj.1;rw[Array.toList_extract,List.extract_eq_take_drop,Int.toNat_natCast];refine(List.take_of_length_le ?_).trans ?_
 ·rw[zx];simp[ba]
 simp[ba]
section
variable {F:Nat→Prop} {base:Nat} {w w0:World} {b:Nat} {e:bf} {g:Gh} {S:jk}
structure Env(w0:World)(F:Nat→Prop)(ad:Nat→Addr)(st:Nat→ByteArray):Prop where
 errs:lq w0 ad st
 wids:qx w0
 far:∀k,F k→w0.heap.size≤k
theorem Env.at(h:Env w0 F ad st)(hb:Below w0.heap.size w0 w):lq w ad st∧qx w:=⟨h.errs.below hb,h.wids.below hb⟩
theorem fU{a:World}(h:Below B a w)(hT:Touch F w w')(hF:∀k,F k→B≤k)(hB:B≤w.heap.size):Below B a w':=⟨hT.os.trans h.os,hT.tape.trans h.tape,hT.output.trans h.output,Nat.le_trans h.size hT.size,fun k hk=>(hT.block k (Nat.lt_of_lt_of_le hk hB) (fun hc=>by have:=hF k hc;omega)).trans (h.block k hk)⟩
def Ctk(F:Nat→Prop)(base:Nat)(w0 w:World)(b:Nat)(g:Gh)(e0:bf)(r0:List UInt8)(E:bf)(wr:World):Prop:=eF e0 E∧bf.qd E∧eG F base w b g (E.wr r0) wr∧Below w0.heap.size w0 wr∧E.all.length+E.rest.length≤99999999
theorem Room.wrC{E:bf}(h:Room n E.cut)(r:List UInt8):Room n (E.wr r):=⟨h.seq,h.qC,h.out,h.len,h.fD⟩
theorem zD9{E:bf}(h:bf.fe E)(r:List UInt8):bf.fe (E.wr r):=h.vz rfl rfl rfl rfl rfl rfl
theorem Ctk.pegs{e0 E:bf}(hEnv:Env w0 F ad st)(hT:eF e0 E)(hn:jy (ba E.rest)≠4)(hp:bf.qd E.frame)(hC:eG F base w b g (E.frame.wr r0) w1)(hB:Below w0.heap.size w0 w1)(hup:∀k,w.heap.size≤k→F k)(hsm:E.all.length+E.rest.length≤99999999):
 Cl 58 #[iP b] w1 fun en w2=>en=rV #[]∧Hd (Ctk F base w0 w b g e0 r0 E.frame.follow w2):=by
 obtain⟨X,V,I,J,K,L,M⟩:=hC;obtain⟨Z,c,d,f,h,T,A⟩:=hT.mid hn;obtain⟨U,i⟩:=hT.step hn;have N:E.frame.all.length≤100000000:=by
  have B:=(bf.vT hT.inv).2.1.len1;have R:E.cut.all.length=E.all.length:=rfl;omega
 refine(zH2 I (zD9 T r0) J (hp.vz rfl) ⟨A.seq,A.qC,A.out,A.len,A.fD⟩ N).mono ?_;rintro en w2 ⟨rfl,O⟩;obtain⟨t,H,C,D,G⟩:=O.out;rw[bf.follow_wr]at C D;refine⟨rfl,U,hp.follow,⟨_,H,C,D,K.trans G,L,M⟩,fU hB G hEnv.far hB.size,?_⟩;have B:=(bf.kE hT.inv).2.1;have Y:=B.len1;have R:E.cut.all.length=E.all.length:=rfl;omega
theorem eG.below{e':bf}(h:eG F base w b g e' w1)(hb:Below w1.heap.size w1 w2):eG F base w b g e' w2:=by
 obtain⟨C,B,A,D,E,G⟩:=h;exact⟨C,B,A.below hb,D,E.trans (zk A.up hb),G⟩
theorem zPa{a:World}(h:Below a.heap.size a w1)(hb:Below w1.heap.size w1 w2):Below a.heap.size a w2:=zz h hb
theorem Ctk.below{e0 E:bf}(h:Ctk F base w0 w b g e0 r0 E w1)(hb:Below w1.heap.size w1 w2):Ctk F base w0 w b g e0 r0 E w2:=⟨h.1,h.2.1,h.2.2.1.below hb,zz h.2.2.2.1 hb,h.2.2.2.2⟩
theorem Ctk.ny{e0 E:bf}(h:Ctk F base w0 w b g e0 r0 E wr)(h5:jy (ba E.rest)=5)(hF:∀k,F k→w0.heap.size≤k):
 Cl 56 #[iP b,iV 0,iV 1] wr fun en w1=>en=rV #[]∧Hd (bf.qd E.frame∧eG F base w b g (E.frame.wr r0) w1∧Below w0.heap.size w0 w1):=by
 obtain⟨M,O,⟨H,Y,I,J,K,L,B⟩,C,R⟩:=h;have N:jy (ba E.rest)≠4:=by omega
 obtain⟨U,_⟩:=M.mid N;have A:E.frame=E.cut.ny 0 1:=if_pos h5;refine(rG 0 1 I J ((U.mono (by omega)).wrC r0) ⟨by omega,by omega⟩ ⟨by omega,by omega⟩).mono ?_;rintro en w1 ⟨rfl,T⟩;obtain⟨t,G,V,X,D⟩:=T.out;refine⟨rfl,by rw[A];exact O.vz rfl,⟨{ H with txt:=t },G,by rw[A];exact V,by rw[A];exact X,K.trans D,L,B⟩,fU C D hF C.size⟩
theorem Ctk.carry{e0 E:bf}(h:Ctk F base w0 w b g e0 r0 E wr)(h0:jy (ba E.rest)=0)(hF:∀k,F k→w0.heap.size≤k):
 Cl 57 #[iP b,.agg #[iV (qm (ba E.rest)),iV (ku (ba E.rest) 0),iV (ku (ba E.rest) 1),iV (ku (ba E.rest) 2),iV (ku (ba E.rest) 3),iV (ku (ba E.rest) 4),iV (ku (ba E.rest) 5),iV (ku (ba E.rest) 6),iV (ku (ba E.rest) 7),iV (ku (ba E.rest) 8)]] wr fun en w1=>en=rV #[]∧Hd (bf.qd E.frame∧eG F base w b g (E.frame.wr r0) w1∧Below w0.heap.size w0 w1):=by
 obtain⟨G,H,⟨l,j,O,R,T,U,C⟩,D,Y⟩:=h;have X:jy (ba E.rest)≠4:=by omega
 obtain⟨c,B,I,m,d,n,p⟩:=G.mid X;have A:E.frame=E.cut.run (qm (ba E.rest)) (ku (ba E.rest)):=if_neg (by omega);refine(zKf (qm (ba E.rest)) (zKv _ h0) O (zD9 G.inv r0) R (H.vz rfl) (kV _) (zKw _) (c.wrC r0) ⟨B.v0,B.v1,B.w0,B.w1⟩ ⟨I.len,I.bd⟩ (by show E.all.length+1≤_;have:E.rest.length≥0:=Nat.zero_le _;omega)).mono ?_;rintro en w1 ⟨rfl,Z⟩;obtain⟨N,M,J,K,L,f,i⟩:=Z.out;have V:(E.wr r0).run (qm (ba E.rest)) (ku (ba E.rest))=E.frame.wr r0:=by
  rw[A,bf.run_wr];show _=((E.wr (E.rest.drop (tq (ba E.rest)).toNat)).run _ _).wr r0;rw[bf.run_wr,bf.wr_wr]
 rw[V]at J K;refine⟨rfl,by rw[A];exact bf.qd.run (e:=E.cut) (H.vz rfl) d _ (kV _),⟨N,M,J,K,T.trans L,f.trans U,i.trans C⟩,fU D L hF D.size⟩
end
section
variable {F:Nat→Prop} {base:Nat} {w w0:World} {b:Nat} {e:bf} {g:Gh} {S:jk} {ad:Nat→Addr} {st:Nat→ByteArray}
theorem zKz{e0 E:bf}(hEnv:Env w0 F ad st)(h:Ctk F base w0 w b g e0 r0 E wr):
 Cl 55 #[.string (ba E.rest)] wr fun en w1=> ∃err,en=rV #[.agg #[iV (qm (ba E.rest)),iV (ku (ba E.rest) 0),iV (ku (ba E.rest) 1),iV (ku (ba E.rest) 2),iV (ku (ba E.rest) 3),iV (ku (ba E.rest) 4),iV (ku (ba E.rest) 5),iV (ku (ba E.rest) 6),iV (ku (ba E.rest) 7),iV (ku (ba E.rest) 8)],iV (oG (ba E.rest)),err]∧((jy (ba E.rest)=4∧err=.iface 309 (.pointer (some (ad 3))))∨(jy (ba E.rest)=5∧err=.iface 309 (.pointer (some (ad 4))))∨(jy (ba E.rest)=0∧err=.nilIface))∧Hd (Ctk F base w0 w b g e0 r0 E w1):=by
 obtain⟨H,I⟩:=hEnv.at h.2.2.2.1;refine(oH ad st (ba E.rest) wr H I (by rw[zx];have:=h.2.2.2.2;omega)).mono ?_;rintro en w1 ⟨err,rfl,D,G⟩;refine⟨err,rfl,?_,h.below G⟩;rcases D with⟨C,B⟩|⟨k,C,B,J⟩
 ·exact .inr (.inr ⟨B,C⟩)
 rcases zEu (ba E.rest) with A|A|A
 ·omega
 ·left;have:k=3:=by omega
  subst this;exact⟨A,B⟩
 right;left;have:k=4:=by omega
 subst this;exact⟨A,B⟩
theorem Ctk.clone{e0 E:bf}(h:Ctk F base w0 w b g e0 r0 E wr):
 Cl 59 #[.string (ba E.rest)] wr fun en w1=>en=.returned (.string (ba E.rest))∧w1.cell? (iA b 5)=some (.string (ba r0))∧w1.frozen? (iA b 5)=false∧Hd (eG F base w b g E (w1.setCell (iA b 5) (.string (ba E.rest)))∧Below w0.heap.size w0 w1):=by
 refine(zKy (ba E.rest) wr (by rw[zx];have:=h.2.2.2.2;omega)).mono ?_;rintro en w1 ⟨rfl,J⟩;obtain⟨L,M,⟨C,B,A,D,G,H⟩,I,K⟩:=h.below J;refine⟨rfl,A.cell 5,A.dz 5,⟨C,B,?_,D.vz rfl,G.set b 5 _ A.own,H⟩,I⟩;exact A.set 5 _ E (by simp[aF,bf.wr,ba]) rfl rfl rfl rfl
theorem zL(s:ByteArray)(h:jy s=5):tq s=1+(zw s 0:Int)∧0<s.size:=by
 unfold jy at h;by_cases A:s.size=0
 ·rw[if_pos A]at h;exact absurd h (by decide)
 rw[if_neg A]at h;unfold tq;rw[if_neg A];by_cases B:zw s 0=0
 ·rw[if_pos B,B];exact⟨rfl,by omega⟩
 rw[if_neg B]at h⊢;by_cases C:s.size<zw s 0+1
 ·rw[if_pos C]at h;exact absurd h (by decide)
 rw[if_neg C];exact⟨by omega,by omega⟩
theorem index0(s:ByteArray)(w:World)(h:0<s.size):(Instr.index 9 (.string s) (iV 0)).run prog w=.ok (.int .u8 (zw s 0:Int)) w:=by
 rw[run_index_string (w:=w) 9 s .i64 0 underlying9];simp[h,zh]
theorem zL0(hEnv:Env w0 F ad st)(h:dw F base w b e g S)(hH:Holds e S [] [])(hpg:bf.qd e)(hB:Below w0.heap.size w0 w)(t:List UInt8)(hT:eF (e.wr (e.rest++t)) (e.wr (e.rest++t)))(hsm:e.all.length+(e.rest++t).length≤99999999):
 Cl 31 #[iP b,.string (ba t)] w fun en w'=>en=rV #[]∧Hd (eG F base w b g (bf.steps (e.rest++t).length (e.wr (e.rest++t))) w'∧Below w0.heap.size w0 w'):=by
 have c5:w.cell? (iA b 5)=some (.string (ba e.rest)):=h.cell 5;have Z:Hd (Ctk F base w0 w b g (e.wr (e.rest++t)) e.rest (e.wr (e.rest++t)) w):=⟨hT,hpg.vz rfl,⟨g,S,h,hH,Touch.refl F w,rfl,rfl⟩,hB,hsm⟩;have A:=hid hEnv;have j:=hid h.up;have f:=hid h.own;have n:ba e.rest++ba t=ba (e.rest++t):=by
  apply ByteArray.ext;simp[ba]
 have A6:(ba t).size≤1000000000:=by rw[zx];rw[List.length_append]at hsm;omega
 have A7:(ba e.rest).size≤1000000000:=by rw[zx];rw[List.length_append]at hsm;omega
 clear h hH hpg hB hT hsm hEnv;go_enter func31,ntmps31;go_wp2_with fail
 go_loopg [1] (e.rest++t).length (fun k tv wr=> ∃E,k=E.rest.length∧tv=.string (ba E.rest)∧Ctk F base w0 w b g (e.wr (e.rest++t)) e.rest E wr)
 case atStart=>exact⟨e.wr (e.rest++t),rfl,rfl,Z.o⟩
 case round=>
  clear Z c5 n;obtain⟨E,rfl,rfl,hc⟩:=hrel;have HC:=hid hc;have HD:=hid (zKz A.o hc);clear hc;go_wp2_with fail;refine HD.mono ?_;rintro en w1 ⟨A3,rfl,Y,B⟩;clear HD HC;rcases Y with⟨h4,rfl⟩|⟨v,rfl⟩|⟨h0,rfl⟩
  ·have z:Hd (bf.steps (e.rest++t).length (e.wr (e.rest++t))=E):=B.1.done h4;clear h4;generalize qm (ba E.rest)=K at *;generalize ku (ba E.rest)=V at *;generalize oG (ba E.rest)=N at *;have C:Hd (Ctk F base w0 w b g (e.wr (e.rest++t)) e.rest E (w1.alloc (.cells #[iV K,iV (V 0),iV (V 1),iV (V 2),iV (V 3),iV (V 4),iV (V 5),iV (V 6),iV (V 7),iV (V 8)] 81))):=B.below ((Below.refl _ _).alloc (Nat.le_refl _) _);have l:=(A.at C.2.2.2.1).1.c3;clear B;go_wp2_with fail;generalize w1.alloc (.cells #[iV K,iV (V 0),iV (V 1),iV (V 2),iV (V 3),iV (V 4),iV (V 5),iV (V 6),iV (V 7),iV (V 8)] 81)=W at *;refine(zBi (ad 3) W).mono ?_;rintro en w2 ⟨rfl,rfl⟩;have c:=hid C.clone;clear l;go_wp2_with fail;refine c.mono ?_;rintro en y ⟨rfl,b5,A4,O⟩;clear c C;go_wp2;go_end0;refine⟨rfl,?_⟩;have hz:=O.o;rw[z.o];exact⟨hz.1,fU hz.2 ((Touch.refl F _).set b 5 _ f.o) A.far hz.2.size⟩
  ·have i:=hid (fun W (hW:Ctk F base w0 w b g (e.wr (e.rest++t)) e.rest E W)=>hW.ny v A.far);have A2:=hid v;obtain⟨hm,u⟩:=zL _ v;have A5:=fun W=>index0 (ba E.rest) W u
   have A0:=mP (ba E.rest) 0;have T:=xC (ba E.rest) (by omega);have A8:wrap64 (1+(zw (ba E.rest) 0:Int))=tq (ba E.rest):=by unfold wrap64;omega
   have A1:IntKind.i64.wrap (zw (ba E.rest) 0:Int)=(zw (ba E.rest) 0:Int):=aM _ (by omega) (by omega);have p:∀W,(Instr.slice 9 (.string (ba E.rest)) (sI (tq (ba E.rest))) none none).run prog W=.ok (.string ⟨(E.rest.drop (tq (ba E.rest)).toNat).toArray⟩) W:=fun W=>by
    have:=zD8 E.rest (tq (ba E.rest)).toNat W (by have:=T.2;rw[zx]at this;omega);rw[Int.toNat_of_nonneg (by omega)]at this;exact this
   have I:Hd (∀W,Ctk F base w0 w b g (e.wr (e.rest++t)) e.rest E.frame.follow W→(Value.string ⟨(E.rest.drop (tq (ba E.rest)).toNat).toArray⟩=.string (ba E.frame.follow.rest))∧E.frame.follow.rest.length<E.rest.length):=fun W hW=>by
    have hk:=(bf.kE B.1.inv).2.1;refine⟨by rw[hk.rest];rfl,?_⟩;exact(B.1.step (by omega)).2
   have L:=hid (fun W hp hC hB=>Ctk.pegs (base:=base) (b:=b) (g:=g) (r0:=e.rest) (w1:=W) A.o B.1 (by omega) hp hC hB j.o B.2.2.2.2);clear v u A0 T hm;generalize qm (ba E.rest)=K at *;generalize ku (ba E.rest)=V at *;generalize oG (ba E.rest)=N at *;have C:Hd (Ctk F base w0 w b g (e.wr (e.rest++t)) e.rest E (w1.alloc (.cells #[iV K,iV (V 0),iV (V 1),iV (V 2),iV (V 3),iV (V 4),iV (V 5),iV (V 6),iV (V 7),iV (V 8)] 81))):=B.below ((Below.refl _ _).alloc (Nat.le_refl _) _);have l:=(A.at C.2.2.2.1).1.c3;clear B;go_wp2_with fail;generalize w1.alloc (.cells #[iV K,iV (V 0),iV (V 1),iV (V 2),iV (V 3),iV (V 4),iV (V 5),iV (V 6),iV (V 7),iV (V 8)] 81)=W at *;have x:=(A.at C.2.2.2.1).1;obtain⟨ca,ta,q⟩:=x.row 4 (by omega);obtain⟨cb,tb,s⟩:=x.row 3 (by omega);refine(zAm (ad 4) (ad 3) ca cb ta tb W (x.ne 4 3 (by omega) (by omega) (by omega)) q s).mono ?_;rintro en w2 ⟨rfl,rfl⟩;have M:=hid (i.o _ C.o)
   clear l x q s i C;go_wp2_with fail;refine M.mono ?_;rintro en y ⟨rfl,O⟩;have J:=hid (L.o y O.1 O.2.1 O.2.2);clear L M O;go_wp2_with fail;refine J.mono ?_;rintro en w4 ⟨rfl,H⟩;clear J;have G:=I.o w4 H.o;have X:=hid G.2;have R:=G.1;clear G;have U:=hid R;clear R;go_wp2
   go_roundg E.frame.follow.rest.length
   case rel=>exact⟨E.frame.follow,rfl,U.o,H.o⟩
   case measure=>exact X.o
  have d:=hid (fun W (hW:Ctk F base w0 w b g (e.wr (e.rest++t)) e.rest E W)=>hW.carry h0 A.far);have T:=xC (ba E.rest) (by omega);have m:oG (ba E.rest)=tq (ba E.rest):=if_pos h0;have p:∀W,(Instr.slice 9 (.string (ba E.rest)) (sI (tq (ba E.rest))) none none).run prog W=.ok (.string ⟨(E.rest.drop (tq (ba E.rest)).toNat).toArray⟩) W:=fun W=>by
   have:=zD8 E.rest (tq (ba E.rest)).toNat W (by have:=T.2;rw[zx]at this;omega);rw[Int.toNat_of_nonneg (by omega)]at this;exact this
  have I:Hd (∀W,Ctk F base w0 w b g (e.wr (e.rest++t)) e.rest E.frame.follow W→(Value.string ⟨(E.rest.drop (tq (ba E.rest)).toNat).toArray⟩=.string (ba E.frame.follow.rest))∧E.frame.follow.rest.length<E.rest.length):=fun W hW=>by
   have hk:=(bf.kE B.1.inv).2.1;refine⟨by rw[hk.rest];rfl,?_⟩;exact(B.1.step (by omega)).2
  have L:=hid (fun W hp hC hB=>Ctk.pegs (base:=base) (b:=b) (g:=g) (r0:=e.rest) (w1:=W) A.o B.1 (by omega) hp hC hB j.o B.2.2.2.2);rw[m];clear h0 T m;generalize qm (ba E.rest)=K at *;generalize ku (ba E.rest)=V at *;have C:Hd (Ctk F base w0 w b g (e.wr (e.rest++t)) e.rest E (w1.alloc (.cells #[iV K,iV (V 0),iV (V 1),iV (V 2),iV (V 3),iV (V 4),iV (V 5),iV (V 6),iV (V 7),iV (V 8)] 81))):=B.below ((Below.refl _ _).alloc (Nat.le_refl _) _);have l:=(A.at C.2.2.2.1).1.c3;have D:=heap_alloc_new w1 (.cells #[iV K,iV (V 0),iV (V 1),iV (V 2),iV (V 3),iV (V 4),iV (V 5),iV (V 6),iV (V 7),iV (V 8)] 81);clear B;go_wp2_with fail;generalize w1.alloc (.cells #[iV K,iV (V 0),iV (V 1),iV (V 2),iV (V 3),iV (V 4),iV (V 5),iV (V 6),iV (V 7),iV (V 8)] 81)=W at *;have r0:W.cell? (iA w1.heap.size 0)=sI K:=by simp[World.cell?,D]
  have r1:W.cell? (iA w1.heap.size 1)=sI (V 0):=by simp[World.cell?,D]
  have r2:W.cell? (iA w1.heap.size 2)=sI (V 1):=by simp[World.cell?,D]
  have r3:W.cell? (iA w1.heap.size 3)=sI (V 2):=by simp[World.cell?,D]
  have r4:W.cell? (iA w1.heap.size 4)=sI (V 3):=by simp[World.cell?,D]
  have r5:W.cell? (iA w1.heap.size 5)=sI (V 4):=by simp[World.cell?,D]
  have r6:W.cell? (iA w1.heap.size 6)=sI (V 5):=by simp[World.cell?,D]
  have r7:W.cell? (iA w1.heap.size 7)=sI (V 6):=by simp[World.cell?,D]
  have r8:W.cell? (iA w1.heap.size 8)=sI (V 7):=by simp[World.cell?,D]
  have r9:W.cell? (iA w1.heap.size 9)=sI (V 8):=by simp[World.cell?,D]
  clear D;refine(zKx (ad 3) W).mono ?_;rintro en w2 ⟨rfl,rfl⟩;have M:=hid (d.o _ C.o);clear l d C;go_wp2_with fail;refine M.mono ?_;rintro en y ⟨rfl,O⟩;have J:=hid (L.o y O.1 O.2.1 O.2.2);clear L M O r0 r1 r2 r3 r4 r5 r6 r7 r8 r9;go_wp2_with fail;refine J.mono ?_;rintro en w4 ⟨rfl,H⟩;clear J;have G:=I.o w4 H.o;have X:=hid G.2;have R:=G.1;clear G;have U:=hid R;clear R;go_wp2
  go_roundg E.frame.follow.rest.length
  case rel=>exact⟨E.frame.follow,rfl,U.o,H.o⟩
  case measure=>exact X.o
end
section
variable {F:Nat→Prop} {base:Nat} {w w0:World} {b:Nat} {e:bf} {g:Gh} {S:jk} {ad:Nat→Addr} {st:Nat→ByteArray}
def bf.hush(e:bf):bf:={ e with out:=[] }
theorem dw.hush(h:dw F base w b e g S):dw F base (w.setCell (iA b 7) (.slice none 0 0)) b e.hush { g with txt:=.slice none 0 0 } S:=by
 have B:=ja w b 7 (.slice none 0 0) _ _ _ h.blk;have C:∀k,k≠b→(w.setCell (iA b 7) (.slice none 0 0)).heap[k]? =w.heap[k]? :=fun k hk=>Below.heap_setCell _ _ _ _ hk
 have A:=h.body.keep (w':=w.setCell (iA b 7) (.slice none 0 0)) fun k hk h1 h2=>C k (fun e1=>h2 _ _ (e1▸h.blk))
 refine⟨by rw[B];rfl,h.own,fun k hk=>h.up k (by simpa using hk),by simpa using h.low,⟨World.ownsRow_nil _ _ _ _,fun q hq=>by simp[Value.ownBlock]at hq⟩,⟨A.day,A.qf,A.ended,A.wz,A.xg,A.aP,A.sel,A.maps,A.ord,A.inj,A.fD,A.jL,A.fd,A.fo⟩,fun i hi=>by have:=h.old i hi;show g.blk i<_;simpa using this,h.fb⟩
theorem zL1(h:dw F base w b e g S):Cl 32 #[.pointer (some (iA b 6))] w fun en w'=>en=.returned (.string (ba e.out))∧Hd (dw F base w' b e.hush { g with txt:=.slice none 0 0 } S∧Touch F w w'):=by
 have E:w.cell? (iA b 7)=some g.txt:=h.cell 7;have L:=h.dz 7;have D:Hd (dw F base (w.setCell (iA b 7) (.slice none 0 0)) b e.hush { g with txt:=.slice none 0 0 } S∧Touch F w (w.setCell (iA b 7) (.slice none 0 0))):=⟨h.hush,(Touch.refl F w).set b 7 _ h.own⟩;have A:=h.txt.row;by_cases I:e.out.length=0
 ·have K:=List.length_eq_zero_iff.1 I;have H:Hd (ba e.out=⟨#[]⟩):=by show _=_;rw[K];rfl
  rcases A.2 with⟨C,_⟩|⟨d,G,J,C,M,N,r⟩
  ·rw[C]at E;have B:(convert 86 9 (.slice none 0 0)).run prog w=.ok (.string ⟨#[]⟩) w:=by kernel_rfl
   go_enter func32,ntmps32;go_wp2;go_ret;exact⟨by rw[H.o];rfl,D⟩
  rw[C,I]at E;have B:(convert 86 9 (sL d 0 G)).run prog w=.ok (.string ⟨#[]⟩) w:=by kernel_rfl
  go_enter func32,ntmps32;go_wp2;go_ret;exact⟨by rw[H.o];rfl,D⟩
 obtain⟨B,d,c,C⟩:=zAo w base g.txt e.out.length e.out A rfl (by omega);rw[C]at E B;generalize e.out.length=n at *;go_enter func32,ntmps32;go_wp2;go_ret;exact⟨rfl,D⟩
theorem zDa(hEnv:Env w0 F ad st)(h:dw F base w b e g S)(hH:Holds e S [] [])(hpg:bf.qd e)(hout:e.out= [])(hB:Below w0.heap.size w0 w)(t:List UInt8)(hT:eF (e.qc t) (e.qc t))(hsm:e.all.length+(e.rest++t).length≤99999999):
 Cl 18 #[iP b,.string (ba t)] w fun en w'=>en=.returned (.string (ba (e.apply t).out))∧Hd (eG F base w b g (e.apply t).hush w'∧Below w0.heap.size w0 w'):=by
 have D:e.qc t=e.wr (e.rest++t):=by
  unfold bf.qc bf.wr;rw[←hout]
 have G:e.apply t=bf.steps (e.rest++t).length (e.wr (e.rest++t)):=by
  unfold bf.apply;rw[D,List.length_append]
 rw[D]at hT;have A:=hid (zL0 hEnv h hH hpg hB t hT hsm);rw[←G]at A;have B:Hd (∀W,eG F base w b g (e.apply t) W∧Bw w0 W→Cl 32 #[.pointer (some (iA b 6))] W fun en w'=>en=.returned (.string (ba (e.apply t).out))∧Hd (eG F base w b g (e.apply t).hush w'∧Bw w0 w')):=by
  rintro W ⟨⟨X,K,L,M,N,O,R⟩,C⟩;refine(zL1 L).mono ?_;rintro en w' ⟨rfl,T⟩;obtain⟨U,H⟩:=T.out;exact⟨rfl,⟨_,K,U,M.vz rfl,N.trans H,O,R⟩,fU C H hEnv.far C.size⟩
 clear h hH hpg hout hB hT hsm hEnv D G;generalize e.apply t=e9 at *;go_enter func18,ntmps18;go_wp2_with fail;refine A.mono ?_;rintro en V ⟨rfl,E⟩;have I:=hid (B.o V E.o);clear B A E;go_wp2_with fail;refine I.mono ?_;rintro en Y ⟨rfl,J⟩;go_wp2;go_ret;exact⟨rfl,J⟩
end
theorem yB{e:TypeId}(h:w.ownsRow B e size v n xs)(hb:∀q,v.ownBlock=some q→w'.heap[q]? =w.heap[q]?):w'.ownsRow B e size v n xs:=by
 refine⟨h.1,?_⟩;rcases h.2 with E|⟨g,A,C,D,F,G,r⟩
 ·exact .inl E
 exact .inr ⟨g,A,C,D,F,by rw[hb g (by rw[D];rfl)];exact G,r⟩
theorem dw.move{e:bf}{g:Gh}{S:jk}(h:dw F base w b e g S)(hs:w.heap.size≤w'.heap.size)(hk:∀k,k<w.heap.size→F k→w'.heap[k]? =w.heap[k]? ∧G k)(hu:∀k,w'.heap.size≤k→G k):dw G base w' b e g S:=by
 have C:=h.body;have B:∀{V:Type} {E:Elem V} {m:Nat} {l:List (Int×V)},PM E prog 3 w m l→F m→PM E prog 3 w' m l:=fun hp hF=>hp.of_block (hk _ hp.lt hF).1
 have A:∀{k:Nat} {o:Obj},w.heap[k]? =some o→F k→w'.heap[k]? =some o∧G k:=fun hq hF=>by
  obtain⟨N,O⟩:=hk _ (Array.getElem?_eq_some_iff.1 hq).1 hF;exact⟨N.trans hq,O⟩
 have M:∀{t:TypeId} {s:Nat} {v:Value} {n:Nat} {xs:List Value},w.ownsRow base t s v n xs→(∀q,v.ownBlock=some q→F q)→w'.ownsRow base t s v n xs:=fun ho hF=>yB ho fun q hq=>(hk q (ho.lt q hq).2 (hF q hq)).1
 obtain⟨D,H,I,J,K,L⟩:=C.fd;exact⟨(A h.blk h.own).1,(A h.blk h.own).2,hu,Nat.le_trans h.low hs,⟨M h.txt.row h.txt.own,fun q hq=>(hk q (h.txt.lt q hq) (h.txt.own q hq)).2⟩,
  ⟨B C.day D,B C.qf H,B C.ended I,(A C.wz h.fb.1).1,(A C.xg h.fb.2.1).1,B C.aP J,B C.sel K,C.maps,fun i o ho hst=>(A (C.ord i o ho hst) (C.fo i (List.getElem?_eq_some_iff.1 ho).1)).1,C.inj,(A C.fD L).1,M C.jL h.fb.2.2,
   ⟨(hk _ C.day.lt D).2,(hk _ C.qf.lt H).2,(hk _ C.ended.lt I).2,(hk _ C.aP.lt J).2,(hk _ C.sel.lt K).2,(A C.fD L).2⟩,fun i hi=>(hk _ (h.old i hi) (C.fo i hi)).2⟩,
  fun i hi=>Nat.lt_of_lt_of_le (h.old i hi) hs,(A C.wz h.fb.1).2,(A C.xg h.fb.2.1).2,fun q hq=>(hk q (C.jL.lt q hq).2 (h.fb.2.2 q hq)).2⟩
theorem dn.move{e:bf}(h:dn F base w b e dv av)(hd:∀q,dv.ownBlock=some q→F q)(hs:w.heap.size≤w'.heap.size)(hk:∀k,k<w.heap.size→F k→w'.heap[k]? =w.heap[k]? ∧G k)(hu:∀k,w'.heap.size≤k→G k):dn G base w' b e dv av:=by
 have A:=hk b h.lt h.own;exact⟨A.1.trans h.blk,A.2,hu,Nat.le_trans h.low hs,yB h.dr fun q hq=>(hk q (h.dr.lt q hq).2 (hd q hq)).1,yB h.al fun q hq=>(hk q (h.al.lt q hq).2 (h.alF q hq)).1,fun q hq=>(hk q (h.al.lt q hq).2 (h.alF q hq)).2⟩
theorem dn.wider{e:bf}(h:dn F base w b e dv av)(hFG:∀k,F k→G k):dn G base w b e dv av:=⟨h.blk,hFG _ h.own,fun k hk=>hFG _ (h.up k hk),h.low,h.dr,h.al,fun q hq=>hFG _ (h.alF q hq)⟩
structure Tag where
 v:Option (Nat ⊕ Nat ⊕ Nat ⊕ Nat×Nat)
abbrev Tag.own:Tag:=⟨none⟩
abbrev Tag.code(i:Nat):Tag:=⟨some (.inl i)⟩
abbrev Tag.doc(i:Nat):Tag:=⟨some (.inr (.inl i))⟩
abbrev Tag.dsk(i:Nat):Tag:=⟨some (.inr (.inr (.inl i)))⟩
abbrev Tag.lst(i j:Nat):Tag:=⟨some (.inr (.inr (.inr (i,j))))⟩
structure Duo where
 nb:Nat
 eb:Nat
 db:Nat
 base:Nat
 base2:Nat
 all:ByteArray
 e:bf
 g:Gh
 S:jk
 dv:Value
 av:Value
def Duo.cells(p:Duo):List Value:=[.pointer (some ⟨p.nb,0,none⟩),.pointer (some ⟨p.db,0,none⟩),.string p.all]
structure DuoOk(tag:Nat→Tag)(i:Nat)(w:World)(p:Duo):Prop where
 dsk:w.heap[p.nb]? =some (.cells #[.pointer (some ⟨p.eb,0,none⟩),.pointer (some ⟨p.g.dZ,0,none⟩)] 49 (0,0))
 tdsk:tag p.nb=.dsk i
 code:dw (fun k=>tag k=.code i∨w.heap.size≤k) p.base w p.eb p.e.hush p.g p.S
 doc:dn (fun k=>tag k=.doc i∨w.heap.size≤k) p.base2 w p.db p.e p.dv p.av
 tdv:∀q,p.dv.ownBlock=some q→tag q=.doc i
 holds:Holds p.e p.S [] []
 good:Good p.e p.all.size
theorem DuoOk.move{tag tag':Nat→Tag}{i:Nat}{p:Duo}(h:DuoOk tag i w p)(hs:w.heap.size≤w'.heap.size)(hk:∀k,k<w.heap.size→(tag k=.code i∨tag k=.doc i∨tag k=.dsk i)→w'.heap[k]? =w.heap[k]? ∧tag' k=tag k):DuoOk tag' i w' p:=by
 have D:=hk p.nb (Array.getElem?_eq_some_iff.1 h.dsk).1 (.inr (.inr h.tdsk));refine⟨D.1.trans h.dsk,D.2.trans h.tdsk,h.code.move hs (fun k hlt hF=>?_) (fun k hk=>.inr hk),h.doc.move (fun q hq=>.inl (h.tdv q hq)) hs (fun k hlt hF=>?_) (fun k hk=>.inr hk),fun q hq=>?_,h.holds,h.good⟩
 ·have A:tag k=.code i:=hF.resolve_right (by omega);obtain⟨B,C⟩:=hk k hlt (.inl A);exact⟨B,.inl (C.trans A)⟩
 ·have A:tag k=.doc i:=hF.resolve_right (by omega);obtain⟨B,C⟩:=hk k hlt (.inr (.inl A));exact⟨B,.inl (C.trans A)⟩
 have A:=h.tdv q hq;exact(hk q (h.doc.dr.lt q hq).2 (.inr (.inl A))).2.trans A
def vw(w:World)(g:Nat)(T:TypeId)(m:Nat)(f:Nat→Int):Prop:= ∃cur,w.heap[g]? =some (.cells cur T (0,0))∧7*m≤cur.size∧∀j,j<7*m→cur[j]? =some (.int .i64 (f j))
theorem vw.cell{T:TypeId}(h:vw w g T m f)(j:Nat)(hj:j<7*m):w.cell? (iA g j)=sI (f j):=by
 obtain⟨A,B,_,C⟩:=h;simp[World.cell?,B,C j hj]
theorem vw.dz{T:TypeId}(h:vw w g T m f)(j:Nat):w.frozen? (iA g j)=false:=by
 obtain⟨A,B,_,_⟩:=h;simp[World.frozen?,B]
theorem vw.lt{T:TypeId}(h:vw w g T m f):g<w.heap.size:=by
 obtain⟨A,B,_⟩:=h;exact(Array.getElem?_eq_some_iff.1 B).1
theorem vw.of_block{T:TypeId}(h:vw w g T m f)(e:w'.heap[g]? =w.heap[g]?):vw w' g T m f:=by
 obtain⟨A,B,C⟩:=h;exact⟨A,e.trans B,C⟩
theorem vw.set{T:TypeId}(h:vw w g T m f)(o:Nat)(x:Int):vw (w.setCell (iA g o) (iV x)) g T m (fun j=>if j=o then x else f j):=by
 obtain⟨A,B,C,D⟩:=h;refine⟨_,ja _ _ _ _ _ _ _ B,by simpa using C,fun j hj=>?_⟩;by_cases e:o=j
 ·subst e;rw[Array.getElem?_setIfInBounds_self_of_lt (by omega)];show some _=some (iV (if o=o then x else f o));rw[if_pos rfl]
 rw[Array.getElem?_setIfInBounds_ne e];show _=some (iV (if j=o then x else f j));rw[if_neg (fun e'=>e (Eq.symm e'))];exact D j hj
theorem vw.vz{T:TypeId}{f':Nat→Int}(h:vw w g T m f)(e:∀j,j<7*m→f' j=f j):vw w g T m f':=by
 obtain⟨A,B,C,D⟩:=h;exact⟨A,B,C,fun j hj=>by rw[e j hj];exact D j hj⟩
def fK(tag:Nat→Tag)(t:Tag)(T:TypeId)(w:World)(v:Value)(m:Nat)(f:Nat→Int):Prop:= ∃p c,v=.slice p m c∧(m=0∨∃g,p=some ⟨g,0,none⟩∧tag g=t∧vw w g T m f)
theorem fK.nil(tag:Nat→Tag)(t:Tag)(T:TypeId)(w:World)(f:Nat→Int):fK tag t T w (.slice none 0 0) 0 f:=⟨none,0,rfl,.inl rfl⟩
theorem fK.move{tag tag':Nat→Tag}{t:Tag}{T:TypeId}(h:fK tag t T w v m f)(hk:∀k,k<w.heap.size→tag k=t→w'.heap[k]? =w.heap[k]? ∧tag' k=tag k):fK tag' t T w' v m f:=by
 obtain⟨p,c,D,A⟩:=h;refine⟨p,c,D,?_⟩;rcases A with A|⟨g,A,C,B⟩
 ·exact .inl A
 obtain⟨a,b⟩:=hk g B.lt C;exact .inr ⟨g,A,b.trans C,B.of_block a⟩
def pU(tag:Nat→Tag)(i:Nat)(w:World)(r q s t:Value):Prop:= ∃m f m' f',m≤1000000000∧m'≤1000000000∧fK tag (.lst i 0) 55 w r m f∧fK tag (.lst i 1) 55 w q m f∧fK tag (.lst i 2) 121 w s m' f'∧fK tag (.lst i 3) 121 w t m' f'
theorem pU.move{tag tag':Nat→Tag}{i:Nat}{r q s t:Value}(h:pU tag i w r q s t)(hk:∀k j,k<w.heap.size→tag k=.lst i j→w'.heap[k]? =w.heap[k]? ∧tag' k=tag k):pU tag' i w' r q s t:=by
 obtain⟨m,f,F,A,a,b,B,C,D,E⟩:=h;exact⟨m,f,F,A,a,b,B.move fun k=>hk k 0,C.move fun k=>hk k 1,D.move fun k=>hk k 2,E.move fun k=>hk k 3⟩
def bS(tag:Nat→Tag)(w:World)(xs:List Value)(n:Nat):Prop:= ∀i,i<n→∃r q s t,xs[4*i]? =some r∧xs[4*i+1]? =some q∧xs[4*i+2]? =some s∧xs[4*i+3]? =some t∧pU tag i w r q s t
theorem bS.move{tag tag':Nat→Tag}(h:bS tag w xs n)(hk:∀k i j,k<w.heap.size→tag k=.lst i j→w'.heap[k]? =w.heap[k]? ∧tag' k=tag k):bS tag' w' xs n:=fun i hi=>by
 obtain⟨r,q,s,t,h1,h2,h3,h4,h5⟩:=h i hi;exact⟨r,q,s,t,h1,h2,h3,h4,h5.move fun k=>hk k i⟩
theorem bS.nil(tag:Nat→Tag)(w:World):bS tag w [] 0:=fun i h=>absurd h (Nat.not_lt_zero i)
theorem bS.snoc{tag:Nat→Tag}(h:bS tag w xs n)(hl:xs.length=n*4){r q s t:Value}(hr:pU tag n w r q s t):bS tag w (xs++ [r,q,s,t]) (n+1):=fun i hi=>by
 by_cases e:i<n
 ·obtain⟨r',q',s',t',h1,h2,h3,h4,h5⟩:=h i e;refine⟨r',q',s',t',?_,?_,?_,?_,h5⟩
  ·rw[List.getElem?_append_left (by omega)];exact h1
  ·rw[List.getElem?_append_left (by omega)];exact h2
  ·rw[List.getElem?_append_left (by omega)];exact h3
  rw[List.getElem?_append_left (by omega)];exact h4
 have:i=n:=by omega
 subst this;refine⟨r,q,s,t,?_,?_,?_,?_,hr⟩
 ·rw[List.getElem?_append_right (by omega),show 4*i - xs.length=0 by omega];rfl
 ·rw[List.getElem?_append_right (by omega),show 4*i+1 - xs.length=1 by omega];rfl
 ·rw[List.getElem?_append_right (by omega),show 4*i+2 - xs.length=2 by omega];rfl
 rw[List.getElem?_append_right (by omega),show 4*i+3 - xs.length=3 by omega];rfl
end
section
open Go.Extern Go.RowKit
def jm(w:World)(g:Nat)(ty:TypeId)(n:Nat):Prop:=
 ∃cur,w.heap[g]? =some (.cells cur ty (0,0))∧n≤cur.size∧∀j,j<n→∃x,cur[j]? =sI x
theorem jm.cell{ty:TypeId}(h:jm w g ty n)(j:Nat)(hj:j<n):∃x,w.cell? (iA g j)=sI x:=by
 obtain⟨A,B,_,C⟩:=h;obtain⟨x,D⟩:=C j hj;exact⟨x,by simp[World.cell?,B,D]⟩
theorem jm.dz{ty:TypeId}(h:jm w g ty n)(j:Nat):w.frozen? (iA g j)=false:=by
 obtain⟨A,B,_,_⟩:=h;simp[World.frozen?,B]
theorem jm.lt{ty:TypeId}(h:jm w g ty n):g<w.heap.size:=by
 obtain⟨A,B,_⟩:=h;exact(Array.getElem?_eq_some_iff.1 B).1
theorem jm.of_block{ty:TypeId}(h:jm w g ty n)(e:w'.heap[g]? =w.heap[g]?):jm w' g ty n:=by
 obtain⟨A,B,C⟩:=h;exact⟨A,e.trans B,C⟩
theorem jm.alloc{ty:TypeId}(h:jm w g ty n)(o:Obj):jm (w.alloc o) g ty n:=h.of_block (Below.heap_alloc _ _ _ h.lt)
theorem jm.below{ty:TypeId}(h:jm w g ty n)(hb:Below w.heap.size w w'):jm w' g ty n:=h.of_block (hb.block g h.lt)
theorem jm.set{ty:TypeId}(h:jm w g ty n)(b o:Nat)(x:Int):jm (w.setCell (iA b o) (iV x)) g ty n:=by
 by_cases e:g=b
 ·subst e;obtain⟨B,C,D,E⟩:=h;refine⟨_,ja _ _ _ _ _ _ _ C,by simpa using D,fun j hj=>?_⟩;by_cases A:o=j
  ·subst A;exact⟨x,by rw[Array.getElem?_setIfInBounds_self_of_lt (by omega)]⟩
  obtain⟨y,F⟩:=E j hj;exact⟨y,by rw[Array.getElem?_setIfInBounds_ne A];exact F⟩
 exact h.of_block (Below.heap_setCell _ _ _ _ e)
theorem jm.mono{ty:TypeId}(h:jm w g ty n)(hm:m≤n):jm w g ty m:=by
 obtain⟨A,B,D,C⟩:=h;exact⟨A,B,by omega,fun j hj=>C j (by omega)⟩
theorem jm.of_row{ty:TypeId}{c:Nat}(h:w.ownsRow base ty size (sL g n c) n xs)(hx:∀u∈xs,∃x,u=iV x):jm w g ty (n*size):=by
 obtain⟨S,H⟩:=h;rcases H with⟨e,-⟩|⟨O,G,A,e,R,J,C,K,D,E⟩
 ·cases e
 injection e with B M N;injection B with B;injection B with B;subst B;have L:n*size≤A.size:=by rw[D];exact Nat.mul_le_mul_right _ C
 refine⟨A,J,L,fun j hj=>?_⟩;have I:A[j]? =xs[j]? :=by
  rw[←E,List.getElem?_take_of_lt hj];simp
 obtain⟨u,F⟩:∃u,xs[j]? =some u:=⟨xs[j],List.getElem?_eq_getElem (by omega)⟩;obtain⟨x,rfl⟩:=hx u (List.mem_of_getElem? F);exact⟨x,I.trans F⟩
def sizes(ws:List ByteArray):Nat:=(ws.map ByteArray.size).sum
theorem lH(ws:List ByteArray)(t:ByteArray):sizes (ws++ [t])=sizes ws+t.size:=by simp[sizes]
theorem zL2(ws:List ByteArray)(t:ByteArray)(h:t∈ws):t.size≤sizes ws:=by
 induction ws with
 |nil=>cases h
 |cons u r ih=>
  simp only[sizes,List.map_cons,List.sum_cons];rcases List.mem_cons.1 h with rfl|h
  ·exact Nat.le_add_right _ _
  exact Nat.le_trans (ih h) (Nat.le_add_left _ _)
theorem ql(ws:List ByteArray)(k:Int):(dU ws k).size≤sizes ws:=by
 unfold dU;rw[List.getD_eq_getElem?_getD];rcases h:ws[ws.length - 1 - (aC k ws.length).toNat]? with _|t
 ·exact Nat.zero_le _
 exact zL2 ws t (List.mem_of_getElem? h)
structure wu(tag:Nat→Tag)(ps:List Duo)(w0 w:World)(n:Nat)(ws:List ByteArray)(left:Int):Prop where
 low:Below w0.heap.size w0 w
 blk:∃cur,w.heap[w0.heap.size]? =some (.cells cur 37 (0,0))
 jG:∀k,k≤w0.heap.size→tag k=.own
 tup:∀k,w.heap.size≤k→tag k=.own
 c0:∃x,w.cell? (iA w0.heap.size 0)=sI x
 c1:∃x,w.cell? (iA w0.heap.size 1)=sI x
 c2:∃x,w.cell? (iA w0.heap.size 2)=sI x
 gz:∃(v:Value) (ds:List Int),w.cell? (iA w0.heap.size 3)=some v∧w.ownsRow (w0.heap.size+1) 3 1 v ds.length (ds.map (iV))∧(∀q,v.ownBlock=some q→tag q=.own)∧(∀x∈ds,-9223372036854775808≤x∧x≤9223372036854775807)∧ds.length≤n
 words:∃v,w.cell? (iA w0.heap.size 4)=some v∧w.ownsRow (w0.heap.size+1) 9 1 v ws.length (ws.map Value.string)∧∀q,v.ownBlock=some q→tag q=.own
 wK:ws.length≤n
 jH:∃v,w.cell? (iA w0.heap.size 5)=some v∧w.ownsRow (w0.heap.size+1) 60 3 v ps.length (ps.flatMap Duo.cells)∧∀q,v.ownBlock=some q→tag q=.own
 tN:ps.length≤n
 duos:∀i p,ps[i]? =some p→DuoOk tag i w p
 lists:∃v m xs,w.cell? (iA w0.heap.size 6)=some v∧w.ownsRow (w0.heap.size+1) 66 4 v m xs∧(∀q,v.ownBlock=some q→tag q=.own)∧bS tag w xs m∧m≤n
 mark:∃x,w.cell? (iA w0.heap.size 7)=sI x
 lft:w.cell? (iA w0.heap.size 8)=sI left
 sum:left+(sizes ws:Int)=1048576
def St(w0 w:World)(n:Nat)(ws:List ByteArray)(left:Int):Prop:= ∃tag ps,wu tag ps w0 w n ws left∧∀p∈ps,p.all.size≤sizes ws
section
variable {tag:Nat→Tag} {ps:List Duo} {w0 w w':World} {n:Nat} {ws:List ByteArray} {left:Int}
theorem wu.lt(h:wu tag ps w0 w n ws left):w0.heap.size<w.heap.size:=by
 obtain⟨A,B⟩:=h.blk;exact(Array.getElem?_eq_some_iff.1 B).1
theorem wu.dz(h:wu tag ps w0 w n ws left)(j:Nat):w.frozen? (iA w0.heap.size j)=false:=by
 obtain⟨A,B⟩:=h.blk;simp[World.frozen?,B]
theorem wu.mono(h:wu tag ps w0 w n ws left)(hm:n≤m):wu tag ps w0 w m ws left:=by
 refine⟨h.low,h.blk,h.jG,h.tup,h.c0,h.c1,h.c2,?_,h.words,Nat.le_trans h.wK hm,h.jH,Nat.le_trans h.tN hm,h.duos,?_,h.mark,h.lft,h.sum⟩
 ·obtain⟨v,E,A,B,C,D,F⟩:=h.gz;exact⟨v,E,A,B,C,D,by omega⟩
 obtain⟨v,k,G,A,B,C,D,F⟩:=h.lists;exact⟨v,k,G,A,B,C,D,by omega⟩
theorem qz{e:TypeId}(h:w.ownsRow B e size v n xs)(hb:∀q,v.ownBlock=some q→w'.heap[q]? =w.heap[q]?):w'.ownsRow B e size v n xs:=yB h hb
theorem wu.gM(h:wu tag ps w0 w n ws left){tag':Nat→Tag}(hs:w.heap.size≤w'.heap.size)(hk:∀k,k<w.heap.size→tag k≠.own→w'.heap[k]? =w.heap[k]? ∧tag' k=tag k):∀i p,ps[i]? =some p→DuoOk tag' i w' p:=fun i p hp=>(h.duos i p hp).move hs fun k hlt ht=>hk k hlt (by rcases ht with ht|ht|ht<;>rw[ht]<;>exact fun e=>by cases e)
theorem bT{tag':Nat→Tag}(h:bS tag w xs m)(hk:∀k,k<w.heap.size→tag k≠.own→w'.heap[k]? =w.heap[k]? ∧tag' k=tag k):bS tag' w' xs m:=h.move fun k i j hlt ht=>hk k hlt (by rw[ht];exact fun e=>by cases e)
theorem wu.below'(h:wu tag ps w0 w n ws left)(hb:Below w.heap.size w w'){tag':Nat→Tag}(ht:∀k,k<w.heap.size→tag' k=tag k)(hu:∀k,w'.heap.size≤k→tag' k=.own):wu tag' ps w0 w' n ws left:=by
 have I:=hb.block _ h.lt;have B:∀j,w'.cell? (iA w0.heap.size j)=w.cell? (iA w0.heap.size j):=fun j=>World.cell?_of_block (a:=(iA w0.heap.size j)) I
 have E:∀k,k<w.heap.size→tag k≠.own→w'.heap[k]? =w.heap[k]? ∧tag' k=tag k:=fun k E _=>⟨hb.block k E,ht k E⟩
 have L:=h.lt;have F:∀{e:TypeId} {s:Nat} {v:Value} {m:Nat} {H:List Value},w.ownsRow (w0.heap.size+1) e s v m H→(∀q,v.ownBlock=some q→tag q=.own)→∀q,v.ownBlock=some q→tag' q=.own:=fun ho hv q hq=>(ht q (ho.lt q hq).2).trans (hv q hq)
 refine⟨h.low.trans (hb.mono (Nat.le_of_lt h.lt)),?_,fun k E=>(ht k (by omega)).trans (h.jG k E),hu,?_,?_,?_,?_,?_,h.wK,?_,h.tN,h.gM hb.size E,?_,?_,?_,h.sum⟩
 ·rw[I];exact h.blk
 ·rw[B];exact h.c0
 ·rw[B];exact h.c1
 ·rw[B];exact h.c2
 ·obtain⟨v,J,C,A,D,G⟩:=h.gz;exact⟨v,J,by rw[B];exact C,qz A (fun q hq=>hb.block q (A.lt q hq).2),F A D,G⟩
 ·obtain⟨v,C,A,D⟩:=h.words;exact⟨v,by rw[B];exact C,qz A (fun q hq=>hb.block q (A.lt q hq).2),F A D⟩
 ·obtain⟨v,C,A,D⟩:=h.jH;exact⟨v,by rw[B];exact C,qz A (fun q hq=>hb.block q (A.lt q hq).2),F A D⟩
 ·obtain⟨v,k,H,C,A,D,G,K⟩:=h.lists;exact⟨v,k,H,by rw[B];exact C,qz A (fun q hq=>hb.block q (A.lt q hq).2),F A D,bT G E,K⟩
 ·rw[B];exact h.mark
 rw[B];exact h.lft
theorem wu.below(h:wu tag ps w0 w n ws left)(hb:Below w.heap.size w w'):wu tag ps w0 w' n ws left:=h.below' hb (fun _ _=>rfl) (fun k hk=>h.tup k (Nat.le_trans hb.size hk))
theorem wu.drewN(h:wu tag ps w0 w n ws left)(m:Nat):wu tag ps w0 (w.drewN m) n ws left:=h.below ⟨rfl,rfl,rfl,Nat.le_refl _,fun _ _=>rfl⟩
theorem wu.drew(h:wu tag ps w0 w n ws left):wu tag ps w0 w.drew n ws left:=h.below ⟨rfl,rfl,rfl,Nat.le_refl _,fun _ _=>rfl⟩
theorem wL{b':Nat}{e e':TypeId}{s s':Nat}{n':Nat}(h:w.ownsRow b e s v n xs)(h':w.ownsRow b' e' s' v' n' xs')(he:e≠e')(q:Nat)(hq:v.ownBlock=some q):v'.ownBlock≠some q:=by
 rcases h.2 with⟨rfl,-⟩|⟨g,E,F,rfl,K,H,r⟩
 ·simp[Value.ownBlock]at hq
 rcases h'.2 with⟨rfl,-⟩|⟨J,B,C,rfl,G,A,L⟩
 ·simp[Value.ownBlock]
 intro D;simp only[Value.ownBlock,Option.some.injEq]at hq D;subst hq;subst D;rw[H]at A;injection A with A;injection A with _ I _;exact he I
theorem wu.word(h:wu tag ps w0 w n ws left)(k:Int)(hn:n≤1000000000)(h1: -9223372036854775808≤k)(h2:k≤9223372036854775807):
 Cl 35 #[iP w0.heap.size,iV k] w fun e w'=>e=.returned (.string (dU ws k))∧∃m,w'=w.drewN m:=by
 obtain⟨v,A,B,_⟩:=h.words;exact zF1 _ _ v ws k w A B (by have:=h.wK;omega) h1 h2
theorem kF{a b:TypeId}{s s':Nat}{m':Nat}(ho:w.ownsRow (B+1) a s v m xs)(hr:w.ownsRow (B+1) b s' v' m' xs')(hne:a≠b)(hb:∀k,k<w.heap.size→k≠B→some k≠v'.ownBlock→w'.heap[k]? =w.heap[k]?):w'.ownsRow (B+1) a s v m xs:=
 qz ho fun q hq=>hb q (ho.lt q hq).2 (by have:=(ho.lt q hq).1;omega) (fun e=>wL ho hr hne q hq e.symm)
theorem wu.keep(h:wu tag ps w0 w n ws left)(t:ByteArray)(hn:n≤1000000000)(ht:t.size≤1000000000000)(hl1: -1000000000000≤left):
 Cl 42 #[iP w0.heap.size,.string t] w fun e w'=>e=rV #[]∧wu tag ps w0 w' (n+1) (ws++ [t]) (left - (t.size:Int))∧w.heap.size≤w'.heap.size:=by
 obtain⟨v,Y,F,S⟩:=h.words;have L:=h.lt;refine(zBw _ _ v ws left t w Y h.lft h.dz F (Nat.lt_succ_self _) L (by have:=h.wK;omega) ht hl1 (by have:=h.sum;omega)).mono ?_;rintro e w' ⟨rfl,R,V,X,E,D,A⟩;have N:∀q,v.ownBlock=some q→w0.heap.size+1≤q:=fun q M=>(F.lt q M).1
 have B:∀j,j≠4→j≠8→w'.cell? (iA w0.heap.size j)=w.cell? (iA w0.heap.size j):=A.cell;have C:∀k,k<w.heap.size→tag k≠.own→w'.heap[k]? =w.heap[k]? ∧tag k=tag k:=fun k C ho=>⟨A.block k C (fun e=>ho (h.jG k (by omega))) (fun e=>ho (S k e.symm)),rfl⟩
 refine⟨rfl,⟨?_,?_,h.jG,fun k C=>h.tup k (Nat.le_trans A.size C),?_,?_,?_,?_,⟨R,V,?_,?_⟩,?_,?_,Nat.le_succ_of_le h.tN,h.gM A.size C,?_,?_,X,?_⟩,A.size⟩
 ·exact h.low.trans ⟨A.os,A.tape,A.output,A.size,fun k C=>A.block k (by omega) (by omega) (fun e=>by have:=N k e.symm;omega)⟩
 ·obtain⟨J,T⟩:=h.blk;exact A.own J _ _ T
 ·rw[B _ (by omega) (by omega)];exact h.c0
 ·rw[B _ (by omega) (by omega)];exact h.c1
 ·rw[B _ (by omega) (by omega)];exact h.c2
 ·obtain⟨u,U,G,H,I,O,Z⟩:=h.gz;exact⟨u,U,by rw[B _ (by omega) (by omega)];exact G,kF H F (by decide) A.block,I,O,by omega⟩
 ·rw[List.length_append];exact E
 ·intro q M;rcases D q M with K|K
  ·exact S q K
  exact h.tup q K
 ·rw[List.length_append];have:=h.wK;simp;omega
 ·obtain⟨u,G,H,I⟩:=h.jH;exact⟨u,by rw[B _ (by omega) (by omega)];exact G,kF H F (by decide) A.block,I⟩
 ·obtain⟨u,k,b,G,H,I,O,Z⟩:=h.lists;exact⟨u,k,b,by rw[B _ (by omega) (by omega)];exact G,kF H F (by decide) A.block,I,bT O C,by omega⟩
 ·rw[B _ (by omega) (by omega)];exact h.mark
 rw[lH];have:=h.sum;omega
theorem St.low(h:St w0 w n ws left):Below w0.heap.size w0 w:=by obtain⟨_,_,h,_⟩:=h;exact h.low
theorem St.lt(h:St w0 w n ws left):w0.heap.size<w.heap.size:=by obtain⟨_,_,h,_⟩:=h;exact h.lt
theorem St.dz(h:St w0 w n ws left)(j:Nat):w.frozen? (iA w0.heap.size j)=false:=by obtain⟨_,_,h,_⟩:=h;exact h.dz j
theorem St.c0(h:St w0 w n ws left):∃x,w.cell? (iA w0.heap.size 0)=sI x:=by obtain⟨_,_,h,_⟩:=h;exact h.c0
theorem St.c1(h:St w0 w n ws left):∃x,w.cell? (iA w0.heap.size 1)=sI x:=by obtain⟨_,_,h,_⟩:=h;exact h.c1
theorem St.c2(h:St w0 w n ws left):∃x,w.cell? (iA w0.heap.size 2)=sI x:=by obtain⟨_,_,h,_⟩:=h;exact h.c2
theorem St.lft(h:St w0 w n ws left):w.cell? (iA w0.heap.size 8)=sI left:=by obtain⟨_,_,h,_⟩:=h;exact h.lft
theorem St.mark(h:St w0 w n ws left):∃x,w.cell? (iA w0.heap.size 7)=sI x:=by obtain⟨_,_,h,_⟩:=h;exact h.mark
theorem St.sum(h:St w0 w n ws left):left+(sizes ws:Int)=1048576:=by obtain⟨_,_,h,_⟩:=h;exact h.sum
theorem St.wK(h:St w0 w n ws left):ws.length≤n:=by obtain⟨_,_,h,_⟩:=h;exact h.wK
theorem St.gz(h:St w0 w n ws left):∃(v:Value) (ds:List Int),w.cell? (iA w0.heap.size 3)=some v∧w.ownsRow (w0.heap.size+1) 3 1 v ds.length (ds.map (iV))∧(∀x∈ds,-9223372036854775808≤x∧x≤9223372036854775807)∧ds.length≤n:=by
 obtain⟨_,_,h,_⟩:=h;obtain⟨v,ds,A,B,_,C,D⟩:=h.gz;exact⟨v,ds,A,B,C,D⟩
theorem St.mono(h:St w0 w n ws left)(hm:n≤m):St w0 w m ws left:=by obtain⟨tag,ps,h,A⟩:=h;exact⟨tag,ps,h.mono hm,A⟩
theorem St.below(h:St w0 w n ws left)(hb:Below w.heap.size w w'):St w0 w' n ws left:=by obtain⟨tag,ps,h,A⟩:=h;exact⟨tag,ps,h.below hb,A⟩
theorem St.drewN(h:St w0 w n ws left)(m:Nat):St w0 (w.drewN m) n ws left:=h.below ⟨rfl,rfl,rfl,Nat.le_refl _,fun _ _=>rfl⟩
theorem St.drew(h:St w0 w n ws left):St w0 w.drew n ws left:=h.below ⟨rfl,rfl,rfl,Nat.le_refl _,fun _ _=>rfl⟩
theorem St.word(h:St w0 w n ws left)(k:Int)(hn:n≤1000000000)(h1: -9223372036854775808≤k)(h2:k≤9223372036854775807):
 Cl 35 #[iP w0.heap.size,iV k] w fun e w'=>e=.returned (.string (dU ws k))∧∃m,w'=w.drewN m:=by obtain⟨tag,ps,h,_⟩:=h;exact h.word k hn h1 h2
theorem zB2(ws:List ByteArray)(t:ByteArray):sizes ws≤sizes (ws++ [t]):=by rw[lH];omega
theorem St.keep(h:St w0 w n ws left)(t:ByteArray)(hn:n≤1000000000)(ht:t.size≤1000000000)(hl1: -1000000000000≤left):
 Cl 42 #[iP w0.heap.size,.string t] w fun e w'=>e=rV #[]∧St w0 w' (n+1) (ws++ [t]) (left - (t.size:Int))∧w.heap.size≤w'.heap.size:=by
 obtain⟨tag,ps,h,C⟩:=h;refine(h.keep t hn (by omega) hl1).mono ?_;rintro e w' ⟨rfl,A,B⟩;exact⟨rfl,⟨tag,ps,A,fun p hp=>Nat.le_trans (C p hp) (zB2 ws t)⟩,B⟩
end
end
end Go.Proofs.YtehmdohpmpbnnaaGreatDoor
