import Derived.Test.YtehmdohpmpbnnaaGreatDoorQ00
import Derived.Test.YtehmdohpmpbnnaaGreatDoorQ31
import Derived.Laws.EntriesVeiled
set_option linter.all false
set_option maxRecDepth 100000
set_option maxHeartbeats 8000000
namespace Go.Proofs.YtehmdohpmpbnnaaGreatDoor
open Go.Proofs.Tryz
open Go.Extern Go.Maps Go.RowKit
section
variable {F:Nat→Prop} {base:Nat} {w:World} {b:Nat} {e:bf} {g:Gh} {S:jk} {v:Nat→Int}
theorem zP9(v:Nat→Int):mh v=.agg #[iV (v 0),iV (v 1),iV (v 2),iV (v 3),iV (v 4),iV (v 5),iV (v 6),iV (v 7),iV (v 8)]:=rfl
def tabC(b:Nat):Array Value:=#[.nilFunc,.func (.func 95) #[iP b] #[],.func (.func 96) #[iP b] #[],.func (.func 97) #[iP b] #[],.func (.func 98) #[iP b] #[],.func (.func 99) #[iP b] #[]]
theorem zKa(e':bf)(HC:∀W,Below w.heap.size w W→Cl 95 #[iP b,mh v] W fun en w'=>en=rV #[]∧Hd (eG F base w b g e' w')):
 Cl 57 #[iP b,.agg #[iV 1,iV (v 0),iV (v 1),iV (v 2),iV (v 3),iV (v 4),iV (v 5),iV (v 6),iV (v 7),iV (v 8)]] w fun en w'=>en=rV #[]∧Hd (eG F base w b g e' w'):=by
 have B:=hid HC;unfold mh at B;have A:Hd (Bw w ((w.alloc (.cells #[iV 1,iV (v 0),iV (v 1),iV (v 2),iV (v 3),iV (v 4),iV (v 5),iV (v 6),iV (v 7),iV (v 8)] 81)).alloc (.cells (tabC b) 199))):=((Below.refl w.heap.size w).alloc (Nat.le_refl _) _).alloc (by simp) _;unfold tabC at A;go_enter func57,ntmps57;go_wp2_with fail;go_region_with(first|(go_at_call 95;refine(B _ (dX A)).mono ?_;rintro en D ⟨rfl,C⟩));all_goals(go_end0;exact⟨rfl,C⟩)
theorem zKb(e':bf)(HC:∀W,Below w.heap.size w W→Cl 96 #[iP b,mh v] W fun en w'=>en=rV #[]∧Hd (eG F base w b g e' w')):
 Cl 57 #[iP b,.agg #[iV 2,iV (v 0),iV (v 1),iV (v 2),iV (v 3),iV (v 4),iV (v 5),iV (v 6),iV (v 7),iV (v 8)]] w fun en w'=>en=rV #[]∧Hd (eG F base w b g e' w'):=by
 have B:=hid HC;unfold mh at B;have A:Hd (Bw w ((w.alloc (.cells #[iV 2,iV (v 0),iV (v 1),iV (v 2),iV (v 3),iV (v 4),iV (v 5),iV (v 6),iV (v 7),iV (v 8)] 81)).alloc (.cells (tabC b) 199))):=((Below.refl w.heap.size w).alloc (Nat.le_refl _) _).alloc (by simp) _;unfold tabC at A;go_enter func57,ntmps57;go_wp2_with fail;go_region_with(first|(go_at_call 96;refine(B _ (dX A)).mono ?_;rintro en D ⟨rfl,C⟩));all_goals(go_end0;exact⟨rfl,C⟩)
theorem zKc(e':bf)(HC:∀W,Below w.heap.size w W→Cl 97 #[iP b,mh v] W fun en w'=>en=rV #[]∧Hd (eG F base w b g e' w')):
 Cl 57 #[iP b,.agg #[iV 3,iV (v 0),iV (v 1),iV (v 2),iV (v 3),iV (v 4),iV (v 5),iV (v 6),iV (v 7),iV (v 8)]] w fun en w'=>en=rV #[]∧Hd (eG F base w b g e' w'):=by
 have B:=hid HC;unfold mh at B;have A:Hd (Bw w ((w.alloc (.cells #[iV 3,iV (v 0),iV (v 1),iV (v 2),iV (v 3),iV (v 4),iV (v 5),iV (v 6),iV (v 7),iV (v 8)] 81)).alloc (.cells (tabC b) 199))):=((Below.refl w.heap.size w).alloc (Nat.le_refl _) _).alloc (by simp) _;unfold tabC at A;go_enter func57,ntmps57;go_wp2_with fail;go_region_with(first|(go_at_call 97;refine(B _ (dX A)).mono ?_;rintro en D ⟨rfl,C⟩));all_goals(go_end0;exact⟨rfl,C⟩)
theorem zKd(e':bf)(HC:∀W,Below w.heap.size w W→Cl 98 #[iP b,mh v] W fun en w'=>en=rV #[]∧Hd (eG F base w b g e' w')):
 Cl 57 #[iP b,.agg #[iV 4,iV (v 0),iV (v 1),iV (v 2),iV (v 3),iV (v 4),iV (v 5),iV (v 6),iV (v 7),iV (v 8)]] w fun en w'=>en=rV #[]∧Hd (eG F base w b g e' w'):=by
 have B:=hid HC;unfold mh at B;have A:Hd (Bw w ((w.alloc (.cells #[iV 4,iV (v 0),iV (v 1),iV (v 2),iV (v 3),iV (v 4),iV (v 5),iV (v 6),iV (v 7),iV (v 8)] 81)).alloc (.cells (tabC b) 199))):=((Below.refl w.heap.size w).alloc (Nat.le_refl _) _).alloc (by simp) _;unfold tabC at A;go_enter func57,ntmps57;go_wp2_with fail;go_region_with(first|(go_at_call 98;refine(B _ (dX A)).mono ?_;rintro en D ⟨rfl,C⟩));all_goals(go_end0;exact⟨rfl,C⟩)
theorem zKe(e':bf)(HC:∀W,Below w.heap.size w W→Cl 99 #[iP b,mh v] W fun en w'=>en=rV #[]∧Hd (eG F base w b g e' w')):
 Cl 57 #[iP b,.agg #[iV 5,iV (v 0),iV (v 1),iV (v 2),iV (v 3),iV (v 4),iV (v 5),iV (v 6),iV (v 7),iV (v 8)]] w fun en w'=>en=rV #[]∧Hd (eG F base w b g e' w'):=by
 have B:=hid HC;unfold mh at B;have A:Hd (Bw w ((w.alloc (.cells #[iV 5,iV (v 0),iV (v 1),iV (v 2),iV (v 3),iV (v 4),iV (v 5),iV (v 6),iV (v 7),iV (v 8)] 81)).alloc (.cells (tabC b) 199))):=((Below.refl w.heap.size w).alloc (Nat.le_refl _) _).alloc (by simp) _;unfold tabC at A;go_enter func57,ntmps57;go_wp2_with fail;go_region_with(first|(go_at_call 99;refine(B _ (dX A)).mono ?_;rintro en D ⟨rfl,C⟩));all_goals(go_end0;exact⟨rfl,C⟩)
theorem zKf(kind:Int)(hk:1≤kind∧kind≤5)(h:dw F base w b e g S)(inv:bf.fe e)(hH:Holds e S [] [])(hpg:bf.qd e)(hv:bf.VOk v)(hvb:∀j,0≤v j+2147483648∧v j≤4294967296)(hro:Room 2200 e)(hsu:jR 1000 e)(hd:Dr e)(hl:e.all.length+1≤100000000):
 Cl 57 #[iP b,.agg #[iV kind,iV (v 0),iV (v 1),iV (v 2),iV (v 3),iV (v 4),iV (v 5),iV (v 6),iV (v 7),iV (v 8)]] w fun en w'=>en=rV #[]∧Hd (eG F base w b g (e.run kind v) w'):=by
 have A:∀{W w':World} {e':bf},Bw w W→eG F base W b g e' w'→eG F base w b g e' w':=fun hB hz=>hz.from (zk h.up hB)
 have B:kind=1∨kind=2∨kind=3∨kind=4∨kind=5:=by omega
 rcases B with rfl|rfl|rfl|rfl|rfl
 ·exact zKa (e.run 1 v) fun W hB=>(zJ3 (h.below hB) inv hH hv hvb (hro.mono (by omega)) hsu hd hl).mono fun en w' ⟨h1,h2⟩=>⟨h1,A hB h2.out⟩
 ·exact zKb (e.run 2 v) fun W hB=>(zGr (h.below hB) inv hH (hro.mono (by omega)) ⟨hv.nC,hv.nD⟩).mono fun en w' ⟨h1,h2⟩=>⟨h1,A hB h2.out.cend⟩
 ·exact zKc (e.run 3 v) fun W hB=>(zJ7 (h.below hB) inv hH hpg hvb (hro.mono (by omega)) hsu hd).mono fun en w' ⟨h1,h2⟩=>⟨h1,A hB h2.out.cend⟩
 ·exact zKd (e.run 4 v) fun W hB=>(zGq (h.below hB) inv hH (hro.mono (by omega)) (by omega) ⟨hv.t0,hv.t1⟩).mono fun en w' ⟨h1,h2⟩=>⟨h1,A hB h2.out.cend⟩
 exact zKe (e.run 5 v) fun W hB=>(zGp (h.below hB) inv hH (hro.mono (by omega)) (by omega)).mono fun en w' ⟨h1,h2⟩=>⟨h1,A hB h2.out.cend⟩
end
end Go.Proofs.YtehmdohpmpbnnaaGreatDoor
