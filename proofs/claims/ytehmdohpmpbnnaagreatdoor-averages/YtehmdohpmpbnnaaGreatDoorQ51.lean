import Derived.Test.YtehmdohpmpbnnaaGreatDoorQ00
import Derived.Test.YtehmdohpmpbnnaaGreatDoorQ07
import Derived.Test.YtehmdohpmpbnnaaGreatDoorQ17
import Derived.RangeFuncBox
import Derived.RangeFuncLeaves
import Derived.Shelf.Abstract
import Derived.WalkKit
import Derived.OwnWalkIn
import Derived.TacticsInMore
import Derived.LoopNIn
import Derived.LoopIn
import Derived.Maps.AppendAt
set_option linter.all false
set_option maxRecDepth 100000
set_option maxHeartbeats 8000000
namespace Go.Proofs.YtehmdohpmpbnnaaGreatDoor
open Go.Proofs.Tryz
open Go.Extern Go.Maps Go.RowKit Go.Shelf
attribute [local go_sem] Oper.semAt_some
theorem zNg(F:Fence)(n:Nat)(h8:F.fn 195)(hro:F.round=none)(hn:1≤n)(l Bm b:Nat)(L:List (Int×Option Nat))(hL:∀p∈L,∃q,p.2=some q)(J Jx:List Nat→World→Prop)
 (hY:∀pre x W,J pre W→pre.length<L.length→YieldAt F (n - 1) prog l #[iP x] W fun e W'=>
  (e=rB true∧J (pre++ [x]) W'∧KeepsWalks W W')∨(e=rB false∧Jx (pre++ [x]) W'))
 (W:World) (hJ:AbidesFrom W.heap.size J) (hm:W.cell? (iA Bm 0)=some (.map (some b))) (hpm:PM jf prog 3 W b L) (h0:J [] W):
 CallsIn F n prog 195 #[.func (.yield l) #[] #[],iP Bm] W fun e W'=>(∃v,e=.returned v)∧
  ((∃xs:List Nat,(∃ps:List (Int×Option Nat),ps.Perm L∧ps.map Prod.snd=xs.map some)∧J xs W')∨(∃pre,True∧Jx pre W')):=by
 refine callsIn_of_wp func195 rfl h8 ?_ hro;simp only[ntmps195,List.size_toArray,List.length_cons,List.length_nil,Nat.reduceAdd,Nat.reduceSub,Array.replicate_succ,Array.replicate_zero,List.push_toArray,List.append_toArray,List.nil_append,List.cons_append]
 gi_wp2_with(first
  |(gi_at_range;refine wX _ rfl _ _ rfl je underlying89 rfl hpm ?_;intro t K V j)
  |gi_in)
 go_frame
 gi_loopw [4] (fun _ wr=> ∃(E A:List (Int×Option Nat)) (xs:List Nat),PR jf prog 3 wr b W.heap.size L A E∧A.map Prod.snd=xs.map some∧J xs wr) (fun _ wr=>wr.rangeLeft b W.heap.size)
 case atStart=>exact⟨_,[],[],K,rfl,hJ [] W t none h0 V (fun r e=>by cases e)⟩
 case round=>
  obtain⟨E,A,xs,C,D,G⟩:=hrel;have s:xs.length=A.length:=by have:=congrArg List.length D;simp at this;exact this.symm
  gi_wp2_with(first
   |(gi_at_next;refine zEh _ rfl _ rfl je underlying3 b W.heap.size A E rfl C ?_ ?_)
   |gi_in)
  ·intro h0;gi_wp2;go_end0;exact⟨⟨_,rfl⟩,.inl ⟨xs,⟨A,by have:=C.1;rw[h0,List.append_nil]at this;exact this,D⟩,G⟩⟩
  intro k v O g Z B X m d U;obtain⟨q,i⟩:=hL _ Z;obtain rfl:v=some q:=i;have N:jf.val (some q)=iP q:=rfl;rw[N]at U⊢;have S:=hJ _ wr g (some W.heap.size) G X (fun r e=>by cases e;exact⟨Nat.le_refl _,C.iter_walk⟩);have I:xs.length<L.length:=by
   have:=B.1.length_eq;simp at this;omega
  obtain⟨y,f,R,body,z,h⟩:=hY xs q g S I;gi_wp2;refine h.mono ?_;rintro e u (⟨rfl,T,Y⟩|⟨rfl,H⟩)
  ·gi_wp2;obtain⟨M,c⟩:=B.walks Y;go_roundw
   case rel=>exact⟨O,A++ [(k,some q)],xs++ [q],M,by simp[D],T⟩
   case measure=>rw[c];exact d
  gi_wp2;refine bodyPost_ret (results_none rfl _ _ _) rfl ?_;exact⟨⟨_,rfl⟩,.inr ⟨_,trivial,H⟩⟩
theorem zNh(F:Fence)(n:Nat)(h7:F.fn 195)(hro:F.round=none)(hn:1≤n)(Bm b:Nat)(L:List (Int×Option Nat))(hL:∀p∈L,∃q,p.2=some q)(w:World)(hBm:Bm<w.heap.size)(hm:w.cell? (iA Bm 0)=some (.map (some b)))(hpm:PM jf prog 3 w b L):
 SeqStopsK F n prog 195 #[iP Bm] (fun x:Nat=>#[Value.pointer (some (iA x 0))]) KeepsWalks (fun xs=> ∃ps:List (Int×Option Nat),ps.Perm L∧ps.map Prod.snd=xs.map some) (fun _=>True) L.length w:=fun l J Jx W hW hJ _ hY h0=>
 zNg F n h7 hro hn l Bm b L hL J Jx hY W hJ ((hW.cell (p:=(iA Bm 0)) hBm).trans hm) (hpm.of_block (hW.block b hpm.lt)) h0
theorem Tryz.infoPtr:(prog.info? 200).map (fun i=>(i.zero,i.size,i.bytes))=some (some (.pointer none),1,8):=by kernel_rfl
theorem zNi(F:Fence)(n:Nat)(h3:F.fn 194)(h5:F.fn 195)(hro:F.round=none)(hn:3≤n)(Bm b:Nat)(L:List (Int×Option Nat))(hL:∀p∈L,∃q,p.2=some q)(hlen:L.length≤1000000000)(w:World)(hBm:Bm<w.heap.size)(hm:w.cell? (iA Bm 0)=some (.map (some b)))(hpm:PM jf prog 3 w b L):
 CallsIn F n prog 194 #[.slice none 0 0,.func (.func 195) #[] #[iP Bm]] w fun e W'=> ∃(v:Value) (bs:List Nat) (ps:List (Int×Option Nat)),e=.returned v∧ps.Perm L∧ps.map Prod.snd=bs.map some∧W'.ownsRow w.heap.size 200 1 v bs.length (bs.map fun x=>Value.pointer (some (iA x 0)))∧Below w.heap.size w W':=by
 have f:1≤n:=by omega
 obtain⟨t,m,V,X,Y⟩:=info_parts Tryz.infoPtr;refine callsIn_of_wp_marks func194 rfl h3 ?_ hro;simp only[ntmps194,List.size_toArray,List.length_cons,List.length_nil,Nat.reduceAdd,Nat.reduceSub,Array.replicate_succ,Array.replicate_zero,List.push_toArray,List.append_toArray,List.nil_append,List.cons_append];gi_wp2;have d:=Boxed.new w 152 (.slice none 0 0);have E:Bw w (w.alloc (.cells #[.slice none 0 0] 152)):=(Below.refl _ w).alloc (Nat.le_refl _) _;refine wpIn_rangeFunc_ownG hro f (gf:=195) (lb:=#[iP Bm]) rfl h5 (enters_of func195 (by kernel_rfl) rfl)
  (zNh F (n - 1) h5 hro (by omega) Bm b L hL _ (by simp;omega) ((E.cell (p:=(iA Bm 0)) hBm).trans hm) (hpm.of_block (E.block b hpm.lt))) walksK_t walksK_b (Below.refl _ _) (fun _=>rfl)
  (fun A W=>(∃v,Boxed W w.heap.size 152 v∧W.ownsRow w.heap.size 200 1 v A.length (A.map fun x=>Value.pointer (some (iA x 0)))∧True)∧Bw w W)
  (fun _ _ _=>False)
  (OwnFrom.and (Own.from (holdsRow_own w.heap.size w.heap.size 152 200 1 (fun A:List Nat=>A.length) (fun A=>A.map fun x=>Value.pointer (some (iA x 0))) (fun A v=>True)) _) (ownFrom_below (Nat.le_refl _) (by simp)))
  (fun _ _ _ _ _ hs _ _=>hs)
  ⟨⟨_,d,World.ownsRow_nil _ _ _ _,trivial⟩,E⟩
  (fun x=>{ tmps:=#[.slice none 0 0,.func (.func 195) #[] #[iP Bm],iP w.heap.size,undef,.slice none 0 0,iP x,.func (.func 195) #[] #[iP Bm],iP x,undef,undef,undef,undef,undef],defers:=[] }) ?assign ?body ?done ?stop
 case assign=>
  intro l x W K I;gi_wp2;exact I
 case body=>
  rintro l A x W ⟨⟨v,N,B,-⟩,H⟩ s;have i:=N.cell
  gi_wp2_with(gi_at_builtin;refine wpListIn_append_own _ rfl _ _ 152 rfl w.heap.size 200 t (.pointer none) 1 8 underlying152 m V X Y rfl (by decide) _ _ _ rfl (B.alloc _) (iA W.heap.size 0) 1 1 [iP x] rfl rfl (cell_one_new _ _ _) (by simp[Value.oneCell']) (by unfold maxLen;omega) (by omega) (by have:=H.size;simp;omega) ?_;intro z w1 C G _;obtain⟨y,Z,rfl⟩:=ownsRow_succ C;obtain⟨M,U,T,J,O⟩:=N.appended (by decide) B H.size (Nat.le_refl _) C G;have j:=M.cell;have k:=M.frozen)
  exact⟨J.from _,J.walks,⟨_,U,by simpa using T,trivial⟩,H.trans O⟩
 case done=>
  rintro D u W g ⟨ps,R,S⟩ ⟨⟨v,N,B,-⟩,H⟩ I;have i:=N.cell;gi_wp2;refine⟨by simp,.inl ⟨_,_,rfl,run_takeDeferred I,?_⟩⟩;exact⟨_,results_tmp rfl _ _ _,v,u,ps,rfl,R,S,ownsRow_putObj B _ I rfl,H.trans (belowK_b (w:=w) (Nat.le_refl _) W D _ _ (by simp at g;omega) I rfl rfl)⟩
 case stop=>
  rintro D c A W _ _ h _;exact h.elim
theorem zNj(Bm b:Nat)(L:List (Int×Option Nat))(hL:∀p∈L,∃q,p.2=some q)(hlen:L.length≤1000000000)(w:World)(hBm:Bm<w.heap.size)(hm:w.cell? (iA Bm 0)=some (.map (some b)))(hpm:PM jf prog 3 w b L):
 Cl 176 #[.func (.func 195) #[] #[iP Bm]] w fun e W'=> ∃(v:Value) (bs:List Nat) (ps:List (Int×Option Nat)),e=.returned v∧ps.Perm L∧ps.map Prod.snd=bs.map some∧W'.ownsRow w.heap.size 200 1 v bs.length (bs.map fun x=>Value.pointer (some (iA x 0)))∧Below w.heap.size w W':=by
 have A:=hid (callsIn_wide.1 (zNi Fence.wide 5 trivial trivial rfl (by omega) Bm b L hL hlen w hBm hm hpm));go_enter func176,ntmps176;go_wp2_with fail;refine A.mono ?_;rintro e G ⟨v,bs,ps,rfl,C,D,E,F⟩;have B:=hid (And.intro C (And.intro D (And.intro E F)));go_wp2;go_ret;exact⟨v,bs,ps,rfl,B⟩
theorem zNk(b:Nat)(w:World):
 Cl 177 #[.map (some b)] w fun e w'=>e=.returned (.func (.func 195) #[] #[iP w.heap.size])∧w'=w.alloc (.cells #[.map (some b)] 89):=by
 go_enter func177,ntmps177;go_wp2;go_ret;exact⟨rfl,rfl⟩
end Go.Proofs.YtehmdohpmpbnnaaGreatDoor
