import Derived.Test.YtanfmhonjpjpoaaGreatDoorQ00
import Derived.Test.YtanfmhonjpjpoaaGreatDoorQ08
import Derived.Test.YtanfmhonjpjpoaaGreatDoorQ19
import Derived.RangeFuncBox
import Derived.RangeFuncLeaves
import Derived.Shelf.Abstract
import Derived.WalkKit
import Derived.OwnWalkIn
import Derived.TacticsInMore
import Derived.LoopNIn
import Derived.LoopIn
import Derived.Maps.AppendAt
set_option linter.all false
set_option maxRecDepth 100000
set_option maxHeartbeats 8000000
namespace Go.Proofs.YtanfmhonjpjpoaaGreatDoor
open Go.Extern Go.Maps Go.RowKit Go.Shelf
attribute [local go_sem] Oper.semAt_some
theorem zRe(F:Fence)(n:Nat)(h8:F.fn 133)(hro:F.round=none)(hn:1≤n)(l Bm b:Nat)(L:List (Int×Option Nat))(hL: ∀p∈L,∃q,p.2=some q)(J Jx:List Nat→World→Prop)
 (hY: ∀pre x W,J pre W→pre.length<L.length→YieldAt F (n - 1) Tryz.prog l #[iP x] W fun e W'=>
  (e=rB true∧J (pre++ [x]) W'∧KeepsWalks W W')∨(e=rB false∧Jx (pre++ [x]) W'))
 (W:World) (hJ:AbidesFrom W.heap.size J) (hm:W.cell? (iA Bm 0)=some (.map (some b))) (hpm:PM ptrElem Tryz.prog 3 W b L) (h0:J [] W):
 CallsIn F n Tryz.prog 133 #[.func (.yield l) #[] #[],iP Bm] W fun e W'=>(∃v,e=.returned v)∧
  ((∃xs:List Nat,(∃ps:List (Int×Option Nat),ps.Perm L∧ps.map Prod.snd=xs.map some)∧J xs W')∨(∃pre,True∧Jx pre W')):=by
 refine callsIn_of_wp Tryz.func133 rfl h8 ?_ hro;simp only[Tryz.ntmps133,List.size_toArray,List.length_cons,List.length_nil,Nat.reduceAdd,Nat.reduceSub,Array.replicate_succ,Array.replicate_zero,List.push_toArray,List.append_toArray,List.nil_append,List.cons_append]
 gi_wp2_with(first
  |(gi_at_range;refine zKe _ rfl _ _ rfl keyedInt Tryz.underlying110 rfl hpm ?_;intro w0 hpr0 hg0 hs0)
  |gi_in)
 go_frame
 gi_loopw [4] (fun _ wr=> ∃(rem seen:List (Int×Option Nat)) (xs:List Nat),PR ptrElem Tryz.prog 3 wr b W.heap.size L seen rem∧seen.map Prod.snd=xs.map some∧J xs wr) (fun _ wr=>wr.rangeLeft b W.heap.size)
 case atStart=>exact⟨_,[],[],hpr0,rfl,hJ [] W w0 none h0 hg0 (fun r e=>by cases e)⟩
 case round=>
  obtain⟨rem,seen,xs,hpr,hsx,hJs⟩:=hrel;have hxl:xs.length=seen.length:=by have:=congrArg List.length hsx;simp at this;exact this.symm
  gi_wp2_with(first
   |(gi_at_next;refine zKf _ rfl _ rfl keyedInt Tryz.underlying3 b W.heap.size seen rem rfl hpr ?_ ?_)
   |gi_in)
  ·intro h0;gi_wp2;go_end0;exact⟨⟨_,rfl⟩,.inl ⟨xs,⟨seen,by have:=hpr.1;rw[h0,List.append_nil]at this;exact this,hsx⟩,hJs⟩⟩
  ·intro k v rem' w2 hkv hpr2 hg2 hs2 hlt hen;obtain⟨q,hq⟩:=hL _ hkv;obtain rfl:v=some q:=hq;have hval:ptrElem.val (some q)=iP q:=rfl;rw[hval]at hen⊢;have hJ2:=hJ _ wr w2 (some W.heap.size) hJs hg2 (fun r e=>by cases e;exact⟨Nat.le_refl _,hpr.iter_walk⟩);have hlen:xs.length<L.length:=by
    have:=hpr2.1.length_eq;simp at this;omega
   obtain⟨fn,tmps,assign,body,hy,hR⟩:=hY xs q w2 hJ2 hlen;gi_wp2;refine hR.mono ?_;rintro e W3 (⟨rfl,hJ3,hk3⟩|⟨rfl,hJx3⟩)
   ·gi_wp2;obtain⟨hpr3,hl3⟩:=hpr2.walks hk3;go_roundw
    case rel=>exact⟨rem',seen++ [(k,some q)],xs++ [q],hpr3,by simp[hsx],hJ3⟩
    case measure=>rw[hl3];exact hlt
   ·gi_wp2;refine bodyPost_ret (results_none rfl _ _ _) rfl ?_;exact⟨⟨_,rfl⟩,.inr ⟨_,trivial,hJx3⟩⟩
theorem zRf(F:Fence)(n:Nat)(h7:F.fn 133)(hro:F.round=none)(hn:1≤n)(Bm b:Nat)(L:List (Int×Option Nat))(hL: ∀p∈L,∃q,p.2=some q)(w:World)(hBm:Bm<w.heap.size)(hm:w.cell? (iA Bm 0)=some (.map (some b)))(hpm:PM ptrElem Tryz.prog 3 w b L):
 SeqStopsK F n Tryz.prog 133 #[iP Bm] (fun x:Nat=>#[Value.pointer (some (iA x 0))]) KeepsWalks (fun xs=> ∃ps:List (Int×Option Nat),ps.Perm L∧ps.map Prod.snd=xs.map some) (fun _=>True) L.length w:=fun l J Jx W hW hJ _ hY h0=>
 zRe F n h7 hro hn l Bm b L hL J Jx hY W hJ ((hW.cell (p:=(iA Bm 0)) hBm).trans hm) (hpm.of_block (hW.block b hpm.lt)) h0
theorem Tryz.infoPtr:(Tryz.prog.info? 158).map (fun i=>(i.zero,i.size,i.bytes))=some (some (.pointer none),1,8):=by kernel_rfl
theorem zRg(F:Fence)(n:Nat)(h3:F.fn 132)(h5:F.fn 133)(hro:F.round=none)(hn:3≤n)(Bm b:Nat)(L:List (Int×Option Nat))(hL: ∀p∈L,∃q,p.2=some q)(hlen:L.length≤1000000000)(w:World)(hBm:Bm<w.heap.size)(hm:w.cell? (iA Bm 0)=some (.map (some b)))(hpm:PM ptrElem Tryz.prog 3 w b L):
 CallsIn F n Tryz.prog 132 #[.slice none 0 0,.func (.func 133) #[] #[iP Bm]] w fun e W'=> ∃(v:Value) (bs:List Nat) (ps:List (Int×Option Nat)),e=.returned v∧ps.Perm L∧ps.map Prod.snd=bs.map some∧W'.ownsRow w.heap.size 158 1 v bs.length (bs.map fun x=>Value.pointer (some (iA x 0)))∧Below w.heap.size w W':=by
 have h1:1≤n:=by omega
 obtain⟨i0,hi,hz0,hz1,hz2⟩:=info_parts Tryz.infoPtr;refine callsIn_of_wp_marks Tryz.func132 rfl h3 ?_ hro;simp only[Tryz.ntmps132,List.size_toArray,List.length_cons,List.length_nil,Nat.reduceAdd,Nat.reduceSub,Array.replicate_succ,Array.replicate_zero,List.push_toArray,List.append_toArray,List.nil_append,List.cons_append];gi_wp2;have bO:=Boxed.new w 126 (.slice none 0 0);have hB0:Bw w (w.alloc (.cells #[.slice none 0 0] 126)):=(Below.refl _ w).alloc (Nat.le_refl _) _;refine wpIn_rangeFunc_ownG hro h1 (gf:=133) (lb:=#[iP Bm]) rfl h5 (enters_of Tryz.func133 (by kernel_rfl) rfl)
  (zRf F (n - 1) h5 hro (by omega) Bm b L hL _ (by simp;omega) ((hB0.cell (p:=(iA Bm 0)) hBm).trans hm) (hpm.of_block (hB0.block b hpm.lt))) walksK_t walksK_b (Below.refl _ _) (fun _=>rfl)
  (fun pre W=>(∃v,Boxed W w.heap.size 126 v∧W.ownsRow w.heap.size 158 1 v pre.length (pre.map fun x=>Value.pointer (some (iA x 0)))∧True)∧Bw w W)
  (fun _ _ _=>False)
  (OwnFrom.and (Own.from (holdsRow_own w.heap.size w.heap.size 126 158 1 (fun pre:List Nat=>pre.length) (fun pre=>pre.map fun x=>Value.pointer (some (iA x 0))) (fun pre v=>True)) _) (ownFrom_below (Nat.le_refl _) (by simp)))
  (fun _ _ _ _ _ hs _ _=>hs)
  ⟨⟨_,bO,World.ownsRow_nil _ _ _ _,trivial⟩,hB0⟩
  (fun x=>{ tmps:=#[.slice none 0 0,.func (.func 133) #[] #[iP Bm],iP w.heap.size,undef,.slice none 0 0,iP x,.func (.func 133) #[] #[iP Bm],iP x,undef,undef,undef,undef,undef],defers:=[] }) ?assign ?body ?done ?stop
 case assign=>
  intro l x W K hK;gi_wp2;exact hK
 case body=>
  rintro l pre x W ⟨⟨v,hv,hrow,-⟩,hB⟩ hlt;have hc:=hv.cell
  gi_wp2_with(gi_at_builtin;refine wpListIn_append_own _ rfl _ _ 126 rfl w.heap.size 158 i0 (.pointer none) 1 8 Tryz.underlying126 hi hz0 hz1 hz2 rfl (by decide) _ _ _ rfl (hrow.alloc _) (iA W.heap.size 0) 1 1 [iP x] rfl rfl (cell_one_new _ _ _) (by simp[Value.oneCell']) (by unfold maxLen;omega) (by omega) (by have:=hB.size;simp;omega) ?_;intro v' w1 hown' hgrow _;obtain⟨g',cap',rfl⟩:=ownsRow_succ hown';obtain⟨hv1,hv2,hr2,hk2,hb2⟩:=hv.appended (by decide) hrow hB.size (Nat.le_refl _) hown' hgrow;have hc1:=hv1.cell;have hf1:=hv1.frozen)
  exact⟨hk2.from _,hk2.walks,⟨_,hv2,by simpa using hr2,trivial⟩,hB.trans hb2⟩
 case done=>
  rintro D ys W hD ⟨ps,hps,hpy⟩ ⟨⟨v,hv,hrow,-⟩,hB⟩ hK;have hc:=hv.cell;gi_wp2;refine⟨by simp,.inl ⟨_,_,rfl,run_takeDeferred hK,?_⟩⟩;exact⟨_,results_tmp rfl _ _ _,v,ys,ps,rfl,hps,hpy,ownsRow_putObj hrow _ hK rfl,hB.trans (belowK_b (w:=w) (Nat.le_refl _) W D _ _ (by simp at hD;omega) hK rfl rfl)⟩
 case stop=>
  rintro D c pre W _ _ h _;exact h.elim
theorem zRh(Bm b:Nat)(L:List (Int×Option Nat))(hL: ∀p∈L,∃q,p.2=some q)(hlen:L.length≤1000000000)(w:World)(hBm:Bm<w.heap.size)(hm:w.cell? (iA Bm 0)=some (.map (some b)))(hpm:PM ptrElem Tryz.prog 3 w b L):
 Cl 84 #[.func (.func 133) #[] #[iP Bm]] w fun e W'=> ∃(v:Value) (bs:List Nat) (ps:List (Int×Option Nat)),e=.returned v∧ps.Perm L∧ps.map Prod.snd=bs.map some∧W'.ownsRow w.heap.size 158 1 v bs.length (bs.map fun x=>Value.pointer (some (iA x 0)))∧Below w.heap.size w W':=by
 have HC:=hid (callsIn_wide.1 (zRg Fence.wide 5 trivial trivial rfl (by omega) Bm b L hL hlen w hBm hm hpm));go_enter Tryz.func84,Tryz.ntmps84;go_wp2_with fail;refine HC.mono ?_;rintro e w1 ⟨v,bs,ps,rfl,h1,h2,h3,h4⟩;have HZ:=hid (And.intro h1 (And.intro h2 (And.intro h3 h4)));go_wp2;go_ret;exact⟨v,bs,ps,rfl,HZ⟩
theorem zRi(b:Nat)(w:World):
 Cl 85 #[.map (some b)] w fun e w'=>e=.returned (.func (.func 133) #[] #[iP w.heap.size])∧w'=w.alloc (.cells #[.map (some b)] 110):=by
 go_enter Tryz.func85,Tryz.ntmps85;go_wp2;go_ret;exact⟨rfl,rfl⟩
end Go.Proofs.YtanfmhonjpjpoaaGreatDoor
