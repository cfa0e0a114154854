import Derived.Test.YtehmdohpmpbnnaaGreatDoorQ00
set_option linter.all false
set_option maxRecDepth 100000
set_option maxHeartbeats 8000000
namespace Go.Proofs.YtehmdohpmpbnnaaGreatDoor
open Go.Proofs.Tryz
structure Ord where
 id:Int
 side:Int
 typ:Int
 mg:Int
 jw:Int
 off:Int
 jr:Int
 time:Int
 dm:Int
 bn:Int
 opn:Int
 bu:Int
 cancelled:Int
 bg:Int
 dh:Int
structure bf where
 mo:Int
 mp:Int
 mq:Int
 gz:List Int
 drawn:Nat
 all:List Ord
 rest:List UInt8
 now:Int
 seq:Nat
 dh:Nat
 out:List UInt8
 worth:Int
 gq:Int
namespace bf
def wN(kind seq id other bn mg reason:Int):List UInt8:=be 1 kind++be 4 seq++be 4 id++be 4 other++be 4 bn++be 4 mg++be 1 reason
theorem gX(a b c d e f g:Int):(wN a b c d e f g).length=22:=by simp[wN,zl]
def tell(e:bf)(kind id other bn mg reason:Int):bf:={ e with seq:=e.seq+1,out:=e.out++wN kind (e.seq+1:Nat) id other bn mg reason }
def ny(e:bf)(id reason:Int):bf:=e.tell 2 id 0 0 0 reason
def upd(e:bf)(i:Nat)(f:Ord→Ord):bf:={ e with all:=e.all.modify i f }
def lay(e:bf)(i:Nat)(n:Int):bf:=
 let e1:={ e with dh:=e.dh+1 }.upd i fun o=>{ o with dh:=(e.dh+1:Nat),bg:=n }
 match e.all[i]? with
 |some o=>e1.tell 6 o.id 0 o.bn n 0
 |none=>e1
def draw(e:bf):Int×bf:=(if e.gz.length=0 then 0 else(e.gz.getD (e.drawn % e.gz.length) 0) % 4294967296,{ e with drawn:=e.drawn+1 })
def bU(side:Int)(o:Ord):Bool:=o.side == side && o.bg != 0
def ahead(side:Int)(x y:Ord):Bool:=(if side=2 then decide (x.bn<y.bn) else decide (y.bn<x.bn)) || (x.bn == y.bn && decide (x.dh<y.dh))
def pz(l:List Ord)(side:Int):Nat→Option Nat
 |0=>none
 |n+1=>match l[n]? with
  |none=>pz l side n
  |some x=>if bU side x then(match pz l side n with
   |none=>some n
   |some b=>if(match l[b]? with|some y=>ahead side x y|none=>true) then some n else some b) else pz l side n
def first(e:bf)(side:Int):Option Nat:=pz e.all side e.all.length
def meets(o:Ord)(bn:Int):Bool:=if o.side=1 then decide (bn≤o.bn) else decide (o.bn≤bn)
def sw(e:bf)(i k:Nat):bf:=
 match e.all[i]?,e.all[k]? with
 |some o,some r=>
  let n:=if r.bg<o.opn then r.bg else o.opn
  let e1:=(e.upd i fun o=>{ o with opn:=o.opn - n,bu:=o.bu+n }).upd k fun r=>{ r with opn:=r.opn - n,bu:=r.bu+n,bg:=r.bg - n }
  let e2:={ e1 with worth:=e1.worth+n*r.bn,gq:=e1.gq+n }.tell 3 o.id r.id r.bn n 0
  if r.opn - n=0 then e2.upd k fun r=>{ r with dm:=2 }
  else if r.bg - n=0 then
   let d:=e2.draw
   let m:=1+d.1 % r.jw
   d.2.lay k (if r.opn - n<m then r.opn - n else m)
  else e2
 |_,_=>e
def bH(e:bf)(i:Nat):Option Nat:=
 match e.all[i]? with
 |some o=>if 0<o.opn then(match e.first (3 - o.side) with
  |some k=>(match e.all[k]? with
   |some r=>if meets o r.bn then some k else none
   |none=>none)
  |none=>none) else none
 |none=>none
def qg:Nat→bf→Nat→bf
 |0,e,_=>e
 |f+1,e,i=>match e.bH i with
  |some k=>qg f (e.sw i k) i
  |none=>e
def nH(e:bf)(i:Nat):Int:=match e.all[i]? with|some o=>o.opn|none=>0
def pq(o:Ord):Int:=if o.typ=2∧o.jw<o.opn then o.jw else o.opn
def zy(e:bf)(i:Nat):bf:=
 let e1:=qg (e.nH i).toNat e i
 match e1.all[i]? with
 |some o=>if o.opn=0 then e1.upd i fun o=>{ o with dm:=2 } else e1.lay i (pq o)
 |none=>e1
def gone(e:bf)(i:Nat)(reason:Int):bf:=
 match e.all[i]? with
 |some o=>(e.upd i fun o=>{ o with cancelled:=o.opn,opn:=0,bg:=0,dm:=3 }).tell 4 o.id 0 0 o.opn reason
 |none=>e
def find(e:bf)(id:Int):Option Nat:=e.all.findIdx? (fun o=>o.id == id)
def alive(e:bf):Nat:=e.all.countP (fun o=>o.dm == 1)
def rf(n least most:Int):Bool:=decide (least≤n) && decide (n≤most)
def why(e:bf)(v:Nat→Int):Int:=
 if v 0=0∨rf (v 1) 1 2=false∨rf (v 2) 1 3=false∨rf (v 7) 1 3=false then 4
 else if(e.find (v 0)).isSome then 2
 else if(if v 2=3 then v 3 == 0 else rf (v 3) 1 e.mp)=false then 5
 else if rf (v 4) 1 e.mq=false∨(if v 2=2 then rf (v 5) 1 (v 4) else v 5 == 0)=false then 6
 else if(if v 2=3 then(if v 1=1 then rf (v 6) (-e.mp) 0 else rf (v 6) 0 e.mp) else v 6 == 0)=false then 7
 else if(if v 7=3 then decide (e.now<v 8) else v 8 == 0)=false then 8
 else if e.mo≤e.alive then 9
 else 0
def fresh(e:bf)(v:Nat→Int):bf:=
 if e.why v≠0 then e.ny (v 0) (e.why v)
 else
  let e1:=({ e with all:=e.all++ [({ id:=v 0,side:=v 1,typ:=v 2,mg:=v 4,jw:=v 5,off:=v 6,jr:=v 7,time:=v 8,dm:=1,bn:=v 3,opn:=v 4,bu:=0,cancelled:=0,bg:=0,dh:=0 }:Ord)] }:bf).tell 1 (v 0) (v 1) (v 3) (v 4) (v 2)
  if v 2=3 then e1 else e1.zy e.all.length
def tu(e:bf)(id:Int):Option Nat:=match e.find id with
 |some i=>(match e.all[i]? with|some o=>if o.dm=1 then some i else none|none=>none)
 |none=>none
def cancel(e:bf)(id:Int):bf:=match e.tu id with
 |some i=>e.gone i 1
 |none=>e.ny id 3
def replace(e:bf)(v:Nat→Int):bf:=match e.tu (v 0) with
 |none=>e.ny (v 0) 3
 |some i=>match e.all[i]? with
  |none=>e
  |some o=>
   if(if o.typ=3 then v 3 == 0 else rf (v 3) 1 e.mp)=false then e.ny (v 0) 5
   else if rf (v 4) (o.bu+1) e.mq=false then e.ny (v 0) 6
   else
    let keeps:Bool:=decide (v 4≤o.mg) && (o.typ == 3 || v 3 == o.bn)
    let e1:=(e.upd i fun o=>{ o with mg:=v 4,opn:=v 4 - o.bu }).tell 5 (v 0) 0 (v 3) (v 4) (if keeps then 1 else 0)
    if keeps then e1.upd i fun o=>{ o with bg:=if o.opn<o.bg then o.opn else o.bg }
    else if o.typ≠3 then(e1.upd i fun o=>{ o with bn:=v 3,bg:=0 }).zy i
    else if 0<o.bg then e1.lay i (v 4 - o.bu)
    else e1
def xk(p:Ord→Bool)(reason:Int)(e:bf)(i:Nat):bf:=match e.all[i]? with
 |some o=>if o.dm=1∧p o then e.gone i reason else e
 |none=>e
def due(p:Ord→Bool)(reason:Int)(e:bf):bf:=(List.range e.all.length).foldl (xk p reason) e
def tick(e:bf)(t:Int):bf:=
 if t<e.now then e.ny 0 10 else{ e with now:=t }.due (fun o=>o.jr == 3 && decide (o.time≤t)) 2
def close(e:bf):bf:=e.due (fun o=>o.jr == 1) 3
def qw(side:Int)(l:List Ord):Int:=l.foldl (fun p x=>if x.side=side∧x.typ≠3∧0<x.bg∧(p=0∨(side=1∧p<x.bn)∨(side=2∧x.bn<p)) then x.bn else p) 0
def nJ(p lo hi:Int):Int:=let q:=if p<lo then lo else p;if hi<q then hi else q
def target(e:bf)(o:Ord):Int:=let p:=qw o.side e.all;if 0<p then nJ (p+o.off) 1 e.mp else p
def gm(e:bf)(i:Nat):bf:=match e.all[i]? with
 |some o=>if o.dm=1∧o.typ=3 then
  let p:=e.target o
  if p=o.bn then e
  else if p=0 then(e.upd i fun o=>{ o with bn:=0,bg:=0 }).tell 8 o.id 0 0 0 0
  else({ e with dh:=e.dh+1 }.upd i fun o=>{ o with bn:=p,dh:=(e.dh+1:Nat),bg:=o.opn }).tell 7 o.id 0 p o.opn 0
  else e
 |none=>e
def follow(e:bf):bf:=(List.range e.all.length).foldl gm e
def run(e:bf)(kind:Int)(v:Nat→Int):bf:=
 if kind=1 then e.fresh v else if kind=2 then e.cancel (v 0) else if kind=3 then e.replace v else if kind=4 then e.tick (v 8) else if kind=5 then e.close else e
end bf
end Go.Proofs.YtehmdohpmpbnnaaGreatDoor
