import Derived.Test.YtanfmhonjpjpoaaGreatDoorQ00
set_option linter.all false
set_option maxRecDepth 100000
set_option maxHeartbeats 8000000
namespace Go.Proofs.YtanfmhonjpjpoaaGreatDoor
structure Ord where
 id:Int
 side:Int
 typ:Int
 qty:Int
 peak:Int
 off:Int
 life:Int
 time:Int
 status:Int
 price:Int
 opn:Int
 filled:Int
 cancelled:Int
 shown:Int
 stamp:Int
structure Eng where
 mo:Int
 mp:Int
 mq:Int
 draws:List Int
 drawn:Nat
 all:List Ord
 rest:List UInt8
 now:Int
 seq:Nat
 stamp:Nat
 out:List UInt8
 worth:Int
 volume:Int
namespace Eng
def recB(kind seq id other price qty reason:Int):List UInt8:=be 1 kind++be 4 seq++be 4 id++be 4 other++be 4 price++be 4 qty++be 1 reason
theorem recB_length(a b c d e f g:Int):(recB a b c d e f g).length=22:=by simp[recB,zA2]
def tell(e:Eng)(kind id other price qty reason:Int):Eng:={ e with seq:=e.seq+1,out:=e.out++recB kind (e.seq+1:Nat) id other price qty reason }
def reject(e:Eng)(id reason:Int):Eng:=e.tell 2 id 0 0 0 reason
def upd(e:Eng)(i:Nat)(f:Ord→Ord):Eng:={ e with all:=e.all.modify i f }
def lay(e:Eng)(i:Nat)(n:Int):Eng:=
 let e1:={ e with stamp:=e.stamp+1 }.upd i fun o=>{ o with stamp:=(e.stamp+1:Nat),shown:=n }
 match e.all[i]? with
 |some o=>e1.tell 6 o.id 0 o.price n 0
 |none=>e1
def draw(e:Eng):Int×Eng:=(if e.draws.length=0 then 0 else(e.draws.getD (e.drawn % e.draws.length) 0) % 4294967296,{ e with drawn:=e.drawn+1 })
def rests(side:Int)(o:Ord):Bool:=o.side == side && o.shown != 0
def ahead(side:Int)(x y:Ord):Bool:=(if side=2 then decide (x.price<y.price) else decide (y.price<x.price)) || (x.price == y.price && decide (x.stamp<y.stamp))
def firstTo(l:List Ord)(side:Int):Nat→Option Nat
 |0=>none
 |n+1=>match l[n]? with
  |none=>firstTo l side n
  |some x=>if rests side x then(match firstTo l side n with
   |none=>some n
   |some b=>if(match l[b]? with|some y=>ahead side x y|none=>true) then some n else some b) else firstTo l side n
def first(e:Eng)(side:Int):Option Nat:=firstTo e.all side e.all.length
def meets(o:Ord)(price:Int):Bool:=if o.side=1 then decide (price≤o.price) else decide (o.price≤price)
def trade(e:Eng)(i k:Nat):Eng:=
 match e.all[i]?,e.all[k]? with
 |some o,some r=>
  let n:=if r.shown<o.opn then r.shown else o.opn
  let e1:=(e.upd i fun o=>{ o with opn:=o.opn - n,filled:=o.filled+n }).upd k fun r=>{ r with opn:=r.opn - n,filled:=r.filled+n,shown:=r.shown - n }
  let e2:={ e1 with worth:=e1.worth+n*r.price,volume:=e1.volume+n }.tell 3 o.id r.id r.price n 0
  if r.opn - n=0 then e2.upd k fun r=>{ r with status:=2 }
  else if r.shown - n=0 then
   let d:=e2.draw
   let m:=1+d.1 % r.peak
   d.2.lay k (if r.opn - n<m then r.opn - n else m)
  else e2
 |_,_=>e
def mate(e:Eng)(i:Nat):Option Nat:=
 match e.all[i]? with
 |some o=>if 0<o.opn then(match e.first (3 - o.side) with
  |some k=>(match e.all[k]? with
   |some r=>if meets o r.price then some k else none
   |none=>none)
  |none=>none) else none
 |none=>none
def trades:Nat→Eng→Nat→Eng
 |0,e,_=>e
 |f+1,e,i=>match e.mate i with
  |some k=>trades f (e.trade i k) i
  |none=>e
def opnOf(e:Eng)(i:Nat):Int:=match e.all[i]? with|some o=>o.opn|none=>0
def atRest(o:Ord):Int:=if o.typ=2∧o.peak<o.opn then o.peak else o.opn
def sweep(e:Eng)(i:Nat):Eng:=
 let e1:=trades (e.opnOf i).toNat e i
 match e1.all[i]? with
 |some o=>if o.opn=0 then e1.upd i fun o=>{ o with status:=2 } else e1.lay i (atRest o)
 |none=>e1
def gone(e:Eng)(i:Nat)(reason:Int):Eng:=
 match e.all[i]? with
 |some o=>(e.upd i fun o=>{ o with cancelled:=o.opn,opn:=0,shown:=0,status:=3 }).tell 4 o.id 0 0 o.opn reason
 |none=>e
def find(e:Eng)(id:Int):Option Nat:=e.all.findIdx? (fun o=>o.id == id)
def alive(e:Eng):Nat:=e.all.countP (fun o=>o.status == 1)
def inn(n least most:Int):Bool:=decide (least≤n) && decide (n≤most)
def why(e:Eng)(v:Nat→Int):Int:=
 if v 0=0∨inn (v 1) 1 2=false∨inn (v 2) 1 3=false∨inn (v 7) 1 3=false then 4
 else if(e.find (v 0)).isSome then 2
 else if(if v 2=3 then v 3 == 0 else inn (v 3) 1 e.mp)=false then 5
 else if inn (v 4) 1 e.mq=false∨(if v 2=2 then inn (v 5) 1 (v 4) else v 5 == 0)=false then 6
 else if(if v 2=3 then(if v 1=1 then inn (v 6) (-e.mp) 0 else inn (v 6) 0 e.mp) else v 6 == 0)=false then 7
 else if(if v 7=3 then decide (e.now<v 8) else v 8 == 0)=false then 8
 else if e.mo≤e.alive then 9
 else 0
def fresh(e:Eng)(v:Nat→Int):Eng:=
 if e.why v≠0 then e.reject (v 0) (e.why v)
 else
  let e1:=({ e with all:=e.all++ [({ id:=v 0,side:=v 1,typ:=v 2,qty:=v 4,peak:=v 5,off:=v 6,life:=v 7,time:=v 8,status:=1,price:=v 3,opn:=v 4,filled:=0,cancelled:=0,shown:=0,stamp:=0 }:Ord)] }:Eng).tell 1 (v 0) (v 1) (v 3) (v 4) (v 2)
  if v 2=3 then e1 else e1.sweep e.all.length
def liveAt(e:Eng)(id:Int):Option Nat:=match e.find id with
 |some i=>(match e.all[i]? with|some o=>if o.status=1 then some i else none|none=>none)
 |none=>none
def cancel(e:Eng)(id:Int):Eng:=match e.liveAt id with
 |some i=>e.gone i 1
 |none=>e.reject id 3
def replace(e:Eng)(v:Nat→Int):Eng:=match e.liveAt (v 0) with
 |none=>e.reject (v 0) 3
 |some i=>match e.all[i]? with
  |none=>e
  |some o=>
   if(if o.typ=3 then v 3 == 0 else inn (v 3) 1 e.mp)=false then e.reject (v 0) 5
   else if inn (v 4) (o.filled+1) e.mq=false then e.reject (v 0) 6
   else
    let keeps:Bool:=decide (v 4≤o.qty) && (o.typ == 3 || v 3 == o.price)
    let e1:=(e.upd i fun o=>{ o with qty:=v 4,opn:=v 4 - o.filled }).tell 5 (v 0) 0 (v 3) (v 4) (if keeps then 1 else 0)
    if keeps then e1.upd i fun o=>{ o with shown:=if o.opn<o.shown then o.opn else o.shown }
    else if o.typ≠3 then(e1.upd i fun o=>{ o with price:=v 3,shown:=0 }).sweep i
    else if 0<o.shown then e1.lay i (v 4 - o.filled)
    else e1
def dueOne(p:Ord→Bool)(reason:Int)(e:Eng)(i:Nat):Eng:=match e.all[i]? with
 |some o=>if o.status=1∧p o then e.gone i reason else e
 |none=>e
def due(p:Ord→Bool)(reason:Int)(e:Eng):Eng:=(List.range e.all.length).foldl (dueOne p reason) e
def tick(e:Eng)(t:Int):Eng:=
 if t<e.now then e.reject 0 10 else{ e with now:=t }.due (fun o=>o.life == 3 && decide (o.time≤t)) 2
def close(e:Eng):Eng:=e.due (fun o=>o.life == 1) 3
def bestOf(side:Int)(l:List Ord):Int:=l.foldl (fun p x=>if x.side=side∧x.typ≠3∧0<x.shown∧(p=0∨(side=1∧p<x.price)∨(side=2∧x.price<p)) then x.price else p) 0
def clamp(p lo hi:Int):Int:=let q:=if p<lo then lo else p;if hi<q then hi else q
def target(e:Eng)(o:Ord):Int:=let p:=bestOf o.side e.all;if 0<p then clamp (p+o.off) 1 e.mp else p
def followOne(e:Eng)(i:Nat):Eng:=match e.all[i]? with
 |some o=>if o.status=1∧o.typ=3 then
  let p:=e.target o
  if p=o.price then e
  else if p=0 then(e.upd i fun o=>{ o with price:=0,shown:=0 }).tell 8 o.id 0 0 0 0
  else({ e with stamp:=e.stamp+1 }.upd i fun o=>{ o with price:=p,stamp:=(e.stamp+1:Nat),shown:=o.opn }).tell 7 o.id 0 p o.opn 0
  else e
 |none=>e
def follow(e:Eng):Eng:=(List.range e.all.length).foldl followOne e
def run(e:Eng)(kind:Int)(v:Nat→Int):Eng:=
 if kind=1 then e.fresh v else if kind=2 then e.cancel (v 0) else if kind=3 then e.replace v else if kind=4 then e.tick (v 8) else if kind=5 then e.close else e
end Eng
end Go.Proofs.YtanfmhonjpjpoaaGreatDoor
