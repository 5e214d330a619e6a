import Derived.Test.YtcbhgaeiokfcdaaVxCode
noncomputable section
namespace Go.Proofs.Ytcbhgaeiokfcdaa.Vx
open Go Go.RowKit
set_option linter.unusedVariables false
def w0l (b:Nat):Nat:=1<<<b
def e0h:List Nat→Nat
 |[]=>0
 |b::l=>w0l b|||e0h l
def dstM:Option Tmp→Nat
 |some d=>w0l d
 |none=>0
def u1e:Nat→SV→Nat
 |0,_=>0
 |n+1,v=>match v with
  |.own b _=>w0l b
  |.part b _ _ _=>w0l b
  |.ptr b _=>w0l b
  |.eptr b _ _ _=>w0l b
  |.aptr b _ _ _ _ _=>w0l b
  |.asl b _ _=>w0l b
  |.mapv b=>w0l b
  |.itr b=>w0l b
  |.iface _ v=>u1e n v
  |.agg es=>es.foldl (fun m e=>m|||u1e n e) 0
  |.tup es=>es.foldl (fun m e=>m|||u1e n e) 0
  |.fn _ fs cs=>(fs++cs).foldl (fun m e=>m|||u1e n e) 0
  |_=>0
def refsB:Blk→Nat
 |.cells es=>es.foldl (fun m e=>m|||u1e 9 e) 0
 |.vec _ es=>es.foldl (fun m e=>m|||u1e 9 e) 0
 |.fmap _ _ es=>es.foldl (fun m e=>m|||u1e 9 e) 0
 |_=>0
def d3w (m:Nat):Nat→List Blk→Nat→Nat
 |_,[],acc=>acc
 |i,x::xs,acc=>d3w m (i+1) xs (bif Nat.testBit m i then acc|||refsB x else acc)
def reach:Nat→List Blk→Nat→Nat
 |0,_,m=>m
 |n+1,bs,m=>bif Nat.beq (d3w m 0 bs m) m then m else reach n bs (d3w m 0 bs m)
def isCall:Op→Bool
 |.call ⟨.builtin _,_,_⟩=>false
 |.call _=>true
 |_=>false
def pureOp:Op→Bool
 |.move _=>true
 |.assign _=>true
 |.pick _ _ _=>true
 |.nilCheck _=>true
 |.binOp _ _ _ _ _=>true
 |.unOp _ _ _=>true
 |.makeInterface _ _=>true
 |.makeFunc _ _ _=>true
 |.fieldAddr _ _ _=>true
 |.field _ _ _=>true
 |.typeAssert _ _ _ _=>true
 |.extract _ _=>true
 |_=>false
def c0e (o:Oper)(t:List SV)(rd:Nat)(s:SW):Nat:=match pureOp o.op with
 |true=>0
 |false=>match isCall o.op with
  |true=>bif Nat.beq (refsAt2 0 t 0) 0 then 0 else reach 99 s.blks (refsAt2 0 t 0)
  |false=>refsAt2 0 t 0
where
 refsAt2:Nat→List SV→Nat→Nat
 |_,[],acc=>acc
 |i,x::xs,acc=>refsAt2 (i+1) xs (bif Nat.testBit rd i then acc|||u1e 9 x else acc)
def m0q (F:Nat):Nat→List Blk→List Blk
 |_,[]=>[]
 |i,x::xs=>(bif Nat.testBit F i then x else .gone)::m0q F (i+1) xs
def c0z (F:Nat)(s:SW):SW:=⟨m0q F 0 s.blks,[]⟩
def b0s (F:Nat):Nat→List SV→List SV
 |_,[]=>[]
 |i,x::xs=>(bif Nat.testBit F i then x else .dead)::b0s F (i+1) xs
def j0g (W:Nat):Nat→List Blk→List Blk→List Blk
 |_,[],ys=>ys
 |_,x::xs,[]=>x::xs
 |i,x::xs,y::ys=>(bif Nat.testBit W i then y else x)::j0g W (i+1) xs ys
def n0a:List Nat→List Nat→List Nat
 |[],l=>l
 |b::bs,l=>bif l.contains b then n0a bs l else b::n0a bs l
def i0k (s s1:SW):SW:=bif Nat.beq (e0h s1.log) 0&&Nat.beq s1.blks.length s.blks.length then s else
 ⟨j0g (e0h s1.log) 0 s.blks s1.blks,n0a s1.log s.log⟩
def a0n (ops:Array Oper)(o:Oper):Nat:=e0h (o.looksAt ops)
structure St where
 i:Nat
 rd:Nat
 F:Nat
 W:Nat
 n:Nat
 m:Nat
 d:Option Tmp
 v:SV
 s:SW
def stOf (i rd F:Nat)(s s1:SW)(d:Option Tmp)(v:SV):St:=⟨i,rd,F,e0h s1.log,s.blks.length,s1.blks.length,d,v,i0k s s1⟩
def f0y (P:Program)(cl:b0j)(ops:Array Oper):List Nat→List Nat→List SV→SW→List St→Tree (List St×List SV×SW)
 |[],_,t,s,L=>.leaf (L,t,s)
 |i::rest,seen,t,s,L=>match ops[i]? with
  |none=>.bad 200
  |some o=>match o.guard with
   |none=>(runOp P cl o (b0s (a0n ops o) 0 t) (c0z (c0e o t (a0n ops o) s) s)).bind fun x=>
    f0y P cl ops rest seen (put t o.dst x.1) (i0k s x.2) (stOf i (a0n ops o) (c0e o t (a0n ops o) s) s x.2 o.dst x.1::L)
   |some (j,want)=>match e0x ops (b0s (a0n ops o) 0 t) j with
    |.bad=>.bad 201
    |.no=>f0y P cl ops rest seen (put t o.dst .undef) s (stOf i (a0n ops o) 0 s (c0z 0 s) o.dst .undef::L)
    |.yes d b=>match seen.contains j with
     |true=>match b==want with
      |true=>(runOp P cl o (b0s (a0n ops o) 0 t) (c0z (c0e o t (a0n ops o) s) s)).bind fun x=>
       f0y P cl ops rest seen (put t o.dst x.1) (i0k s x.2) (stOf i (a0n ops o) (c0e o t (a0n ops o) s) s x.2 o.dst x.1::L)
      |false=>f0y P cl ops rest seen (put t o.dst .undef) s (stOf i (a0n ops o) 0 s (c0z 0 s) o.dst .undef::L)
     |false=>.node b
      (match want with
       |true=>(runOp P cl o (b0s (a0n ops o) 0 (t.set d (.bool true))) (c0z (c0e o t (a0n ops o) s) s)).bind fun x=>
        f0y P cl ops rest (j::seen) (put (t.set d (.bool true)) o.dst x.1) (i0k s x.2) (stOf i (a0n ops o) (c0e o t (a0n ops o) s) s x.2 o.dst x.1::L)
       |false=>f0y P cl ops rest (j::seen) (put (t.set d (.bool true)) o.dst .undef) s (stOf i (a0n ops o) 0 s (c0z 0 s) o.dst .undef::L))
      (match want with
       |false=>(runOp P cl o (b0s (a0n ops o) 0 (t.set d (.bool false))) (c0z (c0e o t (a0n ops o) s) s)).bind fun x=>
        f0y P cl ops rest (j::seen) (put (t.set d (.bool false)) o.dst x.1) (i0k s x.2) (stOf i (a0n ops o) (c0e o t (a0n ops o) s) s x.2 o.dst x.1::L)
       |true=>f0y P cl ops rest (j::seen) (put (t.set d (.bool false)) o.dst .undef) s (stOf i (a0n ops o) 0 s (c0z 0 s) o.dst .undef::L))
def w0t (ops:Array Oper):List Nat→List Nat→Option (List Nat)
 |[],acc=>some acc
 |i::rest,acc=>match ops[i]? with
  |none=>none
  |some o=>match edgesM (o.after.toList.filter (Region.binds .any)) acc i 0 with
   |some m=>w0t ops rest (acc++[m])
   |none=>none
where
 edgesM:List Edge→List Nat→Nat→Nat→Option Nat
 |[],_,_,m=>some m
 |e::es,acc,i,m=>match acc[e.on]? with
  |some p=>edgesM es acc i (m|||(w0l e.on|||p))
  |none=>none
def e1k (ops:Array Oper):Option (List Nat):=w0t ops (List.range ops.size) []
def newM (n m:Nat):Nat:=((1<<<(m-n))-1)<<<n
def St.wm (x:St):Nat:=x.W|||newM x.n x.m
def apartB (e l:St):Bool:=
 Nat.beq (l.wm&&&(e.F|||e.wm)) 0&&(Nat.beq (e.wm&&&l.F) 0&&(Nat.beq (dstM e.d&&&(l.rd|||dstM l.d)) 0&&Nat.beq (dstM l.d&&&e.rd) 0))
def b1h (ps:List Nat)(l e:St):Bool:=apartB e l||Nat.testBit (ps.getD l.i 0) e.i
def p2r (l:St):Bool:=Nat.ble l.n l.m&&(Nat.beq (l.W&&&(l.F|||newM l.n l.m)) l.W&&Nat.ble (l.W+1) (1<<<l.m))
def k0y (ps:List Nat):List St→Bool
 |[]=>true
 |l::es=>p2r l&&(es.all (b1h ps l)&&k0y ps es)
def f2u (ops:Array Oper)(L:List St):Bool:=match e1k ops with
 |some ps=>k0y ps L
 |none=>false
def t0a (P:Program)(cl:b0j)(ops:Array Oper)(draws:Bool)(t:List SV)(s:SW):Tree (List SV×SW):=match draws with
 |false=>q0b P cl ops (List.range ops.size) [] t s
 |true=>(f0y P cl ops (List.range ops.size) [] t s []).bind fun x=>.guard (f2u ops x.1) 210 (.leaf x.2)
end Go.Proofs.Ytcbhgaeiokfcdaa.Vx
