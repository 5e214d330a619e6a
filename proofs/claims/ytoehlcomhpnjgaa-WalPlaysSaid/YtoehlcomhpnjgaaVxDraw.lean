import Derived.Test.YtoehlcomhpnjgaaVxCode
noncomputable section
namespace Go.Proofs.Ytoehlcomhpnjgaa.Vx
open Go Go.RowKit
set_option linter.unusedVariables false
def w0c (b:Nat):Nat:=1<<<b
def e0h:List Nat→Nat
 |[]=>0
 |b::l=>w0c b|||e0h l
def dstM:Option Tmp→Nat
 |some d=>w0c d
 |none=>0
def m1n:Nat→SV→Nat
 |0,_=>0
 |n+1,v=>match v with
  |.own b _=>w0c b
  |.part b _ _ _=>w0c b
  |.ptr b _=>w0c b
  |.eptr b _ _ _=>w0c b
  |.aptr b _ _ _ _ _=>w0c b
  |.asl b _ _=>w0c b
  |.optr _ b _=>w0c b
  |.asp b _ _ _=>w0c b
  |.esp b _ _ _ _=>w0c b
  |.mapv b=>w0c b
  |.itr b=>w0c b
  |.iface _ v=>m1n n v
  |.agg es=>es.foldl (fun m e=>m|||m1n n e) 0
  |.tup es=>es.foldl (fun m e=>m|||m1n n e) 0
  |.fn _ fs cs=>(fs++cs).foldl (fun m e=>m|||m1n n e) 0
  |_=>0
def refsB:Blk→Nat
 |.cells es=>es.foldl (fun m e=>m|||m1n 9 e) 0
 |.vec _ es=>es.foldl (fun m e=>m|||m1n 9 e) 0
 |.fmap _ _ es=>es.foldl (fun m e=>m|||m1n 9 e) 0
 |_=>0
def n2b (m:Nat):Nat→List Blk→Nat→Nat
 |_,[],acc=>acc
 |i,x::xs,acc=>n2b m (i+1) xs (bif Nat.testBit m i then acc|||refsB x else acc)
def reach:Nat→List Blk→Nat→Nat
 |0,_,m=>m
 |n+1,bs,m=>bif Nat.beq (n2b m 0 bs m) m then m else reach n bs (n2b m 0 bs m)
def isCall:Op→Bool
 |.call ⟨.builtin _,_,_⟩=>false
 |.call _=>true
 |_=>false
def pureOp:Op→Bool
 |.move _=>true
 |.assign _=>true
 |.pick _ _ _=>true
 |.nilCheck _=>true
 |.binOp _ _ _ _ _=>true
 |.unOp _ _ _=>true
 |.makeInterface _ _=>true
 |.makeFunc _ _ _=>true
 |.fieldAddr _ _ _=>true
 |.field _ _ _=>true
 |.typeAssert _ _ _ _=>true
 |.extract _ _=>true
 |_=>false
def b0w (o:Oper)(t:List SV)(rd:Nat)(s:SW):Nat:=match pureOp o.op with
 |true=>0
 |false=>match isCall o.op with
  |true=>bif Nat.beq (refsAt2 0 t 0) 0 then 0 else reach 99 s.blks (refsAt2 0 t 0)
  |false=>refsAt2 0 t 0
where
 refsAt2:Nat→List SV→Nat→Nat
 |_,[],acc=>acc
 |i,x::xs,acc=>refsAt2 (i+1) xs (bif Nat.testBit rd i then acc|||m1n 9 x else acc)
def l0u (F:Nat):Nat→List Blk→List Blk
 |_,[]=>[]
 |i,x::xs=>(bif Nat.testBit F i then x else .gone)::l0u F (i+1) xs
def c0v (F:Nat)(s:SW):SW:=⟨l0u F 0 s.blks,[]⟩
def b0m (F:Nat):Nat→List SV→List SV
 |_,[]=>[]
 |i,x::xs=>(bif Nat.testBit F i then x else .dead)::b0m F (i+1) xs
def i0u (W:Nat):Nat→List Blk→List Blk→List Blk
 |_,[],ys=>ys
 |_,x::xs,[]=>x::xs
 |i,x::xs,y::ys=>(bif Nat.testBit W i then y else x)::i0u W (i+1) xs ys
def m0j:List Nat→List Nat→List Nat
 |[],l=>l
 |b::bs,l=>bif l.contains b then m0j bs l else b::m0j bs l
def h0s (s s1:SW):SW:=bif Nat.beq (e0h s1.log) 0&&Nat.beq s1.blks.length s.blks.length then s else
 ⟨i0u (e0h s1.log) 0 s.blks s1.blks,m0j s1.log s.log⟩
def a0l (ops:Array Oper)(o:Oper):Nat:=e0h (o.looksAt ops)
structure St where
 i:Nat
 rd:Nat
 F:Nat
 W:Nat
 n:Nat
 m:Nat
 d:Option Tmp
 v:SV
 s:SW
def stOf (i rd F:Nat)(s s1:SW)(d:Option Tmp)(v:SV):St:=⟨i,rd,F,e0h s1.log,s.blks.length,s1.blks.length,d,v,h0s s s1⟩
def f0l (P:Program)(cl:b0p)(ops:Array Oper):List Nat→List Nat→List SV→SW→List St→Tree (List St×List SV×SW)
 |[],_,t,s,L=>.leaf (L,t,s)
 |i::rest,seen,t,s,L=>match ops[i]? with
  |none=>.bad 200
  |some o=>match o.guard with
   |none=>(runOp P cl o (b0m (a0l ops o) 0 t) (c0v (b0w o t (a0l ops o) s) s)).bind fun x=>
    f0l P cl ops rest seen (put t o.dst x.1) (h0s s x.2) (stOf i (a0l ops o) (b0w o t (a0l ops o) s) s x.2 o.dst x.1::L)
   |some (j,want)=>match e0r ops (b0m (a0l ops o) 0 t) j with
    |.bad=>.bad 201
    |.no=>f0l P cl ops rest seen (put t o.dst .undef) s (stOf i (a0l ops o) 0 s (c0v 0 s) o.dst .undef::L)
    |.yes d b=>match seen.contains j with
     |true=>match b==want with
      |true=>(runOp P cl o (b0m (a0l ops o) 0 t) (c0v (b0w o t (a0l ops o) s) s)).bind fun x=>
       f0l P cl ops rest seen (put t o.dst x.1) (h0s s x.2) (stOf i (a0l ops o) (b0w o t (a0l ops o) s) s x.2 o.dst x.1::L)
      |false=>f0l P cl ops rest seen (put t o.dst .undef) s (stOf i (a0l ops o) 0 s (c0v 0 s) o.dst .undef::L)
     |false=>.node b
      (match want with
       |true=>(runOp P cl o (b0m (a0l ops o) 0 (t.set d (.bool true))) (c0v (b0w o t (a0l ops o) s) s)).bind fun x=>
        f0l P cl ops rest (j::seen) (put (t.set d (.bool true)) o.dst x.1) (h0s s x.2) (stOf i (a0l ops o) (b0w o t (a0l ops o) s) s x.2 o.dst x.1::L)
       |false=>f0l P cl ops rest (j::seen) (put (t.set d (.bool true)) o.dst .undef) s (stOf i (a0l ops o) 0 s (c0v 0 s) o.dst .undef::L))
      (match want with
       |false=>(runOp P cl o (b0m (a0l ops o) 0 (t.set d (.bool false))) (c0v (b0w o t (a0l ops o) s) s)).bind fun x=>
        f0l P cl ops rest (j::seen) (put (t.set d (.bool false)) o.dst x.1) (h0s s x.2) (stOf i (a0l ops o) (b0w o t (a0l ops o) s) s x.2 o.dst x.1::L)
       |true=>f0l P cl ops rest (j::seen) (put (t.set d (.bool false)) o.dst .undef) s (stOf i (a0l ops o) 0 s (c0v 0 s) o.dst .undef::L))
def x0h (ops:Array Oper):List Nat→List Nat→Option (List Nat)
 |[],acc=>some acc
 |i::rest,acc=>match ops[i]? with
  |none=>none
  |some o=>match edgesM (o.after.toList.filter (Region.binds .any)) acc i 0 with
   |some m=>x0h ops rest (acc++[m])
   |none=>none
where
 edgesM:List Edge→List Nat→Nat→Nat→Option Nat
 |[],_,_,m=>some m
 |e::es,acc,i,m=>match acc[e.on]? with
  |some p=>edgesM es acc i (m|||(w0c e.on|||p))
  |none=>none
def d1x (ops:Array Oper):Option (List Nat):=x0h ops (List.range ops.size) []
def newM (n m:Nat):Nat:=((1<<<(m-n))-1)<<<n
def St.wm (x:St):Nat:=x.W|||newM x.n x.m
def apartB (e l:St):Bool:=
 Nat.beq (l.wm&&&(e.F|||e.wm)) 0&&(Nat.beq (e.wm&&&l.F) 0&&(Nat.beq (dstM e.d&&&(l.rd|||dstM l.d)) 0&&Nat.beq (dstM l.d&&&e.rd) 0))
def a1k (ps:List Nat)(l e:St):Bool:=apartB e l||Nat.testBit (ps.getD l.i 0) e.i
def g2m (l:St):Bool:=Nat.ble l.n l.m&&(Nat.beq (l.W&&&(l.F|||newM l.n l.m)) l.W&&Nat.ble (l.W+1) (1<<<l.m))
def k0t (ps:List Nat):List St→Bool
 |[]=>true
 |l::es=>g2m l&&(es.all (a1k ps l)&&k0t ps es)
def x1n (ops:Array Oper)(L:List St):Bool:=match d1x ops with
 |some ps=>k0t ps L
 |none=>false
def s0a (P:Program)(cl:b0p)(ops:Array Oper)(draws:Bool)(t:List SV)(s:SW):Tree (List SV×SW):=match draws with
 |false=>o0r P cl ops (List.range ops.size) [] t s
 |true=>(f0l P cl ops (List.range ops.size) [] t s []).bind fun x=>.guard (x1n ops x.1) 210 (.leaf x.2)
end Go.Proofs.Ytoehlcomhpnjgaa.Vx
