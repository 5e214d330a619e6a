import Derived.Test.YtnmgjcpjkdmngaaVxCode
noncomputable section
namespace Go.Proofs.Ytnmgjcpjkdmngaa.Vx
open Go Go.RowKit
set_option linter.unusedVariables false
def h0q (b:Nat):Nat:=1<<<b
def c0s:List Nat→Nat
 |[]=>0
 |b::l=>h0q b|||c0s l
def dstM:Option Tmp→Nat
 |some d=>h0q d
 |none=>0
def s0c:Nat→SV→Nat
 |0,_=>0
 |n+1,v=>match v with
  |.own b _=>h0q b
  |.part b _ _ _=>h0q b
  |.ptr b _=>h0q b
  |.eptr b _ _ _=>h0q b
  |.aptr b _ _ _ _ _=>h0q b
  |.asl b _ _=>h0q b
  |.asp b _ _ _=>h0q b
  |.esp b _ _ _ _=>h0q b
  |.mapv b=>h0q b
  |.itr b=>h0q b
  |.iface _ v=>s0c n v
  |.agg es=>es.foldl (fun m e=>m|||s0c n e) 0
  |.tup es=>es.foldl (fun m e=>m|||s0c n e) 0
  |.fn _ fs cs=>(fs++cs).foldl (fun m e=>m|||s0c n e) 0
  |_=>0
def refsB:Blk→Nat
 |.cells es=>es.foldl (fun m e=>m|||s0c 9 e) 0
 |.vec _ es=>es.foldl (fun m e=>m|||s0c 9 e) 0
 |.fmap _ _ es=>es.foldl (fun m e=>m|||s0c 9 e) 0
 |_=>0
def d1o (m:Nat):Nat→List Blk→Nat→Nat
 |_,[],acc=>acc
 |i,x::xs,acc=>d1o m (i+1) xs (bif Nat.testBit m i then acc|||refsB x else acc)
def reach:Nat→List Blk→Nat→Nat
 |0,_,m=>m
 |n+1,bs,m=>bif Nat.beq (d1o m 0 bs m) m then m else reach n bs (d1o m 0 bs m)
def isCall:Op→Bool
 |.call ⟨.builtin _,_,_⟩=>false
 |.call _=>true
 |_=>false
def pureOp:Op→Bool
 |.move _=>true
 |.assign _=>true
 |.pick _ _ _=>true
 |.nilCheck _=>true
 |.binOp _ _ _ _ _=>true
 |.unOp _ _ _=>true
 |.makeInterface _ _=>true
 |.makeFunc _ _ _=>true
 |.fieldAddr _ _ _=>true
 |.field _ _ _=>true
 |.typeAssert _ _ _ _=>true
 |.extract _ _=>true
 |_=>false
def b0c (o:Oper)(t:List SV)(rd:Nat)(s:SW):Nat:=match pureOp o.op with
 |true=>0
 |false=>match isCall o.op with
  |true=>bif Nat.beq (refsAt2 0 t 0) 0 then 0 else reach 99 s.blks (refsAt2 0 t 0)
  |false=>refsAt2 0 t 0
where
 refsAt2:Nat→List SV→Nat→Nat
 |_,[],acc=>acc
 |i,x::xs,acc=>refsAt2 (i+1) xs (bif Nat.testBit rd i then acc|||s0c 9 x else acc)
def f0t (F:Nat):Nat→List Blk→List Blk
 |_,[]=>[]
 |i,x::xs=>(bif Nat.testBit F i then x else .gone)::f0t F (i+1) xs
def b0o (F:Nat)(s:SW):SW:=⟨f0t F 0 s.blks,[]⟩
def a0u (F:Nat):Nat→List SV→List SV
 |_,[]=>[]
 |i,x::xs=>(bif Nat.testBit F i then x else .dead)::a0u F (i+1) xs
def e0z (W:Nat):Nat→List Blk→List Blk→List Blk
 |_,[],ys=>ys
 |_,x::xs,[]=>x::xs
 |i,x::xs,y::ys=>(bif Nat.testBit W i then y else x)::e0z W (i+1) xs ys
def g0a:List Nat→List Nat→List Nat
 |[],l=>l
 |b::bs,l=>bif l.contains b then g0a bs l else b::g0a bs l
def e0i (s s1:SW):SW:=bif Nat.beq (c0s s1.log) 0&&Nat.beq s1.blks.length s.blks.length then s else
 ⟨e0z (c0s s1.log) 0 s.blks s1.blks,g0a s1.log s.log⟩
def a0a (ops:Array Oper)(o:Oper):Nat:=c0s (o.looksAt ops)
structure St where
 i:Nat
 rd:Nat
 F:Nat
 W:Nat
 n:Nat
 m:Nat
 d:Option Tmp
 v:SV
 s:SW
def stOf (i rd F:Nat)(s s1:SW)(d:Option Tmp)(v:SV):St:=⟨i,rd,F,c0s s1.log,s.blks.length,s1.blks.length,d,v,e0i s s1⟩
def d0l (P:Program)(cl:a0q)(ops:Array Oper):List Nat→List Nat→List SV→SW→List St→Tree (List St×List SV×SW)
 |[],_,t,s,L=>.leaf (L,t,s)
 |i::rest,seen,t,s,L=>match ops[i]? with
  |none=>.bad 200
  |some o=>match o.guard with
   |none=>(runOp P cl o (a0u (a0a ops o) 0 t) (b0o (b0c o t (a0a ops o) s) s)).bind fun x=>
    d0l P cl ops rest seen (put t o.dst x.1) (e0i s x.2) (stOf i (a0a ops o) (b0c o t (a0a ops o) s) s x.2 o.dst x.1::L)
   |some (j,want)=>match c0w ops (a0u (a0a ops o) 0 t) j with
    |.bad=>.bad 201
    |.no=>d0l P cl ops rest seen (put t o.dst .undef) s (stOf i (a0a ops o) 0 s (b0o 0 s) o.dst .undef::L)
    |.yes d b=>match seen.contains j with
     |true=>match b==want with
      |true=>(runOp P cl o (a0u (a0a ops o) 0 t) (b0o (b0c o t (a0a ops o) s) s)).bind fun x=>
       d0l P cl ops rest seen (put t o.dst x.1) (e0i s x.2) (stOf i (a0a ops o) (b0c o t (a0a ops o) s) s x.2 o.dst x.1::L)
      |false=>d0l P cl ops rest seen (put t o.dst .undef) s (stOf i (a0a ops o) 0 s (b0o 0 s) o.dst .undef::L)
     |false=>.node b
      (match want with
       |true=>(runOp P cl o (a0u (a0a ops o) 0 (t.set d (.bool true))) (b0o (b0c o t (a0a ops o) s) s)).bind fun x=>
        d0l P cl ops rest (j::seen) (put (t.set d (.bool true)) o.dst x.1) (e0i s x.2) (stOf i (a0a ops o) (b0c o t (a0a ops o) s) s x.2 o.dst x.1::L)
       |false=>d0l P cl ops rest (j::seen) (put (t.set d (.bool true)) o.dst .undef) s (stOf i (a0a ops o) 0 s (b0o 0 s) o.dst .undef::L))
      (match want with
       |false=>(runOp P cl o (a0u (a0a ops o) 0 (t.set d (.bool false))) (b0o (b0c o t (a0a ops o) s) s)).bind fun x=>
        d0l P cl ops rest (j::seen) (put (t.set d (.bool false)) o.dst x.1) (e0i s x.2) (stOf i (a0a ops o) (b0c o t (a0a ops o) s) s x.2 o.dst x.1::L)
       |true=>d0l P cl ops rest (j::seen) (put (t.set d (.bool false)) o.dst .undef) s (stOf i (a0a ops o) 0 s (b0o 0 s) o.dst .undef::L))
def j0y (ops:Array Oper):List Nat→List Nat→Option (List Nat)
 |[],acc=>some acc
 |i::rest,acc=>match ops[i]? with
  |none=>none
  |some o=>match edgesM (o.after.toList.filter (Region.binds .any)) acc i 0 with
   |some m=>j0y ops rest (acc++[m])
   |none=>none
where
 edgesM:List Edge→List Nat→Nat→Nat→Option Nat
 |[],_,_,m=>some m
 |e::es,acc,i,m=>match acc[e.on]? with
  |some p=>edgesM es acc i (m|||(h0q e.on|||p))
  |none=>none
def m0q (ops:Array Oper):Option (List Nat):=j0y ops (List.range ops.size) []
def newM (n m:Nat):Nat:=((1<<<(m-n))-1)<<<n
def St.wm (x:St):Nat:=x.W|||newM x.n x.m
def apartB (e l:St):Bool:=
 Nat.beq (l.wm&&&(e.F|||e.wm)) 0&&(Nat.beq (e.wm&&&l.F) 0&&(Nat.beq (dstM e.d&&&(l.rd|||dstM l.d)) 0&&Nat.beq (dstM l.d&&&e.rd) 0))
def m0x (ps:List Nat)(l e:St):Bool:=apartB e l||Nat.testBit (ps.getD l.i 0) e.i
def b1b (l:St):Bool:=Nat.ble l.n l.m&&(Nat.beq (l.W&&&(l.F|||newM l.n l.m)) l.W&&Nat.ble (l.W+1) (1<<<l.m))
def f0c (ps:List Nat):List St→Bool
 |[]=>true
 |l::es=>b1b l&&(es.all (m0x ps l)&&f0c ps es)
def x0d (ops:Array Oper)(L:List St):Bool:=match m0q ops with
 |some ps=>f0c ps L
 |none=>false
def h0x (P:Program)(cl:a0q)(ops:Array Oper)(draws:Bool)(t:List SV)(s:SW):Tree (List SV×SW):=match draws with
 |false=>h0e P cl ops (List.range ops.size) [] t s
 |true=>(d0l P cl ops (List.range ops.size) [] t s []).bind fun x=>.guard (x0d ops x.1) 210 (.leaf x.2)
end Go.Proofs.Ytnmgjcpjkdmngaa.Vx
