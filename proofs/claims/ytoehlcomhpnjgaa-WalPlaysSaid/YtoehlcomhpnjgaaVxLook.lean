import Derived.Test.YtoehlcomhpnjgaaZ06j
noncomputable section
namespace Go.Proofs.Ytoehlcomhpnjgaa.Vx
open Go Go.RowKit
set_option linter.unusedVariables false
structure Look where
 info?:TypeId→Option TypeInfo
 underlying:TypeId→Option TypeDesc
 fn:FuncId→Option Func
 eqG:TypeId→Bool
 stoodInHeld:TypeId→Bool
 sz:TypeId→Option Nat
 agg:TypeId→Option Bool
 ty:TypeId→Option Ty
 zes:TypeId→Option (List SV)
def Look.of (P:Program):Look where
 info?:=P.info?
 underlying:=P.underlying
 fn:=fun f=>P.funcs[f]?
 eqG:=fun t=>P.eqGuardType P.depth t
 stoodInHeld:=P.stoodInHeld
 sz:=szOf P
 agg:=aggB P
 ty:=tyOf P TF
 zes:=d1v P
namespace Lk
def elOf (P:Look)(t:TypeId):Option TypeId:=match P.underlying t with
 |some (.slice e)=>some e
 |_=>none
def n1q (P:Look)(t:TypeId)(f:Nat):Option Field:=match P.underlying t with
 |some (.struct fs)=>fs[f]?
 |_=>none
def group (P:Look):Nat→TypeId→List Value→Option (List SV×List Value)
 |0,_,_=>none
 |n+1,T,cs=>match P.underlying T with
  |some (.struct fs)=>f1z (group P n) fs.toList cs
  |some (.array k e)=>match P.ty e with
   |some t=>match b0y (.arr k t) cs with
    |some r=>some ([.arrd t k (List.replicate k t.dflt)],r)
    |none=>none
   |none=>v0a (group P n e) k cs
  |some _=>match cs with
   |c::r=>match e0a c with
    |some v=>some ([v],r)
    |none=>none
   |[]=>none
  |none=>none
def litAgg (P:Look)(T:TypeId)(c:Array Value):Option SV:=match group P TF T c.toList with
 |some (es,[])=>some (.agg es)
 |_=>none
def litOf (P:Look)(T:TypeId):Value→Option SV
 |.agg c=>litAgg P T c
 |v=>e0a v
def t0m (P:Look)(T:TypeId)(p:SV)(s:SW):Option SV:=match place p s,P.sz T,P.agg T with
 |some (es,o),some n,some a=>match h0h es o n with
  |some x=>d0n a x
  |none=>none
 |_,_,_=>none
def q0m (P:Look)(T:TypeId)(p v:SV)(s:SW):Option SW:=match P.sz T,b0j v.ents with
 |some n,true=>match Nat.beq (esW v.ents) n with
  |true=>match p with
   |.ptr b o=>match s.blk b with
    |some (.cells es)=>match i0p es o n v.ents with
     |some es'=>some ((s.note b).setBlk b (.cells es'))
     |none=>none
    |_=>none
   |.eptr b g i o=>match s.blk b with
    |some (.arr t g' l)=>match Nat.beq g g' with
     |true=>match i0p (d0l t (l.getD i t.dflt)) o n v.ents with
      |some es'=>match f0o t es' s with
       |some (d,[],s1)=>match s1.blk b with
        |some (.arr t1 g1 l1)=>some ((s1.note b).setBlk b (.arr t g (l.set i d)))
        |_=>none
       |_=>none
      |none=>none
     |false=>none
    |_=>none
   |.aptr b o w m i k=>match s.blk b with
    |some (.cells es)=>match f0w es o with
     |some (a,.arrd t m' l::e)=>match Nat.beq m m'&&Nat.beq w t.width with
      |true=>match i0p (d0l t (l.getD i t.dflt)) k n v.ents with
       |some es'=>match f0o t es' s with
        |some (d,[],s1)=>match s1.blk b with
         |some (.cells _)=>some ((s1.note b).setBlk b (.cells (a++(.arrd t m (l.set i d)::e))))
         |_=>none
        |_=>none
       |none=>none
      |false=>none
     |_=>none
    |_=>none
   |_=>none
  |false=>none
 |_,_=>none
def u0y (P:Look)(T:TypeId)(s:SW):Option (SV×SW):=match P.zes T with
 |some es=>some (.ptr s.len 0,s.push (.cells es))
 |none=>none
def e0p (P:Look)(T:TypeId)(p:SV)(f:Nat):Option SV:=match n1q P T f with
 |some fl=>match P.sz fl.type with
  |some (_+1)=>match p with
   |.ptr b o=>some (.ptr b (o+fl.offset))
   |.eptr b g i o=>some (.eptr b g i (o+fl.offset))
   |.aptr b o w n i k=>some (.aptr b o w n i (k+fl.offset))
   |.iptr es o=>some (.iptr es (o+fl.offset))
   |_=>none
  |_=>none
 |none=>none
def v0y (P:Look)(T:TypeId)(v:SV)(f:Nat):Option SV:=match n1q P T f,v with
 |some fl,.agg es=>match P.sz fl.type,P.agg fl.type with
  |some n,some a=>match h0h es fl.offset n with
   |some x=>d0n a x
   |none=>none
  |_,_=>none
 |_,_=>none
def g0t (P:Look)(T:TypeId)(x i:SV)(s:SW):Tree SV:=match i with
 |.int _ i=>match P.underlying T with
  |some (.slice e)=>match x with
   |.imm t l=>match P.sz e with
    |some n=>match Nat.beq n t.width with
     |true=>.guard (inR i l.length) 10 (.leaf (.iptr (d0l t (l.getD i.toNat t.dflt)) 0))
     |false=>.bad 11
    |none=>.bad 11
   |.own b g=>match b0c (.own b g) s,P.sz e with
    |some d,some n=>match Nat.beq n d.t.width with
     |true=>.guard (inR i d.l.length) 12 (.leaf (.eptr b g i.toNat 0))
     |false=>.bad 13
    |_,_=>.bad 13
   |.part b g lo n=>match b0c (.part b g lo n) s,P.sz e with
    |some d,some k=>match Nat.beq k d.t.width with
     |true=>.guard (inR i n) 14 (.leaf (.eptr b g (lo+i.toNat) 0))
     |false=>.bad 15
    |_,_=>.bad 15
   |.asl b o n=>match P.sz e with
    |some m=>.guard (inR i n) 17 (.leaf (.aptr b o m n i.toNat 0))
    |none=>.bad 16
   |_=>.bad 16
  |some (.array n e)=>match P.sz e with
   |some m=>match x with
    |.ptr b o=>match place (.ptr b o) s with
     |some (es,_)=>match e1i es o with
      |some (.arrd t n' l)=>match Nat.beq n n'&&Nat.beq m t.width with
       |true=>.guard (inR i n) 17 (.leaf (.aptr b o m n i.toNat 0))
       |false=>.bad 18
      |some _=>x0z i n 0 fun k=>.leaf (.ptr b (o+k*m))
      |none=>.bad 19
     |none=>.bad 20
    |.iptr es o=>match e1i es o with
     |some (.arrd t n' l)=>match Nat.beq n n'&&Nat.beq m t.width with
      |true=>.guard (inR i n) 21 (.leaf (.iptr (d0l t (l.getD i.toNat t.dflt)) 0))
      |false=>.bad 22
     |some _=>x0z i n 0 fun k=>.leaf (.iptr es (o+k*m))
     |none=>.bad 23
    |_=>.bad 24
   |none=>.bad 25
  |_=>.bad 26
 |_=>.bad 27
def v0u (P:Look)(T:TypeId)(x i:SV):Tree SV:=match i with
 |.int _ i=>match P.underlying T,x with
  |some .string,.str s=>.guard (inR i s.size) 30 (.leaf (.int .u8 (x3e s i)))
  |some (.array n e),.agg es=>match P.sz e,P.agg e with
   |some m,some a=>match es with
    |[.arrd t n' l]=>match Nat.beq n n'&&Nat.beq m t.width with
     |true=>.guard (inR i n) 31 (.ofOpt 32 (d0n a (d0l t (l.getD i.toNat t.dflt))))
     |false=>.bad 33
    |es=>x0z i n 0 fun k=>.ofOpt 34 (match h0h es (k*m) m with
     |some x=>d0n a x
     |none=>none)
   |_,_=>.bad 35
  |_,_=>.bad 36
 |_=>.bad 37
def r0n (P:Look)(T:TypeId)(x:SV)(lo hi:Option SV)(mv:SV)(s:SW):Tree SV:=match c0e 0 lo,hi,mv,f0u x s with
 |some l,some (.int _ h),.int _ m,some n=>.guard (decide (m=h)) 37 (.guard (decide (0≤h)&&decide (h≤(n:Int))) 38 (.guard (decide (0≤l)&&decide (l≤h)) 39 (match P.underlying T,x with
  |some (.slice e),.imm t c=>match P.sz e with
   |some w=>match Nat.beq w t.width with
    |true=>.leaf (.imm t (match lo with
     |none=>c.take h.toNat
     |some _=>(c.take h.toNat).drop l.toNat))
    |false=>.bad 40
   |none=>.bad 40
  |some (.slice e),.own b g=>match b0c (.own b g) s,P.sz e with
   |some d,some w=>match Nat.beq w d.t.width with
    |true=>.leaf (.part b g l.toNat (h.toNat-l.toNat))
    |false=>.bad 40
   |_,_=>.bad 40
  |some (.slice e),.part b g lo' n'=>match b0c (.part b g lo' n') s,P.sz e with
   |some d,some w=>match Nat.beq w d.t.width with
    |true=>.leaf (.part b g (lo'+l.toNat) (h.toNat-l.toNat))
    |false=>.bad 40
   |_,_=>.bad 40
  |_,_=>.bad 40)))
 |_,_,_,_=>.bad 40
def r0a (P:Look)(T:TypeId)(b o:Nat)(s:SW):Tree SV:=match P.underlying T with
 |some (.array n e)=>match P.sz e,s.blk b with
  |some m,some (.cells es)=>match e1i es o with
   |some (.arrd t n' _)=>.guard (Nat.beq n n'&&Nat.beq m t.width) 39 (.leaf (.asl b o n))
   |_=>.bad 39
  |_,_=>.bad 39
 |_=>.bad 39
def l3z (P:Look)(T:TypeId)(b o:Nat)(h:Int)(s:SW):Tree SV:=match P.underlying T with
 |some (.array n e)=>match P.sz e,s.blk b with
  |some m,some (.cells es)=>match e1i es o with
   |some (.arrd t n' _)=>.guard (Nat.beq n n'&&Nat.beq m t.width) 39 (.guard (decide (0≤h)&&decide (h≤(n:Int))) 42 (.leaf (.asp b o h.toNat n)))
   |_=>.bad 39
  |_,_=>.bad 39
 |_=>.bad 39
def l3r (P:Look)(T:TypeId)(b g i:Nat)(h:Int)(s:SW):Tree SV:=match P.underlying T with
 |some (.array n e)=>match P.sz e,s.blk b with
  |some m,some (.arr (.arr n' t) g' _)=>.guard (Nat.beq g g'&&Nat.beq n n'&&Nat.beq m t.width) 39 (.guard (decide (0≤h)&&decide (h≤(n:Int))) 42 (.leaf (.esp b g i h.toNat n)))
  |_,_=>.bad 39
 |_=>.bad 39
def l3s (P:Look)(T:TypeId)(b o n:Nat)(h:Int):Tree SV:=match P.underlying T with
 |some (.slice e)=>match P.sz e with
  |some _=>.guard (decide (0≤h)&&decide (h≤(n:Int))) 42 (.leaf (.asp b o h.toNat n))
  |none=>.bad 39
 |_=>.bad 39
def d1f (P:Look)(T:TypeId)(x:SV)(lo hi mx:Option SV)(s:SW):Tree SV:=match mx with
 |some mv=>r0n P T x lo hi mv s
 |none=>match f0u x s with
  |none=>.bad 41
  |some n=>match c0e 0 lo,c0e n hi with
   |some l,some h=>.guard (decide (0≤h)&&decide (h≤(n:Int))) 42 (.guard (decide (0≤l)&&decide (l≤h)) 43 (match P.underlying T,x with
    |some .string,.str t=>.leaf (.str (t.extract l.toNat h.toNat))
    |some (.slice e),.imm t c=>match P.sz e with
     |some m=>match Nat.beq m t.width with
      |true=>.leaf (.imm t (match lo,hi with
       |none,none=>c
       |none,some _=>c.take h.toNat
       |some _,none=>c.drop l.toNat
       |some _,some _=>(c.take h.toNat).drop l.toNat))
      |false=>.bad 44
     |none=>.bad 44
    |some (.slice e),.own b g=>match b0c (.own b g) s,P.sz e with
     |some d,some m=>match Nat.beq m d.t.width with
      |true=>.leaf (match lo,hi with
       |none,none=>.own b g
       |_,_=>.part b g l.toNat (h.toNat-l.toNat))
      |false=>.bad 45
     |_,_=>.bad 45
    |some (.slice e),.part b g lo' n'=>match b0c (.part b g lo' n') s,P.sz e with
     |some d,some m=>match Nat.beq m d.t.width with
      |true=>.leaf (.part b g (lo'+l.toNat) (h.toNat-l.toNat))
      |false=>.bad 46
     |_,_=>.bad 46
    |some (.slice e),.nilsl=>match P.sz e with
     |some _=>.leaf .nilsl
     |none=>.bad 47
    |_,_=>.bad 48))
   |_,_=>.bad 49
def o0g (P:Look)(T:TypeId)(x:SV)(lo hi mx:Option SV)(s:SW):Tree SV:=match x,lo,hi,mx with
 |.ptr b o,none,none,none=>r0a P T b o s
 |.ptr b o,none,some (.int _ h),none=>l3z P T b o h s
 |.eptr b g i 0,none,some (.int _ h),none=>l3r P T b g i h s
 |.asl b o n,none,some (.int _ h),none=>l3s P T b o n h
 |x,lo,hi,mx=>d1f P T x lo hi mx s
def j0t (P:Look)(T:TypeId):Option Nat:=match P.info? T with
 |some i=>some i.bytes
 |none=>none
def a1n (P:Look)(T:TypeId)(t:Ty):Bool:=match P.info? T with
 |some i=>match i.zero with
  |some z=>match b0y t z.cells.toList with
   |some []=>Nat.beq i.size t.width
   |_=>false
  |none=>false
 |none=>false
def e0q (P:Look)(T:TypeId)(n c:SV)(s:SW):Tree (SV×SW):=match n,c,elOf P T with
 |.int _ n,.int _ c,some e=>match P.ty e,j0t P e with
  |some t,some by_=>match a1n P e t with
   |true=>.guard (decide (0≤n)&&decide (n≤c)&&decide (c*(max by_ 1:Nat)≤281474976710656)) 50
    (.leaf (.own s.len 0,s.push (.arr t 0 (repC n.toNat t.dflt))))
   |false=>.bad 51
  |_,_=>.bad 52
 |_,_,_=>.bad 53
def c0y (P:Look)(T:TypeId)(n:Nat)(ps:List (Nat×SV))(s:SW):Option (SV×SW):=match elOf P T with
 |some e=>match P.ty e with
  |some t=>match a1n P e t,Nat.ble (n*t.width) 16777216,ps.all fun p=>b0j p.2.ents with
   |true,true,true=>match w0j t ps (List.replicate n t.dflt) s with
    |some (l,s1)=>some (.own s1.len 0,s1.push (.arr t 0 l))
    |none=>none
   |_,_,_=>none
  |none=>none
 |none=>none
def buildF (P:Look)(fs:Array Field):List (Nat×SV)→List SV→Option (List SV)
 |[],es=>some es
 |(i,v)::r,es=>match fs[i]? with
  |some f=>match P.sz f.type,b0j v.ents with
   |some n,true=>match Nat.beq (esW v.ents) n with
    |true=>match i0p es f.offset n v.ents with
     |some es'=>buildF P fs r es'
     |none=>none
    |false=>none
   |_,_=>none
  |none=>none
def evBuild (P:Look)(T:TypeId)(ps:List (Nat×SV))(s:SW):Option (SV×SW):=match P.zes T with
 |some z=>match P.underlying T with
  |some (.struct fs)=>match fs.toList.all (fun f=>(P.sz f.type).isSome),buildF P fs ps z with
   |true,some es=>some (.agg es,s)
   |_,_=>none
  |some (.array n e)=>match P.sz e with
   |some m=>match z with
    |[.arrd t n' l]=>match Nat.beq m t.width,ps.all fun p=>b0j p.2.ents with
     |true,true=>match w0j t ps l s with
      |some (l',s1)=>some (.agg [.arrd t n' l'],s1)
      |none=>none
     |_,_=>none
    |z=>match l0z m ps z with
     |some es=>some (.agg es,s)
     |none=>none
   |none=>none
  |_=>none
 |none=>none
def q0q (P:Look)(T:TypeId)(t:Ty)(v:SV)(s:SW):Option (List t.den):=match P.underlying T with
 |some .string=>match v with
  |.str x=>c0r (.int .u8) t (c0b x)
  |_=>none
 |some (.slice _)=>p0p t v s
 |_=>none
def r0s (P:Look)(T T2:TypeId)(v x:SV)(s:SW):Tree (SV×SW):=match elOf P T with
 |some e=>match j0t P e,P.sz e,P.info? e with
  |some by_,some m,some i=>match i.zero with
   |some z=>match v with
    |.nilsl=>match P.ty e with
     |some t=>match Nat.beq m t.width&&Nat.beq z.cells.size t.width,q0q P T2 t x s with
      |true,some l=>.guard (decide (l.length*max by_ 1≤140737488355328)) 60 (.leaf (.own s.len 0,s.push (.arr t 0 l)))
      |_,_=>.bad 61
     |none=>.bad 61
    |.own b g=>match s.blk b with
     |some (.arr t g' l0)=>match Nat.beq g g'&&Nat.beq m t.width&&Nat.beq z.cells.size t.width,q0q P T2 t x s with
      |true,some l=>.guard (decide ((l0.length+l.length)*max by_ 1≤140737488355328)) 62 (.leaf (.own b (g+1),(s.note b).setBlk b (.arr t (g+1) (l0++l))))
      |_,_=>.bad 63
     |_=>.bad 64
    |.part b g lo n=>match s.blk b with
     |some (.arr t g' l0)=>match Nat.beq g g'&&Nat.beq m t.width&&Nat.beq z.cells.size t.width,q0q P T2 t x s with
      |true,some l=>.guard (decide ((n+l.length)*max by_ 1≤140737488355328)) 65 (.leaf (.own b (g+1),(s.note b).setBlk b (.arr t (g+1) ((l0.drop lo).take n++l))))
      |_,_=>.bad 66
     |_=>.bad 67
    |_=>.bad 68
   |none=>.bad 69
  |_,_,_=>.bad 69
 |none=>.bad 69
def o1q (P:Look)(T T2:TypeId)(v x:SV)(s:SW):Option (SV×SW):=match elOf P T with
 |some e=>match P.sz e with
  |some m=>match v with
   |.own b g=>match s.blk b with
    |some (.arr t g' l0)=>match Nat.beq g g'&&Nat.beq m t.width,q0q P T2 t x s with
     |true,some l=>some (.int .i64 (min l.length l0.length:Nat),(s.note b).setBlk b (.arr t g (l.take l0.length++l0.drop l.length)))
     |_,_=>none
    |_=>none
   |.part b g lo n=>match s.blk b with
    |some (.arr t g' l0)=>match Nat.beq g g'&&Nat.beq m t.width,q0q P T2 t x s with
     |true,some l=>some (.int .i64 (min l.length n:Nat),(s.note b).setBlk b (.arr t g (l0.take lo++(l.take n++(l0.drop lo).drop (min l.length n)))))
     |_,_=>none
    |_=>none
   |.asl b o n=>match s.blk b with
    |some (.cells es)=>match f0w es o with
     |some (a,.arrd t n' l0::e')=>match Nat.beq n n'&&Nat.beq m t.width,q0q P T2 t x s with
      |true,some l=>some (.int .i64 (min l.length n:Nat),(s.note b).setBlk b (.cells (a++(.arrd t n (l.take n++l0.drop l.length)::e'))))
      |_,_=>none
     |_=>none
    |_=>none
   |.esp b g i n k=>match s.blk b with
    |some (.arr (.arr k' t) g' l0)=>match Nat.beq g g'&&Nat.beq k k'&&Nat.beq m t.width,q0q P T2 t x s with
     |true,some l=>some (.int .i64 (min l.length n:Nat),(s.note b).setBlk b (.arr (.arr k' t) g (l0.set i (k3c (α:=t.den) n l (l0.getD i (Ty.dflt (.arr k' t)))))))
     |_,_=>none
    |_=>none
   |_=>none
  |none=>none
 |none=>none
def eqElem (P:Look)(t:Ty)(e:TypeId):Bool:=match t,P.underlying e with
 |.bool,some .bool=>true
 |.int _,some (.int _)=>true
 |.str,some .string=>true
 |_,_=>false
def eqPart (P:Look)(eq:TypeId→SV→SV→Option Bool)(xs ys:List SV):List Field→Option Bool
 |[]=>some true
 |f::fs=>match f.name== "_" with
  |true=>eqPart P eq xs ys fs
  |false=>match P.sz f.type,P.agg f.type with
   |some n,some a=>match h0h xs f.offset n,h0h ys f.offset n with
    |some x,some y=>match d0n a x,d0n a y with
     |some x,some y=>match eq f.type x y,eqPart P eq xs ys fs with
      |some r,some q=>some (r&&q)
      |_,_=>none
     |_,_=>none
    |_,_=>none
   |_,_=>none
def eqT (P:Look):Nat→TypeId→SV→SV→Option Bool
 |0,_,_,_=>none
 |d+1,t,x,y=>match P.underlying t with
  |some .bool=>match x,y with
   |.bool a,.bool b=>some (a==b)
   |_,_=>none
  |some (.int _)=>match x,y with
   |.int k a,.int k' b=>match decide (k=k')with
    |true=>some (a==b)
    |false=>none
   |_,_=>none
  |some .string=>match x,y with
   |.str a,.str b=>some (f0b a b)
   |_,_=>none
  |some (.struct fs)=>match x,y with
   |.agg xs,.agg ys=>match P.stoodInHeld t with
    |false=>eqPart P (eqT P d) xs ys fs.toList
    |true=>none
   |_,_=>none
  |some (.array n e)=>match d,x,y with
   |_+1,.agg [.arrd t1 n1 l1],.agg [.arrd t2 n2 l2]=>match Nat.beq n n1&&Nat.beq n n2&&eqElem P t1 e,P.sz e,c0r t2 t1 l2 with
    |true,some 1,some l2=>some (eqL t1 l1 l2)
    |_,_,_=>none
   |_,_,_=>none
  |some (.pointer _)=>match x,y with
   |.nilptr,.nilptr=>some true
   |.nilptr,.optr c _ _=>some (!c)
   |.optr c _ _,.nilptr=>some (!c)
   |.nilptr,.ptr _ _=>some false
   |.ptr _ _,.nilptr=>some false
   |.nilptr,.eptr _ _ _ _=>some false
   |.eptr _ _ _ _,.nilptr=>some false
   |.nilptr,.iptr _ _=>some false
   |.iptr _ _,.nilptr=>some false
   |_,_=>none
  |some (.interface _)=>match x,y with
   |.nilif,.iface _ _=>some false
   |.iface _ _,.nilif=>some false
   |.iface t1 x1,.iface t2 y1=>match Nat.beq t1 t2 with
    |false=>some false
    |true=>match P.info? t1 with
     |some i=>match i.comparable with
      |true=>eqT P d t1 x1 y1
      |false=>none
     |none=>none
   |_,_=>none
  |some (.slice _)=>match x,y with
   |.nilsl,.nilsl=>some true
   |_,_=>none
  |some (.map _ _)=>match x,y with
   |.nilmap,.nilmap=>some true
   |.nilmap,.mapv _=>some false
   |.mapv _,.nilmap=>some false
   |_,_=>none
  |some (.func _ _ _)=>match x,y with
   |.nilfn,.nilfn=>some true
   |.nilfn,.fn _ _ _=>some false
   |.fn _ _ _,.nilfn=>some false
   |_,_=>none
  |_=>none
def eqAllowed (P:Look)(t:TypeId)(xo yo:Operand)(x y:SV):Bool:=match x,y with
 |.nilif,.nilif=>f0n xo||f0n yo
 |.agg _,.agg _=> !P.eqG t
 |_,_=>true
def evBin (P:Look)(op:BinOp)(t:TypeId)(xo yo:Operand)(x y:SV):Tree SV:=match x,y with
 |.int k a,.int k' b=>match op with
  |.shl=>a1j .shl k a b
  |.shr=>a1j .shr k a b
  |op=>match decide (k=k')with
   |true=>a1j op k a b
   |false=>.bad 86
 |.str a,.str b=>j2w op a b
 |x,y=>match eqAllowed P t xo yo x y with
  |true=>match op with
   |.eql=>match x,y with
    |.nilif,.nilif=>match P.underlying t with
     |some (.interface _)=>.leaf (.bool true)
     |_=>.bad 87
    |x,y=>match eqT P 60 t x y with
     |some b=>.leaf (.bool b)
     |none=>.bad 87
   |.neq=>match x,y with
    |.nilif,.nilif=>match P.underlying t with
     |some (.interface _)=>.leaf (.bool false)
     |_=>.bad 88
    |x,y=>match eqT P 60 t x y with
     |some b=>.leaf (.bool (!b))
     |none=>.bad 88
   |_=>.bad 89
  |false=>.bad 90
def i0k (P:Look)(src dst:TypeId)(x:SV)(s:SW):Option (SV×SW):=match P.underlying src,P.underlying dst with
 |some d1,some d2=>match d2,x with
  |.int k,.int _ n=>some (.int k (k.wrap n),s)
  |.string,.int _ n=>some (.str (Utf8.encode n),s)
  |.string,.str t=>some (.str t,s)
  |.slice e,.str t=>match d1,P.underlying e with
   |.string,some (.int .u8)=>some (.own s.len 0,s.push (.arr (.int .u8) 0 (c0b t)))
   |_,_=>none
  |.slice e,.own b g=>match d1,P.underlying e,Nat.beq src dst,s.blk b with
   |.slice _,some (.int .u8),true,some (.arr _ g' (_::_))=>match Nat.beq g g' with
    |true=>some (.own b g,s.note b)
    |false=>none
   |_,_,_,_=>none
  |.string,v=>match d1 with
   |.slice e=>match P.underlying e with
    |some (.int .u8)=>match p0p (.int .u8) v s with
     |some l=>some (.str (r2b l),s)
     |none=>none
    |_=>none
   |_=>none
  |_,_=>none
 |_,_=>none
def e0s (P:Look)(T:TypeId)(x:SV):Option SV:=match P.underlying T with
 |some (.interface _)=>none
 |some _=>some (.iface T x)
 |none=>none
def zeroV (P:Look)(T:TypeId):Option SV:=match P.info? T with
 |some i=>match i.zero with
  |some z=>litOf P T z
  |none=>none
 |none=>none
def evAssert (P:Look)(x:SV)(T:TypeId)(ok:Bool):Option SV:=match P.underlying T with
 |some (.interface _)=>none
 |some _=>match x with
  |.iface t v=>match Nat.beq t T with
   |true=>match ok with
    |true=>some (.tup [v,.bool true])
    |false=>some v
   |false=>match ok,zeroV P T with
    |true,some z=>some (.tup [z,.bool false])
    |_,_=>none
  |.nilif=>match ok,zeroV P T with
   |true,some z=>some (.tup [z,.bool false])
   |_,_=>none
  |_=>none
 |none=>none
def d0q (P:Look)(T:TypeId)(x i:SV)(s:SW):Tree SV:=match x,e1g x s with
 |.own b g,some es=>match i,P.underlying T with
  |.int _ i,some (.slice e)=>match P.sz e with
   |some 1=>x0z i (esW es) 0 fun k=>.leaf (.eptr b g k 0)
   |_=>.bad 28
  |_,_=>.bad 28
 |_,_=>g0t P T x i s
def v0g (P:Look)(T:TypeId)(p:SV)(s:SW):Option SV:=match p with
 |.eptr b g i o=>match s.blk b with
  |some (.vec g' es)=>match Nat.beq g g',P.sz T,P.agg T with
   |true,some n,some a=>match h0h es (i+o) n with
    |some x=>d0n a x
    |none=>none
   |_,_,_=>none
  |_=>t0m P T p s
 |_=>t0m P T p s
def l0h (P:Look)(T:TypeId)(p v:SV)(s:SW):Option SW:=match p with
 |.eptr b g i o=>match s.blk b with
  |some (.vec g' es)=>match P.sz T,b0j v.ents with
   |some n,true=>match Nat.beq (esW v.ents) n&&Nat.beq g g' with
    |true=>match i0p es (i+o) n v.ents with
     |some es'=>some ((s.note b).setBlk b (.vec g es'))
     |none=>none
    |false=>none
   |_,_=>none
  |_=>q0m P T p v s
 |_=>q0m P T p v s
def vecEl (P:Look)(e:TypeId)(ps:List (Nat×SV)):Bool:=match P.underlying e with
 |some (.slice _)=>ps.any fun p=>match p.2 with
  |.imm _ _=>false
  |_=>true
 |some (.pointer _)=>true
 |some (.interface _)=>true
 |some (.func _ _ _)=>true
 |_=>false
def d0c (P:Look)(T:TypeId)(n:Nat)(ps:List (Nat×SV))(s:SW):Option (SV×SW):=match elOf P T with
 |some e=>match vecEl P e ps with
  |true=>match P.info? e with
   |some i=>match i.zero with
    |some z=>match Nat.beq i.size 1&&(Nat.beq z.cells.size 1&&(Nat.ble 1 n&&Nat.ble n 16777216)),l0z 1 ps (List.replicate n .dead)with
     |true,some es=>some (.own s.len 0,s.push (.vec 0 es))
     |_,_=>none
    |none=>none
   |none=>none
  |false=>c0y P T n ps s
 |none=>c0y P T n ps s
def p1b (P:Look)(T2:TypeId)(x:SV)(s:SW):Option (List SV):=match P.underlying T2 with
 |some (.slice _)=>match e1g x s with
  |some es=>match b0j es&&Nat.ble 1 (esW es)with
   |true=>some es
   |false=>none
  |none=>none
 |_=>none
def m0f (P:Look)(T T2:TypeId)(v x:SV)(s:SW):Tree (SV×SW):=match p1b P T2 x s with
 |none=>r0s P T T2 v x s
 |some es=>match elOf P T with
  |some e=>match P.info? e with
   |some i=>match i.zero with
    |some z=>match Nat.beq i.size 1&&Nat.beq z.cells.size 1 with
     |true=>match v with
      |.nilsl=>.guard (decide (esW es*max i.bytes 1≤140737488355328)) 60 (.leaf (.own s.len 0,s.push (.vec 0 es)))
      |v=>match v,e1g v s with
       |.own b g,some es0=>.guard (Nat.ble 1 (esW es0)) 67 (.guard (decide ((esW es0+esW es)*max i.bytes 1≤140737488355328)) 62 (.leaf (.own b (g+1),(s.note b).setBlk b (.vec (g+1) (es0++es)))))
       |_,_=>.bad 68
     |false=>.bad 69
    |none=>.bad 69
   |none=>.bad 69
  |none=>.bad 69
def evT (P:Look)(t:List SV):Operand→SV
 |.tmp k=>t.getD k .undef
 |.const v=>match e0a v with
  |some x=>x
  |none=>.dead
 |.func f=>.fn (.func f) [] []
 |.global _=>.dead
def o2z (P:Look)(T:TypeId)(x:SV)(s:SW):Tree (SV×SW):=match P.underlying T with
 |some (.array n _)=>.leaf (.int .i64 n,s)
 |some .string=>match x with
  |.str _=>both s (intV (f0u x s)) 116
  |_=>.bad 116
 |some (.slice _)=>match x with
  |.str _=>.bad 116
  |x=>both s (intV (f0u x s)) 116
 |_=>.bad 117
def o1a (P:Look)(T:TypeId)(x:SV)(s:SW):Tree (SV×SW):=match P.underlying T,e1g x s with
 |some (.slice _),some es=>.leaf (.int .i64 (esW es:Int),s)
 |_,_=>o2z P T x s
def d0g (P:Look)(b:Builtin)(xs:List SV)(tys:List TypeId)(s:SW):Tree (SV×SW):=match b with
 |.len=>match xs,tys with
  |[x],[T]=>o1a P T x s
  |_,_=>.bad 121
 |.append=>match xs,tys with
  |[v,x],[T,T2]=>m0f P T T2 v x s
  |_,_=>.bad 121
 |.copy=>match xs,tys with
  |[v,x],[T,T2]=>.ofOpt 118 (o1q P T T2 v x s)
  |_,_=>.bad 121
 |.min=>both s (evMM imin xs) 119
 |.max=>both s (evMM imax xs) 120
 |_=>.bad 121
def evMove (P:Look)(ty:TypeId)(x:Operand)(t:List SV)(s:SW):Tree (SV×SW):=match x with
 |.const v=>both s (litOf P ty v) 100
 |x=>.leaf (evT P t x,s)
def b1i (P:Look)(c:Call)(t:List SV)(s:SW):Tree (SV×SW):=match c.callee with
 |.builtin b=>d0g P b (c.args.toList.map (evT P t)) c.argTypes.toList s
 |_=>.bad 122
def v0z (P:Look)(T:TypeId)(x:SV)(s:SW):Tree (SV×SW):=match P.underlying T,x with
 |some .string,.str t=>.leaf (.itr s.len,s.push (.iter t 0))
 |_,_=>.bad 125
def keyT (P:Look)(t:TypeId)(k:Ty):Bool:=match P.underlying t,k with
 |some .bool,.bool=>true
 |some (.int a),.int b=>decide (a=b)
 |some .string,.str=>true
 |_,_=>false
def g1u (P:Look)(t:TypeId)(v:Ty):Bool:=match P.info? t with
 |some i=>match i.zero,v with
  |some (.bool false),.bool=>true
  |some (.int k n),.int k'=>decide (k=k')&&decide (n=0)
  |some (.string x),.str=>Nat.beq x.size 0
  |_,_=>false
 |none=>false
def i0r (P:Look)(T:TypeId)(h:Option SV)(s:SW):Tree (SV×SW):=match P.underlying T with
 |some (.map kt et)=>match P.ty kt,P.ty et with
  |some k,some v=>match scal k&&b1o h with
   |true=>match scal v with
    |true=>.leaf (.mapv s.len,s.push (.map k v []))
    |false=>.leaf (.mapv s.len,s.push (.fmap k [] []))
   |false=>.bad 128
  |some k,none=>match scal k&&b1o h with
   |true=>.leaf (.mapv s.len,s.push (.fmap k [] []))
   |false=>.bad 128
  |none,_=>.bad 128
 |_=>.bad 128
def evLookF (P:Look)(et:TypeId)(kt:Ty)(k:kt.den)(ks:List kt.den)(es:List SV)(ok:Bool):Tree SV:=
 (idxF kt k ks 0).bind fun i=>match es[i]? with
  |some v=>.leaf (okV ok v true)
  |none=>match zeroV P et with
   |some z=>.leaf (okV ok z false)
   |none=>.bad 134
def evLookup (P:Look)(T:TypeId)(x i:SV)(ok:Bool)(s:SW):Tree SV:=match P.underlying T,x with
 |some (.map kt et),.mapv b=>match s.blk b with
  |some (.map k v l)=>match keyT P kt k&&g1u P et v,keyD k i with
   |true,some kd=>.leaf (match ok with
    |true=>.tup [svD v (mget k v kd l),.bool (mhas k v kd l)]
    |false=>svD v (mget k v kd l))
   |_,_=>.bad 130
  |some (.fmap k ks es)=>match keyT P kt k,keyD k i with
   |true,some kd=>evLookF P et k kd ks es ok
   |_,_=>.bad 130
  |_=>.bad 131
 |_,_=>.bad 132
def f0s (P:Look)(T:TypeId)(x i:SV)(s:SW):Tree (SV×SW):=match P.underlying T,x with
 |some (.map kt et),.mapv b=>match s.blk b with
  |some (.map k v l)=>match keyT P kt k&&g1u P et v,keyD k i with
   |true,some kd=>.leaf (.tup [svD v (mget k v kd l),.int .i64 (c0w k v kd l:Int)],(s.note b).setBlk b (.map k v (f1m k v kd l)))
   |_,_=>.bad 130
  |_=>.bad 131
 |_,_=>.bad 132
def c0q (P:Look)(T:TypeId)(x i v:SV)(s:SW):Tree (SV×SW):=match P.underlying T,x with
 |some (.map kt et),.mapv b=>match s.blk b with
  |some (.map k vt l)=>match keyT P kt k,keyD k i,keyD vt v with
   |true,some kd,some d=>.leaf (.undef,(s.note b).setBlk b (.map k vt (mput k vt kd d l)))
   |_,_,_=>.bad 130
  |some (.fmap k ks es)=>match keyT P kt k,keyD k i with
   |true,some kd=>z1s b k kd v ks es s
   |_,_=>.bad 130
  |_=>.bad 131
 |_,_=>.bad 132
def evOp (P:Look)(o:Oper)(t:List SV)(s:SW):Tree (SV×SW):=
 match o.op with
 |.move x=>evMove P o.type x t s
 |.assign x=>evMove P o.type x t s
 |.pick c a b=>(q1b (evT P t c) (evT P t a) (evT P t b)).with_ s
 |.alloc e=>.ofOpt 101 (u0y P e s)
 |.box _ x=>.ofOpt 102 (h2p (evT P t x) s)
 |.build T ps=>.ofOpt 103 (evBuild P T (ps.toList.map fun p=>(p.1,evT P t p.2)) s)
 |.buildSlice T n ps=>.ofOpt 104 (d0c P T n (ps.toList.map fun p=>(p.1,evT P t p.2)) s)
 |.load T a=>unO (evT P t a) fun p=>both s (v0g P T p s) 105
 |.store T a x=>g1t (l0h P T (evT P t a) (evT P t x) s)
 |.nilCheck x=>unO (evT P t x) fun p=>both s (l2t p) 107
 |.binOp op T x y _=>(evBin P op T x y (evT P t x) (evT P t y)).with_ s
 |.unOp op _ x=>both s (evUn op (evT P t x)) 108
 |.convert a b x=>.ofOpt 109 (i0k P a b (evT P t x) s)
 |.makeInterface T x=>both s (e0s P T (evT P t x)) 110
 |.makeFunc f first caps=>.leaf (.fn f (first.toList.map (evT P t)) (caps.toList.map (evT P t)),s)
 |.makeSlice T n c=>e0q P T (evT P t n) (evT P t c) s
 |.slice T x lo hi mx=>(o0g P T (evT P t x) (lo.map (evT P t)) (hi.map (evT P t)) (mx.map (evT P t)) s).with_ s
 |.fieldAddr T x f=>unO (evT P t x) fun p=>both s (e0p P T p f) 111
 |.field T x f=>both s (v0y P T (evT P t x) f) 112
 |.indexAddr T x i=>(d0q P T (evT P t x) (evT P t i) s).with_ s
 |.index T x i=>(v0u P T (evT P t x) (evT P t i)).with_ s
 |.typeAssert x _ T ok=>both s (evAssert P (evT P t x) T ok) 113
 |.extract x i=>i0j (evT P t x) i s
 |.call c=>b1i P c t s
 |.range T x=>v0z P T (evT P t x) s
 |.next x str=>n1k (evT P t x) str s
 |.makeMap T h=>i0r P T (h.map (evT P t)) s
 |.lookup T x i ok=>(evLookup P T (evT P t x) (evT P t i) ok s).with_ s
 |.mapEntry T x i=>f0s P T (evT P t x) (evT P t i) s
 |.entryStore _ x n v=>f0e (evT P t x) (evT P t n) (evT P t v) s
 |.mapUpdate T x i v=>c0q P T (evT P t x) (evT P t i) (evT P t v) s
 |.insert T x i v=>c0q P T (evT P t x) (evT P t i) (evT P t v) s
 |_=>.bad 122
def n4i (P:Look)(T:TypeId)(name:String):Option FuncId:=match P.info? T with
 |some ti=>match ti.methods.find? (fun m=>m.name==name)with
  |some m=>match m.path.toList,m.func,P.underlying T with
   |[],some (f,true),some (.pointer _)=>some f
   |_,_,_=>none
  |none=>none
 |none=>none
def e1v (P:Look)(t:List SV):Op→Option (FuncId×List SV)
 |.call ⟨.value f,args,_⟩=>match evT P t f with
  |.fn (.func fid) first caps=>match P.fn fid with
   |some fn=>match fn.body,fn.name== "runtime.NumGoroutine" with
    |some _,false=>some (fid,first++(args.toList.map (evT P t)++caps))
    |_,_=>none
   |none=>none
  |_=>none
 |.call ⟨.invoke x name,args,_⟩=>match evT P t x with
  |.iface T v=>match n4i P T name with
   |some fid=>match P.fn fid with
    |some fn=>match fn.body,fn.name== "runtime.NumGoroutine" with
     |some _,false=>some (fid,v::args.toList.map (evT P t))
     |_,_=>none
    |none=>none
   |none=>none
  |_=>none
 |_=>none
def runOp (P:Look)(cl:b0p)(o:Oper)(t:List SV)(s:SW):Tree (SV×SW):=match e1v P t o.op with
 |some (f,args)=>cl f args s
 |none=>evOp P o t s
def resR (P:Look)(t:List SV)(s:SW):List ResultVar→Option (List SV)
 |[]=>some []
 |.tmp k::l=>match resR P t s l with
  |some r=>some (t.getD k .undef::r)
  |none=>none
 |.cell a T::l=>match t0m P T (t.getD a .undef) s,resR P t s l with
  |some v,some r=>some (v::r)
  |_,_=>none
def resV (P:Look)(fn:Func)(t:List SV)(s:SW):Option SV:=match resR P t s fn.results.toList with
 |some [v]=>some v
 |some l=>some (.tup l)
 |none=>none
def a0r (P:Look)(f:FuncId):Code:=match P.fn f with
 |some fn=>match fn.body with
  |some c=>c
  |none=>.skip
 |none=>.skip
def fW {β:Type}(md:Bool)(P:Look)(o:Op)(t:List SV)(s s1:SW)(k:SW→β):β:=match o with
 |.store _ a _=>l0w md ((v2o (evT P t a)).getD s.len) s1 k
 |.alloc _=>l0w md s.len s1 k
 |.box _ _=>l0w md s.len s1 k
 |.build _ _=>l0w md s.len s1 k
 |.buildSlice _ _ _=>l0w md s.len s1 k
 |.makeSlice _ _ _=>l0w md s.len s1 k
 |.convert _ _ _=>l0w md s.len s1 k
 |.call ⟨.builtin _,args,_⟩=>match args.toList with
  |a::_=>l0w md ((v2o (evT P t a)).getD s.len) s1 k
  |[]=>k s1
 |_=>fSW md s1 k
def goF {α:Type}(md:Bool)(P:Look)(cl:b0p)(o:Oper)(t:List SV)(s:SW)(k:SV→SW→Tree α):Tree α:=match u0e o.op with
 |true=>(evOp P o t s).bind fun x=>fV md FD x.1 fun v=>k v s
 |false=>(runOp P cl o t s).bind fun x=>fV md FD x.1 fun v=>fW md P o.op t s x.2 fun s1=>k v s1
def evOpsF (md:Bool)(P:Look)(cl:b0p)(ops:Array Oper):List Nat→List Nat→List SV→SW→Tree (List SV×SW)
 |[],_,t,s=>.leaf (t,s)
 |i::rest,seen,t,s=>match ops[i]? with
  |none=>.bad 200
  |some o=>match o.guard with
   |none=>goF md P cl o t s fun v s1=>fPut t o.dst v fun t=>evOpsF md P cl ops rest seen t s1
   |some (j,want)=>match e0r ops t j with
    |.bad=>.bad 201
    |.no=>fPut t o.dst .undef fun t=>evOpsF md P cl ops rest seen t s
    |.yes d b=>match seen.contains j with
     |true=>match b==want with
      |true=>goF md P cl o t s fun v s1=>fPut t o.dst v fun t=>evOpsF md P cl ops rest seen t s1
      |false=>fPut t o.dst .undef fun t=>evOpsF md P cl ops rest seen t s
     |false=>.node b
      (fSet t d (.bool true) fun t=>match want with
       |true=>goF md P cl o t s fun v s1=>fPut t o.dst v fun t=>evOpsF md P cl ops rest (j::seen) t s1
       |false=>fPut t o.dst .undef fun t=>evOpsF md P cl ops rest (j::seen) t s)
      (fSet t d (.bool false) fun t=>match want with
       |false=>goF md P cl o t s fun v s1=>fPut t o.dst v fun t=>evOpsF md P cl ops rest (j::seen) t s1
       |true=>fPut t o.dst .undef fun t=>evOpsF md P cl ops rest (j::seen) t s)
def goD {α:Type}(md:Bool)(P:Look)(cl:b0p)(ops:Array Oper)(i:Nat)(o:Oper)(t:List SV)(s:SW)(L:List St)(k:List SV→SW→List St→Tree α):Tree α:=
 fN (a0l ops o) fun rd=>fN (b0w o t rd s) fun F=>match u0e o.op with
  |true=>(evOp P o (b0m rd 0 t) (c0v F s)).bind fun x=>fV md FD x.1 fun v=>fPut t o.dst v fun t1=>fN s.blks.length fun n=>k t1 s (⟨i,rd,F,0,n,n,o.dst,v,s⟩::L)
  |false=>fL (fV md 0) (b0m rd 0 t) fun tf=>fL (fun b k=>k b) (l0u F 0 s.blks) fun bf=>
   (runOp P cl o tf ⟨bf,[]⟩).bind fun x=>fW md P o.op tf s x.2 fun s1=>fV md FD x.1 fun v=>fPut t o.dst v fun t1=>fN (e0h s1.log) fun W=>fN s.blks.length fun n=>fN s1.blks.length fun m=>
    fSW md (h0s s s1) fun s2=>k t1 s2 (⟨i,rd,F,W,n,m,o.dst,v,s2⟩::L)
def evDrawF (md:Bool)(P:Look)(cl:b0p)(ops:Array Oper):List Nat→List Nat→List SV→SW→List St→Tree (List St×List SV×SW)
 |[],_,t,s,L=>.leaf (L,t,s)
 |i::rest,seen,t,s,L=>match ops[i]? with
  |none=>.bad 200
  |some o=>match o.guard with
   |none=>goD md P cl ops i o t s L fun t s L=>evDrawF md P cl ops rest seen t s L
   |some (j,want)=>match e0r ops (b0m (a0l ops o) 0 t) j with
    |.bad=>.bad 201
    |.no=>noD md ops i o t s L fun t s L=>evDrawF md P cl ops rest seen t s L
    |.yes d b=>match seen.contains j with
     |true=>match b==want with
      |true=>goD md P cl ops i o t s L fun t s L=>evDrawF md P cl ops rest seen t s L
      |false=>noD md ops i o t s L fun t s L=>evDrawF md P cl ops rest seen t s L
     |false=>.node b
      (match want with
       |true=>(runOp P cl o (b0m (a0l ops o) 0 (t.set d (.bool true))) (c0v (b0w o t (a0l ops o) s) s)).bind fun x=>fV md FD x.1 fun v=>fSet t d (.bool true) fun t1=>fPut t1 o.dst v fun t1=>
        fSW md (h0s s x.2) fun s1=>evDrawF md P cl ops rest (j::seen) t1 s1 (stOf i (a0l ops o) (b0w o t (a0l ops o) s) s x.2 o.dst x.1::L)
       |false=>fSet t d (.bool true) fun t1=>noD md ops i o t1 s L fun t s L=>evDrawF md P cl ops rest (j::seen) t s L)
      (match want with
       |false=>(runOp P cl o (b0m (a0l ops o) 0 (t.set d (.bool false))) (c0v (b0w o t (a0l ops o) s) s)).bind fun x=>fV md FD x.1 fun v=>fSet t d (.bool false) fun t1=>fPut t1 o.dst v fun t1=>
        fSW md (h0s s x.2) fun s1=>evDrawF md P cl ops rest (j::seen) t1 s1 (stOf i (a0l ops o) (b0w o t (a0l ops o) s) s x.2 o.dst x.1::L)
       |true=>fSet t d (.bool false) fun t1=>noD md ops i o t1 s L fun t s L=>evDrawF md P cl ops rest (j::seen) t s L)
def evRegionF (md:Bool)(P:Look)(cl:b0p)(ops:Array Oper)(draws:Bool)(t:List SV)(s:SW):Tree (List SV×SW):=match draws with
 |false=>evOpsF md P cl ops (List.range ops.size) [] t s
 |true=>(evDrawF md P cl ops (List.range ops.size) [] t s []).bind fun x=>.guard (x1n ops x.1) 210 (.leaf x.2)
def evCodeF (md:Bool)(P:Look)(cl:b0p)(ls:b0u):Nat→Code→List SV→SW→Tree Res
 |0,_,_,_=>.bad 300
 |n+1,c,t,s=>match c with
  |.skip=>.leaf (.normal,t,s)
  |.ret=>.leaf (.ret,t,s)
  |.exit id=>.leaf (.exit id,t,s)
  |.region _ ops d=>(evRegionF md P cl ops d t s).bind fun x=>.leaf (.normal,x)
  |.seq a b=>(evCodeF md P cl ls n a t s).bind fun x=>match x.1 with
   |.normal=>evCodeF md P cl ls n b x.2.1 x.2.2
   |e=>.leaf (e,x.2)
  |.cond c x y=>match evT P t c with
   |.bool b=>.node b (evCodeF md P cl ls n x t s) (evCodeF md P cl ls n y t s)
   |_=>.bad 301
  |.block id c=>(evCodeF md P cl ls n c t s).bind fun x=>match x.1 with
   |.exit id'=>match Nat.beq id' id with
    |true=>.leaf (.normal,x.2)
    |false=>.leaf (.exit id',x.2)
   |e=>.leaf (e,x.2)
  |.loop c=>match ls c t s with
   |some T=>T
   |none=>c1l (evCodeF md P cl ls n c) n t s
  |.label _=>.leaf (.normal,t,s)
  |.scope c=>(evCodeF md P cl ls n c t s).bind fun x=>match x.1 with
   |.goto _=>.bad 308
   |e=>.leaf (e,x.2)
  |_=>.bad 302
def evBodyF (md:Bool)(P:Look)(cl:b0p)(ls:b0u)(n:Nat)(f:FuncId)(args:List SV)(s:SW):Tree (SV×SW):=match P.fn f with
 |some fn=>match fn.body with
  |some c=>fVs md (args++List.replicate (fn.ntmps-args.length) .undef) fun t=>fSW md s fun s=>(evCodeF md P cl ls n c t s).bind fun x=>match x.1 with
   |.normal=>match resV P fn x.2.1 x.2.2 with
    |some v=>.leaf (v,x.2.2)
    |none=>.bad 303
   |.ret=>match resV P fn x.2.1 x.2.2 with
    |some v=>.leaf (v,x.2.2)
    |none=>.bad 303
   |_=>.bad 304
  |none=>.bad 305
 |none=>.bad 305
def callFF (md:Bool)(P:Look)(cs:FuncId→Option a0q)(ls:FuncId→Nat→b0u):Nat→Nat→b0p
 |0,_=>fun f args s=>match cs f with
  |some g=>g args s
  |none=>.bad 306
 |n+1,m=>fun f args s=>match cs f with
  |some g=>g args s
  |none=>u0v (fun args s=>evBodyF md P (callFF md P cs ls n m) (ls f s.len) m f args s) args s
def clMd (md:Bool)(P:Look)(cs:FuncId→Option a0q):b0p:=callFF md P cs m2v 40 4000
def boxEvF (md:Bool)(P:Look)(cl:b0p)(ls:b0u)(n:Nat)(f:FuncId)(B:FBox)(env:List Dat):Tree (Nat×List Dat):=
 (evBodyF md P cl ls n f (instL B.args env) ⟨instBs B.blks env,[]⟩).bind fun x=>o2a B.blks.length B.log B.outs x.1 x.2
def p0c (P:Look)(f:FuncId)(i:Nat):List Code:=(d0w (a0r P f)).filter fun c=>match g0l c with
 |some k=>Nat.beq k i
 |none=>false
def cAt (P:Look)(f:FuncId)(i:Nat):Code:=match p0c P f i with
 |c::_=>c
 |[]=>.skip
def boxC (md:Bool)(P:Look)(cs:FuncId→Option a0q)(f:Nat)(ls:b0u)(B:FBox)(env:List Dat):Tree (Nat×List Dat):=boxEvF md P (clMd md P cs) ls 4000 f B env
def lawC (md:Bool)(P:Look)(cs:FuncId→Option a0q)(f:Nat)(ls:b0u)(args:List SV):Tree (SV×SW):=evBodyF md P (clMd md P cs) ls 4000 f args ⟨[],[]⟩
def lawB (md:Bool)(P:Look)(cs:FuncId→Option a0q)(f:Nat)(ls:b0u)(args:List SV):Tree Bool:=(lawC md P cs f ls args).bind fun x=>match x.1 with
 |.bool b=>.leaf b
 |_=>.bad 400
def stepM (md:Bool)(P:Look)(cl:b0p)(ls:b0u)(n:Nat)(c:Code)(B:MBox)(env:List Dat):Tree Step:=
 .guard (k2j B.ins env) 335 (fVs md (insT B.ins env) fun t=>fSW md ⟨insB B.ins env,[]⟩ fun s=>(evCodeF md P cl ls n c t s).bind fun x=>.guard (p2r B.K B.log (cvT B.cv x.2.1 x.2.2).log) 333 (match x.1 with
  |.normal=>match w0v B.K (nilT B.nils x.2.1 (cvT B.cv x.2.1 x.2.2)).1 (nilT B.nils x.2.1 (cvT B.cv x.2.1 x.2.2)).2 B.ins 0 with
   |some env=>.leaf (.go env)
   |none=>.bad 334
  |e=>(l0j B.K e x.2.1 (cvT B.cv x.2.1 x.2.2) B.outs 0).bind fun y=>.leaf (.stop y.1 y.2)))
def stepMC (md:Bool)(P:Look)(cs:FuncId→Option a0q)(f i:Nat)(ls:b0u)(B:MBox)(env:List Dat):Tree Step:=stepM md P (clMd md P cs) ls 4000 (cAt P f i) B env
def boxEvV (cv:List (Option Nat×Nat×CK))(md:Bool)(P:Look)(cl:b0p)(ls:b0u)(n:Nat)(f:FuncId)(B:FBox)(env:List Dat):Tree (Nat×List Dat):=
 (evBodyF md P cl ls n f (instL B.args env) ⟨instBs B.blks env,[]⟩).bind fun x=>o2a B.blks.length B.log B.outs x.1 (cvS cv x.1 x.2)
def boxCV (cv:List (Option Nat×Nat×CK))(md:Bool)(P:Look)(cs:FuncId→Option a0q)(f:Nat)(ls:b0u)(B:FBox)(env:List Dat):Tree (Nat×List Dat):=boxEvV cv md P (clMd md P cs) ls 4000 f B env
end Lk
section
variable (P:Program)
theorem s2f: @Lk.group (Look.of P)= @group P:=by
 funext n
 induction n with
 |zero=>rfl
 |succ n ih=>funext T cs;unfold Lk.group group;simp only[ih];rfl
theorem i2l: @Lk.litAgg (Look.of P)= @litAgg P:=by
 funext T c;unfold Lk.litAgg litAgg;rw[s2f];rfl
theorem u1y: @Lk.litOf (Look.of P)= @litOf P:=by
 funext T v;unfold Lk.litOf litOf;rw[i2l];rfl
theorem m2m: @Lk.buildF (Look.of P)= @buildF P:=by
 funext fs l
 induction l with
 |nil=>rfl
 |cons x l ih=>funext es;obtain⟨i,v⟩:=x;unfold Lk.buildF buildF;simp only[ih];rfl
theorem f2x: @Lk.evBuild (Look.of P)= @evBuild P:=by
 funext T ps s;unfold Lk.evBuild evBuild;rw[m2m];rfl
theorem l2n: @Lk.eqElem (Look.of P)= @eqElem P:=by
 rfl
theorem p2j: @Lk.eqPart (Look.of P)= @eqPart P:=by
 funext eq xs ys l
 induction l with
 |nil=>rfl
 |cons x l ih=>unfold Lk.eqPart eqPart;rw[ih];rfl
theorem lk_eqT: @Lk.eqT (Look.of P)= @eqT P:=by
 funext n
 induction n with
 |zero=>rfl
 |succ n ih=>funext t x y;unfold Lk.eqT eqT;rw[ih,p2j,l2n];rfl
theorem o1d: @Lk.eqAllowed (Look.of P)= @eqAllowed P:=by
 rfl
theorem t2s: @Lk.evBin (Look.of P)= @evBin P:=by
 funext op t xo yo x y;unfold Lk.evBin evBin;rw[lk_eqT,o1d];rfl
theorem a2t: @Lk.zeroV (Look.of P)= @zeroV P:=by
 funext T;unfold Lk.zeroV zeroV;rw[u1y];rfl
theorem s1w: @Lk.evAssert (Look.of P)= @evAssert P:=by
 funext x T ok;unfold Lk.evAssert evAssert;rw[a2t];rfl
theorem lk_evT: @Lk.evT (Look.of P)= @evT P:=by
 rfl
theorem p2x: @Lk.evMove (Look.of P)= @evMove P:=by
 funext ty x t s;unfold Lk.evMove evMove;rw[u1y];rfl
theorem g2b: @Lk.evLookF (Look.of P)= @evLookF P:=by
 funext et kt k ks es ok;unfold Lk.evLookF evLookF;rw[a2t];rfl
theorem q1h: @Lk.evLookup (Look.of P)= @evLookup P:=by
 funext T x i ok s;unfold Lk.evLookup evLookup;rw[g2b];rfl
theorem s1s: @Lk.evOp (Look.of P)= @evOp P:=by
 funext o t s;unfold Lk.evOp evOp;rw[p2x,lk_evT,f2x,t2s,s1w,q1h];rfl
theorem i1p: @Lk.runOp (Look.of P)= @runOp P:=by
 funext cl o t s;unfold Lk.runOp runOp;rw[s1s];rfl
theorem lk_resR: @Lk.resR (Look.of P)= @resR P:=by
 funext t s l
 induction l with
 |nil=>rfl
 |cons x l ih=>cases x<;>unfold Lk.resR resR<;>rw[ih]<;>rfl
theorem lk_resV: @Lk.resV (Look.of P)= @resV P:=by
 funext fn t s;unfold Lk.resV resV;rw[lk_resR];rfl
theorem lk_fW (β:Type)(md:Bool): @Lk.fW β md (Look.of P)= @fW β md P:=by
 rfl
theorem lk_goF (α:Type)(md:Bool): @Lk.goF α md (Look.of P)= @goF α md P:=by
 funext cl o t s k;unfold Lk.goF goF;rw[s1s,i1p,lk_fW];rfl
theorem n2j (md:Bool): @Lk.evOpsF md (Look.of P)= @evOpsF md P:=by
 funext cl ops l
 induction l with
 |nil=>rfl
 |cons i l ih=>funext seen t s;unfold Lk.evOpsF evOpsF;rw[lk_goF,ih];rfl
theorem lk_goD (α:Type)(md:Bool): @Lk.goD α md (Look.of P)= @goD α md P:=by
 funext cl ops i o t s L k;unfold Lk.goD goD;rw[s1s,i1p,lk_fW];rfl
theorem c2q (md:Bool): @Lk.evDrawF md (Look.of P)= @evDrawF md P:=by
 funext cl ops l
 induction l with
 |nil=>rfl
 |cons i l ih=>funext seen t s L;unfold Lk.evDrawF evDrawF;rw[lk_goD,i1p,ih];rfl
theorem q1a (md:Bool): @Lk.evRegionF md (Look.of P)= @evRegionF md P:=by
 funext cl ops d t s;unfold Lk.evRegionF evRegionF;rw[n2j,c2q];rfl
theorem f1x (md:Bool): @Lk.evCodeF md (Look.of P)= @evCodeF md P:=by
 funext cl ls n
 induction n with
 |zero=>rfl
 |succ n ih=>funext c t s;unfold Lk.evCodeF evCodeF;rw[q1a,lk_evT,ih];rfl
theorem v0x (md:Bool): @Lk.evBodyF md (Look.of P)= @evBodyF md P:=by
 funext cl ls n f args s;unfold Lk.evBodyF evBodyF;rw[f1x,lk_resV];rfl
theorem k2q (md:Bool): @Lk.callFF md (Look.of P)= @callFF md P:=by
 funext cs ls n
 induction n with
 |zero=>rfl
 |succ n ih=>funext m;unfold Lk.callFF callFF;rw[v0x,ih];rfl
theorem q1i (md:Bool): @Lk.clMd md (Look.of P)= @clMd md P:=by
 funext cs;unfold Lk.clMd clMd;rw[k2q]
theorem k2h (md:Bool): @Lk.boxEvF md (Look.of P)= @boxEvF md P:=by
 funext cl ls n f B env;unfold Lk.boxEvF boxEvF;rw[v0x]
theorem lk_cAt: @Lk.cAt (Look.of P)= @cAt P:=by
 rfl
theorem lk_boxC (md:Bool): @Lk.boxC md (Look.of P)= @boxC md P:=by
 funext cs f ls B env;unfold Lk.boxC boxC;rw[k2h,q1i]
theorem lk_lawC (md:Bool): @Lk.lawC md (Look.of P)= @lawC md P:=by
 funext cs f ls args;unfold Lk.lawC lawC;rw[v0x,q1i]
theorem lk_lawB (md:Bool): @Lk.lawB md (Look.of P)= @lawB md P:=by
 funext cs f ls args;unfold Lk.lawB lawB;rw[lk_lawC];rfl
theorem u2d (md:Bool): @Lk.stepM md (Look.of P)= @stepM md P:=by
 funext cl ls n c B env;unfold Lk.stepM stepM;rw[f1x];rfl
theorem j2x (md:Bool): @Lk.stepMC md (Look.of P)= @stepMC md P:=by
 funext cs f i ls B env;unfold Lk.stepMC stepMC;rw[u2d,q1i,lk_cAt]
theorem o4t (cv:List (Option Nat×Nat×CK))(md:Bool): @Lk.boxEvV cv md (Look.of P)= @boxEvV cv md P:=by
 funext cl ls n f B env;unfold Lk.boxEvV boxEvV;rw[v0x]
theorem r4m (cv:List (Option Nat×Nat×CK))(md:Bool): @Lk.boxCV cv md (Look.of P)= @boxCV cv md P:=by
 funext cs f ls B env;unfold Lk.boxCV boxCV;rw[o4t,q1i]
end
end Go.Proofs.Ytoehlcomhpnjgaa.Vx
