import Derived.WalkKit
import Derived.ProofKit
import Derived.OpenShut
import Derived.Handy
import Derived.Orders
namespace Go.Proofs.Ytoehlcomhpnjgaa.Vx
open Go Go.RowKit
set_option linter.unusedVariables false
inductive Ty where
 |bool
 |int (k:IntKind)
 |str
 |sl (t:Ty)
 |arr (n:Nat) (t:Ty)
 |pair (a b:Ty)
 |unit
 deriving DecidableEq
def Ty.den:Ty→Type
 |.bool=>Bool
 |.int _=>Int
 |.str=>ByteArray
 |.sl t=>List t.den
 |.arr _ t=>List t.den
 |.pair a b=>a.den×b.den
 |.unit=>Unit
def Ty.dflt:(t:Ty)→t.den
 |.bool=>false
 |.int _=>(0:Int)
 |.str=>ByteArray.empty
 |.sl t=>([]:List t.den)
 |.arr n t=>List.replicate n t.dflt
 |.pair a b=>(a.dflt,b.dflt)
 |.unit=>()
def Ty.width:Ty→Nat
 |.bool=>1
 |.int _=>1
 |.str=>1
 |.sl _=>1
 |.arr n t=>n*t.width
 |.pair a b=>a.width+b.width
 |.unit=>0
inductive Dat where
 |b (x:Bool)
 |n (x:Int)
 |s (x:ByteArray)
 |l (t:Ty) (x:List t.den)
 |k (x:Nat)
inductive Tree (α:Type)where
 |leaf (a:α)
 |bad (why:Nat)
 |node (c:Bool) (t e:Tree α)
 |ask (r:Option (Nat×List Dat)) (k:Option (Nat×List Dat)→Tree α)
def Tree.sel {α:Type}:Tree α→Option α
 |.leaf a=>some a
 |.bad _=>none
 |.node c t e=>bif c then t.sel else e.sel
 |.ask r k=>(k r).sel
def Tree.bind {α β:Type}:Tree α→(α→Tree β)→Tree β
 |.leaf a,f=>f a
 |.bad w,_=>.bad w
 |.node c t e,f=>.node c (t.bind f) (e.bind f)
 |.ask r k,f=>.ask r fun x=>(k x).bind f
theorem Tree.sel_bind {α β:Type}(x:Tree α)(f:α→Tree β):(x.bind f).sel=x.sel.bind fun a=>(f a).sel:=by
 induction x with
 |leaf a=>rfl
 |bad w=>rfl
 |node c t e ih1 ih2=>simp only[Tree.bind,Tree.sel,ih1,ih2];cases c<;>rfl
 |ask r k ih=>exact ih r
theorem Tree.bind_some {α β:Type}{x:Tree α}{f:α→Tree β}{b:β}(h:(x.bind f).sel=some b): ∃a,x.sel=some a∧(f a).sel=some b:=by
 rw[Tree.sel_bind]at h
 cases hx:x.sel with
 |none=>simp[hx]at h
 |some a=>exact⟨a,rfl,by simpa [hx]using h⟩
def Tree.guard {α:Type}(c:Bool)(why:Nat)(t:Tree α):Tree α:=.node c t (.bad why)
theorem Tree.guard_some {α:Type}{c:Bool}{why:Nat}{t:Tree α}{a:α}(h:(Tree.guard c why t).sel=some a):c=true∧t.sel=some a:=by
 cases c with
 |true=>exact⟨rfl,h⟩
 |false=>simp[Tree.guard,Tree.sel]at h
def Tree.ofOpt {α:Type}(why:Nat):Option α→Tree α
 |some a=>.leaf a
 |none=>.bad why
theorem Tree.ofOpt_some {α:Type}{why:Nat}{x:Option α}{a:α}(h:(Tree.ofOpt why x).sel=some a):x=some a:=by
 cases x with
 |none=>simp[Tree.ofOpt,Tree.sel]at h
 |some b=>simpa [Tree.ofOpt,Tree.sel]using h
inductive SV where
 |dead
 |undef
 |bool (b:Bool)
 |int (k:IntKind) (n:Int)
 |str (s:ByteArray)
 |imm (t:Ty) (l:List t.den)
 |arrd (t:Ty) (n:Nat) (l:List t.den)
 |nilsl
 |own (b g:Nat)
 |part (b g lo len:Nat)
 |ptr (b o:Nat)
 |eptr (b g i o:Nat)
 |aptr (b o w n i k:Nat)
 |asl (b o n:Nat)
 |optr (c:Bool) (b o:Nat)
 |asp (b o n m:Nat)
 |esp (b g i n m:Nat)
 |iptr (es:List SV) (o:Nat)
 |nilptr
 |mapv (b:Nat)
 |itr (b:Nat)
 |nilmap
 |fn (f:Fn) (first caps:List SV)
 |nilfn
 |iface (t:TypeId) (v:SV)
 |nilif
 |agg (es:List SV)
 |tup (es:List SV)
inductive Blk where
 |cells (es:List SV)
 |arr (t:Ty) (g:Nat) (l:List t.den)
 |frz (t:Ty) (g:Nat) (l:List t.den)
 |gone
 |iter (s:ByteArray) (p:Int)
 |vec (g:Nat) (es:List SV)
 |map (kt vt:Ty) (l:List (Ty.den (.pair kt vt)))
 |fmap (kt:Ty) (ks:List kt.den) (es:List SV)
structure SW where
 blks:List Blk
 log:List Nat
def SW.blk (s:SW)(b:Nat):Option Blk:=s.blks[b]?
def SW.len (s:SW):Nat:=s.blks.length
def SW.note (s:SW)(b:Nat):SW:=match s.log.contains b with
 |true=>s
 |false=>{s with log:=b::s.log}
def SW.setBlk (s:SW)(b:Nat)(x:Blk):SW:={blks:=s.blks.set b x,log:=s.log}
def SW.push (s:SW)(x:Blk):SW:={blks:=s.blks++[x],log:=s.log}
def SV.isArr:SV→Bool
 |.arrd _ _ _=>true
 |_=>false
def SV.w:SV→Nat
 |.arrd t n _=>n*t.width
 |_=>1
def esW:List SV→Nat
 |[]=>0
 |e::es=>e.w+esW es
def offs:List SV→Nat→List (Nat×SV)
 |[],_=>[]
 |e::es,o=>(o,e)::offs es (o+e.w)
def f0w:List SV→Nat→Option (List SV×List SV)
 |es,0=>some ([],es)
 |[],_+1=>none
 |e::es,n+1=>match Nat.ble e.w (n+1)with
  |true=>match f0w es (n+1-e.w)with
   |some (a,b)=>some (e::a,b)
   |none=>none
  |false=>none
def h0h (es:List SV)(o n:Nat):Option (List SV):=match f0w es o with
 |some (_,r)=>match f0w r n with
  |some (x,_)=>some x
  |none=>none
 |none=>none
def i0p (es:List SV)(o:Nat)(n:Nat)(xs:List SV):Option (List SV):=match f0w es o with
 |some (a,r)=>match f0w r n with
  |some (_,b)=>some (a++(xs++b))
  |none=>none
 |none=>none
def d0l:(t:Ty)→t.den→List SV
 |.bool,b=>[.bool b]
 |.int k,n=>[.int k n]
 |.str,s=>[.str s]
 |.sl t,l=>[.imm t l]
 |.arr n t,l=>[.arrd t n l]
 |.pair a b,d=>d0l a d.1++d0l b d.2
 |.unit,_=>[]
end Go.Proofs.Ytoehlcomhpnjgaa.Vx
