import Derived.Test.YtnmgjcpjkdmngaaVxTab
noncomputable section
namespace Go.Proofs.Ytnmgjcpjkdmngaa.Vx
open Go Go.RowKit
set_option linter.unusedVariables false
instance (k:IntKind):BEq (Ty.den (.int k)):=inferInstanceAs (BEq Int)
instance:BEq (Ty.den .bool):=inferInstanceAs (BEq Bool)
instance (k:IntKind):LT (Ty.den (.int k)):=inferInstanceAs (LT Int)
instance (k:IntKind):LE (Ty.den (.int k)):=inferInstanceAs (LE Int)
instance (k:IntKind):Add (Ty.den (.int k)):=inferInstanceAs (Add Int)
instance (k:IntKind):Sub (Ty.den (.int k)):=inferInstanceAs (Sub Int)
instance (k:IntKind)(a b:Ty.den (.int k)):Decidable (a<b):=Int.decLt a b
instance (k:IntKind)(a b:Ty.den (.int k)):Decidable (a≤b):=Int.decLe a b
instance (k:IntKind)(a b:Ty.den (.int k)):Decidable (a=b):=Int.instDecidableEq a b
inductive HK where
 |b|n|s|l (t:Ty)
mutual
def holesV:PV→List HK
 |.bool _=>[.b]
 |.int _ _=>[.n]
 |.str _=>[.s]
 |.imm t _=>[.l t]
 |.arrd t _ _=>[.l t]
 |.fn _ a c=>i0i a++i0i c
 |.iface _ v=>holesV v
 |.agg es=>i0i es
 |.tup es=>i0i es
 |_=>[]
def i0i:List PV→List HK
 |[]=>[]
 |p::ps=>holesV p++i0i ps
end
def holesB:PB→List HK
 |.cells es=>i0i es
 |.arr t _=>[.l t]
 |.frz t _=>[.l t]
 |.gone=>[]
 |.iter _ _=>[.s,.n]
 |.vec es=>i0i es
 |.map kt vt _=>[.l (.pair kt vt)]
 |.fmap kt _ es=>.l kt::i0i es
def w0n (ps:List PV)(bs:List PB):List HK:=i0i ps++bs.flatMap holesB
def q0x:List HK→List Dat→Bool
 |[],[]=>true
 |.b::ks,.b _::d=>q0x ks d
 |.n::ks,.n _::d=>q0x ks d
 |.s::ks,.s _::d=>q0x ks d
 |.l t::ks,.l t' _::d=>decide (t=t')&&q0x ks d
 |_,_=>false
def isK (k:Nat)(ks:List HK):Option (Nat×List Dat)→Bool
 |some (k',d)=>Nat.beq k' k&&q0x ks d
 |none=>false
def dOf:Option (Nat×List Dat)→List Dat
 |some (_,d)=>d
 |none=>[]
def datAt (d:List Dat)(i:Nat):HK→Dat
 |.b=>.b (gb d i)
 |.n=>.n (gn d i)
 |.s=>.s (gs d i)
 |.l t=>.l t (gl t d i)
def x0r (d:List Dat):List HK→Nat→List Dat
 |[],_=>[]
 |k::ks,i=>datAt d i k::x0r d ks (i+1)
theorem s0a: ∀(ks:List HK) (d pre:List Dat),q0x ks d=true→x0r (pre++d) ks pre.length=d
 |[],[],pre,_=>rfl
 |[],x::d,pre,h=>by cases h
 |k::ks,[],pre,h=>by cases k<;>cases h
 |k::ks,x::d,pre,h=>by
  have ih:=fun(h':q0x ks d=true)=>s0a ks d (pre++[x]) h'
  have e:pre++[x]++d=pre++x::d:=by simp
  simp only[e,List.length_append,List.length_cons,List.length_nil,Nat.zero_add]at ih
  have g:(pre++x::d)[pre.length]? =some x:=by rw[List.getElem?_append_right (Nat.le_refl _)];simp
  unfold x0r
  cases k<;>cases x<;>simp only[q0x,Bool.and_eq_true,Bool.false_eq_true]at h<;>first|rw[ih h]|rw[ih h.2]
  all_goals first|(simp only[datAt,gb,gn,gs,g];done)|skip
  rename_i t t' l
  have:=of_decide_eq_true h.1
  subst this
  simp only[datAt,gl,g,e0r]
def outT:List (List HK)→Nat→Option (Nat×List Dat)→Tree (Nat×List Dat)
 |[],_,_=>.bad 351
 |ks::more,k,r=>.node (isK k ks r) (.leaf (k,x0r (dOf r) ks 0)) (outT more (k+1) r)
theorem f0x: ∀{kss:List (List HK)} {k:Nat} {r:Option (Nat×List Dat)} {x:Nat×List Dat},(outT kss k r).sel=some x→r=some x
 |[],k,r,x,h=>by simp[outT,Tree.sel]at h
 |ks::more,k,r,x,h=>by
  unfold outT at h
  simp only[Tree.sel]at h
  cases e:isK k ks r with
  |false=>rw[e]at h;exact f0x h
  |true=>
   rw[e]at h
   simp only[cond_true,Option.some.injEq]at h
   cases r with
   |none=>cases e
   |some y=>
    obtain⟨k',d⟩:=y
    simp only[isK,Bool.and_eq_true]at e
    have h1:=Nat.eq_of_beq_eq_true e.1
    have:=s0a ks d [] e.2
    simp only[List.nil_append,List.length_nil]at this
    subst h
    simp only[dOf,this,h1]
def mkF (args:List PV)(blks:List PB)(log:List Nat)(outs:List (PV×List PB))(op:List Dat→Option (Nat×List Dat)):FBox:=
 ⟨args,blks,log,outs,fun env=>outT (outs.map fun o=>w0n [o.1] o.2) 0 (op env)⟩
def shGo:Nat→Nat→List (Nat×PV)→List PV
 |0,_,_=>[]
 |n+1,i,l=>(match l.find? (fun x=>Nat.beq x.1 i)with
  |some x=>x.2
  |none=>.dead)::shGo n (i+1) l
def sh (n:Nat)(l:List (Nat×PV)):List PV:=shGo n 0 l
def b0n (st:List Dat→Tree Step):Nat→List Dat→Option (Nat×List Dat)
 |0,_=>none
 |n+1,env=>match(st env).sel with
  |some (.go e)=>b0n st n e
  |some (.stop k d)=>some (k,d)
  |none=>none
def FU:Nat:=18446744073709551616
theorem o0c {st st':List Dat→Tree Step}(h: ∀env y,(st env).sel=some y→(st' env).sel=some y): ∀(n:Nat) (env:List Dat) (x:Nat×List Dat),b0n st n env=some x→p0f st' env x
 |0,env,x,e=>by cases e
 |n+1,env,x,e=>by
  unfold b0n at e
  split at e
  ·rename_i e' he;exact p0f.go (h _ _ he) (o0c h n e' x e)
  ·rename_i k d he;cases e;exact p0f.stop (h _ _ he)
  ·cases e
section
variable {P:Program}
theorem z0g {f i:Nat}(h:(i0o P f i).length=1):i0o P f i=[cAt P f i]:=by
 unfold cAt
 match e:i0o P f i,h with
 |[c],_=>rfl
theorem mkF_ok {cs:FuncId→Option a0i}(hcs:CsOk P cs)(hm:P.follows .mixedOrders=true)(md:Bool){ls:a0n}{f:FuncId}{args:List PV}{blks:List PB}{log:List Nat}{outs:List (PV×List PB)}{op:List Dat→Option (Nat×List Dat)}
  (hls:LsOk P blks.length ls (b0i P f)) (h: ∀env x,op env=some x→(boxC md P cs f ls (mkF args blks log outs fun _=>none) env).sel=some x):e0f P f (b0g (mkF args blks log outs op)):=
 boxC_ok hcs hm md hls fun env x he=>h env x (f0x he)
end
end Go.Proofs.Ytnmgjcpjkdmngaa.Vx
