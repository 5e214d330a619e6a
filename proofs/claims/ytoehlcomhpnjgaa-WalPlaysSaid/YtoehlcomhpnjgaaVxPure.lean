import Derived.Test.YtoehlcomhpnjgaaVxTab
noncomputable section
namespace Go.Proofs.Ytoehlcomhpnjgaa.Vx
open Go Go.RowKit
set_option linter.unusedVariables false
instance (k:IntKind):BEq (Ty.den (.int k)):=inferInstanceAs (BEq Int)
instance:BEq (Ty.den .bool):=inferInstanceAs (BEq Bool)
instance (k:IntKind):LT (Ty.den (.int k)):=inferInstanceAs (LT Int)
instance (k:IntKind):LE (Ty.den (.int k)):=inferInstanceAs (LE Int)
instance (k:IntKind):Add (Ty.den (.int k)):=inferInstanceAs (Add Int)
instance (k:IntKind):Sub (Ty.den (.int k)):=inferInstanceAs (Sub Int)
instance (k:IntKind)(a b:Ty.den (.int k)):Decidable (a<b):=Int.decLt a b
instance (k:IntKind)(a b:Ty.den (.int k)):Decidable (a≤b):=Int.decLe a b
instance (k:IntKind)(a b:Ty.den (.int k)):Decidable (a=b):=Int.instDecidableEq a b
theorem a0a {α:Type}{c:Bool}{t e:Tree α}{x:Option α}(h:c=true)(k:t.sel=x):(Tree.node c t e).sel=x:=by subst h;exact k
theorem a0c {α:Type}{c:Bool}{t e:Tree α}{x:Option α}(h:c=false)(k:e.sel=x):(Tree.node c t e).sel=x:=by subst h;exact k
inductive HK where
 |b|n|s|l (t:Ty)
mutual
def holesV:PV→List HK
 |.bool _=>[.b]
 |.int _ _=>[.n]
 |.str _=>[.s]
 |.imm t _=>[.l t]
 |.arrd t _ _=>[.l t]
 |.optr _ _ _=>[.b]
 |.fn _ a c=>u0o a++u0o c
 |.iface _ v=>holesV v
 |.agg es=>u0o es
 |.tup es=>u0o es
 |_=>[]
def u0o:List PV→List HK
 |[]=>[]
 |p::ps=>holesV p++u0o ps
end
def holesB:PB→List HK
 |.cells es=>u0o es
 |.arr t _=>[.l t]
 |.frz t _=>[.l t]
 |.gone=>[]
 |.iter _ _=>[.s,.n]
 |.vec es=>u0o es
 |.map kt vt _=>[.l (.pair kt vt)]
 |.fmap kt _ es=>.l kt::u0o es
def t3k (ps:List PV)(bs:List PB):List HK:=u0o ps++bs.flatMap holesB
def h1z:List HK→List Dat→Bool
 |[],[]=>true
 |.b::ks,.b _::d=>h1z ks d
 |.n::ks,.n _::d=>h1z ks d
 |.s::ks,.s _::d=>h1z ks d
 |.l t::ks,.l t' _::d=>decide (t=t')&&h1z ks d
 |_,_=>false
def isK (k:Nat)(ks:List HK):Option (Nat×List Dat)→Bool
 |some (k',d)=>Nat.beq k' k&&h1z ks d
 |none=>false
def dOf:Option (Nat×List Dat)→List Dat
 |some (_,d)=>d
 |none=>[]
def datAt (d:List Dat)(i:Nat):HK→Dat
 |.b=>.b (gb d i)
 |.n=>.n (gn d i)
 |.s=>.s (gs d i)
 |.l t=>.l t (gl t d i)
def a1o (d:List Dat):List HK→Nat→List Dat
 |[],_=>[]
 |k::ks,i=>datAt d i k::a1o d ks (i+1)
theorem o1o: ∀(ks:List HK) (d pre:List Dat),h1z ks d=true→a1o (pre++d) ks pre.length=d
 |[],[],pre,_=>rfl
 |[],x::d,pre,h=>by cases h
 |k::ks,[],pre,h=>by cases k<;>cases h
 |k::ks,x::d,pre,h=>by
  have ih:=fun(h':h1z ks d=true)=>o1o ks d (pre++[x]) h'
  have e:pre++[x]++d=pre++x::d:=by simp
  simp only[e,List.length_append,List.length_cons,List.length_nil,Nat.zero_add]at ih
  have g:(pre++x::d)[pre.length]? =some x:=by rw[List.getElem?_append_right (Nat.le_refl _)];simp
  unfold a1o
  cases k<;>cases x<;>simp only[h1z,Bool.and_eq_true,Bool.false_eq_true]at h<;>first|rw[ih h]|rw[ih h.2]
  all_goals first|(simp only[datAt,gb,gn,gs,g];done)|skip
  rename_i t t' l
  have:=of_decide_eq_true h.1
  subst this
  simp only[datAt,gl,g,d0b]
def outT:List (List HK)→Nat→Option (Nat×List Dat)→Tree (Nat×List Dat)
 |[],_,_=>.bad 351
 |ks::more,k,r=>.node (isK k ks r) (.leaf (k,a1o (dOf r) ks 0)) (outT more (k+1) r)
theorem i0g: ∀{kss:List (List HK)} {k:Nat} {r:Option (Nat×List Dat)} {x:Nat×List Dat},(outT kss k r).sel=some x→r=some x
 |[],k,r,x,h=>by simp[outT,Tree.sel]at h
 |ks::more,k,r,x,h=>by
  unfold outT at h
  simp only[Tree.sel]at h
  cases e:isK k ks r with
  |false=>rw[e]at h;exact i0g h
  |true=>
   rw[e]at h
   simp only[cond_true,Option.some.injEq]at h
   cases r with
   |none=>cases e
   |some y=>
    obtain⟨k',d⟩:=y
    simp only[isK,Bool.and_eq_true]at e
    have h1:=Nat.eq_of_beq_eq_true e.1
    have:=o1o ks d [] e.2
    simp only[List.nil_append,List.length_nil]at this
    subst h
    simp only[dOf,this,h1]
def mkF (args:List PV)(blks:List PB)(log:List Nat)(outs:List (PV×List PB))(op:List Dat→Option (Nat×List Dat)):FBox:=
 ⟨args,blks,log,outs,fun env=>outT (outs.map fun o=>t3k [o.1] o.2) 0 (op env)⟩
def mkL (K:Nat)(log:List Nat)(t:List PV)(blks:List PB)(nils:List (Nat×Ty))(outs:List (Exit×List PV×List PB))(op:List Dat→Option (Nat×List Dat)):LBox:=
 ⟨K,log,t,blks,nils,outs,fun env=>outT (outs.map fun o=>t3k o.2.1 o.2.2) 0 (op env)⟩
def shGo:Nat→Nat→List (Nat×PV)→List PV
 |0,_,_=>[]
 |n+1,i,l=>(match l.find? (fun x=>Nat.beq x.1 i)with
  |some x=>x.2
  |none=>.dead)::shGo n (i+1) l
def sh (n:Nat)(l:List (Nat×PV)):List PV:=shGo n 0 l
def a0b (st:List Dat→Tree Step):Nat→List Dat→Option (Nat×List Dat)
 |0,_=>none
 |n+1,env=>match(st env).sel with
  |some (.go e)=>a0b st n e
  |some (.stop k d)=>some (k,d)
  |none=>none
def FU:Nat:=18446744073709551616
theorem f1v {st st':List Dat→Tree Step}(h: ∀env y,(st env).sel=some y→(st' env).sel=some y): ∀(n:Nat) (env:List Dat) (x:Nat×List Dat),a0b st n env=some x→j1v st' env x
 |0,env,x,e=>by cases e
 |n+1,env,x,e=>by
  unfold a0b at e
  split at e
  ·rename_i e' he;exact j1v.go (h _ _ he) (f1v h n e' x e)
  ·rename_i k d he;cases e;exact j1v.stop (h _ _ he)
  ·cases e
section
variable {P:Program}
theorem a0e {f i:Nat}(h:(p0c P f i).length=1):p0c P f i=[cAt P f i]:=by
 unfold cAt
 match e:p0c P f i,h with
 |[c],_=>rfl
theorem a0p {cs:FuncId→Option a0q}(hcs:CsOk P cs)(hm:P.follows .mixedOrders=true)(md:Bool){ls:b0u}{f:FuncId}{args:List PV}{blks:List PB}{log:List Nat}{outs:List (PV×List PB)}{op:List Dat→Option (Nat×List Dat)}
  (hls:LsOk P blks.length ls (a0r P f)) (h: ∀env x,op env=some x→(boxC md P cs f ls (mkF args blks log outs fun _=>none) env).sel=some x):a0v P f (a0j (mkF args blks log outs op)):=
 boxC_ok hcs hm md hls fun env x he=>h env x (i0g he)
theorem mkL_ok {cs:FuncId→Option a0q}(hcs:CsOk P cs)(hm:P.follows .mixedOrders=true)(md:Bool){f i K:Nat}{k:Nat}{log:List Nat}{t:List PV}{blks:List PB}{nils:List (Nat×Ty)}{outs:List (Exit×List PV×List PB)}{st:List Dat→Tree Step}{m:Nat}
  (hl:(p0c P f i).length=1) (hK:Nat.ble k blks.length=true)
  (h: ∀env y,(st env).sel=some y→(p4i md P cs f i ls0 (mkL k log t blks nils outs fun _=>none) env).sel=some y):LsOk P K (r3k [(i,mkL k log t blks nils outs (a0b st m))] K) (a0r P f):=
 s4w hcs hm md hl hK fun env x he=>f1v h m env x (i0g he)
end
end Go.Proofs.Ytoehlcomhpnjgaa.Vx
