import Derived.Test.YtplcpifjiodhcaaGreatVxBox
noncomputable section
namespace Go.Proofs.YtplcpifjiodhcaaGreat.Vx
open Go Go.RowKit
set_option linter.unusedVariables false
structure FBox where
 args:List PV
 blks:List PB
 log:List Nat
 outs:List (PV×List PB)
 fn:List Dat→Tree (Nat×List Dat)
def a0j (B:FBox)(args:List SV)(s:SW):Tree (SV×SW):=match fitS B.args B.blks args s with
 |some env=>(B.fn env).bind fun x=>match B.outs[x.1]? with
  |some o=>.leaf (instV o.1 x.2,⟨instBs o.2 x.2,B.log⟩)
  |none=>.bad 321
 |none=>.bad 320
def d1q (K:Nat)(v:SV)(s:SW):List (PV×List PB)→Nat→Tree (Nat×List Dat)
 |[],_=>.bad 322
 |o::os,k=>match n1n K [o.1] o.2 [v] s with
  |some env=>.leaf (k,env)
  |none=>d1q K v s os (k+1)
def o2a (K:Nat)(log:List Nat)(outs:List (PV×List PB))(v:SV)(s:SW):Tree (Nat×List Dat):=.guard (p2r K log s.log) 323 (d1q K v s outs 0)
def v2b (P:Program)(cl:b0p)(ls:b0u)(n:Nat)(f:FuncId)(B:FBox)(env:List Dat):Tree (Nat×List Dat):=
 (r0u P cl ls n f (instL B.args env) ⟨instBs B.blks env,[]⟩).bind fun x=>o2a B.blks.length B.log B.outs x.1 x.2
def e2m (P:Program)(cs:FuncId→Option a0q)(ls:FuncId→Nat→b0u):Nat→Nat→b0p
 |0,_=>fun f args s=>match cs f with
  |some g=>g args s
  |none=>.bad 306
 |n+1,m=>fun f args s=>match cs f with
  |some g=>g args s
  |none=>u0v (fun args s=>r0u P (e2m P cs ls n m) (ls f s.len) m f args s) args s
structure LBox where
 K:Nat
 log:List Nat
 t:List PV
 blks:List PB
 nils:List (Nat×Ty)
 outs:List (Exit×List PV×List PB)
 fn:List Dat→Tree (Nat×List Dat)
def s1z (B:LBox)(t:List SV)(s:SW):Tree Res:=match n1n B.K B.t B.blks (nilT B.nils t s).1 (nilT B.nils t s).2 with
 |some env=>(B.fn env).bind fun x=>match B.outs[x.1]? with
  |some o=>.leaf (o.1,instL o.2.1 x.2,⟨instBs o.2.2 x.2,m0j B.log s.log⟩)
  |none=>.bad 331
 |none=>.bad 330
def exitEq:Exit→Exit→Bool
 |.normal,.normal=>true
 |.exit a,.exit b=>Nat.beq a b
 |.ret,.ret=>true
 |_,_=>false
def l0j (K:Nat)(e:Exit)(t:List SV)(s:SW):List (Exit×List PV×List PB)→Nat→Tree (Nat×List Dat)
 |[],_=>.bad 332
 |o::os,k=>match exitEq e o.1,n1n K o.2.1 o.2.2 t s with
  |true,some env=>.leaf (k,env)
  |_,_=>l0j K e t s os (k+1)
inductive Step where
 |go (d:List Dat)
 |stop (k:Nat) (d:List Dat)
inductive GoesN (st:List Dat→Tree Step):Nat→List Dat→Nat×List Dat→Prop
 |stop (env:List Dat) (k:Nat) (d:List Dat) (h:(st env).sel=some (.stop k d)):GoesN st 1 env (k,d)
 |go (n:Nat) (env env':List Dat) (x:Nat×List Dat) (h:(st env).sel=some (.go env')) (k:GoesN st n env' x):GoesN st (n+1) env x
def j1v (st:List Dat→Tree Step)(env:List Dat)(x:Nat×List Dat):Prop:= ∃n,GoesN st n env x
theorem j1v.stop {st:List Dat→Tree Step}{env:List Dat}{k:Nat}{d:List Dat}(h:(st env).sel=some (.stop k d)):j1v st env (k,d):=⟨1,.stop env k d h⟩
theorem j1v.go {st:List Dat→Tree Step}{env env':List Dat}{x:Nat×List Dat}(h:(st env).sel=some (.go env'))(k:j1v st env' x):j1v st env x:=let⟨n,k⟩:=k;⟨n+1,.go n env env' x h k⟩
def g0l:Code→Option Nat
 |.region id _ _=>some id
 |.seq a b=>match g0l a with
  |some i=>some i
  |none=>g0l b
 |.cond _ a b=>match g0l a with
  |some i=>some i
  |none=>g0l b
 |.block _ c=>g0l c
 |.loop c=>g0l c
 |.scope c=>g0l c
 |_=>none
def s2s:List (Nat×LBox)→Nat→Option LBox
 |[],_=>none
 |(i,B)::l,k=>match Nat.beq i k with
  |true=>some B
  |false=>s2s l k
def lsTab (tab:List (Nat×LBox))(K:Nat):b0u:=fun c t s=>match g0l c with
 |some i=>match s2s tab i with
  |some B=>match Nat.beq B.K K with
   |true=>some (s1z B t s)
   |false=>none
  |none=>none
 |none=>none
section
variable {P:Program}
theorem e1t {K:Nat}{v:SV}{s:SW}: ∀{outs:List (PV×List PB)} {k0 k:Nat} {env:List Dat},(d1q K v s outs k0).sel=some (k,env)→ ∃o,k0≤k∧outs[k-k0]? =some o∧n1n K [o.1] o.2 [v] s=some env
 |[],k0,k,env,h=>by simp[d1q,Tree.sel]at h
 |o::os,k0,k,env,h=>by
  unfold d1q at h
  split at h
  ·rename_i e he
   simp only[Tree.sel,Option.some.injEq,Prod.mk.injEq]at h
   obtain⟨rfl,rfl⟩:=h
   exact⟨o,Nat.le_refl _,by simp,he⟩
  ·obtain⟨o',h1,h2,h3⟩:=e1t h
   refine⟨o',by omega,?_,h3⟩
   rw[show k-k0=(k-(k0+1))+1 by omega,List.getElem?_cons_succ];exact h2
theorem a1g {K:Nat}{e:Exit}{t:List SV}{s:SW}: ∀{outs:List (Exit×List PV×List PB)} {k0 k:Nat} {env:List Dat},(l0j K e t s outs k0).sel=some (k,env)→
  ∃o,k0≤k∧outs[k-k0]? =some o∧o.1=e∧n1n K o.2.1 o.2.2 t s=some env
 |[],k0,k,env,h=>by simp[l0j,Tree.sel]at h
 |o::os,k0,k,env,h=>by
  unfold l0j at h
  split at h
  ·rename_i en he hf
   simp only[Tree.sel,Option.some.injEq,Prod.mk.injEq]at h
   obtain⟨rfl,rfl⟩:=h
   refine⟨o,Nat.le_refl _,by simp,?_,hf⟩
   generalize o.1=e2 at he
   cases e<;>cases e2<;>simp[exitEq]at he<;>first|rfl|rw[he]
  ·obtain⟨o',h1,h2,h3⟩:=a1g h
   refine⟨o',by omega,?_,h3⟩
   rw[show k-k0=(k-(k0+1))+1 by omega,List.getElem?_cons_succ];exact h2
theorem o1x {K:Nat}{log l:List Nat}(h:p2r K log l=true): ∀b,b∈l→b<K→b∈log:=by
 intro b hb hk
 unfold p2r at h
 rw[List.all_eq_true]at h
 have:=h b hb
 rw[Bool.or_eq_true]at this
 rcases this with q|q
 ·have:=Nat.le_of_ble_eq_true q;omega
 ·exact List.contains_iff_mem.1 q
theorem LRel.one {r:RM}{σ:Snap}{v:SV}{v':Value}(h:VRel r σ v v'):LRel r σ [v] #[v']:=.cons h (LRel.nil _ _)
theorem l2x {cl:b0p}(hcl:ClOk P cl)(hm:P.follows .mixedOrders=true){ls:b0u}{n:Nat}{f:FuncId}{B:FBox}(hls:LsOk P B.blks.length ls (a0r P f))
  (hB: ∀env x,(B.fn env).sel=some x→(v2b P cl ls n f B env).sel=some x):a0v P f (a0j B):=by
 intro args s v s1 h hlog r σ w args' hr ha
 unfold a0j at h
 split at h
 ·rename_i env henv
  obtain⟨⟨k,e⟩,h1,h2⟩:=Tree.bind_some h
  split at h2
  ·rename_i o ho
   cases h2
   obtain⟨f1,f2,f3⟩:=c1f henv hr ha []
   have hE:=hB env _ h1
   unfold v2b at hE
   obtain⟨⟨v1,s2⟩,h3,h4⟩:=Tree.bind_some hE
   have hlen:(⟨instBs B.blks env,[]⟩:SW).len=B.blks.length:=by simp[SW.len,instBs]
   refine(t0k hcl hm hls h3 (by rw[hlen];exact Nat.le_refl _) f1 f2).mono ?_
   rintro e' w' ⟨v',rfl,r',σ',a1,a2,a3,a4,a5⟩
   obtain⟨g1,g2⟩:=Tree.guard_some h4
   obtain⟨o',q1,q2,q3⟩:=e1t g2
   rw[Nat.sub_zero,ho]at q2
   cases q2
   obtain⟨r2,b1,b2,b3,b4⟩:=k1i q3 a5 a1 (LRel.one a3)
   have lg:=o1x g1
   refine⟨v',rfl,r2,σ',b1 B.log,?_,?_,(fun x hx _=>by rw[hlog]at hx;cases hx),?_⟩
   ·rw[←f3];exact(a2.trans b3 fun _ h _=>h).more fun b hb hk=>lg b hb hk
   ·exact b2.at_ 0 (instV o.1 e) v' rfl rfl
   ·rw[←f3];show _≤(instBs o.2 e).length;rw[instBs,List.length_map];exact b4
  ·simp[Tree.sel]at h2
 ·simp[Tree.sel]at h
theorem t2a {cs:FuncId→Option a0q}(hcs: ∀f g,cs f=some g→c1x P f g)(hm:P.follows .mixedOrders=true)
  {ls:FuncId→Nat→b0u} (hls: ∀f K,cs f=none→LsOk P K (ls f K) (a0r P f)): ∀n m,ClOk P (e2m P cs ls n m):=by
 intro n
 induction n with
 |zero=>
  intro m f args s v s1 h
  unfold e2m at h
  cases hc:cs f with
  |some g=>simp only[hc]at h;exact hcs f g hc args s v s1 h
  |none=>simp[hc,Tree.sel]at h
 |succ n ih=>
  intro m f args s v s1 h
  unfold e2m at h
  cases hc:cs f with
  |some g=>simp only[hc]at h;exact hcs f g hc args s v s1 h
  |none=>
   simp only[hc]at h
   exact f1s (fun args s v s1 h _ r σ w args' hr ha=>t0k (ih m) hm (hls f s.len hc) h (Nat.le_refl _) hr ha) args s v s1 h
theorem s2b {tab:List (Nat×LBox)}{K:Nat}{c0:Code}(h: ∀c∈d0w c0,∀i B,g0l c=some i→s2s tab i=some B→B.K=K→ ∀t s x,(s1z B t s).sel=some x→a0k P B.K (.loop c) t s x):LsOk P K (lsTab tab K) c0:=by
 intro c hc t s T x hT hx
 unfold lsTab at hT
 split at hT
 ·rename_i i hi
  split at hT
  ·rename_i B hB
   split at hT
   ·rename_i hk
    have:=Nat.eq_of_beq_eq_true hk
    cases hT
    subst this
    exact h c hc i B hi hB rfl t s x hx
   ·cases hT
  ·cases hT
 ·cases hT
end
end Go.Proofs.YtplcpifjiodhcaaGreat.Vx
