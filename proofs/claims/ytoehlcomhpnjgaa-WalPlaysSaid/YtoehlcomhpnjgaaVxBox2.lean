import Derived.Test.YtoehlcomhpnjgaaVxBox
noncomputable section
namespace Go.Proofs.Ytoehlcomhpnjgaa.Vx
open Go Go.RowKit
set_option linter.unusedVariables false
variable {ds:List Deferred}
structure FBox where
 args:List PV
 blks:List PB
 log:List Nat
 outs:List (PV×List PB)
 fn:List Dat→Tree (Nat×List Dat)
def a0j (B:FBox)(args:List SV)(s:SW):Tree (SV×SW):=match fitS B.args B.blks args s with
 |some env=>(B.fn env).bind fun x=>match B.outs[x.1]? with
  |some o=>.leaf (instV o.1 x.2,⟨instBs o.2 x.2,B.log⟩)
  |none=>.bad 321
 |none=>.bad 320
def d1q (K:Nat)(v:SV)(s:SW):List (PV×List PB)→Nat→Tree (Nat×List Dat)
 |[],_=>.bad 322
 |o::os,k=>match n1n K [o.1] o.2 [v] s with
  |some env=>.leaf (k,env)
  |none=>d1q K v s os (k+1)
def o2a (K:Nat)(log:List Nat)(outs:List (PV×List PB))(v:SV)(s:SW):Tree (Nat×List Dat):=.guard (p2r K log s.log) 323 (d1q K v s outs 0)
def v2b (P:Program)(cl:b0p)(ls:b0u)(n:Nat)(f:FuncId)(B:FBox)(env:List Dat):Tree (Nat×List Dat):=
 (r0u P cl ls n f (instL B.args env) ⟨instBs B.blks env,[]⟩).bind fun x=>o2a B.blks.length B.log B.outs x.1 x.2
def e2m (P:Program)(cs:FuncId→Option a0q)(ls:FuncId→Nat→b0u):Nat→Nat→b0p
 |0,_=>fun f args s=>match cs f with
  |some g=>g args s
  |none=>.bad 306
 |n+1,m=>fun f args s=>match cs f with
  |some g=>g args s
  |none=>u0v (fun args s=>r0u P (e2m P cs ls n m) (ls f s.len) m f args s) args s
structure LBox where
 K:Nat
 log:List Nat
 t:List PV
 blks:List PB
 nils:List (Nat×Ty)
 outs:List (Exit×List PV×List PB)
 fn:List Dat→Tree (Nat×List Dat)
def s1z (B:LBox)(t:List SV)(s:SW):Tree Res:=match n1n B.K B.t B.blks (nilT B.nils t s).1 (nilT B.nils t s).2 with
 |some env=>(B.fn env).bind fun x=>match B.outs[x.1]? with
  |some o=>.leaf (o.1,instL o.2.1 x.2,⟨instBs o.2.2 x.2,m0j B.log s.log⟩)
  |none=>.bad 331
 |none=>.bad 330
def exitEq:Exit→Exit→Bool
 |.normal,.normal=>true
 |.exit a,.exit b=>Nat.beq a b
 |.ret,.ret=>true
 |_,_=>false
def l0j (K:Nat)(e:Exit)(t:List SV)(s:SW):List (Exit×List PV×List PB)→Nat→Tree (Nat×List Dat)
 |[],_=>.bad 332
 |o::os,k=>match exitEq e o.1,n1n K o.2.1 o.2.2 t s with
  |true,some env=>.leaf (k,env)
  |_,_=>l0j K e t s os (k+1)
inductive Step where
 |go (d:List Dat)
 |stop (k:Nat) (d:List Dat)
def x3b (P:Program)(cl:b0p)(ls:b0u)(n:Nat)(c:Code)(B:LBox)(env:List Dat):Tree Step:=
 (e0i P cl ls n c (instL B.t env) ⟨instBs B.blks env,[]⟩).bind fun x=>.guard (p2r B.K B.log x.2.2.log) 333 (match x.1 with
  |.normal=>match n1n B.K B.t B.blks (nilT B.nils x.2.1 x.2.2).1 (nilT B.nils x.2.1 x.2.2).2 with
   |some env=>.leaf (.go env)
   |none=>.bad 334
  |e=>(l0j B.K e x.2.1 x.2.2 B.outs 0).bind fun y=>.leaf (.stop y.1 y.2))
inductive GoesN (st:List Dat→Tree Step):Nat→List Dat→Nat×List Dat→Prop
 |stop (env:List Dat) (k:Nat) (d:List Dat) (h:(st env).sel=some (.stop k d)):GoesN st 1 env (k,d)
 |go (n:Nat) (env env':List Dat) (x:Nat×List Dat) (h:(st env).sel=some (.go env')) (k:GoesN st n env' x):GoesN st (n+1) env x
def j1v (st:List Dat→Tree Step)(env:List Dat)(x:Nat×List Dat):Prop:= ∃n,GoesN st n env x
theorem j1v.stop {st:List Dat→Tree Step}{env:List Dat}{k:Nat}{d:List Dat}(h:(st env).sel=some (.stop k d)):j1v st env (k,d):=⟨1,.stop env k d h⟩
theorem j1v.go {st:List Dat→Tree Step}{env env':List Dat}{x:Nat×List Dat}(h:(st env).sel=some (.go env'))(k:j1v st env' x):j1v st env x:=let⟨n,k⟩:=k;⟨n+1,.go n env env' x h k⟩
def g0l:Code→Option Nat
 |.region id _ _=>some id
 |.seq a b=>match g0l a with
  |some i=>some i
  |none=>g0l b
 |.cond _ a b=>match g0l a with
  |some i=>some i
  |none=>g0l b
 |.block _ c=>g0l c
 |.loop c=>g0l c
 |.scope c=>g0l c
 |_=>none
def s2s:List (Nat×LBox)→Nat→Option LBox
 |[],_=>none
 |(i,B)::l,k=>match Nat.beq i k with
  |true=>some B
  |false=>s2s l k
def r3k (tab:List (Nat×LBox))(K:Nat):b0u:=fun c t s=>match g0l c with
 |some i=>match s2s tab i with
  |some B=>match Nat.beq B.K K with
   |true=>some (s1z B t s)
   |false=>none
  |none=>none
 |none=>none
section
variable {P:Program}
theorem e1t {K:Nat}{v:SV}{s:SW}: ∀{outs:List (PV×List PB)} {k0 k:Nat} {env:List Dat},(d1q K v s outs k0).sel=some (k,env)→ ∃o,k0≤k∧outs[k-k0]? =some o∧n1n K [o.1] o.2 [v] s=some env
 |[],k0,k,env,h=>by simp[d1q,Tree.sel]at h
 |o::os,k0,k,env,h=>by
  unfold d1q at h
  split at h
  ·rename_i e he
   simp only[Tree.sel,Option.some.injEq,Prod.mk.injEq]at h
   obtain⟨rfl,rfl⟩:=h
   exact⟨o,Nat.le_refl _,by simp,he⟩
  ·obtain⟨o',h1,h2,h3⟩:=e1t h
   refine⟨o',by omega,?_,h3⟩
   rw[show k-k0=(k-(k0+1))+1 by omega,List.getElem?_cons_succ];exact h2
theorem a1g {K:Nat}{e:Exit}{t:List SV}{s:SW}: ∀{outs:List (Exit×List PV×List PB)} {k0 k:Nat} {env:List Dat},(l0j K e t s outs k0).sel=some (k,env)→
  ∃o,k0≤k∧outs[k-k0]? =some o∧o.1=e∧n1n K o.2.1 o.2.2 t s=some env
 |[],k0,k,env,h=>by simp[l0j,Tree.sel]at h
 |o::os,k0,k,env,h=>by
  unfold l0j at h
  split at h
  ·rename_i en he hf
   simp only[Tree.sel,Option.some.injEq,Prod.mk.injEq]at h
   obtain⟨rfl,rfl⟩:=h
   refine⟨o,Nat.le_refl _,by simp,?_,hf⟩
   generalize o.1=e2 at he
   cases e<;>cases e2<;>simp[exitEq]at he<;>first|rfl|rw[he]
  ·obtain⟨o',h1,h2,h3⟩:=a1g h
   refine⟨o',by omega,?_,h3⟩
   rw[show k-k0=(k-(k0+1))+1 by omega,List.getElem?_cons_succ];exact h2
theorem o1x {K:Nat}{log l:List Nat}(h:p2r K log l=true): ∀b,b∈l→b<K→b∈log:=by
 intro b hb hk
 unfold p2r at h
 rw[List.all_eq_true]at h
 have:=h b hb
 rw[Bool.or_eq_true]at this
 rcases this with q|q
 ·have:=Nat.le_of_ble_eq_true q;omega
 ·exact List.contains_iff_mem.1 q
theorem LRel.one {r:RM}{σ:Snap}{v:SV}{v':Value}(h:VRel r σ v v'):LRel r σ [v] #[v']:=.cons h (LRel.nil _ _)
theorem l2x {cl:b0p}(hcl:ClOk P cl)(hm:P.follows .mixedOrders=true){ls:b0u}{n:Nat}{f:FuncId}{B:FBox}(hls:LsOk P B.blks.length ls (a0r P f))
  (hB: ∀env x,(B.fn env).sel=some x→(v2b P cl ls n f B env).sel=some x):a0v P f (a0j B):=by
 intro args s v s1 h hlog r σ w args' hr ha
 unfold a0j at h
 split at h
 ·rename_i env henv
  obtain⟨⟨k,e⟩,h1,h2⟩:=Tree.bind_some h
  split at h2
  ·rename_i o ho
   cases h2
   obtain⟨f1,f2,f3⟩:=c1f henv hr ha []
   have hE:=hB env _ h1
   unfold v2b at hE
   obtain⟨⟨v1,s2⟩,h3,h4⟩:=Tree.bind_some hE
   have hlen:(⟨instBs B.blks env,[]⟩:SW).len=B.blks.length:=by simp[SW.len,instBs]
   refine(t0k hcl hm hls h3 (by rw[hlen];exact Nat.le_refl _) f1 f2).mono ?_
   rintro e' w' ⟨v',rfl,r',σ',a1,a2,a3,a4,a5⟩
   obtain⟨g1,g2⟩:=Tree.guard_some h4
   obtain⟨o',q1,q2,q3⟩:=e1t g2
   rw[Nat.sub_zero,ho]at q2
   cases q2
   obtain⟨r2,b1,b2,b3,b4⟩:=k1i q3 a5 a1 (LRel.one a3)
   have lg:=o1x g1
   refine⟨v',rfl,r2,σ',b1 B.log,?_,?_,(fun x hx _=>by rw[hlog]at hx;cases hx),?_⟩
   ·rw[←f3];exact(a2.trans b3 fun _ h _=>h).more fun b hb hk=>lg b hb hk
   ·exact b2.at_ 0 (instV o.1 e) v' rfl rfl
   ·rw[←f3];show _≤(instBs o.2 e).length;rw[instBs,List.length_map];exact b4
  ·simp[Tree.sel]at h2
 ·simp[Tree.sel]at h
theorem t2a {cs:FuncId→Option a0q}(hcs: ∀f g,cs f=some g→c1x P f g)(hm:P.follows .mixedOrders=true)
  {ls:FuncId→Nat→b0u} (hls: ∀f K,cs f=none→LsOk P K (ls f K) (a0r P f)): ∀n m,ClOk P (e2m P cs ls n m):=by
 intro n
 induction n with
 |zero=>
  intro m f args s v s1 h
  unfold e2m at h
  cases hc:cs f with
  |some g=>simp only[hc]at h;exact hcs f g hc args s v s1 h
  |none=>simp[hc,Tree.sel]at h
 |succ n ih=>
  intro m f args s v s1 h
  unfold e2m at h
  cases hc:cs f with
  |some g=>simp only[hc]at h;exact hcs f g hc args s v s1 h
  |none=>
   simp only[hc]at h
   exact f1s (fun args s v s1 h _ r σ w args' hr ha=>t0k (ih m) hm (hls f s.len hc) h (Nat.le_refl _) hr ha) args s v s1 h
theorem x3s {cl:b0p}(hcl:ClOk P cl)(hm:P.follows .mixedOrders=true){ls:b0u}{n:Nat}{c:Code}{B:LBox}(hls:LsOk P B.K ls c)(hK:B.K≤B.blks.length){m:Nat}{env:List Dat}{x:Nat×List Dat}(hg:GoesN (x3b P cl ls n c B) m env x)
  {o:Exit×List PV×List PB} (ho:B.outs[x.1]? =some o): ∀(r:RM) (σ:Snap) (w:World) (t':Array Value) (Q:Exit→Act→World→Prop),(∀lg,Rel r σ ⟨instBs B.blks env,lg⟩ w)→LRel r σ (instL B.t env) t'→
   (∀t1' w' r' σ',(∀lg,Rel r' σ' ⟨instBs o.2.2 x.2,lg⟩ w')→FrameK B.K B.log r r' σ σ' w w'→LRel r' σ' (instL o.2.1 x.2) t1'→B.K≤o.2.2.length→Q o.1 ⟨t1',ds⟩ w')→Code.rounds P c Q m ⟨t',ds⟩ w:=by
 have one: ∀(env:List Dat) (y:Step),(x3b P cl ls n c B env).sel=some y→ ∀(r:RM) (σ:Snap) (w:World) (t':Array Value) (Q:Exit→Act→World→Prop),(∀lg,Rel r σ ⟨instBs B.blks env,lg⟩ w)→LRel r σ (instL B.t env) t'→
   (match y with
    |.go env'=> ∀t1' w' r' σ',(∀lg,Rel r' σ' ⟨instBs B.blks env',lg⟩ w')→FrameK B.K B.log r r' σ σ' w w'→LRel r' σ' (instL B.t env') t1'→Q .normal ⟨t1',ds⟩ w'
    |.stop k d=> ∀o,B.outs[k]? =some o→ ∀t1' w' r' σ',(∀lg,Rel r' σ' ⟨instBs o.2.2 d,lg⟩ w')→FrameK B.K B.log r r' σ σ' w w'→LRel r' σ' (instL o.2.1 d) t1'→B.K≤o.2.2.length→o.1≠.normal→Q o.1 ⟨t1',ds⟩ w')→c.wp P Q ⟨t',ds⟩ w:=by
  intro env y h r σ w t' Q hr ht hQ
  unfold x3b at h
  obtain⟨⟨e,t1,s1⟩,h1,h2⟩:=Tree.bind_some h
  obtain⟨h3,h4⟩:=Tree.guard_some h2
  have lg:=o1x h3
  refine m0n hcl hm n c _ _ _ hls h1 (by simpa [SW.len,instBs]using hK) ds r σ w t' Q (hr []) ht fun t1' w' hth=> ?_
  obtain⟨r1,σ1,a1,a2,a3,a4,a5⟩:=hth
  have a2':=a2.more fun b hb hk=>lg b hb hk
  have ex: ∀e':Exit,e'=e→e'≠.normal→((l0j B.K e' t1 s1 B.outs 0).bind fun y=>Tree.leaf (Step.stop y.1 y.2)).sel=some y→Q e' ⟨t1',ds⟩ w':=by
   intro e' he hne h4
   obtain⟨⟨k,d⟩,h5,h6⟩:=Tree.bind_some h4
   cases h6
   obtain⟨o,q1,q2,q3,q4⟩:=a1g h5
   rw[Nat.sub_zero]at q2
   obtain⟨r2,b1,b2,b3,b4⟩:=k1i q4 a5 a1 a3
   have:=hQ o q2 t1' w' r2 σ1 b1 (a2'.trans (b3.more fun b hb hk=>lg b hb hk) fun _ h _=>h) b2 b4 (by rw[q3];exact hne)
   rw[q3]at this;exact this
  cases e with
  |normal=>
   simp only at h4
   obtain⟨r2,b1,b2,b3,b4,b5,b6⟩:=h1l (K:=B.K) B.nils a1 a3 a5
   split at h4
   ·rename_i env' he
    cases h4
    obtain⟨r3,d1,d2,d3,d4⟩:=k1i he b4 b1 b2
    rw[b5]at d3
    exact hQ t1' w' r3 σ1 d1 ((a2'.trans (b3 B.log) fun _ h _=>h).trans (d3.more fun b hb hk=>lg b hb hk) fun _ h _=>h) d2
   ·simp[Tree.sel]at h4
  |exit i=>exact ex _ rfl (by simp) h4
  |ret=>exact ex _ rfl (by simp) h4
  |goto l=>exact ex _ rfl (by simp) h4
  |panic l=>exact ex _ rfl (by simp) h4
  |outgrown=>exact ex _ rfl (by simp) h4
 induction hg with
 |stop env k d h=>
  intro r σ w t' Q hr ht hQ
  rw[rounds_succ]
  refine one env _ h r σ w t' _ hr ht ?_
  intro o' ho' t1' w' r' σ' k1 k2 k3 k4 k5
  simp only at ho
  rw[ho]at ho';cases ho'
  have:=hQ t1' w' r' σ' k1 k2 k3 k4
  generalize o.1=e at this k5⊢
  cases e<;>first|exact this|exact absurd rfl k5
 |go m env env' x h k ih=>
  intro r σ w t' Q hr ht hQ
  rw[rounds_succ]
  refine one env _ h r σ w t' _ hr ht ?_
  intro t1' w' r' σ' k1 k2 k3
  exact ih ho r' σ' w' t1' Q k1 k3 fun t2' w2 r2 σ2 q1 q2 q3 q4=>hQ t2' w2 r2 σ2 q1 (k2.trans q2 fun _ h _=>h) q3 q4
theorem c4m {cl:b0p}(hcl:ClOk P cl)(hm:P.follows .mixedOrders=true){ls:b0u}{n:Nat}{c:Code}{B:LBox}(hls:LsOk P B.K ls c)(hK:Nat.ble B.K B.blks.length=true)
  (hB: ∀env x,(B.fn env).sel=some x→j1v (x3b P cl ls n c B) env x) {t:List SV} {s:SW} {x:Res} (h:(s1z B t s).sel=some x):a0k P B.K (.loop c) t s x:=by
 intro hKs ds r σ w t' Q hr ht hQ
 have hK:=Nat.le_of_ble_eq_true hK
 unfold s1z at h
 obtain⟨r2,b1,b2,b3,b4,b5,b6⟩:=h1l (K:=B.K) B.nils hr ht hKs
 split at h
 ·rename_i env he
  obtain⟨⟨k,e⟩,h1,h2⟩:=Tree.bind_some h
  split at h2
  ·rename_i o ho
   cases h2
   obtain⟨r3,d1,d2,d3,d4⟩:=k1i he b4 b1 b2
   obtain⟨m,hg⟩:=hB env _ h1
   have fr:=(b3 s.log).trans d3 fun _ h _=>by rw[b5];exact h
   rw[b5]at fr
   refine wp_loop_rounds m (x3s hcl hm hls hK hg ho r3 σ w t' Q d1 d2 fun t1' w' r' σ' k1 k2 k3 k4=>hQ t1' w' ⟨r',σ',k1 _,?_,k3,fun x hx _=>(e0n _ _ _).2 (.inr hx),?_⟩)
   ·exact(fr.more fun b hb _=>(e0n _ _ _).2 (.inr hb)).trans (k2.more fun b hb _=>(e0n _ _ _).2 (.inl hb)) fun _ h _=>h
   ·show B.K≤(instBs o.2.2 e).length
    rw[instBs,List.length_map];exact k4
  ·simp[Tree.sel]at h2
 ·simp[Tree.sel]at h
theorem s2b {tab:List (Nat×LBox)}{K:Nat}{c0:Code}(h: ∀c∈d0w c0,∀i B,g0l c=some i→s2s tab i=some B→B.K=K→ ∀t s x,(s1z B t s).sel=some x→a0k P B.K (.loop c) t s x):LsOk P K (r3k tab K) c0:=by
 intro c hc t s T x hT hx
 unfold r3k at hT
 split at hT
 ·rename_i i hi
  split at hT
  ·rename_i B hB
   split at hT
   ·rename_i hk
    have:=Nat.eq_of_beq_eq_true hk
    cases hT
    subst this
    exact h c hc i B hi hB rfl t s x hx
   ·cases hT
  ·cases hT
 ·cases hT
end
end Go.Proofs.Ytoehlcomhpnjgaa.Vx
