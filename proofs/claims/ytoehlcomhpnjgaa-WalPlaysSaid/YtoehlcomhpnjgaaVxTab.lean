import Derived.Test.YtoehlcomhpnjgaaVxFast
import Derived.Test.YtoehlcomhpnjgaaVxLift
noncomputable section
namespace Go.Proofs.Ytoehlcomhpnjgaa.Vx
open Go Go.RowKit
set_option linter.unusedVariables false
def CsOk (P:Program)(cs:FuncId→Option a0q):Prop:= ∀f g,cs f=some g→c1x P f g
def h0b:FuncId→Option a0q:=fun _=>none
theorem d1h (P:Program):CsOk P h0b:=fun f g h=>by cases h
def tryB:List FBox→a0q
 |[],_,_=>.bad 340
 |B::l,args,s=>match fitS B.args B.blks args s with
  |some _=>a0j B args s
  |none=>tryB l args s
def e1c (f:FuncId)(l:List FBox)(cs:FuncId→Option a0q):FuncId→Option a0q:=fun g=>match Nat.beq g f with
 |true=>some (u0v (tryB l))
 |false=>cs g
def m2v:FuncId→Nat→b0u:=fun _ _ _ _ _=>none
def clMd (md:Bool)(P:Program)(cs:FuncId→Option a0q):b0p:=callFF md P cs m2v 40 4000
def boxEvF (md:Bool)(P:Program)(cl:b0p)(ls:b0u)(n:Nat)(f:FuncId)(B:FBox)(env:List Dat):Tree (Nat×List Dat):=
 (evBodyF md P cl ls n f (instL B.args env) ⟨instBs B.blks env,[]⟩).bind fun x=>o2a B.blks.length B.log B.outs x.1 x.2
theorem l2r (md:Bool)(P:Program)(cl:b0p)(ls:b0u)(n:Nat)(f:FuncId)(B:FBox)(env:List Dat):boxEvF md P cl ls n f B env=v2b P cl ls n f B env:=by
 unfold boxEvF v2b;rw[v0b]
def t3h (md:Bool)(P:Program)(cl:b0p)(ls:b0u)(n:Nat)(c:Code)(B:LBox)(env:List Dat):Tree Step:=
 fVs md (instL B.t env) fun t=>fSW md ⟨instBs B.blks env,[]⟩ fun s=>(evCodeF md P cl ls n c t s).bind fun x=>.guard (p2r B.K B.log x.2.2.log) 333 (match x.1 with
  |.normal=>match n1n B.K B.t B.blks (nilT B.nils x.2.1 x.2.2).1 (nilT B.nils x.2.1 x.2.2).2 with
   |some env=>.leaf (.go env)
   |none=>.bad 334
  |e=>(l0j B.K e x.2.1 x.2.2 B.outs 0).bind fun y=>.leaf (.stop y.1 y.2))
theorem i4k (md:Bool)(P:Program)(cl:b0p)(ls:b0u)(n:Nat)(c:Code)(B:LBox)(env:List Dat):t3h md P cl ls n c B env=x3b P cl ls n c B env:=by
 unfold t3h x3b;rw[j2y,o1m,w0a];rfl
def p0c (P:Program)(f:FuncId)(i:Nat):List Code:=(d0w (a0r P f)).filter fun c=>match g0l c with
 |some k=>Nat.beq k i
 |none=>false
def cAt (P:Program)(f:FuncId)(i:Nat):Code:=match p0c P f i with
 |c::_=>c
 |[]=>.skip
def ls0:b0u:=fun _ _ _=>none
def p4i (md:Bool)(P:Program)(cs:FuncId→Option a0q)(f i:Nat)(ls:b0u)(B:LBox)(env:List Dat):Tree Step:=t3h md P (clMd md P cs) ls 4000 (cAt P f i) B env
def boxC (md:Bool)(P:Program)(cs:FuncId→Option a0q)(f:Nat)(ls:b0u)(B:FBox)(env:List Dat):Tree (Nat×List Dat):=boxEvF md P (clMd md P cs) ls 4000 f B env
def lawC (md:Bool)(P:Program)(cs:FuncId→Option a0q)(f:Nat)(ls:b0u)(args:List SV):Tree (SV×SW):=evBodyF md P (clMd md P cs) ls 4000 f args ⟨[],[]⟩
def lawB (md:Bool)(P:Program)(cs:FuncId→Option a0q)(f:Nat)(ls:b0u)(args:List SV):Tree Bool:=(lawC md P cs f ls args).bind fun x=>match x.1 with
 |.bool b=>.leaf b
 |_=>.bad 400
section
variable {P:Program}
theorem p2g {f:FuncId}: ∀{l:List FBox},(∀B∈l,a0v P f (a0j B))→a0v P f (tryB l)
 |[],_=>fun args s v s1 h=>by simp[tryB,Tree.sel]at h
 |B::l,hl=>fun args s v s1 h=>by
  unfold tryB at h
  split at h
  ·exact hl B List.mem_cons_self args s v s1 h
  ·exact p2g (fun B hB=>hl B (List.mem_cons_of_mem _ hB)) args s v s1 h
theorem h0a {f:FuncId}{l:List FBox}{cs:FuncId→Option a0q}(hcs:CsOk P cs)(hl: ∀B∈l,a0v P f (a0j B)):CsOk P (e1c f l cs):=by
 intro g s h
 unfold e1c at h
 split at h
 ·rename_i e
  cases h
  have:=Nat.eq_of_beq_eq_true e
  subst this
  exact f1s (p2g hl)
 ·exact hcs g s h
theorem c1t {cs:FuncId→Option a0q}(hcs:CsOk P cs)(hm:P.follows .mixedOrders=true)(md:Bool):ClOk P (clMd md P cs):=by
 unfold clMd
 rw[p1m]
 exact t2a hcs hm (fun f K h=>LsOk.none P K _) 40 4000
theorem box_ok {cs:FuncId→Option a0q}(hcs:CsOk P cs)(hm:P.follows .mixedOrders=true){ls:b0u}{n:Nat}{f:FuncId}{B:FBox}{md md':Bool}(hls:LsOk P B.blks.length ls (a0r P f))
  (hB: ∀env x,(B.fn env).sel=some x→(boxEvF md P (clMd md' P cs) ls n f B env).sel=some x):a0v P f (a0j B):=
 l2x (c1t hcs hm md') hm hls fun env x h=>by rw[←l2r md];exact hB env x h
theorem LsOk.tab {f:FuncId}{K:Nat}{tab:List (Nat×LBox)}(h: ∀i B,s2s tab i=some B→B.K=K→ ∀c∈p0c P f i,∀t s x,(s1z B t s).sel=some x→a0k P B.K (.loop c) t s x):LsOk P K (r3k tab K) (a0r P f):=by
 refine s2b fun c hc i B hi hB hk=>h i B hB hk c ?_
 unfold p0c
 rw[List.mem_filter]
 exact⟨hc,by rw[hi];simp⟩
theorem LsOk.tab1 {f:FuncId}{K:Nat}{i:Nat}{B:LBox}{c:Code}(hc:p0c P f i=[c])(h: ∀t s x,(s1z B t s).sel=some x→a0k P B.K (.loop c) t s x):LsOk P K (r3k [(i,B)] K) (a0r P f):=by
 refine LsOk.tab fun j B' hB hk c' hc'=> ?_
 simp only[s2s]at hB
 split at hB
 ·rename_i e
  have:=Nat.eq_of_beq_eq_true e
  subst this
  cases hB
  rw[hc]at hc'
  cases List.mem_singleton.1 hc'
  exact h
 ·cases hB
theorem loop_ok {cs:FuncId→Option a0q}(hcs:CsOk P cs)(hm:P.follows .mixedOrders=true){ls:b0u}{n:Nat}{c:Code}{B:LBox}{md md':Bool}(hls:LsOk P B.K ls c)(hK:Nat.ble B.K B.blks.length=true)
  (hB: ∀env x,(B.fn env).sel=some x→j1v (t3h md P (clMd md' P cs) ls n c B) env x): ∀t s x,(s1z B t s).sel=some x→a0k P B.K (.loop c) t s x:=by
 intro t s x h
 refine c4m (c1t hcs hm md') hm hls hK (n:=n) (fun env x h=> ?_) h
 have:=hB env x h
 rwa [show t3h md P (clMd md' P cs) ls n c B=x3b P (clMd md' P cs) ls n c B from funext fun e=>i4k md P _ ls n c B e]at this
theorem law_ok {cs:FuncId→Option a0q}(hcs:CsOk P cs)(hm:P.follows .mixedOrders=true){ls:b0u}{n:Nat}{f:FuncId}{md md':Bool}(hls:LsOk P 0 ls (a0r P f)){args:List SV}{s1:SW}
  (h:(evBodyF md P (clMd md' P cs) ls n f args ⟨[],[]⟩).sel=some (.bool true,s1)) {w:World} {args':Array Value} (ha:LRel R0 (b0k w) args args'):
  Calls P f args' w fun e w'=>e=.returned (.bool true)∧Below w.heap.size w w':=
 m2u (c1t hcs hm md') hm hls (by rw[←v0b md];exact h) ha
theorem boxC_ok {cs:FuncId→Option a0q}(hcs:CsOk P cs)(hm:P.follows .mixedOrders=true)(md:Bool){ls:b0u}{f:FuncId}{B:FBox}(hls:LsOk P B.blks.length ls (a0r P f))
  (hB: ∀env x,(B.fn env).sel=some x→(boxC md P cs f ls B env).sel=some x):a0v P f (a0j B):=box_ok hcs hm (md:=md) (md':=md) hls hB
theorem u4x {cs:FuncId→Option a0q}(hcs:CsOk P cs)(hm:P.follows .mixedOrders=true)(md:Bool){ls:b0u}{f i:Nat}{B:LBox}(hls:LsOk P B.K ls (cAt P f i))(hK:Nat.ble B.K B.blks.length=true)
  (hB: ∀env x,(B.fn env).sel=some x→j1v (p4i md P cs f i ls B) env x): ∀t s x,(s1z B t s).sel=some x→a0k P B.K (.loop (cAt P f i)) t s x:=loop_ok hcs hm (md:=md) (md':=md) hls hK hB
theorem s4w {cs:FuncId→Option a0q}(hcs:CsOk P cs)(hm:P.follows .mixedOrders=true)(md:Bool){f i:Nat}{B:LBox}{K:Nat}(hl:(p0c P f i).length=1)(hK:Nat.ble B.K B.blks.length=true)
  (hB: ∀env x,(B.fn env).sel=some x→j1v (p4i md P cs f i ls0 B) env x):LsOk P K (r3k [(i,B)] K) (a0r P f):=by
 refine LsOk.tab1 (c:=cAt P f i) ?_ (u4x hcs hm md (LsOk.none P _ _) hK hB)
 unfold cAt
 match h:p0c P f i,hl with
 |[c],_=>rfl
theorem lawB_ok {cs:FuncId→Option a0q}(hcs:CsOk P cs)(hm:P.follows .mixedOrders=true)(md:Bool){ls:b0u}{f:FuncId}(hls:LsOk P 0 ls (a0r P f)){args:List SV}
  (h:(lawB md P cs f ls args).sel=some true) {w:World} {args':Array Value} (ha:LRel R0 (b0k w) args args'):
  Calls P f args' w fun e w'=>e=.returned (.bool true)∧Below w.heap.size w w':=by
 unfold lawB at h
 obtain⟨⟨v,s1⟩,h1,h2⟩:=Tree.bind_some h
 cases v<;>simp[Tree.sel]at h2
 subst h2
 exact law_ok hcs hm (md:=md) (md':=md) hls h1 ha
end
end Go.Proofs.Ytoehlcomhpnjgaa.Vx
