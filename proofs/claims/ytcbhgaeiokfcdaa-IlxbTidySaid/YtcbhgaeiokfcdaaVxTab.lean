import Derived.Test.YtcbhgaeiokfcdaaVxFast
import Derived.Test.YtcbhgaeiokfcdaaVxLift
noncomputable section
namespace Go.Proofs.Ytcbhgaeiokfcdaa.Vx
open Go Go.RowKit
set_option linter.unusedVariables false
def CsOk (P:Program)(cs:FuncId→Option a0f):Prop:= ∀f g,cs f=some g→b1y P f g
def h0p:FuncId→Option a0f:=fun _=>none
theorem a1v (P:Program):CsOk P h0p:=fun f g h=>by cases h
def tryB:List FBox→a0f
 |[],_,_=>.bad 340
 |B::l,args,s=>match fitS B.args B.blks args s with
  |some _=>a0i B args s
  |none=>tryB l args s
def d0e (f:FuncId)(l:List FBox)(cs:FuncId→Option a0f):FuncId→Option a0f:=fun g=>match Nat.beq g f with
 |true=>some (v0k (tryB l))
 |false=>cs g
def u2q:FuncId→Nat→b0e:=fun _ _ _ _ _=>none
def clMd (md:Bool)(P:Program)(cs:FuncId→Option a0f):b0j:=callFF md P cs u2q 40 4000
def boxEvF (md:Bool)(P:Program)(cl:b0j)(ls:b0e)(n:Nat)(f:FuncId)(B:FBox)(env:List Dat):Tree (Nat×List Dat):=
 (evBodyF md P cl ls n f (instL B.args env) ⟨instBs B.blks env,[]⟩).bind fun x=>a1x B.blks.length B.log B.outs x.1 x.2
theorem p2f (md:Bool)(P:Program)(cl:b0j)(ls:b0e)(n:Nat)(f:FuncId)(B:FBox)(env:List Dat):boxEvF md P cl ls n f B env=k3p P cl ls n f B env:=by
 unfold boxEvF k3p;rw[k0d]
def n0y (P:Program)(f:FuncId)(i:Nat):List Code:=(d0a (a0u P f)).filter fun c=>match e0p c with
 |some k=>Nat.beq k i
 |none=>false
def cAt (P:Program)(f:FuncId)(i:Nat):Code:=match n0y P f i with
 |c::_=>c
 |[]=>.skip
def ls0:b0e:=fun _ _ _=>none
def boxC (md:Bool)(P:Program)(cs:FuncId→Option a0f)(f:Nat)(ls:b0e)(B:FBox)(env:List Dat):Tree (Nat×List Dat):=boxEvF md P (clMd md P cs) ls 4000 f B env
def lawC (md:Bool)(P:Program)(cs:FuncId→Option a0f)(f:Nat)(ls:b0e)(args:List SV):Tree (SV×SW):=evBodyF md P (clMd md P cs) ls 4000 f args ⟨[],[]⟩
def lawB (md:Bool)(P:Program)(cs:FuncId→Option a0f)(f:Nat)(ls:b0e)(args:List SV):Tree Bool:=(lawC md P cs f ls args).bind fun x=>match x.1 with
 |.bool b=>.leaf b
 |_=>.bad 400
section
variable {P:Program}
theorem s2y {f:FuncId}: ∀{l:List FBox},(∀B∈l,a0x P f (a0i B))→a0x P f (tryB l)
 |[],_=>fun args s v s1 h=>by simp[tryB,Tree.sel]at h
 |B::l,hl=>fun args s v s1 h=>by
  unfold tryB at h
  split at h
  ·exact hl B List.mem_cons_self args s v s1 h
  ·exact s2y (fun B hB=>hl B (List.mem_cons_of_mem _ hB)) args s v s1 h
theorem f0z {f:FuncId}{l:List FBox}{cs:FuncId→Option a0f}(hcs:CsOk P cs)(hl: ∀B∈l,a0x P f (a0i B)):CsOk P (d0e f l cs):=by
 intro g s h
 unfold d0e at h
 split at h
 ·rename_i e
  cases h
  have:=Nat.eq_of_beq_eq_true e
  subst this
  exact g1p (s2y hl)
 ·exact hcs g s h
theorem q0t {cs:FuncId→Option a0f}(hcs:CsOk P cs)(hm:P.follows .mixedOrders=true)(md:Bool):ClOk P (clMd md P cs):=by
 unfold clMd
 rw[q1r]
 exact g3q hcs hm (fun f K h=>LsOk.none P K _) 40 4000
theorem box_ok {cs:FuncId→Option a0f}(hcs:CsOk P cs)(hm:P.follows .mixedOrders=true){ls:b0e}{n:Nat}{f:FuncId}{B:FBox}{md md':Bool}(hls:LsOk P B.blks.length ls (a0u P f))
  (hB: ∀env x,(B.fn env).sel=some x→(boxEvF md P (clMd md' P cs) ls n f B env).sel=some x):a0x P f (a0i B):=
 w2c (q0t hcs hm md') hm hls fun env x h=>by rw[←p2f md];exact hB env x h
theorem LsOk.tab {f:FuncId}{K:Nat}{tab:List (Nat×LBox)}(h: ∀i B,j3t tab i=some B→B.K=K→ ∀c∈n0y P f i,∀t s x,(x1m B t s).sel=some x→a0r P B.K (.loop c) t s x):LsOk P K (lsTab tab K) (a0u P f):=by
 refine m3a fun c hc i B hi hB hk=>h i B hB hk c ?_
 unfold n0y
 rw[List.mem_filter]
 exact⟨hc,by rw[hi];simp⟩
theorem law_ok {cs:FuncId→Option a0f}(hcs:CsOk P cs)(hm:P.follows .mixedOrders=true){ls:b0e}{n:Nat}{f:FuncId}{md md':Bool}(hls:LsOk P 0 ls (a0u P f)){args:List SV}{s1:SW}
  (h:(evBodyF md P (clMd md' P cs) ls n f args ⟨[],[]⟩).sel=some (.bool true,s1)) {w:World} {args':Array Value} (ha:LRel R0 (b0n w) args args'):
  Calls P f args' w fun e w'=>e=.returned (.bool true)∧Below w.heap.size w w':=
 z2v (q0t hcs hm md') hm hls (by rw[←k0d md];exact h) ha
theorem boxC_ok {cs:FuncId→Option a0f}(hcs:CsOk P cs)(hm:P.follows .mixedOrders=true)(md:Bool){ls:b0e}{f:FuncId}{B:FBox}(hls:LsOk P B.blks.length ls (a0u P f))
  (hB: ∀env x,(B.fn env).sel=some x→(boxC md P cs f ls B env).sel=some x):a0x P f (a0i B):=box_ok hcs hm (md:=md) (md':=md) hls hB
theorem lawB_ok {cs:FuncId→Option a0f}(hcs:CsOk P cs)(hm:P.follows .mixedOrders=true)(md:Bool){ls:b0e}{f:FuncId}(hls:LsOk P 0 ls (a0u P f)){args:List SV}
  (h:(lawB md P cs f ls args).sel=some true) {w:World} {args':Array Value} (ha:LRel R0 (b0n w) args args'):
  Calls P f args' w fun e w'=>e=.returned (.bool true)∧Below w.heap.size w w':=by
 unfold lawB at h
 obtain⟨⟨v,s1⟩,h1,h2⟩:=Tree.bind_some h
 cases v<;>simp[Tree.sel]at h2
 subst h2
 exact law_ok hcs hm (md:=md) (md':=md) hls h1 ha
end
end Go.Proofs.Ytcbhgaeiokfcdaa.Vx
