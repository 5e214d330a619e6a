import Derived.Test.YtnmgjcpjkdmngaaVxFast
import Derived.Test.YtnmgjcpjkdmngaaVxLift
noncomputable section
namespace Go.Proofs.Ytnmgjcpjkdmngaa.Vx
open Go Go.RowKit
set_option linter.unusedVariables false
def CsOk (P:Program)(cs:FuncId→Option a0i):Prop:= ∀f g,cs f=some g→w0k P f g
def n0y:FuncId→Option a0i:=fun _=>none
theorem l0r (P:Program):CsOk P n0y:=fun f g h=>by cases h
def tryB:List FBox→a0i
 |[],_,_=>.bad 340
 |B::l,args,s=>match fitS B.args B.blks args s with
  |some _=>b0g B args s
  |none=>tryB l args s
def f0e (f:FuncId)(l:List FBox)(cs:FuncId→Option a0i):FuncId→Option a0i:=fun g=>match Nat.beq g f with
 |true=>some (j0t (tryB l))
 |false=>cs g
def b1k:FuncId→Nat→a0n:=fun _ _ _ _ _=>none
def clMd (md:Bool)(P:Program)(cs:FuncId→Option a0i):a0q:=callFF md P cs b1k 40 4000
def boxEvF (md:Bool)(P:Program)(cl:a0q)(ls:a0n)(n:Nat)(f:FuncId)(B:FBox)(env:List Dat):Tree (Nat×List Dat):=
 (evBodyF md P cl ls n f (instL B.args env) ⟨instBs B.blks env,[]⟩).bind fun x=>o0g B.blks.length B.log B.outs x.1 x.2
theorem f1d (md:Bool)(P:Program)(cl:a0q)(ls:a0n)(n:Nat)(f:FuncId)(B:FBox)(env:List Dat):boxEvF md P cl ls n f B env=g1g P cl ls n f B env:=by
 unfold boxEvF g1g;rw[g0w]
def i0o (P:Program)(f:FuncId)(i:Nat):List Code:=(b0p (b0i P f)).filter fun c=>match c0r c with
 |some k=>Nat.beq k i
 |none=>false
def cAt (P:Program)(f:FuncId)(i:Nat):Code:=match i0o P f i with
 |c::_=>c
 |[]=>.skip
def ls0:a0n:=fun _ _ _=>none
def boxC (md:Bool)(P:Program)(cs:FuncId→Option a0i)(f:Nat)(ls:a0n)(B:FBox)(env:List Dat):Tree (Nat×List Dat):=boxEvF md P (clMd md P cs) ls 4000 f B env
def lawC (md:Bool)(P:Program)(cs:FuncId→Option a0i)(f:Nat)(ls:a0n)(args:List SV):Tree (SV×SW):=evBodyF md P (clMd md P cs) ls 4000 f args ⟨[],[]⟩
def lawB (md:Bool)(P:Program)(cs:FuncId→Option a0i)(f:Nat)(ls:a0n)(args:List SV):Tree Bool:=(lawC md P cs f ls args).bind fun x=>match x.1 with
 |.bool b=>.leaf b
 |_=>.bad 400
section
variable {P:Program}
theorem d1r {f:FuncId}: ∀{l:List FBox},(∀B∈l,e0f P f (b0g B))→e0f P f (tryB l)
 |[],_=>fun args s v s1 h=>by simp[tryB,Tree.sel]at h
 |B::l,hl=>fun args s v s1 h=>by
  unfold tryB at h
  split at h
  ·exact hl B List.mem_cons_self args s v s1 h
  ·exact d1r (fun B hB=>hl B (List.mem_cons_of_mem _ hB)) args s v s1 h
theorem k0l {f:FuncId}{l:List FBox}{cs:FuncId→Option a0i}(hcs:CsOk P cs)(hl: ∀B∈l,e0f P f (b0g B)):CsOk P (f0e f l cs):=by
 intro g s h
 unfold f0e at h
 split at h
 ·rename_i e
  cases h
  have:=Nat.eq_of_beq_eq_true e
  subst this
  exact o0f (d1r hl)
 ·exact hcs g s h
theorem j0d {cs:FuncId→Option a0i}(hcs:CsOk P cs)(hm:P.follows .mixedOrders=true)(md:Bool):ClOk P (clMd md P cs):=by
 unfold clMd
 rw[r0l]
 exact h1q hcs hm (fun f K h=>LsOk.none P K _) 40 4000
theorem box_ok {cs:FuncId→Option a0i}(hcs:CsOk P cs)(hm:P.follows .mixedOrders=true){ls:a0n}{n:Nat}{f:FuncId}{B:FBox}{md md':Bool}(hls:LsOk P B.blks.length ls (b0i P f))
  (hB: ∀env x,(B.fn env).sel=some x→(boxEvF md P (clMd md' P cs) ls n f B env).sel=some x):e0f P f (b0g B):=
 a1w (j0d hcs hm md') hm hls fun env x h=>by rw[←f1d md];exact hB env x h
theorem LsOk.tab {f:FuncId}{K:Nat}{tab:List (Nat×LBox)}(h: ∀i B,i1j tab i=some B→B.K=K→ ∀c∈i0o P f i,∀t s x,(v0b B t s).sel=some x→d0k P B.K (.loop c) t s x):LsOk P K (lsTab tab K) (b0i P f):=by
 refine g1k fun c hc i B hi hB hk=>h i B hB hk c ?_
 unfold i0o
 rw[List.mem_filter]
 exact⟨hc,by rw[hi];simp⟩
theorem law_ok {cs:FuncId→Option a0i}(hcs:CsOk P cs)(hm:P.follows .mixedOrders=true){ls:a0n}{n:Nat}{f:FuncId}{md md':Bool}(hls:LsOk P 0 ls (b0i P f)){args:List SV}{s1:SW}
  (h:(evBodyF md P (clMd md' P cs) ls n f args ⟨[],[]⟩).sel=some (.bool true,s1)) {w:World} {args':Array Value} (ha:LRel R0 (a0r w) args args'):
  Calls P f args' w fun e w'=>e=.returned (.bool true)∧Below w.heap.size w w':=
 e1v (j0d hcs hm md') hm hls (by rw[←g0w md];exact h) ha
theorem boxC_ok {cs:FuncId→Option a0i}(hcs:CsOk P cs)(hm:P.follows .mixedOrders=true)(md:Bool){ls:a0n}{f:FuncId}{B:FBox}(hls:LsOk P B.blks.length ls (b0i P f))
  (hB: ∀env x,(B.fn env).sel=some x→(boxC md P cs f ls B env).sel=some x):e0f P f (b0g B):=box_ok hcs hm (md:=md) (md':=md) hls hB
theorem lawB_ok {cs:FuncId→Option a0i}(hcs:CsOk P cs)(hm:P.follows .mixedOrders=true)(md:Bool){ls:a0n}{f:FuncId}(hls:LsOk P 0 ls (b0i P f)){args:List SV}
  (h:(lawB md P cs f ls args).sel=some true) {w:World} {args':Array Value} (ha:LRel R0 (a0r w) args args'):
  Calls P f args' w fun e w'=>e=.returned (.bool true)∧Below w.heap.size w w':=by
 unfold lawB at h
 obtain⟨⟨v,s1⟩,h1,h2⟩:=Tree.bind_some h
 cases v<;>simp[Tree.sel]at h2
 subst h2
 exact law_ok hcs hm (md:=md) (md':=md) hls h1 ha
end
end Go.Proofs.Ytnmgjcpjkdmngaa.Vx
