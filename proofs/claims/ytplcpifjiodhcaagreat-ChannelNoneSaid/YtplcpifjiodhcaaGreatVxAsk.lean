import Derived.Test.YtplcpifjiodhcaaGreatVxLk
import Derived.Test.YtplcpifjiodhcaaGreatVxIm
import Derived.Test.YtplcpifjiodhcaaGreatVxLaw
import Derived.Test.YtplcpifjiodhcaaGreatVxAid
import Derived.KernelRfl
noncomputable section
namespace Go.Proofs.YtplcpifjiodhcaaGreat.Vx
open Go Go.RowKit
set_option linter.unusedVariables false
abbrev OpA:=List Dat→Option (Nat×List Dat)
section
variable {α:Type} {x:Tree α} {y:α} {c:Bool} {o r:Option (Nat×List Dat)}
theorem sA (g:o=r)(k:(x.askK r).sel=some y)(h:x.isAsk=true:=by kernel_rfl)(e:x.askO=o:=by kernel_rfl):x.sel=some y:=by
 subst g;subst e
 cases x with
 |ask r k'=>exact k
 |_=>cases h
theorem sP (l:List Nat)(a:(x.walk l).sel=some y)(h:x.okPath l=true:=by kernel_rfl):x.sel=some y:=by
 rw[←Tree.walk_sel l x h];exact a
theorem sL (h:x.sel=some y:=by kernel_rfl):x.sel=some y:=h
end
def mkFA (args:List PV)(blks:List PB)(log:List Nat)(outs:List (PV×List PB))(op:OpA):FBox:=
 ⟨args,blks,log,outs,fun env=>.ask (op env) fun r=>outT (outs.map fun o=>m3j [o.1] o.2) 0 r⟩
theorem l3y (args:List PV)(blks:List PB)(log:List Nat)(outs:List (PV×List PB))(op:OpA)(a:List SV)(s:SW):(a0j (mkFA args blks log outs op) a s).sel=(a0j (mkF args blks log outs op) a s).sel:=by
 unfold a0j
 show(match fitS args blks a s with|some env=>_|none=>_:Tree _).sel=(match fitS args blks a s with|some env=>_|none=>_:Tree _).sel
 cases fitS args blks a s<;>rfl
theorem k3c {P:Program}{f:FuncId}{args:List PV}{blks:List PB}{log:List Nat}{outs:List (PV×List PB)}{op:OpA}(h:a0v P f (a0j (mkF args blks log outs op))):a0v P f (a0j (mkFA args blks log outs op)):=by
 intro a s v s1 e
 rw[l3y]at e
 exact h a s v s1 e
structure BSh where
 args:List PV
 blks:List PB:=[]
 log:List Nat:=[]
 outs:List (PV×List PB)
def BSh.k (S:BSh)(op:OpA):FBox:=mkFA S.args S.blks S.log S.outs op
theorem n3e:Tryz.prog.follows .mixedOrders=true:=by kernel_rfl
section
variable {cs:FuncId→Option a0q} {f:Nat} {ls:b0u} {S:BSh}
end
def evW (cs:FuncId→Option a0q)(f:Nat)(ls:b0u)(args:List PV)(env:List Dat):Tree Bool:=Lk.lawB false LK cs f ls (instL args env)
theorem evW_law {cs:FuncId→Option a0q}{f:Nat}{ls:b0u}{args:List PV}(hcs:CsOk Tryz.prog cs)(hls:LsOk Tryz.prog 0 ls (a0r Tryz.prog f))(env:List Dat)(h:(evW cs f ls args env).sel=some true){w:World}{aa:Array Value}(ha:LRel R0 (b0k w) (instL args env) aa):
  Calls Tryz.prog f aa w fun e w'=>e=.returned (.bool true)∧Below w.heap.size w w':=
 lawB_ok hcs n3e false (ls:=ls) hls (by rw[←lawB_lk];exact h) ha
def BSh.of (B:FBox):BSh:=⟨B.args,B.blks,B.log,B.outs⟩
theorem csA {cs:FuncId→Option a0q}{f:Nat}{S:BSh}{op:OpA}(hcs:CsOk Tryz.prog cs)(h:a0v Tryz.prog f (a0j (mkF S.args S.blks S.log S.outs op))):CsOk Tryz.prog (a0s f (S.k op) cs):=a0g hcs (k3c h)
theorem csB {cs:FuncId→Option a0q}{f:Nat}{S:BSh}{op:OpA}(hcs:CsOk Tryz.prog cs)(h:a0v Tryz.prog f (a0j (mkF S.args S.blks S.log S.outs op))):CsOk Tryz.prog (e1c f [S.k op] cs):=h0a hcs fun B hB=>by
 cases List.mem_singleton.1 hB
 exact k3c h
end Go.Proofs.YtplcpifjiodhcaaGreat.Vx
