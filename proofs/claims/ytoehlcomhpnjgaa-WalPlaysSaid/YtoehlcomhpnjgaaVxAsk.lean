import Derived.Test.YtoehlcomhpnjgaaVxLk
import Derived.Test.YtoehlcomhpnjgaaVxIm
import Derived.Test.YtoehlcomhpnjgaaVxLaw
import Derived.Test.YtoehlcomhpnjgaaVxAid
import Derived.KernelRfl
noncomputable section
namespace Go.Proofs.Ytoehlcomhpnjgaa.Vx
open Go Go.RowKit
set_option linter.unusedVariables false
abbrev apL {α:Type}(l r:List α):List α:=List.append l r
abbrev OpA:=List Dat→Option (Nat×List Dat)
section
variable {α:Type} {x:Tree α} {y:α} {c:Bool} {o r:Option (Nat×List Dat)}
theorem sA (g:o=r)(k:(x.askK r).sel=some y)(h:x.isAsk=true:=by kernel_rfl)(e:x.askO=o:=by kernel_rfl):x.sel=some y:=by
 subst g;subst e
 cases x with
 |ask r k'=>exact k
 |_=>cases h
theorem sT (k:c=true)(a:x.th.sel=some y)(h:x.isNode=true:=by kernel_rfl)(e:x.cd=c:=by kernel_rfl):x.sel=some y:=by
 rw[Tree.node_eq h,e];subst k;exact a
theorem sF (k:c=false)(a:x.el.sel=some y)(h:x.isNode=true:=by kernel_rfl)(e:x.cd=c:=by kernel_rfl):x.sel=some y:=by
 rw[Tree.node_eq h,e];subst k;exact a
theorem sP (l:List Nat)(a:(x.walk l).sel=some y)(h:x.okPath l=true:=by kernel_rfl):x.sel=some y:=by
 rw[←Tree.walk_sel l x h];exact a
theorem sTs (a:x.th.sel=some y)(k:c=true:=by(simp[*];done))(h:x.isNode=true:=by kernel_rfl)(e:x.cd=c:=by kernel_rfl):x.sel=some y:=sT k a h e
theorem sFs (a:x.el.sel=some y)(k:c=false:=by(simp[*];done))(h:x.isNode=true:=by kernel_rfl)(e:x.cd=c:=by kernel_rfl):x.sel=some y:=sF k a h e
theorem sTo (a:x.th.sel=some y)(k:c=true:=by(simp only[w64d,decide_eq_true_eq,decide_eq_false_iff_not,beq_iff_eq,beq_eq_false_iff_ne,bne_iff_ne,ne_eq,inR,Bool.and_eq_true,Bool.and_eq_false_iff,Bool.not_eq_true',Bool.not_eq_false',Bool.not_eq_eq_eq_not,Bool.not_true,Bool.not_false]at*;omega))(h:x.isNode=true:=by kernel_rfl)(e:x.cd=c:=by kernel_rfl):x.sel=some y:=sT k a h e
theorem sFo (a:x.el.sel=some y)(k:c=false:=by(simp only[w64d,decide_eq_true_eq,decide_eq_false_iff_not,beq_iff_eq,beq_eq_false_iff_ne,bne_iff_ne,ne_eq,inR,Bool.and_eq_true,Bool.and_eq_false_iff,Bool.not_eq_true',Bool.not_eq_false',Bool.not_eq_eq_eq_not,Bool.not_true,Bool.not_false]at*;omega))(h:x.isNode=true:=by kernel_rfl)(e:x.cd=c:=by kernel_rfl):x.sel=some y:=sF k a h e
theorem sL (h:x.sel=some y:=by kernel_rfl):x.sel=some y:=h
end
theorem bnt {a b:Int}(h: ¬a=b):(a !=b)=true:=by simpa using h
theorem bnf {a b:Int}(h:a=b):(a !=b)=false:=by subst h;simp
def mkFA (args:List PV)(blks:List PB)(log:List Nat)(outs:List (PV×List PB))(op:OpA):FBox:=
 ⟨args,blks,log,outs,fun env=>.ask (op env) fun r=>outT (outs.map fun o=>t3k [o.1] o.2) 0 r⟩
theorem e4w (args:List PV)(blks:List PB)(log:List Nat)(outs:List (PV×List PB))(op:OpA)(a:List SV)(s:SW):(a0j (mkFA args blks log outs op) a s).sel=(a0j (mkF args blks log outs op) a s).sel:=by
 unfold a0j
 show(match fitS args blks a s with|some env=>_|none=>_:Tree _).sel=(match fitS args blks a s with|some env=>_|none=>_:Tree _).sel
 cases fitS args blks a s<;>rfl
theorem j3k {P:Program}{f:FuncId}{args:List PV}{blks:List PB}{log:List Nat}{outs:List (PV×List PB)}{op:OpA}(h:a0v P f (a0j (mkF args blks log outs op))):a0v P f (a0j (mkFA args blks log outs op)):=by
 intro a s v s1 e
 rw[e4w]at e
 exact h a s v s1 e
structure BSh where
 args:List PV
 blks:List PB:=[]
 log:List Nat:=[]
 outs:List (PV×List PB)
def BSh.z (S:BSh):FBox:=⟨S.args,S.blks,S.log,S.outs,fun _=>.bad 0⟩
def BSh.k (S:BSh)(op:OpA):FBox:=mkFA S.args S.blks S.log S.outs op
def evF (cs:FuncId→Option a0q)(f:Nat)(ls:b0u)(S:BSh)(env:List Dat):Tree (Nat×List Dat):=Lk.boxC false LK cs f ls S.z env
def evFV (cv:List (Option Nat×Nat×CK))(cs:FuncId→Option a0q)(f:Nat)(ls:b0u)(S:BSh)(env:List Dat):Tree (Nat×List Dat):=Lk.boxCV cv false LK cs f ls S.z env
structure IsF (ev:List Dat→Tree (Nat×List Dat))(f:Nat)(S:BSh)(op:OpA):Prop where
 eq: ∀env,op env=(ev env).sel
 ok:a0v Try.prog f (a0j (S.k op))
theorem y3b:Try.prog.follows .mixedOrders=true:=by kernel_rfl
section
variable {cs:FuncId→Option a0q} {f:Nat} {ls:b0u} {S:BSh}
theorem bxF (hcs:CsOk Try.prog cs)(hls:LsOk Try.prog S.blks.length ls (a0r Try.prog f)): ∃op,IsF (evF cs f ls S) f S op:=
 ⟨fun env=>(evF cs f ls S env).sel,fun _=>rfl,j3k (a0p hcs y3b false hls fun env x h=>by
  have h:(Lk.boxC false LK cs f ls S.z env).sel=some x:=h
  rw[boxC_lk]at h;exact h)⟩
theorem bxFV {cv:List (Option Nat×Nat×CK)}(hcs:CsOk Try.prog cs)(hls:LsOk Try.prog S.blks.length ls (a0r Try.prog f)): ∃op,IsF (evFV cv cs f ls S) f S op:=
 ⟨fun env=>(evFV cv cs f ls S env).sel,fun _=>rfl,j3k (x3p (cv:=cv) hcs y3b false hls fun env x h=>by
  have h:(Lk.boxCV cv false LK cs f ls S.z env).sel=some x:=h
  rw[boxCV_lk]at h;exact h)⟩
end
def opF {ev:List Dat→Tree (Nat×List Dat)}{f:Nat}{S:BSh}(h: ∃op,IsF ev f S op):OpA:=Classical.choose h
theorem h3x {ev:List Dat→Tree (Nat×List Dat)}{f:Nat}{S:BSh}(h: ∃op,IsF ev f S op):a0v Try.prog f (a0j (S.k (opF h))):=(Classical.choose_spec h).ok
theorem t0c {ev:List Dat→Tree (Nat×List Dat)}{f:Nat}{S:BSh}(h: ∃op,IsF ev f S op){env:List Dat}{y:Nat×List Dat}(k:(ev env).sel=some y):opF h env=some y:=by
 rw[←k];exact(Classical.choose_spec h).eq env
structure LSh where
 K:Nat:=0
 log:List Nat:=[]
 ins:List (List PV×List PB)
 nils:List (Nat×Ty):=[]
 outs:List (Exit×List PV×List PB)
 cv:List (Nat×List Nat×Nat×CK):=[]
def mkMA (R:LSh)(op:OpA):MBox:=
 ⟨R.K,R.log,R.ins,R.nils,R.outs,fun env=>.ask (op env) fun r=>outT (R.outs.map fun o=>t3k o.2.1 o.2.2) 0 r,R.cv⟩
def LSh.z (R:LSh):MBox:=⟨R.K,R.log,R.ins,R.nils,R.outs,fun _=>.bad 0,R.cv⟩
theorem w3c (R:LSh)(op:OpA)(t:List SV)(s:SW):(a0h (mkMA R op) t s).sel=(a0h (mkM (cv:=R.cv) R.K R.log R.ins R.nils R.outs op) t s).sel:=by
 unfold a0h
 show(match w0v R.K (nilT R.nils t (cvT R.cv t s)).1 (nilT R.nils t (cvT R.cv t s)).2 R.ins 0 with|some env=>_|none=>_:Tree _).sel=(match w0v R.K (nilT R.nils t (cvT R.cv t s)).1 (nilT R.nils t (cvT R.cv t s)).2 R.ins 0 with|some env=>_|none=>_:Tree _).sel
 cases w0v R.K (nilT R.nils t (cvT R.cv t s)).1 (nilT R.nils t (cvT R.cv t s)).2 R.ins 0<;>rfl
def evL (cs:FuncId→Option a0q)(f i:Nat)(ls:b0u)(R:LSh)(env:List Dat):Tree Step:=Lk.stepMC false LK cs f i ls R.z env
abbrev LRun (B:MBox)(c:Code):Prop:= ∀t s x,(a0h B t s).sel=some x→a0k Try.prog B.K (.loop c) t s x
structure IsL (st:List Dat→Tree Step)(f i:Nat)(R:LSh)(op:OpA):Prop where
 eq: ∀env,op env=a0b st FU env
 ok:LRun (mkMA R op) (cAt Try.prog f i)
theorem bxL {cs:FuncId→Option a0q}{f i:Nat}{ls:b0u}{R:LSh}(hcs:CsOk Try.prog cs)(hls:LsOk Try.prog R.K ls (cAt Try.prog f i))(hK:(R.ins.all fun o=>Nat.ble R.K o.2.length)=true:=by kernel_rfl): ∃op,IsL (evL cs f i ls R) f i R op:=
 ⟨a0b (evL cs f i ls R) FU,fun _=>rfl,fun t s x h=>a0o (cv:=R.cv) (st:=evL cs f i ls R) (m:=FU) hcs y3b false hls hK (fun env y h=>by
  have h:(Lk.stepMC false LK cs f i ls R.z env).sel=some y:=h
  rw[stepMC_lk]at h;exact h) t s x (by rw[w3c]at h;exact h)⟩
def opL {st:List Dat→Tree Step}{f i:Nat}{R:LSh}(h: ∃op,IsL st f i R op):OpA:=Classical.choose h
def boxL {st:List Dat→Tree Step}{f i:Nat}{R:LSh}(h: ∃op,IsL st f i R op):MBox:=mkMA R (opL h)
theorem h3y {st:List Dat→Tree Step}{f i:Nat}{R:LSh}(h: ∃op,IsL st f i R op)(env:List Dat):opL h env=a0b st FU env:=(Classical.choose_spec h).eq env
theorem h3n {st:List Dat→Tree Step}{f i:Nat}{R:LSh}(h: ∃op,IsL st f i R op):LRun (boxL h) (cAt Try.prog f i):=(Classical.choose_spec h).ok
theorem lsC {K:Nat}{c0:Code}{tab:List (Nat×MBox)}{i:Nat}{B:MBox}{c1:Code}(hB:LRun B c1)(h1:v0m c0 i=[c1])(h: ∀i B,b0d tab i=some B→B.K=K→ ∀c∈d0w c0,g0l c=some i→LRun B c):
  ∀j B',b0d ((i,B)::tab) j=some B'→B'.K=K→ ∀c∈d0w c0,g0l c=some j→LRun B' c:=by
 intro j B' hj hk c hc hi
 simp only[b0d]at hj
 split at hj
 ·rename_i e
  have:=Nat.eq_of_beq_eq_true e
  subst this
  cases hj
  have e2:=a0d hc hi
  rw[h1]at e2
  cases List.mem_singleton.1 e2
  exact hB
 ·exact h j B' hj hk c hc hi
theorem lsZ {K:Nat}{c0:Code}: ∀i B,b0d [] i=some B→B.K=K→ ∀c∈d0w c0,g0l c=some i→LRun B c:=fun i B hB=>by cases hB
theorem lsE {K:Nat}{c0:Code}{tab:List (Nat×MBox)}(h: ∀i B,b0d tab i=some B→B.K=K→ ∀c∈d0w c0,g0l c=some i→LRun B c):LsOk Try.prog K (lsM tab K) c0:=LsOk.many fun i B hB hk c hc hi t s x=>h i B hB hk c hc hi t s x
theorem atF {f i:Nat}(h:(p0c Try.prog f i).length=1:=by kernel_rfl):v0m (a0r Try.prog f) i=[cAt Try.prog f i]:=a0e h
def evW (cs:FuncId→Option a0q)(f:Nat)(ls:b0u)(args:List PV)(env:List Dat):Tree Bool:=Lk.lawB false LK cs f ls (instL args env)
theorem evW_law {cs:FuncId→Option a0q}{f:Nat}{ls:b0u}{args:List PV}(hcs:CsOk Try.prog cs)(hls:LsOk Try.prog 0 ls (a0r Try.prog f))(env:List Dat)(h:(evW cs f ls args env).sel=some true){w:World}{aa:Array Value}(ha:LRel R0 (b0k w) (instL args env) aa):
  Calls Try.prog f aa w fun e w'=>e=.returned (.bool true)∧Below w.heap.size w w':=
 lawB_ok hcs y3b false (ls:=ls) hls (by rw[←lawB_lk];exact h) ha
def BSh.of (B:FBox):BSh:=⟨B.args,B.blks,B.log,B.outs⟩
theorem csA {cs:FuncId→Option a0q}{f:Nat}{S:BSh}{op:OpA}(hcs:CsOk Try.prog cs)(h:a0v Try.prog f (a0j (mkF S.args S.blks S.log S.outs op))):CsOk Try.prog (a0s f (S.k op) cs):=a0g hcs (j3k h)
theorem csB {cs:FuncId→Option a0q}{f:Nat}{S:BSh}{op:OpA}(hcs:CsOk Try.prog cs)(h:a0v Try.prog f (a0j (mkF S.args S.blks S.log S.outs op))):CsOk Try.prog (e1c f [S.k op] cs):=h0a hcs fun B hB=>by
 cases List.mem_singleton.1 hB
 exact j3k h
theorem csL1 {cs:FuncId→Option a0q}{f:Nat}{S:BSh}{ev:List Dat→Tree (Nat×List Dat)}(hcs:CsOk Try.prog cs)(h: ∃op,IsF ev f S op):CsOk Try.prog (a0s f (S.k (opF h)) cs):=a0g hcs (h3x h)
theorem csA1 {cs:FuncId→Option a0q}{f:Nat}{S:BSh}{ev:List Dat→Tree (Nat×List Dat)}(hcs:CsOk Try.prog cs)(h: ∃op,IsF ev f S op):CsOk Try.prog (e1c f [S.k (opF h)] cs):=h0a hcs fun B hB=>by
 cases List.mem_singleton.1 hB
 exact h3x h
end Go.Proofs.Ytoehlcomhpnjgaa.Vx
