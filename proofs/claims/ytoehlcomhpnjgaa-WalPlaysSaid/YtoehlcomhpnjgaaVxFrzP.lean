import Derived.Test.YtoehlcomhpnjgaaZ06j
noncomputable section
namespace Go.Proofs.Ytoehlcomhpnjgaa.Vx
open Go Go.RowKit
set_option linter.unusedVariables false
def r4r (t:Ty)(g:a0q)(v:SV)(s:SW):Tree (SV×SW):=match ofSV (.sl t) v s with
 |some (l,s2)=>g [.imm t l] s2
 |none=>.bad 352
def l4b (t:Ty)(g:a0q):a0q:=fun args s=>match args with
 |[.own b k]=>r4r t g (.own b k) s
 |[.part b k lo n]=>r4r t g (.part b k lo n) s
 |_=>.bad 352
def k4t (f:Nat)(t:Ty)(cs:FuncId→Option a0q):FuncId→Option a0q:=fun k=>match cs k with
 |some g=>match Nat.beq k f with
  |true=>some (l4b t g)
  |false=>some g
 |none=>none
theorem b4a {P:Program}{f:FuncId}{t:Ty}{g:a0q}(h:c1x P f g){v0:SV}(hk:b0j v0.ents=true)(hc: ∀(r:RM) (σ:Snap) (v':Value),VRel r σ v0 v'→v'.cells= #[v']){s s1:SW}{v:SV}(hrun:(r4r t g v0 s).sel=some (v,s1))
  {r:RM} {σ:Snap} {w:World} {args':Array Value} (hr:Rel r σ s w) (ha:LRel r σ [v0] args'):Calls P f args' w fun e w'=> ∃v',e=.returned v'∧h2a r σ s w v s1 v' w':=by
 unfold r4r at hrun
 split at hrun
 ·rename_i l s2 hf
  have hs:=ha.size
  simp only[List.length_cons,List.length_nil]at hs
  have h0:0<args'.size:=by omega
  have hv:VRel r σ v0 args'[0]:=ha.at_ 0 v0 args'[0] rfl (Array.getElem?_eq_getElem h0)
  obtain⟨σ2,b1,b2,b3,b4,b5⟩:=u3t hr hv hk hf
  rw[hc r σ _ hv]at b4
  have hl:LRel r σ2 [SV.imm t l] args':=by
   refine⟨hs,fun i x x' e e'=> ?_⟩
   cases i with
   |zero=>
    simp only[List.getElem?_cons_zero,Option.some.injEq]at e
    subst e
    rw[Array.getElem?_eq_getElem h0,Option.some.injEq]at e'
    subst e'
    refine .imm _ _ _ ?_
    have c4:=x0x (d:=(l:List t.den))▸b4
    exact(x0x (d:=(l:List t.den))).symm▸c4
   |succ i=>simp at e
  refine(h [.imm t l] s2 v s1 hrun r σ2 w args' b2 hl).mono ?_
  rintro e w' ⟨v1,rfl,r1,σ1,a1,a2,a3,a4,a5,a6,a7⟩
  refine⟨v1,rfl,r1,σ1,a1,Snap.le_trans b1 a2,a3,(Frame.still s.len b3.stay).trans a4 a6 (by rw[b3.len];exact Nat.le_refl _),a5,fun x hx=>a6 x (b3.log x hx),by rw[←b3.len];exact a7⟩
 ·simp[Tree.sel]at hrun
theorem h4v {P:Program}{f:FuncId}{t:Ty}{g:a0q}(h:c1x P f g):c1x P f (l4b t g):=by
 intro args s v s1 hrun r σ w args' hr ha
 unfold l4b at hrun
 split at hrun
 ·exact b4a h rfl (fun _ _ _ q=>by cases q;rfl) hrun hr ha
 ·exact b4a h rfl (fun _ _ _ q=>by cases q;rfl) hrun hr ha
 ·simp[Tree.sel]at hrun
theorem k4o {P:Program}{f:Nat}{t:Ty}{cs:FuncId→Option a0q}(hcs:CsOk P cs):CsOk P (k4t f t cs):=by
 intro g s h
 unfold k4t at h
 split at h
 ·rename_i g0 hg
  split at h
  ·cases h;exact h4v (hcs _ _ hg)
  ·cases h;exact hcs _ _ hg
 ·cases h
end Go.Proofs.Ytoehlcomhpnjgaa.Vx
