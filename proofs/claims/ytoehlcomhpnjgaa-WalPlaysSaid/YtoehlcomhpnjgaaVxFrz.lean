import Derived.Test.YtoehlcomhpnjgaaZ06j
noncomputable section
namespace Go.Proofs.Ytoehlcomhpnjgaa.Vx
open Go Go.RowKit
set_option linter.unusedVariables false
def i4q (t:Ty)(g:a0q):a0q:=fun args s=>(g args s).bind fun x=>match x.1 with
 |.own b k=>match ofSV (.sl t) (.own b k) x.2 with
  |some (l,s2)=>.leaf (.imm t l,s2)
  |none=>.bad 352
 |_=>.bad 352
def csFrz (f:Nat)(t:Ty)(cs:FuncId→Option a0q):FuncId→Option a0q:=fun k=>match cs k with
 |some g=>match Nat.beq k f with
  |true=>some (i4q t g)
  |false=>some g
 |none=>none
theorem n4q {P:Program}{f:FuncId}{t:Ty}{g:a0q}(h:c1x P f g):c1x P f (i4q t g):=by
 intro args s v s1 hrun r σ w args' hr ha
 unfold i4q at hrun
 obtain⟨⟨v0,s0⟩,h1,h2⟩:=Tree.bind_some hrun
 simp only at h2
 split at h2
 ·rename_i b k
  split at h2
  ·rename_i l s2 hf
   cases h2
   refine(h args s _ s0 h1 r σ w args' hr ha).mono ?_
   rintro e w' ⟨v',rfl,r1,σ1,a1,a2,a3,a4,a5,a6,a7⟩
   obtain⟨σ2,b1,b2,b3,b4,b5⟩:=u3t a3 a5 (by rfl) hf
   refine⟨v',rfl,r1,σ2,a1,Snap.le_trans a2 b1,b2,a4.trans (.still s.len b3.stay) b3.log (Nat.le_refl _),?_,fun x hx=>b3.log x (a6 x hx),by rw[b3.len];exact a7⟩
   cases a5
   refine .imm _ _ _ ?_
   have c4:=x0x (d:=(l:List t.den))▸b4
   exact(x0x (d:=(l:List t.den))).symm▸c4
  ·cases h2
 ·cases h2
theorem r4k {P:Program}{f:Nat}{t:Ty}{cs:FuncId→Option a0q}(hcs:CsOk P cs):CsOk P (csFrz f t cs):=by
 intro g s h
 unfold csFrz at h
 split at h
 ·rename_i g0 hg
  split at h
  ·cases h;exact n4q (hcs _ _ hg)
  ·cases h;exact hcs _ _ hg
 ·cases h
end Go.Proofs.Ytoehlcomhpnjgaa.Vx
