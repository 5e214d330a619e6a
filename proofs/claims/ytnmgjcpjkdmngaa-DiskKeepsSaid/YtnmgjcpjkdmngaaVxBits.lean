import Derived.Test.YtnmgjcpjkdmngaaVxAid
import Derived.Test.YtnmgjcpjkdmngaaZ06j
import Derived.IntWalk
namespace Go.Proofs.Ytnmgjcpjkdmngaa.Vx
open Go Go.RowKit
set_option linter.unusedVariables false
section
variable {k:IntKind}
end
theorem e0l {st:List Dat→Tree Step}{n:Nat}{env env':List Dat}(h:(st env).sel=some (.go env')):b0n st (n+1) env=b0n st n env':=by
 simp only[b0n,h]
theorem b0r {st:List Dat→Tree Step}{n k:Nat}{env d:List Dat}(h:(st env).sel=some (.stop k d)):b0n st (n+1) env=some (k,d):=by
 simp only[b0n,h]
theorem c0k {st:List Dat→Tree Step}(s:Nat→List Dat)(m:Nat)(y:Nat×List Dat)(go: ∀i,i<m→(st (s i)).sel=some (.go (s (i+1))))(stop:(st (s m)).sel=some (.stop y.1 y.2)):
  ∀fuel,m<fuel→b0n st fuel (s 0)=some y:=by
 have key: ∀d i,d+i=m→ ∀fuel,d<fuel→b0n st fuel (s i)=some y:=by
  intro d
  induction d with
  |zero=>
   intro i hi fuel hf
   have:i=m:=by omega
   subst this
   obtain⟨f,rfl⟩: ∃f,fuel=f+1:=⟨fuel-1,by omega⟩
   exact b0r stop
  |succ d ih=>
   intro i hi fuel hf
   obtain⟨f,rfl⟩: ∃f,fuel=f+1:=⟨fuel-1,by omega⟩
   rw[e0l (go i (by omega))]
   exact ih (i+1) (by omega) f (by omega)
 exact key m 0 rfl
theorem h0r {m:Nat}(h:m≤9223372036854775807):m<FU:=by unfold FU;omega
end Go.Proofs.Ytnmgjcpjkdmngaa.Vx
