import Derived.Test.YtplcpifjiodhcaaGreatVxAid
import Derived.Test.YtplcpifjiodhcaaGreatZ06j
import Derived.IntWalk
namespace Go.Proofs.YtplcpifjiodhcaaGreat.Vx
open Go Go.RowKit
set_option linter.unusedVariables false
section
variable {k:IntKind}
end
theorem v0e {st:List Dat→Tree Step}{n:Nat}{env env':List Dat}(h:(st env).sel=some (.go env')):a0b st (n+1) env=a0b st n env':=by
 simp only[a0b,h]
theorem c0a {st:List Dat→Tree Step}{n k:Nat}{env d:List Dat}(h:(st env).sel=some (.stop k d)):a0b st (n+1) env=some (k,d):=by
 simp only[a0b,h]
theorem b0a {st:List Dat→Tree Step}(s:Nat→List Dat)(m:Nat)(y:Nat×List Dat)(go: ∀i,i<m→(st (s i)).sel=some (.go (s (i+1))))(stop:(st (s m)).sel=some (.stop y.1 y.2)):
  ∀fuel,m<fuel→a0b st fuel (s 0)=some y:=by
 have key: ∀d i,d+i=m→ ∀fuel,d<fuel→a0b st fuel (s i)=some y:=by
  intro d
  induction d with
  |zero=>
   intro i hi fuel hf
   have:i=m:=by omega
   subst this
   obtain⟨f,rfl⟩: ∃f,fuel=f+1:=⟨fuel-1,by omega⟩
   exact c0a stop
  |succ d ih=>
   intro i hi fuel hf
   obtain⟨f,rfl⟩: ∃f,fuel=f+1:=⟨fuel-1,by omega⟩
   rw[v0e (go i (by omega))]
   exact ih (i+1) (by omega) f (by omega)
 exact key m 0 rfl
theorem b1w {m:Nat}(h:m≤9223372036854775807):m<FU:=by unfold FU;omega
end Go.Proofs.YtplcpifjiodhcaaGreat.Vx
