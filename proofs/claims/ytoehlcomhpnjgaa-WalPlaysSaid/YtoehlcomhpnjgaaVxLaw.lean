import Derived.Test.YtoehlcomhpnjgaaVxIm
noncomputable section
namespace Go.Proofs.Ytoehlcomhpnjgaa.Vx
open Go Go.RowKit
set_option linter.unusedVariables false
section
variable {P:Program}
end
theorem l3h {st:List Dat→Tree Step}(e:Int→List Dat)(m:Int)(y:Nat×List Dat)(hs: ∀n,0≤n→n<m→(st (e n)).sel=some (.go (e (n+1))))(hx:(st (e m)).sel=some (.stop y.1 y.2)):
  ∀(f:Nat) (n:Int),0≤n→n≤m→(m-n).toNat<f→a0b st f (e n)=some y
 |0,n,_,_,h=>by omega
 |f+1,n,h0,h1,h=>by
  unfold a0b
  by_cases c:n<m
  ·rw[hs n h0 c]
   exact l3h e m y hs hx f (n+1) (by omega) (by omega) (by omega)
  ·have:n=m:=by omega
   subst this
   rw[hx]
theorem w64s {x:Int}(h: -9223372036854775808≤x)(k:x≤9223372036854775807):IntKind.wrap .i64 x=x:=by rw[w64d];omega
end Go.Proofs.Ytoehlcomhpnjgaa.Vx
