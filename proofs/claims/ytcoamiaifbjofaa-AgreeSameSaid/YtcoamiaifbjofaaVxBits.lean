import Derived.Test.YtcoamiaifbjofaaVxAid
import Derived.Test.YtcoamiaifbjofaaZ06j
import Derived.IntWalk
namespace Go.Proofs.Ytcoamiaifbjofaa.Vx
open Go Go.RowKit
set_option linter.unusedVariables false
section
variable {k:IntKind}
end
theorem v0e {st:List Dat→Tree Step}{n:Nat}{env env':List Dat}(h:(st env).sel=some (.go env')):a0b st (n+1) env=a0b st n env':=by
 simp only[a0b,h]
theorem c0a {st:List Dat→Tree Step}{n k:Nat}{env d:List Dat}(h:(st env).sel=some (.stop k d)):a0b st (n+1) env=some (k,d):=by
 simp only[a0b,h]
theorem lt_FU {m:Nat}(h:m≤9223372036854775807):m<FU:=by unfold FU;omega
end Go.Proofs.Ytcoamiaifbjofaa.Vx
