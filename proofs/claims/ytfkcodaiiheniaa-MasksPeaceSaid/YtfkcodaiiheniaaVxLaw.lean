import Derived.Test.YtfkcodaiiheniaaVxIm
noncomputable section
namespace Go.Proofs.Ytfkcodaiiheniaa.Vx
open Go Go.RowKit
set_option linter.unusedVariables false
section
variable {P:Program}
end
theorem qeT {x y:Int}(h:(x==y)=true):x=y:=by simpa using h
end Go.Proofs.Ytfkcodaiiheniaa.Vx
