import Derived.Test.YtplcpifjiodhcaaGreatVxIm
noncomputable section
namespace Go.Proofs.YtplcpifjiodhcaaGreat.Vx
open Go Go.RowKit
set_option linter.unusedVariables false
section
variable {P:Program}
end
theorem qeT {x y:Int}(h:(x==y)=true):x=y:=by simpa using h
end Go.Proofs.YtplcpifjiodhcaaGreat.Vx
