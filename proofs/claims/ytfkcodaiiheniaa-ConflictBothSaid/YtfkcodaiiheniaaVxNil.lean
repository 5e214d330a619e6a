import Derived.Test.YtfkcodaiiheniaaVxClone
noncomputable section
namespace Go.Proofs.Ytfkcodaiiheniaa.Vx
open Go Go.RowKit
set_option linter.unusedVariables false
section
variable {P : Program} {r : RM} {σ : Snap} {w : World}
end
end Go.Proofs.Ytfkcodaiiheniaa.Vx
