import Derived.Test.YtfkcodaiiheniaaVxLend
noncomputable section
namespace Go.Proofs.Ytfkcodaiiheniaa.Vx
open Go Go.RowKit
set_option linter.unusedVariables false
section
variable {P : Program}
end
end Go.Proofs.Ytfkcodaiiheniaa.Vx
