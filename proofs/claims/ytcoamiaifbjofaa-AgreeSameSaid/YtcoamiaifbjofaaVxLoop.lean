import Derived.Test.YtcoamiaifbjofaaVxBits
namespace Go.Proofs.Ytcoamiaifbjofaa.Vx
open Go Go.RowKit
set_option linter.unusedVariables false
end Go.Proofs.Ytcoamiaifbjofaa.Vx
