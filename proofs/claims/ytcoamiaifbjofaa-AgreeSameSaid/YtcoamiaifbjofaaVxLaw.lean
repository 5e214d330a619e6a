import Derived.Test.YtcoamiaifbjofaaVxIm
noncomputable section
namespace Go.Proofs.Ytcoamiaifbjofaa.Vx
open Go Go.RowKit
set_option linter.unusedVariables false
section
variable {P:Program}
end
theorem w64s {x:Int}(h: -9223372036854775808≤x)(k:x≤9223372036854775807):IntKind.wrap .i64 x=x:=by rw[w64d];omega
end Go.Proofs.Ytcoamiaifbjofaa.Vx
