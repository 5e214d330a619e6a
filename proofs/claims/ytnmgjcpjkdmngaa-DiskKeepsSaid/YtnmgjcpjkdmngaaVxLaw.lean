import Derived.Test.YtnmgjcpjkdmngaaVxIm
noncomputable section
namespace Go.Proofs.Ytnmgjcpjkdmngaa.Vx
open Go Go.RowKit
set_option linter.unusedVariables false
section
variable {P:Program}
end
end Go.Proofs.Ytnmgjcpjkdmngaa.Vx
