import Derived.Test.YtplcpifjiodhcaaGreatVxIm
import Derived.Test.YtplcpifjiodhcaaGreatVxLk
import Derived.Test.YtplcpifjiodhcaaGreatVxLaw
import Derived.Test.YtplcpifjiodhcaaGreatZ06m
import Derived.KernelRfl
noncomputable section
namespace Go.Proofs.YtplcpifjiodhcaaGreat.Vx
open Go Go.RowKit
set_option linter.unusedVariables false
set_option linter.unusedSimpArgs false
set_option maxRecDepth 100000
set_option maxHeartbeats 0
abbrev TU:Ty:=.int .u64
end Go.Proofs.YtplcpifjiodhcaaGreat.Vx
end
