import Derived.Test.YtcbhgaeiokfcdaaVxIm
noncomputable section
namespace Go.Proofs.Ytcbhgaeiokfcdaa.Vx
open Go Go.RowKit
set_option linter.unusedVariables false
section
variable {P:Program}
end
theorem qeT {x y:Int}(h:(x==y)=true):x=y:=by simpa using h
end Go.Proofs.Ytcbhgaeiokfcdaa.Vx
