import Derived.Test.YtchedebomjmehaaSxCs
import Derived.Test.YtchedebomjmehaaRows
namespace Go.Proofs.Ytchedebomjmehaa.Sx
open Go Go.RowKit
set_option linter.unusedVariables false
set_option maxRecDepth 100000
theorem works14 (w : World) : Calls Try.prog 14 #[] w fun e w' => e = .returned (.bool true) ∧ Below w.heap.size w w' :=
  evPure_plain (v := .bool true) csNone_ok 1000 (List.replicate 600 none) [] (by kernel_rfl) Alls.nil rfl rfl w
def F14 : List Value → Option Value
  | [] => some (.bool true)
  | _ => none
theorem S14 : SpecOk Try.prog 14 (plainSpec F14) := plainSpec_ok fun l v hF => by
  unfold F14 at hF
  split at hF
  · cases hF; exact ⟨rfl, fun w => works14 w⟩
  · cases hF
def cs14 : FuncId → Option CSpec := csAdd 14 (plainSpec F14) csNone
theorem cs14_ok : CsOk Try.prog cs14 := csAdd_ok S14 csNone_ok
end Go.Proofs.Ytchedebomjmehaa.Sx
