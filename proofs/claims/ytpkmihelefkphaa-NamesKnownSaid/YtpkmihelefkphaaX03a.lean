import Derived.Test.YtpkmihelefkphaaVxIm
import Derived.Test.YtpkmihelefkphaaVxLk
import Derived.Test.YtpkmihelefkphaaVxLaw
import Derived.KernelRfl
namespace Go.Proofs.Ytpkmihelefkphaa.Vx
open Go Go.RowKit
set_option linter.unusedVariables false
set_option linter.unusedSimpArgs false
set_option maxRecDepth 100000
set_option maxHeartbeats 0
theorem hmix : Try.prog.follows .mixedOrders = true := by kernel_rfl
theorem csNone_ok0 : CsOk Try.prog csNone := csNone_ok _

def op_12 : List Dat → Option (Nat × List Dat) := fun _ => some (0, [.b true])
def B12 : FBox := mkF [] [] [] [(.bool 0, [])] op_12
theorem fn_12_ok (env : List Dat) (y : Nat × List Dat) (h : op_12 env = some y) : (boxC true Try.prog csNone 12 ls0 (mkF [] [] [] [(.bool 0, [])] fun _ => none) env).sel = some y := by
  cases h
  rw [← boxC_lk]
  kernel_rfl
theorem B12_ok : RunOk Try.prog 12 (boxRun B12) := mkF_ok (op := op_12) csNone_ok0 hmix true (LsOk.none _ _ _) fn_12_ok

noncomputable def cs_12 : FuncId → Option CSpec := csAdd 12 [B12] csNone
theorem cs_12_ok : CsOk Try.prog cs_12 := csAdd_ok csNone_ok0 fun B hB => by
  cases List.mem_singleton.1 hB
  exact B12_ok
end Go.Proofs.Ytpkmihelefkphaa.Vx
