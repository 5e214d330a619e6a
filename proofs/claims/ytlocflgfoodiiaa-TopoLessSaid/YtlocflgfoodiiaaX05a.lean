import Derived.Test.YtlocflgfoodiiaaVxIm
import Derived.Test.YtlocflgfoodiiaaVxLk
import Derived.Test.YtlocflgfoodiiaaVxLaw
import Derived.KernelRfl
namespace Go.Proofs.Ytlocflgfoodiiaa.Vx
open Go Go.RowKit
set_option linter.unusedVariables false
set_option linter.unusedSimpArgs false
set_option maxRecDepth 100000
set_option maxHeartbeats 0
theorem hmix : Try.prog.follows .mixedOrders = true := by kernel_rfl
theorem csNone_ok0 : CsOk Try.prog csNone := csNone_ok _

def op_8 : List Dat → Option (Nat × List Dat) := fun _ => some (0, [.b true])
def B8 : FBox := mkF [] [] [] [(.bool 0, [])] op_8
theorem fn_8_ok (env : List Dat) (y : Nat × List Dat) (h : op_8 env = some y) : (boxC true Try.prog csNone 8 ls0 (mkF [] [] [] [(.bool 0, [])] fun _ => none) env).sel = some y := by
  cases h
  rw [← boxC_lk]
  kernel_rfl
theorem B8_ok : RunOk Try.prog 8 (boxRun B8) := mkF_ok (op := op_8) csNone_ok0 hmix true (LsOk.none _ _ _) fn_8_ok

noncomputable def cs_8 : FuncId → Option CSpec := csAdd 8 [B8] csNone
theorem cs_8_ok : CsOk Try.prog cs_8 := csAdd_ok csNone_ok0 fun B hB => by
  cases List.mem_singleton.1 hB
  exact B8_ok
end Go.Proofs.Ytlocflgfoodiiaa.Vx
