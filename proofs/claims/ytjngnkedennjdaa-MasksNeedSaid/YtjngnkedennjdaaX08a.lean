import Derived.Test.YtjngnkedennjdaaVxIm
import Derived.Test.YtjngnkedennjdaaVxLk
import Derived.Test.YtjngnkedennjdaaVxLaw
import Derived.KernelRfl
namespace Go.Proofs.Ytjngnkedennjdaa.Vx
open Go Go.RowKit
set_option linter.unusedVariables false
set_option linter.unusedSimpArgs false
set_option maxRecDepth 100000
set_option maxHeartbeats 0
theorem hmix : Try.prog.follows .mixedOrders = true := by kernel_rfl
theorem csNone_ok0 : CsOk Try.prog csNone := csNone_ok _

def op_9 : List Dat → Option (Nat × List Dat) := fun _ => some (0, [.b true])
def B9 : FBox := mkF [] [] [] [(.bool 0, [])] op_9
theorem fn_9_ok (env : List Dat) (y : Nat × List Dat) (h : op_9 env = some y) : (boxC true Try.prog csNone 9 ls0 (mkF [] [] [] [(.bool 0, [])] fun _ => none) env).sel = some y := by
  cases h
  rw [← boxC_lk]
  kernel_rfl
theorem B9_ok : RunOk Try.prog 9 (boxRun B9) := mkF_ok (op := op_9) csNone_ok0 hmix true (LsOk.none _ _ _) fn_9_ok

noncomputable def cs_9 : FuncId → Option CSpec := csAdd 9 [B9] csNone
theorem cs_9_ok : CsOk Try.prog cs_9 := csAdd_ok csNone_ok0 fun B hB => by
  cases List.mem_singleton.1 hB
  exact B9_ok
end Go.Proofs.Ytjngnkedennjdaa.Vx
