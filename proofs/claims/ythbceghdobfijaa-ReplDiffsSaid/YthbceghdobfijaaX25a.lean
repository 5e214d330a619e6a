import Derived.Test.YthbceghdobfijaaVxIm
import Derived.Test.YthbceghdobfijaaVxLk
import Derived.Test.YthbceghdobfijaaVxLaw
import Derived.KernelRfl
namespace Go.Proofs.Ythbceghdobfijaa.Vx
open Go Go.RowKit
set_option linter.unusedVariables false
set_option linter.unusedSimpArgs false
set_option maxRecDepth 100000
set_option maxHeartbeats 0
theorem hmix : Try.prog.follows .mixedOrders = true := by kernel_rfl
theorem csNone_ok0 : CsOk Try.prog csNone := csNone_ok _

def op_20 : List Dat → Option (Nat × List Dat) := fun _ => some (0, [.b true])
def B20 : FBox := mkF [] [] [] [(.bool 0, [])] op_20
theorem fn_20_ok (env : List Dat) (y : Nat × List Dat) (h : op_20 env = some y) : (boxC true Try.prog csNone 20 ls0 (mkF [] [] [] [(.bool 0, [])] fun _ => none) env).sel = some y := by
  cases h
  rw [← boxC_lk]
  kernel_rfl
theorem B20_ok : RunOk Try.prog 20 (boxRun B20) := mkF_ok (op := op_20) csNone_ok0 hmix true (LsOk.none _ _ _) fn_20_ok

noncomputable def cs_20 : FuncId → Option CSpec := csAdd 20 [B20] csNone
theorem cs_20_ok : CsOk Try.prog cs_20 := csAdd_ok csNone_ok0 fun B hB => by
  cases List.mem_singleton.1 hB
  exact B20_ok
end Go.Proofs.Ythbceghdobfijaa.Vx
