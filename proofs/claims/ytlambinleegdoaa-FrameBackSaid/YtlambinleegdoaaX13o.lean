import Derived.Test.YtlambinleegdoaaX13a
namespace Go.Proofs.Ytlambinleegdoaa.Vx
open Go Go.RowKit
set_option linter.unusedVariables false
theorem opq_ex (f : List Dat → Option (Nat × List Dat)) : ∃ g : List Dat → Option (Nat × List Dat), ∀ e, g e = f e := ⟨f, fun _ => rfl⟩
noncomputable def op_q12 : List Dat → Option (Nat × List Dat) := Classical.choose (opq_ex op_12)
theorem op_q12_eq (e : List Dat) : op_q12 e = op_12 e := Classical.choose_spec (opq_ex op_12) e
noncomputable def Bq12 : FBox := mkF [.imm TB 0] [] [] [(.int .u32 0, [])] op_q12
theorem Bq12_ok : RunOk Try.prog 86 (boxRun Bq12) := by
  have h : op_q12 = op_12 := funext op_q12_eq
  unfold Bq12
  rw [h]
  exact B12_ok
noncomputable def cs_q12 : FuncId → Option CSpec := csLend 86 Bq12 cs_9
theorem cs_q12_ok : CsOk Try.prog cs_q12 := csLend_ok cs_9_ok Bq12_ok
noncomputable def op_q13 : List Dat → Option (Nat × List Dat) := Classical.choose (opq_ex op_13)
theorem op_q13_eq (e : List Dat) : op_q13 e = op_13 e := Classical.choose_spec (opq_ex op_13) e
noncomputable def Bq13 : FBox := mkF [.imm TB 0] [] [] [(.int .u32 0, [])] op_q13
theorem Bq13_ok : RunOk Try.prog 73 (boxRun Bq13) := by
  have h : op_q13 = op_13 := funext op_q13_eq
  unfold Bq13
  rw [h]
  exact B13_ok
noncomputable def cs_q13 : FuncId → Option CSpec := csLend 73 Bq13 cs_q12
theorem cs_q13_ok : CsOk Try.prog cs_q13 := csLend_ok cs_q12_ok Bq13_ok
end Go.Proofs.Ytlambinleegdoaa.Vx
