/- ExecPlays: for every input the law's function returns true, and leaves its arguments as they were. No condition. -/
import Derived.Test.YtchedebomjmehaaY19
import Derived.Test.YtchedebomjmehaaVxAid
import Derived.Carry
import Derived.ChangeOld
import Derived.ShutString
import Derived.Below
import Derived.Lib.SmallJoins
import Derived.KernelRfl
import Derived.Test.YtchedebomjmehaaRows
namespace Go.Proofs.Ytchedebomjmehaa.execPlays
open Go Go.ChangeShapes Go.WideShapes Go.ChangeAt Go.RowKit Go.Joins Go.Proofs.Ytchedebomjmehaa.Vx
set_option linter.unusedVariables false
theorem own : ownKnob Try.prog.godebug = none := by kernel_rfl
theorem laidOut : laidOutB Try.prog = true := by kernel_rfl
theorem tys : tysOf Try.prog Try.f8.params.toList = some [.int .i64, .int .i64, .int .i64, .sl TCall19] := by kernel_rfl
theorem argsAre (a0 : Ty.den (.int .i64)) (a1 : Ty.den (.int .i64)) (a2 : Ty.den (.int .i64)) (a3 : Ty.den (.sl TCall19)) (u : HL []) : argSVs Try.prog Try.f8.params.toList [.int .i64, .int .i64, .int .i64, .sl TCall19] (a0, a1, a2, a3, u) = instL [.int .i64 0, .int .i64 1, .int .i64 2, .imm TCall19 3] [.n a0, .n a1, .n a2, .l TCall19 a3] := by kernel_rfl
set_option maxRecDepth 100000 in
theorem lifted (os : Os) (started : os.Started) (H : Type) (enc : TypeId × Value → H) :
    ReturnsInHanded {} Try.checked os 8 .any (Rows.execPlaysSpec.pre6 enc Try.prog Try.f8 Rows.execPlaysRow.domain false) (Rows.execPlaysSpec.post enc Try.prog Try.f8 false true false false) := by
  refine returnsInHanded_of_change (C := Try.checked) own started (by kernel_rfl) Try.func8
    (ChangeSpec.witness6 (enc := enc) (C := Try.checked) false ⟨#[], #[.int .i64 0, .int .i64 0, .int .i64 0, .slice none 0 0], []⟩ 8 (by kernel_rfl) (by kernel_rfl) (by kernel_rfl) (by kernel_rfl)) ?_
  intro W base args ds gs before hval0 hW hcnd _
  have hW' := hW
  obtain ⟨p, q, hA, hV, rfl, hfz, hnd⟩ := hW
  obtain ⟨rfl, rfl⟩ := trodVars_none hV
  obtain ⟨⟨a0, a1, a2, a3, u⟩, hwf, hrel⟩ := args_rel (r := R0) _ _ _ _ _ tys hA (fun j t v a b => hval0 j t v (by simpa using a) (by simpa using b))
  have hrel' : LRel R0 (snapOf W) (instL [.int .i64 0, .int .i64 1, .int .i64 2, .imm TCall19 3] [.n a0, .n a1, .n a2, .l TCall19 a3]) args := by
    have := hrel
    rw [argsAre] at this
    exact this
  have hlen : ds.length = 4 := (trodAll_len hA).trans (by kernel_rfl)
  obtain ⟨d0, d1, d2, d3, rfl⟩ : ∃ d0 d1 d2 d3, ds = [d0, d1, d2, d3] := by
    match ds, hlen with
    | [d0, d1, d2, d3], _ => exact ⟨_, _, _, _, rfl⟩
  refine (W8_law _ (t8 a0 a1 a2 a3 (wfl_len (wfh0 (wfhs (wfhs (wfhs hwf))))) (fun c hc => wfl_len (wf_get (wf_get (wfl_mem (wfh0 (wfhs (wfhs (wfhs hwf)))) hc)).2).2)) hrel').mono fun e W' ⟨he, bel⟩ => ?_
  subst he
  exact ⟨_, rfl, _, _, _, [], _, [], hW', trodAll_mk1 (shut_bool Try.underlying4 _), trodAll_below laidOut bel _ _ _ _ (by kernel_rfl) hA, rfl, bel.frame _, fun h => by cases h⟩
theorem over : Rows.execPlaysRow.holds Try.pinned (OpenSpec.ofChange Rows.execPlaysSpec) :=
  OpenClaim.holds_of_wide 8 Try.f8 rfl rfl rfl rfl rfl rfl rfl ⟨rfl, rfl, rfl, rfl, rfl⟩ rfl rfl rfl rfl rfl (by kernel_rfl) Try.func8 (by kernel_rfl)
    (of_decide_eq_true (by kernel_rfl)) (by unfold Func.isWrapper; first | (rw [if_pos (by decide +kernel)]; kernel_rfl) | (rw [if_neg (by decide +kernel)]; exact ⟨rfl, rfl⟩))
    (fun os started H enc _ => lifted os started H enc)
theorem proved : Rows.ExecPlaysSaid := over
end Go.Proofs.Ytchedebomjmehaa.execPlays
