/- ReplBytes: for every input the law's function returns true, and leaves its arguments as they were. No condition. -/
import Derived.Test.YtdaabhpeedekaaaY25u
import Derived.Test.YtdaabhpeedekaaaVxAid
import Derived.Carry
import Derived.ChangeOld
import Derived.ShutString
import Derived.Below
import Derived.Lib.SmallJoins
import Derived.KernelRfl
import Derived.Test.YtdaabhpeedekaaaRows
namespace Go.Proofs.Ytdaabhpeedekaaa.replBytes
open Go Go.ChangeShapes Go.WideShapes Go.ChangeAt Go.RowKit Go.Joins Go.Proofs.Ytdaabhpeedekaaa.Vx
set_option linter.unusedVariables false
theorem own : ownKnob Try.prog.godebug = none := by kernel_rfl
theorem laidOut : laidOutB Try.prog = true := by kernel_rfl
theorem tys : tysOf Try.prog Try.f3.params.toList = some [TMs, (.sl TB)] := by kernel_rfl
theorem argsAre (a0 : Ty.den (TMs)) (a1 : Ty.den ((.sl TB))) (u : HL []) : argSVs Try.prog Try.f3.params.toList [TMs, (.sl TB)] (a0, a1, u) = instL [msV 0 (.imm TTm 14), .imm TB 15] [.n a0.1, .n a0.2.1, .n a0.2.2.1, .n a0.2.2.2.1, .n a0.2.2.2.2.1, .n a0.2.2.2.2.2.1, .n a0.2.2.2.2.2.2.1, .n a0.2.2.2.2.2.2.2.1, .l TB a0.2.2.2.2.2.2.2.2.1, .n a0.2.2.2.2.2.2.2.2.2.1, .n a0.2.2.2.2.2.2.2.2.2.2.1, .n a0.2.2.2.2.2.2.2.2.2.2.2.1, .n a0.2.2.2.2.2.2.2.2.2.2.2.2.1, .n a0.2.2.2.2.2.2.2.2.2.2.2.2.2.1, .l TTm a0.2.2.2.2.2.2.2.2.2.2.2.2.2.2, .l TB a1] := by kernel_rfl
set_option maxRecDepth 100000 in
theorem lifted (os : Os) (started : os.Started) (H : Type) (enc : TypeId × Value → H) :
    ReturnsInHanded {} Try.checked os 3 .any (Rows.replBytesSpec.pre6 enc Try.prog Try.f3 Rows.replBytesRow.domain false) (Rows.replBytesSpec.post enc Try.prog Try.f3 false true false false) := by
  refine returnsInHanded_of_change (C := Try.checked) own started (by kernel_rfl) Try.func3
    (ChangeSpec.witness6 (enc := enc) (C := Try.checked) false ⟨#[], #[.agg #[.int .u8 0, .int .i64 0, .int .i64 0, .int .i64 0, .int .i64 0, .int .u64 0, .int .u64 0, .int .u64 0, .int .u8 0, .int .u8 0, .int .u8 0, .int .u8 0, .int .u8 0, .int .u8 0, .int .u8 0, .int .u8 0, .int .u8 0, .int .u8 0, .int .u8 0, .int .u8 0, .int .u8 0, .int .u8 0, .int .u8 0, .int .u8 0, .int .u8 0, .int .u8 0, .int .u8 0, .int .u8 0, .int .u8 0, .int .u8 0, .int .u8 0, .int .u8 0, .int .u8 0, .int .u8 0, .int .u8 0, .int .u8 0, .int .u8 0, .int .u8 0, .int .u8 0, .int .u8 0, .int .u8 0, .int .u8 0, .int .u8 0, .int .u8 0, .int .u8 0, .int .u8 0, .int .u8 0, .int .u8 0, .int .u8 0, .int .u8 0, .int .u8 0, .int .u8 0, .int .u8 0, .int .u8 0, .int .u8 0, .int .u8 0, .int .u8 0, .int .u8 0, .int .u8 0, .int .u8 0, .int .u8 0, .int .u8 0, .int .u8 0, .int .u8 0, .int .u8 0, .int .u8 0, .int .u8 0, .int .u8 0, .int .u8 0, .int .u8 0, .int .u8 0, .int .u8 0, .int .u32 0, .int .u64 0, .int .u64 0, .int .u64 0, .int .u32 0, .slice none 0 0], .slice none 0 0], []⟩ 8 (by kernel_rfl) (by kernel_rfl) (by kernel_rfl) (by kernel_rfl)) ?_
  intro W base args ds gs before hval0 hW hcnd _
  have hW' := hW
  obtain ⟨p, q, hA, hV, rfl, hfz, hnd⟩ := hW
  obtain ⟨rfl, rfl⟩ := trodVars_none hV
  obtain ⟨⟨a0, a1, u⟩, hwf, hrel⟩ := args_rel (r := R0) _ _ _ _ _ tys hA (fun j t v a b => hval0 j t v (by simpa using a) (by simpa using b))
  have hrel' : LRel R0 (snapOf W) (instL [msV 0 (.imm TTm 14), .imm TB 15] [.n a0.1, .n a0.2.1, .n a0.2.2.1, .n a0.2.2.2.1, .n a0.2.2.2.2.1, .n a0.2.2.2.2.2.1, .n a0.2.2.2.2.2.2.1, .n a0.2.2.2.2.2.2.2.1, .l TB a0.2.2.2.2.2.2.2.2.1, .n a0.2.2.2.2.2.2.2.2.2.1, .n a0.2.2.2.2.2.2.2.2.2.2.1, .n a0.2.2.2.2.2.2.2.2.2.2.2.1, .n a0.2.2.2.2.2.2.2.2.2.2.2.2.1, .n a0.2.2.2.2.2.2.2.2.2.2.2.2.2.1, .l TTm a0.2.2.2.2.2.2.2.2.2.2.2.2.2.2, .l TB a1]) args := by
    have := hrel
    rw [argsAre] at this
    exact this
  have hlen : ds.length = 2 := (trodAll_len hA).trans (by kernel_rfl)
  obtain ⟨d0, d1, rfl⟩ : ∃ d0 d1, ds = [d0, d1] := by
    match ds, hlen with
    | [d0, d1], _ => exact ⟨_, _, rfl⟩
  refine (W3_law _ (t3' (wfh0 hwf) (wfh0 (wfhs hwf))) hrel').mono fun e W' ⟨he, bel⟩ => ?_
  subst he
  exact ⟨_, rfl, _, _, _, [], _, [], hW', trodAll_mk1 (shut_bool Try.underlying4 _), trodAll_below laidOut bel _ _ _ _ (by kernel_rfl) hA, rfl, bel.frame _, fun h => by cases h⟩
theorem over : Rows.replBytesRow.holds Try.pinned (OpenSpec.ofChange Rows.replBytesSpec) :=
  OpenClaim.holds_of_wide 3 Try.f3 rfl rfl rfl rfl rfl rfl rfl ⟨rfl, rfl, rfl, rfl, rfl⟩ rfl rfl rfl rfl rfl (by kernel_rfl) Try.func3 (by kernel_rfl)
    (of_decide_eq_true (by kernel_rfl)) (by unfold Func.isWrapper; first | (rw [if_pos (by decide +kernel)]; kernel_rfl) | (rw [if_neg (by decide +kernel)]; exact ⟨rfl, rfl⟩))
    (fun os started H enc _ => lifted os started H enc)
theorem proved : Rows.ReplBytesSaid := over
end Go.Proofs.Ytdaabhpeedekaaa.replBytes
