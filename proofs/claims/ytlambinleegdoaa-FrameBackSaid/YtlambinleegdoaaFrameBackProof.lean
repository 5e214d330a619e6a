/- FrameBack: for every input the law's function returns true, and leaves its arguments as they were. No condition. -/
import Derived.Test.YtlambinleegdoaaY13v
import Derived.Test.YtlambinleegdoaaVxAid
import Derived.Carry
import Derived.ChangeOld
import Derived.ShutString
import Derived.Below
import Derived.Lib.SmallJoins
import Derived.KernelRfl
import Derived.Test.YtlambinleegdoaaRows
namespace Go.Proofs.Ytlambinleegdoaa.frameBack
open Go Go.ChangeShapes Go.WideShapes Go.ChangeAt Go.RowKit Go.Joins Go.Proofs.Ytlambinleegdoaa.Vx
set_option linter.unusedVariables false
theorem own : ownKnob Try.prog.godebug = none := by kernel_rfl
theorem laidOut : laidOutB Try.prog = true := by kernel_rfl
theorem tys : tysOf Try.prog Try.f5.params.toList = some [TInp, TOut, TStt, TLog, TLnk, (.sl TB)] := by kernel_rfl
theorem argsAre (a0 : Ty.den (TInp)) (a1 : Ty.den (TOut)) (a2 : Ty.den (TStt)) (a3 : Ty.den (TLog)) (a4 : Ty.den (TLnk)) (a5 : Ty.den ((.sl TB))) (u : HL []) : argSVs Try.prog Try.f5.params.toList [TInp, TOut, TStt, TLog, TLnk, (.sl TB)] (a0, a1, a2, a3, a4, a5, u) = instL [inV 0, ouV 6, stV 11, loV 16, liV 23, .imm TB 28] [.n a0.1, .n a0.2.1, .n a0.2.2.1, .n a0.2.2.2.1, .n a0.2.2.2.2.1, .l TC a0.2.2.2.2.2, .n a1.1, .n a1.2.1, .n a1.2.2.1, .n a1.2.2.2.1, .n a1.2.2.2.2, .n a2.1, .n a2.2.1, .n a2.2.2.1, .l TB a2.2.2.2.1, .n a2.2.2.2.2, .n a3.1, .n a3.2.1, .n a3.2.2.1, .n a3.2.2.2.1, .n a3.2.2.2.2.1, .l TB a3.2.2.2.2.2.1, .n a3.2.2.2.2.2.2, .n a4.1, .n a4.2.1, .n a4.2.2.1, .n a4.2.2.2.1, .l TB a4.2.2.2.2, .l TB a5] := by kernel_rfl
set_option maxRecDepth 100000 in
theorem lifted (os : Os) (started : os.Started) (H : Type) (enc : TypeId × Value → H) :
    ReturnsInHanded {} Try.checked os 5 .any (Rows.frameBackSpec.pre6 enc Try.prog Try.f5 Rows.frameBackRow.domain false) (Rows.frameBackSpec.post enc Try.prog Try.f5 false true false false) := by
  refine returnsInHanded_of_change (C := Try.checked) own started (by kernel_rfl) Try.func5
    (ChangeSpec.witness6 (enc := enc) (C := Try.checked) false ⟨#[], #[.agg #[.int .u8 0, .int .i64 0, .int .u64 0, .int .u32 0, .int .u32 0, .slice none 0 0], .agg #[.int .u8 0, .int .i64 0, .int .i64 0, .int .u64 0, .int .u32 0], .agg #[.int .u64 0, .int .u64 0, .int .u64 0, .int .u8 0, .int .u8 0, .int .u8 0, .int .u8 0, .int .u8 0, .int .u8 0, .int .u8 0, .int .u8 0, .int .u8 0, .int .u8 0, .int .u8 0, .int .u8 0, .int .u8 0, .int .u8 0, .int .u8 0, .int .u8 0, .int .u8 0, .int .u8 0, .int .u8 0, .int .u8 0, .int .u8 0, .int .u8 0, .int .u8 0, .int .u8 0, .int .u8 0, .int .u8 0, .int .u8 0, .int .u8 0, .int .u8 0, .int .u8 0, .int .u8 0, .int .u8 0, .int .u8 0, .int .u8 0, .int .u8 0, .int .u8 0, .int .u8 0, .int .u8 0, .int .u8 0, .int .u8 0, .int .u8 0, .int .u8 0, .int .u8 0, .int .u8 0, .int .u8 0, .int .u8 0, .int .u8 0, .int .u8 0, .int .u8 0, .int .u8 0, .int .u8 0, .int .u8 0, .int .u8 0, .int .u8 0, .int .u8 0, .int .u8 0, .int .u8 0, .int .u8 0, .int .u8 0, .int .u8 0, .int .u8 0, .int .u8 0, .int .u8 0, .int .u8 0, .int .u32 0], .agg #[.int .i64 0, .int .i64 0, .int .u64 0, .int .u64 0, .int .u64 0, .int .u8 0, .int .u8 0, .int .u8 0, .int .u8 0, .int .u8 0, .int .u8 0, .int .u8 0, .int .u8 0, .int .u8 0, .int .u8 0, .int .u8 0, .int .u8 0, .int .u8 0, .int .u8 0, .int .u8 0, .int .u8 0, .int .u8 0, .int .u8 0, .int .u8 0, .int .u8 0, .int .u8 0, .int .u8 0, .int .u8 0, .int .u8 0, .int .u8 0, .int .u8 0, .int .u8 0, .int .u8 0, .int .u8 0, .int .u8 0, .int .u8 0, .int .u8 0, .int .u8 0, .int .u8 0, .int .u8 0, .int .u8 0, .int .u8 0, .int .u8 0, .int .u8 0, .int .u8 0, .int .u8 0, .int .u8 0, .int .u8 0, .int .u8 0, .int .u8 0, .int .u8 0, .int .u8 0, .int .u8 0, .int .u8 0, .int .u8 0, .int .u8 0, .int .u8 0, .int .u8 0, .int .u8 0, .int .u8 0, .int .u8 0, .int .u8 0, .int .u8 0, .int .u8 0, .int .u8 0, .int .u8 0, .int .u8 0, .int .u8 0, .int .u8 0, .int .u32 0], .agg #[.int .u8 0, .int .u8 0, .int .i64 0, .int .i64 0, .slice none 0 0], .slice none 0 0], []⟩ 8 (by kernel_rfl) (by kernel_rfl) (by kernel_rfl) (by kernel_rfl)) ?_
  intro W base args ds gs before hval0 hW hcnd _
  have hW' := hW
  obtain ⟨p, q, hA, hV, rfl, hfz, hnd⟩ := hW
  obtain ⟨rfl, rfl⟩ := trodVars_none hV
  obtain ⟨⟨a0, a1, a2, a3, a4, a5, u⟩, hwf, hrel⟩ := args_rel (r := R0) _ _ _ _ _ tys hA (fun j t v a b => hval0 j t v (by simpa using a) (by simpa using b))
  have hrel' : LRel R0 (snapOf W) (instL [inV 0, ouV 6, stV 11, loV 16, liV 23, .imm TB 28] [.n a0.1, .n a0.2.1, .n a0.2.2.1, .n a0.2.2.2.1, .n a0.2.2.2.2.1, .l TC a0.2.2.2.2.2, .n a1.1, .n a1.2.1, .n a1.2.2.1, .n a1.2.2.2.1, .n a1.2.2.2.2, .n a2.1, .n a2.2.1, .n a2.2.2.1, .l TB a2.2.2.2.1, .n a2.2.2.2.2, .n a3.1, .n a3.2.1, .n a3.2.2.1, .n a3.2.2.2.1, .n a3.2.2.2.2.1, .l TB a3.2.2.2.2.2.1, .n a3.2.2.2.2.2.2, .n a4.1, .n a4.2.1, .n a4.2.2.1, .n a4.2.2.2.1, .l TB a4.2.2.2.2, .l TB a5]) args := by
    have := hrel
    rw [argsAre] at this
    exact this
  have hlen : ds.length = 6 := (trodAll_len hA).trans (by kernel_rfl)
  obtain ⟨d0, d1, d2, d3, d4, d5, rfl⟩ : ∃ d0 d1 d2 d3 d4 d5, ds = [d0, d1, d2, d3, d4, d5] := by
    match ds, hlen with
    | [d0, d1, d2, d3, d4, d5], _ => exact ⟨_, _, _, _, _, _, rfl⟩
  refine (W5_law _ (t5' (wfh0 hwf) (wfh0 (wfhs hwf)) (wfh0 (wfhs (wfhs hwf))) (wfh0 (wfhs (wfhs (wfhs hwf)))) (wfh0 (wfhs (wfhs (wfhs (wfhs hwf))))) (wfh0 (wfhs (wfhs (wfhs (wfhs (wfhs hwf))))))) hrel').mono fun e W' ⟨he, bel⟩ => ?_
  subst he
  exact ⟨_, rfl, _, _, _, [], _, [], hW', trodAll_mk1 (shut_bool Try.underlying4 _), trodAll_below laidOut bel _ _ _ _ (by kernel_rfl) hA, rfl, bel.frame _, fun h => by cases h⟩
theorem over : Rows.frameBackRow.holds Try.pinned (OpenSpec.ofChange Rows.frameBackSpec) :=
  OpenClaim.holds_of_wide 5 Try.f5 rfl rfl rfl rfl rfl rfl rfl ⟨rfl, rfl, rfl, rfl, rfl⟩ rfl rfl rfl rfl rfl (by kernel_rfl) Try.func5 (by kernel_rfl)
    (of_decide_eq_true (by kernel_rfl)) (by unfold Func.isWrapper; first | (rw [if_pos (by decide +kernel)]; kernel_rfl) | (rw [if_neg (by decide +kernel)]; exact ⟨rfl, rfl⟩))
    (fun os started H enc _ => lifted os started H enc)
theorem proved : Rows.FrameBackSaid := over
end Go.Proofs.Ytlambinleegdoaa.frameBack
