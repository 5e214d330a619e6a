import Derived.Test.YtchedebomjmehaaB1
import Derived.Carry
import Derived.ChangeOld
import Derived.ShutString
import Derived.Below
import Derived.Lib.SmallJoins
namespace Go.Proofs.Ytchedebomjmehaa.Sx
open Go Go.ChangeShapes Go.WideShapes Go.ChangeAt Go.RowKit Go.Joins
set_option linter.unusedVariables false
set_option maxRecDepth 100000
theorem open_frame {H : Type} {enc : TypeId × Value → H} {w : World} {base : Nat} {spare : Nat → Bool} {held : Bool} {r : Reach} {b0 : Nat} {v : Value} {d : DataW H} {p : List MemPlace}
    (hv : Value.okWide Try.prog w r b0 38 v) (h : DataW.Trod enc Try.prog w base spare held 38 v d p) :
    ∃ a b c e : Int, v = .agg #[.int .i64 a, .int .i64 b, .int .u64 c, .int .u32 e] := by
  obtain ⟨cs, rfl, hsz⟩ := okWide_struct Try.underlying38 hv
  have hC : Try.prog.cellsOf 38 = 4 := by kernel_rfl
  have e2 : Try.prog.cellsOf 2 = 1 := by kernel_rfl
  have e31 : Try.prog.cellsOf 31 = 2 := by kernel_rfl
  have e28 : Try.prog.cellsOf 28 = 1 := by kernel_rfl
  have e29 : Try.prog.cellsOf 29 = 1 := by kernel_rfl
  obtain ⟨c0, c1, c2, c3, rfl⟩ := array4 (hsz.trans hC)
  obtain ⟨fuel, hf⟩ := h
  obtain ⟨y0, y1, y2, n, hx, _, h0, h1, h2⟩ := Go.Deep.trod_struct3 Try.underlying38 hf
  simp [Value.cells, e2] at h0
  simp [Value.cells, e2] at h1
  simp [Value.cells, e31] at h2
  obtain ⟨y3, y4, m, _, _, h3, h4⟩ := trod_struct2 Try.underlying31 h2
  simp [e28] at h3
  simp [e29] at h4
  obtain ⟨a0, k0, _⟩ := DataW.trod_int Try.underlying2 h0
  obtain ⟨a1, k1, _⟩ := DataW.trod_int Try.underlying2 h1
  obtain ⟨a2, k2, _⟩ := DataW.trod_int Try.underlying28 h3
  obtain ⟨a3, k3, _⟩ := DataW.trod_int Try.underlying29 h4
  simp only [List.cons.injEq, and_true] at k0 k1 k2 k3
  subst k0 k1 k2 k3
  exact ⟨_, _, _, _, rfl⟩
theorem law6 (ch c e a b : Int) (w : World) : Calls Try.prog 6 #[.int .i64 ch, .agg #[.int .i64 c, .int .i64 e, .int .u64 a, .int .u32 b]] w fun x w' => x = .returned (.bool true) ∧ Below w.heap.size w w' :=
  evPure_plain (v := .bool true) cs14_ok 1000 (List.replicate 100 none) [] (by kernel_rfl) Alls.nil rfl rfl w
end Go.Proofs.Ytchedebomjmehaa.Sx
