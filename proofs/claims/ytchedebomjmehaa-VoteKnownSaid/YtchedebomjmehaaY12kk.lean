import Derived.Test.YtchedebomjmehaaX12k
namespace Go.Proofs.Ytchedebomjmehaa.Vx
open Go Go.RowKit
set_option linter.unusedVariables false
set_option linter.unusedSimpArgs false
set_option maxRecDepth 100000
set_option maxHeartbeats 400000
abbrev tl12 : List Dat := [.n 1, .n 1, .n 5, .n 1, .n 2, .n 1, .n 5, .n 1, .l TCl calls12]
abbrev e18 (i k n : Int) : List Dat := .k 0 :: .n i :: .n k :: .n n :: tl12
abbrev e15 (i k : Int) : List Dat := .k 0 :: .n i :: .n k :: tl12
abbrev e12 (i : Int) : List Dat := .k 0 :: .n i :: tl12
theorem in12 {n : Int} (h : 0 ≤ n) (k : n < 12) : inR n 12 = true := by unfold inR; simp; omega
theorem run18 (i k : Int) (a : 0 ≤ i) (b : i < 12) (c : 0 ≤ k) (d : k < 12) : op_L7_18 (e18 i k 0) = some (0, .n i :: .n k :: tl12) := by
  rw [op_L7_18_eq]
  refine iterS_count (e18 i k) 12 (0, .n i :: .n k :: tl12) (fun n h0 h1 => ?_) ?_ FU 0 (by omega) (by omega) (by show (12 : Int).toNat < FU; unfold FU; omega)
  · have w := w64s (x := n + 1) (by omega) (by omega)
    exact (fn_L7_18_t_im i k n a b c d h0 h1 _ rfl).trans (congrArg (fun z => some (Step.go (e18 i k z))) w)
  · exact fn_L7_18_x_im i k 12 rfl _ rfl
theorem run15 (i : Int) (a : 0 ≤ i) (b : i < 12) : op_L7_15 (e15 i 0) = some (0, .n i :: tl12) := by
  rw [op_L7_15_eq]
  refine iterS_count (e15 i) 12 (0, .n i :: tl12) (fun n h0 h1 => ?_) ?_ FU 0 (by omega) (by omega) (by show (12 : Int).toNat < FU; unfold FU; omega)
  · have w := w64s (x := n + 1) (by omega) (by omega)
    refine fn_L7_15_t_im i n a b h0 h1 _ ?_
    unfold fn_L7_15_t
    have e := run18 i n a b h0 h1
    refine sel_t (by erw [e]; rfl) ?_
    erw [e]
    exact congrArg (fun z => some (Step.go (e15 i z))) w
  · exact fn_L7_15_x_im i 12 rfl _ rfl
theorem run12 : op_L7_12 (e12 0) = some (0, []) := by
  rw [op_L7_12_eq]
  refine iterS_count e12 12 (0, []) (fun n h0 h1 => ?_) ?_ FU 0 (by omega) (by omega) (by show (12 : Int).toNat < FU; unfold FU; omega)
  · have w := w64s (x := n + 1) (by omega) (by omega)
    refine fn_L7_12_t_im n h0 h1 _ ?_
    unfold fn_L7_12_t
    have e := run15 n h0 h1
    refine sel_t (by erw [e]; rfl) (sel_t (by erw [e]; exact in12 h0 h1) ?_)
    erw [e]
    exact congrArg (fun z => some (Step.go (e12 z))) w
  · exact fn_L7_12_x_im 12 rfl _ rfl
theorem t7 : (ev_W7 []).sel = some true := by
  refine fn_W7_t_im _ ?_
  unfold fn_W7_t
  have e := run12
  refine sel_t (by erw [e]; rfl) rfl
end Go.Proofs.Ytchedebomjmehaa.Vx
