import Derived.Test.YtkclmlcfdijbmaaX24k
namespace Go.Proofs.Ytkclmlcfdijbmaa.Vx
open Go Go.RowKit
set_option linter.unusedVariables false
set_option linter.unusedSimpArgs false
set_option maxRecDepth 100000
set_option maxHeartbeats 400000
abbrev e13 (l : List (Ty.den TCall24)) (n : Int) : List Dat := [.k 0, .b true, .b false, .n 2, .n 6, .n n, .n 0, .n (-1), .n 0, .n 0, .n 0, .n 0, .n 0, .n 0, .n 0, .l (.int .u8) (List.replicate 64 (0 : Int)), .n 0, .b false, .n 0, .n 1, .b false, .l TCall24 l, .l (.int .i64) pats]
theorem run13 (l : List (Ty.den TCall24)) : op_L7_13 (e13 l 0) = some (0, [.b true, .b false, .n 2, .n 0, .n (-1), .n 0, .n 0, .n 0, .n 0, .n 0, .n 0, .n 0, .l (.int .u8) (List.replicate 64 (0 : Int)), .n 0, .b false, .n 0, .n 1, .b false, .l TCall24 l]) := by
  rw [op_L7_13_eq]
  refine iterS_count (e13 l) 6 (0, [.b true, .b false, .n 2, .n 0, .n (-1), .n 0, .n 0, .n 0, .n 0, .n 0, .n 0, .n 0, .l (.int .u8) (List.replicate 64 (0 : Int)), .n 0, .b false, .n 0, .n 1, .b false, .l TCall24 l]) (fun n h0 h1 => ?_) ?_ FU 0 (by omega) (by omega) (by show (6 : Int).toNat < FU; unfold FU; omega)
  · have w := w64s (x := n + 1) (by omega) (by omega)
    exact (fn_L7_13_t_im n l h0 h1 _ rfl).trans (congrArg (fun z => some (Step.go (e13 l z))) w)
  · exact fn_L7_13_x_im 6 l rfl _ rfl
theorem t7 : (ev_W7 []).sel = some true := by
  refine fn_W7_t_im _ ?_
  unfold fn_W7_t
  have e := run13
  refine sel_t (by erw [e]; rfl) (sel_t (by erw [e]; rfl) (sel_t (by erw [e]; rfl) (sel_t (by erw [e]; rfl) (sel_t (by erw [e]; rfl) rfl))))
end Go.Proofs.Ytkclmlcfdijbmaa.Vx
