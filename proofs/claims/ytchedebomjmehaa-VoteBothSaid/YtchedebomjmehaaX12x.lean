import Derived.Test.YtchedebomjmehaaX12b
import Derived.KernelRfl
namespace Go.Proofs.Ytchedebomjmehaa.Vx
open Go Go.RowKit
set_option linter.unusedVariables false
set_option linter.unusedSimpArgs false
set_option maxRecDepth 100000
set_option maxHeartbeats 0
noncomputable def fn_L4_8_x0 : List Dat → Tree Step
  | [.l (Ty.pair (Ty.int IntKind.i64) (Ty.pair (Ty.int IntKind.i64) (Ty.pair (Ty.int IntKind.i64) (Ty.pair (Ty.int IntKind.i64) (Ty.pair (Ty.int IntKind.u64) (Ty.int IntKind.u32)))))) l0, .n n1, .n n2, .n n3, .b b4] =>
    (.leaf (Step.stop 0 [.n n2, .b b4, .n n2]))
  | _ => .bad 0
theorem fn_L4_8_x0_im (l0 : List (Ty.den (Ty.pair (Ty.int IntKind.i64) (Ty.pair (Ty.int IntKind.i64) (Ty.pair (Ty.int IntKind.i64) (Ty.pair (Ty.int IntKind.i64) (Ty.pair (Ty.int IntKind.u64) (Ty.int IntKind.u32)))))))) (n1 : Int) (n2 : Int) (n3 : Int) (b4 : Bool) (g0 : n3 = (l0.length : Int)) : Imp (fn_L4_8_x0 [.l (Ty.pair (Ty.int IntKind.i64) (Ty.pair (Ty.int IntKind.i64) (Ty.pair (Ty.int IntKind.i64) (Ty.pair (Ty.int IntKind.i64) (Ty.pair (Ty.int IntKind.u64) (Ty.int IntKind.u32)))))) l0, .n n1, .n n2, .n n3, .b b4]) (st_L4_8 [.k 0, .l TCl l0, .n n1, .n n2, .b b4, .n n3, .b b4, .n n2]) :=
(.path [1] (by kernel_rfl)
(.pf (c := (decide (n3 < (↑(List.length l0) : Int)))) (by kernel_rfl) (by kernel_rfl) (by (simp [*]; done))
(.path [1] (by kernel_rfl)
(.leaf (by kernel_rfl)))))

noncomputable def fn_L4_8_x1 : List Dat → Tree Step
  | [.l (Ty.pair (Ty.int IntKind.i64) (Ty.pair (Ty.int IntKind.i64) (Ty.pair (Ty.int IntKind.i64) (Ty.pair (Ty.int IntKind.i64) (Ty.pair (Ty.int IntKind.u64) (Ty.int IntKind.u32)))))) l0, .n n1, .n n2, .n n3, .n n4, .n n5, .n n6, .n n7] =>
    (.leaf (Step.stop 1 [.n n2, .b false, .n n2]))
  | _ => .bad 0
theorem fn_L4_8_x1_im (l0 : List (Ty.den (Ty.pair (Ty.int IntKind.i64) (Ty.pair (Ty.int IntKind.i64) (Ty.pair (Ty.int IntKind.i64) (Ty.pair (Ty.int IntKind.i64) (Ty.pair (Ty.int IntKind.u64) (Ty.int IntKind.u32)))))))) (n1 : Int) (n2 : Int) (n3 : Int) (n4 : Int) (n5 : Int) (n6 : Int) (n7 : Int) (g0 : n3 = (l0.length : Int)) : Imp (fn_L4_8_x1 [.l (Ty.pair (Ty.int IntKind.i64) (Ty.pair (Ty.int IntKind.i64) (Ty.pair (Ty.int IntKind.i64) (Ty.pair (Ty.int IntKind.i64) (Ty.pair (Ty.int IntKind.u64) (Ty.int IntKind.u32)))))) l0, .n n1, .n n2, .n n3, .n n4, .n n5, .n n6, .n n7]) (st_L4_8 [.k 1, .l TCl l0, .n n1, .n n2, .b false, .n n3, .b false, .n n2, .n n4, .n n5, .n n6, .n n7]) :=
(.path [1] (by kernel_rfl)
(.pf (c := (decide (n3 < (↑(List.length l0) : Int)))) (by kernel_rfl) (by kernel_rfl) (by (simp [*]; done))
(.path [1] (by kernel_rfl)
(.leaf (by kernel_rfl)))))

noncomputable def fn_L4_8_x2 : List Dat → Tree Step
  | [.l (Ty.pair (Ty.int IntKind.i64) (Ty.pair (Ty.int IntKind.i64) (Ty.pair (Ty.int IntKind.i64) (Ty.pair (Ty.int IntKind.i64) (Ty.pair (Ty.int IntKind.u64) (Ty.int IntKind.u32)))))) l0, .n n1, .n n2, .n n3, .n n4, .n n5, .n n6, .n n7] =>
    (.leaf (Step.stop 1 [.n n2, .b false, .n n2]))
  | _ => .bad 0
theorem fn_L4_8_x2_im (l0 : List (Ty.den (Ty.pair (Ty.int IntKind.i64) (Ty.pair (Ty.int IntKind.i64) (Ty.pair (Ty.int IntKind.i64) (Ty.pair (Ty.int IntKind.i64) (Ty.pair (Ty.int IntKind.u64) (Ty.int IntKind.u32)))))))) (n1 : Int) (n2 : Int) (n3 : Int) (n4 : Int) (n5 : Int) (n6 : Int) (n7 : Int) (g0 : n3 = (l0.length : Int)) : Imp (fn_L4_8_x2 [.l (Ty.pair (Ty.int IntKind.i64) (Ty.pair (Ty.int IntKind.i64) (Ty.pair (Ty.int IntKind.i64) (Ty.pair (Ty.int IntKind.i64) (Ty.pair (Ty.int IntKind.u64) (Ty.int IntKind.u32)))))) l0, .n n1, .n n2, .n n3, .n n4, .n n5, .n n6, .n n7]) (st_L4_8 [.k 2, .l TCl l0, .n n1, .n n2, .b false, .n n3, .b false, .n n2, .n n4, .n n5, .n n6, .n n7]) :=
(.path [1] (by kernel_rfl)
(.pf (c := (decide (n3 < (↑(List.length l0) : Int)))) (by kernel_rfl) (by kernel_rfl) (by (simp [*]; done))
(.path [1] (by kernel_rfl)
(.leaf (by kernel_rfl)))))

noncomputable def fn_L4_8_x3 : List Dat → Tree Step
  | [.l (Ty.pair (Ty.int IntKind.i64) (Ty.pair (Ty.int IntKind.i64) (Ty.pair (Ty.int IntKind.i64) (Ty.pair (Ty.int IntKind.i64) (Ty.pair (Ty.int IntKind.u64) (Ty.int IntKind.u32)))))) l0, .n n1, .n n2, .n n3, .n n4, .n n5, .n n6] =>
    (.leaf (Step.stop 1 [.n n2, .b false, .n n2]))
  | _ => .bad 0
theorem fn_L4_8_x3_im (l0 : List (Ty.den (Ty.pair (Ty.int IntKind.i64) (Ty.pair (Ty.int IntKind.i64) (Ty.pair (Ty.int IntKind.i64) (Ty.pair (Ty.int IntKind.i64) (Ty.pair (Ty.int IntKind.u64) (Ty.int IntKind.u32)))))))) (n1 : Int) (n2 : Int) (n3 : Int) (n4 : Int) (n5 : Int) (n6 : Int) (g0 : n3 = (l0.length : Int)) : Imp (fn_L4_8_x3 [.l (Ty.pair (Ty.int IntKind.i64) (Ty.pair (Ty.int IntKind.i64) (Ty.pair (Ty.int IntKind.i64) (Ty.pair (Ty.int IntKind.i64) (Ty.pair (Ty.int IntKind.u64) (Ty.int IntKind.u32)))))) l0, .n n1, .n n2, .n n3, .n n4, .n n5, .n n6]) (st_L4_8 [.k 3, .l TCl l0, .n n1, .n n2, .b false, .n n3, .b false, .n n2, .n n2, .n n4, .n n5, .n n6]) :=
(.path [1] (by kernel_rfl)
(.pf (c := (decide (n3 < (↑(List.length l0) : Int)))) (by kernel_rfl) (by kernel_rfl) (by (simp [*]; done))
(.path [1] (by kernel_rfl)
(.leaf (by kernel_rfl)))))

noncomputable def fn_L4_8_x4 : List Dat → Tree Step
  | [.l (Ty.pair (Ty.int IntKind.i64) (Ty.pair (Ty.int IntKind.i64) (Ty.pair (Ty.int IntKind.i64) (Ty.pair (Ty.int IntKind.i64) (Ty.pair (Ty.int IntKind.u64) (Ty.int IntKind.u32)))))) l0, .n n1, .n n2, .n n3, .n n4, .n n5, .n n6, .n n7, .n n8, .n n9, .n n10] =>
    (.leaf (Step.stop 2 [.n n2, .b false, .n n2]))
  | _ => .bad 0
theorem fn_L4_8_x4_im (l0 : List (Ty.den (Ty.pair (Ty.int IntKind.i64) (Ty.pair (Ty.int IntKind.i64) (Ty.pair (Ty.int IntKind.i64) (Ty.pair (Ty.int IntKind.i64) (Ty.pair (Ty.int IntKind.u64) (Ty.int IntKind.u32)))))))) (n1 : Int) (n2 : Int) (n3 : Int) (n4 : Int) (n5 : Int) (n6 : Int) (n7 : Int) (n8 : Int) (n9 : Int) (n10 : Int) (g0 : n3 = (l0.length : Int)) : Imp (fn_L4_8_x4 [.l (Ty.pair (Ty.int IntKind.i64) (Ty.pair (Ty.int IntKind.i64) (Ty.pair (Ty.int IntKind.i64) (Ty.pair (Ty.int IntKind.i64) (Ty.pair (Ty.int IntKind.u64) (Ty.int IntKind.u32)))))) l0, .n n1, .n n2, .n n3, .n n4, .n n5, .n n6, .n n7, .n n8, .n n9, .n n10]) (st_L4_8 [.k 4, .l TCl l0, .n n1, .n n2, .b false, .n n3, .b false, .n n2, .n n4, .n n5, .n n6, .n n7, .n n2, .n n8, .n n9, .n n10]) :=
(.path [1] (by kernel_rfl)
(.pf (c := (decide (n3 < (↑(List.length l0) : Int)))) (by kernel_rfl) (by kernel_rfl) (by (simp [*]; done))
(.path [1] (by kernel_rfl)
(.leaf (by kernel_rfl)))))

noncomputable def fn_L4_8_x5 : List Dat → Tree Step
  | [.l (Ty.pair (Ty.int IntKind.i64) (Ty.pair (Ty.int IntKind.i64) (Ty.pair (Ty.int IntKind.i64) (Ty.pair (Ty.int IntKind.i64) (Ty.pair (Ty.int IntKind.u64) (Ty.int IntKind.u32)))))) l0, .n n1, .n n2, .n n3, .n n4, .n n5, .n n6, .n n7, .n n8, .n n9, .n n10] =>
    (.leaf (Step.stop 2 [.n n2, .b false, .n n2]))
  | _ => .bad 0
theorem fn_L4_8_x5_im (l0 : List (Ty.den (Ty.pair (Ty.int IntKind.i64) (Ty.pair (Ty.int IntKind.i64) (Ty.pair (Ty.int IntKind.i64) (Ty.pair (Ty.int IntKind.i64) (Ty.pair (Ty.int IntKind.u64) (Ty.int IntKind.u32)))))))) (n1 : Int) (n2 : Int) (n3 : Int) (n4 : Int) (n5 : Int) (n6 : Int) (n7 : Int) (n8 : Int) (n9 : Int) (n10 : Int) (g0 : n3 = (l0.length : Int)) : Imp (fn_L4_8_x5 [.l (Ty.pair (Ty.int IntKind.i64) (Ty.pair (Ty.int IntKind.i64) (Ty.pair (Ty.int IntKind.i64) (Ty.pair (Ty.int IntKind.i64) (Ty.pair (Ty.int IntKind.u64) (Ty.int IntKind.u32)))))) l0, .n n1, .n n2, .n n3, .n n4, .n n5, .n n6, .n n7, .n n8, .n n9, .n n10]) (st_L4_8 [.k 5, .l TCl l0, .n n1, .n n2, .b false, .n n3, .b false, .n n2, .n n4, .n n5, .n n6, .n n7, .n n2, .n n8, .n n9, .n n10]) :=
(.path [1] (by kernel_rfl)
(.pf (c := (decide (n3 < (↑(List.length l0) : Int)))) (by kernel_rfl) (by kernel_rfl) (by (simp [*]; done))
(.path [1] (by kernel_rfl)
(.leaf (by kernel_rfl)))))

end Go.Proofs.Ytchedebomjmehaa.Vx
