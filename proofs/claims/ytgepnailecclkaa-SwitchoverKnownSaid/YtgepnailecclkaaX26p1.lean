import Derived.Test.YtgepnailecclkaaX26h
import Derived.KernelRfl
namespace Go.Proofs.Ytgepnailecclkaa.Vx
open Go Go.RowKit
set_option linter.unusedVariables false
set_option linter.unusedSimpArgs false
set_option maxRecDepth 100000
set_option maxHeartbeats 0

noncomputable def fn_L3_13_r01p0k0 : List Dat → Tree Step
  | [.l (Ty.pair (Ty.int IntKind.u8) (Ty.int IntKind.u8)) l0, .n n1, .n n2, .n n3, .n n4, .n n5, .n n6, .n n7, .n n8, .n n9, .n n10, .n n11, .n n12, .n n13, .n n14, .n n15, .n n16, .n n17] =>
    (.leaf (Step.go [.k 0, .l TSt l0, .n (IntKind.wrap .i64 (n1 + (1 : Int))), .n (IntKind.wrap .i64 (n2 + (1 : Int))), .l (Ty.int IntKind.i64) [n3, n4], .n n5, .n n6, .n n7, .l (Ty.int IntKind.i64) [n8, n14], .n (0 : Int), .n n10, .n n11, .n (0 : Int), .n n12, .n n13, .n (1 : Int), .n n14, .n n15, .n (1 : Int), .n n16, .n n17]))
  | _ => .bad 0
theorem fn_L3_13_r01p0k0_im (l0 : List (Ty.den TSt)) (n1 : Int) (n2 : Int) (n3 : Int) (n4 : Int) (n5 : Int) (n6 : Int) (n7 : Int) (n8 : Int) (n9 : Int) (n10 : Int) (n11 : Int) (n12 : Int) (n13 : Int) (n14 : Int) (n15 : Int) (n16 : Int) (n17 : Int) (g0 : 0 ≤ n2) (g1 :  n2 < (l0.length : Int)) (g2 :  n2 ≤ 400) (g3 :  10 ≤ n1) (g4 :  n1 ≤ 10 + n2) (g5 :  0 ≤ n3) (g6 :  n3 ≤ 2) (g7 :  0 ≤ n4) (g8 :  n4 ≤ 2) (g9 :  0 ≤ n5) (g10 :  n5 ≤ n2) (g11 :  -1 ≤ n6) (g12 :  n6 ≤ 1) (g13 :  (n5 > 0 ∨ n6 = -1)) (g14 :  0 ≤ n7) (g15 :  n7 ≤ n1 + 8) (g16 :  0 ≤ n8) (g17 :  n8 ≤ n5) (g18 :  0 ≤ n9) (g19 :  n9 ≤ n5) (g20 :  0 ≤ n10) (g21 :  n10 ≤ n5) (g22 :  0 ≤ n11) (g23 :  n11 ≤ n1 + 8) (g24 :  0 ≤ n12) (g25 :  n12 ≤ n5) (g26 :  0 ≤ n13) (g27 :  n13 ≤ 4) (g28 :  0 ≤ n14) (g29 :  n14 ≤ n5) (g30 :  0 ≤ n15) (g31 :  n15 ≤ n1 + 8) (g32 :  0 ≤ n16) (g33 :  n16 ≤ n5) (g34 :  0 ≤ n17) (g35 :  n17 ≤ 4) (g36 :  (n11 < n1 ∨ (n6 = 0 ∧ n11 ≤ n7))) (g37 :  (n15 < n1 ∨ (n6 = 1 ∧ n15 ≤ n7))) (g38 :  (sp1 l0 n2) = 0) (g39 :  (sp2 l0 n2) = 0) (g40 :  @Eq Int (gd2 n3 n4 (sp2 l0 n2)) n3) (g41 :  @Eq Int (gd2 n8 n9 (sp2 l0 n2)) n8) : Imp (fn_L3_13_r01p0k0 [.l TSt l0, .n n1, .n n2, .n n3, .n n4, .n n5, .n n6, .n n7, .n n8, .n n9, .n n10, .n n11, .n n12, .n n13, .n n14, .n n15, .n n16, .n n17]) (st_L3_13 [.k 0, .l TSt l0, .n n1, .n n2, .l TI (I2 n3 n4), .n n5, .n n6, .n n7, .l TI (I2 n8 n9), .n 0, .n n10, .n n11, .n 0, .n n12, .n n13, .n 1, .n n14, .n n15, .n 1, .n n16, .n n17]) :=
(.pa [1]
(.pS (c := (decide (n2 < (↑(List.length l0) : Int))))
(.pO (c := (inR n2 (List.length l0)))
(.pa [1]
(.pS (c := (decide (sp2 l0 n2 = (0 : Int))))
(.pa [1,0,1]
(.pO (c := (inR n2 (List.length l0)))
(.pa [1]
(.pS (c := (sp1 l0 n2 == (0 : Int)))
(.pS (c := (sp1 l0 n2 == (0 : Int)))
(.pa [1,1,1,1,0,0,1,0,0,1,0,1]
(.pS (c := (decide (sp2 l0 n2 = (0 : Int))))
(.pa [1,0,1,0,0,1,0,1,1,1,0,1,0,1,0,1,1,0,1,1,0,1,1,0,1,1,0,1]
.lf)))))))))))))

noncomputable def fn_L3_13_r01p0k1 : List Dat → Tree Step
  | [.l (Ty.pair (Ty.int IntKind.u8) (Ty.int IntKind.u8)) l0, .n n1, .n n2, .n n3, .n n4, .n n5, .n n6, .n n7, .n n8, .n n9, .n n10, .n n11, .n n12, .n n13, .n n14, .n n15, .n n16, .n n17] =>
    (.leaf (Step.go [.k 0, .l TSt l0, .n (IntKind.wrap .i64 (n1 + (1 : Int))), .n (IntKind.wrap .i64 (n2 + (1 : Int))), .l (Ty.int IntKind.i64) [n3, n4], .n n5, .n n6, .n n7, .l (Ty.int IntKind.i64) [n8, n14], .n (0 : Int), .n n10, .n n11, .n (0 : Int), .n n12, .n n13, .n (1 : Int), .n n14, .n n15, .n (1 : Int), .n n16, .n n17]))
  | _ => .bad 0
theorem fn_L3_13_r01p0k1_im (l0 : List (Ty.den TSt)) (n1 : Int) (n2 : Int) (n3 : Int) (n4 : Int) (n5 : Int) (n6 : Int) (n7 : Int) (n8 : Int) (n9 : Int) (n10 : Int) (n11 : Int) (n12 : Int) (n13 : Int) (n14 : Int) (n15 : Int) (n16 : Int) (n17 : Int) (g0 : 0 ≤ n2) (g1 :  n2 < (l0.length : Int)) (g2 :  n2 ≤ 400) (g3 :  10 ≤ n1) (g4 :  n1 ≤ 10 + n2) (g5 :  0 ≤ n3) (g6 :  n3 ≤ 2) (g7 :  0 ≤ n4) (g8 :  n4 ≤ 2) (g9 :  0 ≤ n5) (g10 :  n5 ≤ n2) (g11 :  -1 ≤ n6) (g12 :  n6 ≤ 1) (g13 :  (n5 > 0 ∨ n6 = -1)) (g14 :  0 ≤ n7) (g15 :  n7 ≤ n1 + 8) (g16 :  0 ≤ n8) (g17 :  n8 ≤ n5) (g18 :  0 ≤ n9) (g19 :  n9 ≤ n5) (g20 :  0 ≤ n10) (g21 :  n10 ≤ n5) (g22 :  0 ≤ n11) (g23 :  n11 ≤ n1 + 8) (g24 :  0 ≤ n12) (g25 :  n12 ≤ n5) (g26 :  0 ≤ n13) (g27 :  n13 ≤ 4) (g28 :  0 ≤ n14) (g29 :  n14 ≤ n5) (g30 :  0 ≤ n15) (g31 :  n15 ≤ n1 + 8) (g32 :  0 ≤ n16) (g33 :  n16 ≤ n5) (g34 :  0 ≤ n17) (g35 :  n17 ≤ 4) (g36 :  (n11 < n1 ∨ (n6 = 0 ∧ n11 ≤ n7))) (g37 :  (n15 < n1 ∨ (n6 = 1 ∧ n15 ≤ n7))) (g38 :  (sp1 l0 n2) = 1) (g39 :  (sp2 l0 n2) = 0) (g40 :  @Eq Int (gd2 n3 n4 (sp2 l0 n2)) n3) (g41 :  @Eq Int (gd2 n8 n9 (sp2 l0 n2)) n8) : Imp (fn_L3_13_r01p0k1 [.l TSt l0, .n n1, .n n2, .n n3, .n n4, .n n5, .n n6, .n n7, .n n8, .n n9, .n n10, .n n11, .n n12, .n n13, .n n14, .n n15, .n n16, .n n17]) (st_L3_13 [.k 0, .l TSt l0, .n n1, .n n2, .l TI (I2 n3 n4), .n n5, .n n6, .n n7, .l TI (I2 n8 n9), .n 0, .n n10, .n n11, .n 0, .n n12, .n n13, .n 1, .n n14, .n n15, .n 1, .n n16, .n n17]) :=
(.pa [1]
(.pS (c := (decide (n2 < (↑(List.length l0) : Int))))
(.pO (c := (inR n2 (List.length l0)))
(.pa [1]
(.pS (c := (decide (sp2 l0 n2 = (0 : Int))))
(.pa [1,0,1]
(.pO (c := (inR n2 (List.length l0)))
(.pa [1]
(.qS (c := (sp1 l0 n2 == (0 : Int)))
(.pS (c := (sp1 l0 n2 == (1 : Int)))
(.pa [1,1,1,1,0,0,1,0,0,1,0,1]
(.pS (c := (decide (sp2 l0 n2 = (0 : Int))))
(.pa [1,0,1,0,0,1,0,1,1,1,0,1,0,1,0,1,1,0,1,1,0,1,1,0,1,1,0,1]
.lf)))))))))))))

noncomputable def fn_L3_13_r01p0k2 : List Dat → Tree Step
  | [.l (Ty.pair (Ty.int IntKind.u8) (Ty.int IntKind.u8)) l0, .n n1, .n n2, .n n3, .n n4, .n n5, .n n6, .n n7, .n n8, .n n9, .n n10, .n n11, .n n12, .n n13, .n n14, .n n15, .n n16, .n n17] =>
    (.node (decide (IntKind.wrap .i64 (n13 + (1 : Int)) ≤ (4 : Int)))
     (.leaf (Step.go [.k 0, .l TSt l0, .n n1, .n (IntKind.wrap .i64 (n2 + (1 : Int))), .l (Ty.int IntKind.i64) [n3, n4], .n n5, .n n6, .n n7, .l (Ty.int IntKind.i64) [n8, n14], .n (0 : Int), .n n10, .n n11, .n (0 : Int), .n n12, .n (IntKind.wrap .i64 (n13 + (1 : Int))), .n (1 : Int), .n n14, .n n15, .n (1 : Int), .n n16, .n n17]))
     (.node (decide (n5 > (0 : Int)))
      (.node (n6 != (-1 : Int))
       (.node (n6 != sp2 l0 n2)
        (.node (decide (n1 ≤ n7))
         (.leaf (Step.go [.k 0, .l TSt l0, .n n1, .n (IntKind.wrap .i64 (n2 + (1 : Int))), .l (Ty.int IntKind.i64) [n3, n4], .n n5, .n n6, .n n7, .l (Ty.int IntKind.i64) [n8, n14], .n (0 : Int), .n n10, .n n11, .n (0 : Int), .n n12, .n (0 : Int), .n (1 : Int), .n n14, .n n15, .n (1 : Int), .n n16, .n n17]))
         (.node (decide (n14 > (0 : Int)))
          (.leaf (Step.go [.k 0, .l TSt l0, .n n1, .n (IntKind.wrap .i64 (n2 + (1 : Int))), .l (Ty.int IntKind.i64) [n3, n4], .n (IntKind.wrap .i64 (n5 + (1 : Int))), .n (sp2 l0 n2), .n (IntKind.wrap .i64 (n1 + (8 : Int))), .l (Ty.int IntKind.i64) [IntKind.wrap .i64 (n5 + (1 : Int)), n14], .n (0 : Int), .n (IntKind.wrap .i64 (n5 + (1 : Int))), .n (IntKind.wrap .i64 (n1 + (8 : Int))), .n (1 : Int), .n (IntKind.wrap .i64 (n5 + (1 : Int))), .n (0 : Int), .n (1 : Int), .n n14, .n n15, .n (1 : Int), .n n16, .n n17]))
          (.leaf (Step.go [.k 0, .l TSt l0, .n n1, .n (IntKind.wrap .i64 (n2 + (1 : Int))), .l (Ty.int IntKind.i64) [n3, n4], .n (IntKind.wrap .i64 (n5 + (1 : Int))), .n (sp2 l0 n2), .n (IntKind.wrap .i64 (n1 + (8 : Int))), .l (Ty.int IntKind.i64) [IntKind.wrap .i64 (n5 + (1 : Int)), n14], .n (0 : Int), .n (IntKind.wrap .i64 (n5 + (1 : Int))), .n (IntKind.wrap .i64 (n1 + (8 : Int))), .n (1 : Int), .n (IntKind.wrap .i64 (n5 + (1 : Int))), .n (0 : Int), .n (1 : Int), .n n14, .n n15, .n (1 : Int), .n n16, .n n17]))))
        (.node (decide (n14 > (0 : Int)))
         (.node (decide (IntKind.wrap .i64 (n1 - n4) ≤ IntKind.wrap .i64 (n15 - (2 : Int))))
          (.leaf (Step.stop 1 [.b false]))
          (.leaf (Step.go [.k 0, .l TSt l0, .n n1, .n (IntKind.wrap .i64 (n2 + (1 : Int))), .l (Ty.int IntKind.i64) [n3, n4], .n (IntKind.wrap .i64 (n5 + (1 : Int))), .n (sp2 l0 n2), .n (IntKind.wrap .i64 (n1 + (8 : Int))), .l (Ty.int IntKind.i64) [IntKind.wrap .i64 (n5 + (1 : Int)), n14], .n (0 : Int), .n (IntKind.wrap .i64 (n5 + (1 : Int))), .n (IntKind.wrap .i64 (n1 + (8 : Int))), .n (1 : Int), .n (IntKind.wrap .i64 (n5 + (1 : Int))), .n (0 : Int), .n (1 : Int), .n n14, .n n15, .n (1 : Int), .n n16, .n n17])))
         (.leaf (Step.go [.k 0, .l TSt l0, .n n1, .n (IntKind.wrap .i64 (n2 + (1 : Int))), .l (Ty.int IntKind.i64) [n3, n4], .n (IntKind.wrap .i64 (n5 + (1 : Int))), .n (sp2 l0 n2), .n (IntKind.wrap .i64 (n1 + (8 : Int))), .l (Ty.int IntKind.i64) [IntKind.wrap .i64 (n5 + (1 : Int)), n14], .n (0 : Int), .n (IntKind.wrap .i64 (n5 + (1 : Int))), .n (IntKind.wrap .i64 (n1 + (8 : Int))), .n (1 : Int), .n (IntKind.wrap .i64 (n5 + (1 : Int))), .n (0 : Int), .n (1 : Int), .n n14, .n n15, .n (1 : Int), .n n16, .n n17]))))
       (.node (decide (n14 > (0 : Int)))
        (.node (decide (IntKind.wrap .i64 (n1 - n4) ≤ IntKind.wrap .i64 (n15 - (2 : Int))))
         (.leaf (Step.stop 1 [.b false]))
         (.leaf (Step.go [.k 0, .l TSt l0, .n n1, .n (IntKind.wrap .i64 (n2 + (1 : Int))), .l (Ty.int IntKind.i64) [n3, n4], .n (IntKind.wrap .i64 (n5 + (1 : Int))), .n (sp2 l0 n2), .n (IntKind.wrap .i64 (n1 + (8 : Int))), .l (Ty.int IntKind.i64) [IntKind.wrap .i64 (n5 + (1 : Int)), n14], .n (0 : Int), .n (IntKind.wrap .i64 (n5 + (1 : Int))), .n (IntKind.wrap .i64 (n1 + (8 : Int))), .n (1 : Int), .n (IntKind.wrap .i64 (n5 + (1 : Int))), .n (0 : Int), .n (1 : Int), .n n14, .n n15, .n (1 : Int), .n n16, .n n17])))
        (.leaf (Step.go [.k 0, .l TSt l0, .n n1, .n (IntKind.wrap .i64 (n2 + (1 : Int))), .l (Ty.int IntKind.i64) [n3, n4], .n (IntKind.wrap .i64 (n5 + (1 : Int))), .n (sp2 l0 n2), .n (IntKind.wrap .i64 (n1 + (8 : Int))), .l (Ty.int IntKind.i64) [IntKind.wrap .i64 (n5 + (1 : Int)), n14], .n (0 : Int), .n (IntKind.wrap .i64 (n5 + (1 : Int))), .n (IntKind.wrap .i64 (n1 + (8 : Int))), .n (1 : Int), .n (IntKind.wrap .i64 (n5 + (1 : Int))), .n (0 : Int), .n (1 : Int), .n n14, .n n15, .n (1 : Int), .n n16, .n n17]))))
      (.node (n6 != (-1 : Int))
       (.leaf (Step.go [.k 0, .l TSt l0, .n n1, .n (IntKind.wrap .i64 (n2 + (1 : Int))), .l (Ty.int IntKind.i64) [n3, n4], .n n5, .n n6, .n n7, .l (Ty.int IntKind.i64) [n8, n14], .n (0 : Int), .n n10, .n n11, .n (0 : Int), .n n12, .n (0 : Int), .n (1 : Int), .n n14, .n n15, .n (1 : Int), .n n16, .n n17]))
       (.leaf (Step.go [.k 0, .l TSt l0, .n n1, .n (IntKind.wrap .i64 (n2 + (1 : Int))), .l (Ty.int IntKind.i64) [n3, n4], .n (IntKind.wrap .i64 (n5 + (1 : Int))), .n (sp2 l0 n2), .n (IntKind.wrap .i64 (n1 + (8 : Int))), .l (Ty.int IntKind.i64) [IntKind.wrap .i64 (n5 + (1 : Int)), n14], .n (0 : Int), .n (IntKind.wrap .i64 (n5 + (1 : Int))), .n (IntKind.wrap .i64 (n1 + (8 : Int))), .n (1 : Int), .n (IntKind.wrap .i64 (n5 + (1 : Int))), .n (0 : Int), .n (1 : Int), .n n14, .n n15, .n (1 : Int), .n n16, .n n17])))))
  | _ => .bad 0
theorem fn_L3_13_r01p0k2_im (l0 : List (Ty.den TSt)) (n1 : Int) (n2 : Int) (n3 : Int) (n4 : Int) (n5 : Int) (n6 : Int) (n7 : Int) (n8 : Int) (n9 : Int) (n10 : Int) (n11 : Int) (n12 : Int) (n13 : Int) (n14 : Int) (n15 : Int) (n16 : Int) (n17 : Int) (g0 : 0 ≤ n2) (g1 :  n2 < (l0.length : Int)) (g2 :  n2 ≤ 400) (g3 :  10 ≤ n1) (g4 :  n1 ≤ 10 + n2) (g5 :  0 ≤ n3) (g6 :  n3 ≤ 2) (g7 :  0 ≤ n4) (g8 :  n4 ≤ 2) (g9 :  0 ≤ n5) (g10 :  n5 ≤ n2) (g11 :  -1 ≤ n6) (g12 :  n6 ≤ 1) (g13 :  (n5 > 0 ∨ n6 = -1)) (g14 :  0 ≤ n7) (g15 :  n7 ≤ n1 + 8) (g16 :  0 ≤ n8) (g17 :  n8 ≤ n5) (g18 :  0 ≤ n9) (g19 :  n9 ≤ n5) (g20 :  0 ≤ n10) (g21 :  n10 ≤ n5) (g22 :  0 ≤ n11) (g23 :  n11 ≤ n1 + 8) (g24 :  0 ≤ n12) (g25 :  n12 ≤ n5) (g26 :  0 ≤ n13) (g27 :  n13 ≤ 4) (g28 :  0 ≤ n14) (g29 :  n14 ≤ n5) (g30 :  0 ≤ n15) (g31 :  n15 ≤ n1 + 8) (g32 :  0 ≤ n16) (g33 :  n16 ≤ n5) (g34 :  0 ≤ n17) (g35 :  n17 ≤ 4) (g36 :  (n11 < n1 ∨ (n6 = 0 ∧ n11 ≤ n7))) (g37 :  (n15 < n1 ∨ (n6 = 1 ∧ n15 ≤ n7))) (g38 :  (sp1 l0 n2) = 2) (g39 :  (sp2 l0 n2) = 0) (g40 :  @Eq Int (gd2 n3 n4 (sp2 l0 n2)) n3) (g41 :  @Eq Int (gd2 n8 n9 (sp2 l0 n2)) n8) : Imp (fn_L3_13_r01p0k2 [.l TSt l0, .n n1, .n n2, .n n3, .n n4, .n n5, .n n6, .n n7, .n n8, .n n9, .n n10, .n n11, .n n12, .n n13, .n n14, .n n15, .n n16, .n n17]) (st_L3_13 [.k 0, .l TSt l0, .n n1, .n n2, .l TI (I2 n3 n4), .n n5, .n n6, .n n7, .l TI (I2 n8 n9), .n 0, .n n10, .n n11, .n 0, .n n12, .n n13, .n 1, .n n14, .n n15, .n 1, .n n16, .n n17]) :=
(.pa [1]
(.pS (c := (decide (n2 < (↑(List.length l0) : Int))))
(.pO (c := (inR n2 (List.length l0)))
(.pa [1]
(.pS (c := (decide (sp2 l0 n2 = (0 : Int))))
(.pa [1,0,1]
(.pO (c := (inR n2 (List.length l0)))
(.pa [1]
(.qS (c := (sp1 l0 n2 == (0 : Int)))
(.qS (c := (sp1 l0 n2 == (1 : Int)))
(.pS (c := (sp1 l0 n2 == (2 : Int)))
(.pS (c := (sp1 l0 n2 == (2 : Int)))
(.pS (c := (decide (sp2 l0 n2 = (0 : Int))))
(.pO (c := (inR (sp2 l0 n2) 2))
(.pa [1,0]
(.qO (c := (decide (IntKind.wrap .i64 (n1 - (gd2 n3 n4 (sp2 l0 n2))) < (0 : Int))))
(.qO (c := (decide (IntKind.wrap .i64 (n1 - (gd2 n3 n4 (sp2 l0 n2))) > (1099511627776 : Int))))
(.pa [0,1,1]
(.nd (fun h0 =>
(.pa [1,1,1]
(.pO (c := (inR n2 (List.length l0)))
(.pa [1]
(.pS (c := (sp1 l0 n2 == (2 : Int)))
(.pS (c := (decide (sp2 l0 n2 = (0 : Int))))
(.pa [1,0,0,1,1,1,1,1,1,0,0,1,0,0,1,0,1]
(.pS (c := (decide (sp2 l0 n2 = (0 : Int))))
(.pa [1,0,1,0,0,1,0,1,1,1,0,1,0,1,0,1,1,0,1,1,0,1,1,0,1,1,0,1]
.lf))))))))) (fun h0 =>
(.pa [1,1,1]
(.pO (c := (inR n2 (List.length l0)))
(.pa [1]
(.pS (c := (sp1 l0 n2 == (2 : Int)))
(.pS (c := (decide (sp2 l0 n2 = (0 : Int))))
(.pa [1,1,1,1,1,1,1,1]
(.qS (c := (decide (n5 < (0 : Int))))
(.qO (c := (decide (n5 > (1099511627776 : Int))))
(.pa [0,1,1,1,1,1]
(.qS (c := (decide (n7 < (0 : Int))))
(.qO (c := (decide (n7 > (1099511627784 : Int))))
(.pa [0,1,1]
(.pS (c := (decide (n6 ≥ (-1 : Int))))
(.pS (c := (decide (n6 ≤ (1 : Int))))
(.nd (fun h1 =>
(.pa [1,1,1,1,1,1]
(.qS (c := (decide (sp2 l0 n2 < (0 : Int))))
(.qS (c := (decide (sp2 l0 n2 > (1 : Int))))
(.pa [0,1,1,1,1,1]
(.qO (c := (decide (n1 < (0 : Int))))
(.qO (c := (decide (n1 > (1099511627776 : Int))))
(.pa [0,1,1,0]
(.nd (fun h2 =>
(.nd (fun h3 =>
(.nd (fun h4 =>
(.pa [1,1,1,0,1,1,1,1,1,1,1,1,0,0,1,0,0,1,0,1]
(.pS (c := (decide (sp2 l0 n2 = (0 : Int))))
(.pa [1,0,1,0,0,1,0,1,1,1,0,1,0,1,0,1,1,0,1,1,0,1,1,0,1,1,0,1]
.lf)))) (fun h4 =>
(.qO (c := (n5 == (1099511627776 : Int)))
(.pa [1,1,0,1,0]
(.qO (c := (decide (IntKind.wrap .i64 (n5 + (1 : Int)) < (1 : Int))))
(.qO (c := (decide (IntKind.wrap .i64 (n5 + (1 : Int)) > (1099511627776 : Int))))
(.pa [1,1,1,1]
(.qO (c := (decide (IntKind.wrap .i64 (n5 + (1 : Int)) < (0 : Int))))
(.qO (c := (decide (IntKind.wrap .i64 (n5 + (1 : Int)) > (1099511627784 : Int))))
(.pa [1,1]
(.qO (c := (decide (IntKind.wrap .i64 (n1 + (8 : Int)) < (0 : Int))))
(.qO (c := (decide (IntKind.wrap .i64 (n1 + (8 : Int)) > (1099511627784 : Int))))
(.pa [0,1,0]
(.qO (c := (decide (IntKind.wrap .i64 (n5 + (1 : Int)) < n10)))
(.qO (c := (IntKind.wrap .i64 (n5 + (1 : Int)) == n10))
(.pa [1,1,0]
(.qO (c := (IntKind.wrap .i64 (n5 + (1 : Int)) == n10))
(.pa [0,1,0,1]
(.qO (c := (decide (IntKind.wrap .i64 (n5 + (1 : Int)) < n12)))
(.pa [1,1,1,1,1,1,1,1,1,1]
(.pO (c := (decide (IntKind.wrap .i64 (n5 + (1 : Int)) > (0 : Int))))
(.pa [1,1]
(.pO (c := (decide (IntKind.wrap .i64 (n1 - n3) ≤ IntKind.wrap .i64 (IntKind.wrap .i64 (n1 + (8 : Int)) - (2 : Int)))))
(.pa [0,1,1,1,1,1,1]
(.nd (fun h5 =>
(.pa [1,1,1]
(.qO (c := (decide (IntKind.wrap .i64 (n1 - n4) ≤ IntKind.wrap .i64 (n15 - (2 : Int)))))
(.pa [1]
(.pS (c := (decide (sp2 l0 n2 = (0 : Int))))
(.pa [1,0,1,1]
(.pS (c := (decide (sp2 l0 n2 = (0 : Int))))
(.pa [1,0,1]
(.pO (c := (inR (sp2 l0 n2) 2))
(.pa [1]
(.qO (c := (decide (IntKind.wrap .i64 (n5 + (1 : Int)) ≤ (gd2 n8 n9 (sp2 l0 n2)))))
(.pa [1,1,1,0,1,1,1,1,0,1,1,1,0,1,1,0,1,1,0,1,1,0,1,1,0,1]
.lf)))))))))))) (fun h5 =>
(.pa [0,1,1,1,0,1]
(.pS (c := (decide (sp2 l0 n2 = (0 : Int))))
(.pa [1,0,1,1]
(.pS (c := (decide (sp2 l0 n2 = (0 : Int))))
(.pa [1,0,1]
(.pO (c := (inR (sp2 l0 n2) 2))
(.pa [1]
(.qO (c := (decide (IntKind.wrap .i64 (n5 + (1 : Int)) ≤ (gd2 n8 n9 (sp2 l0 n2)))))
(.pa [1,1,1,0,1,1,1,1,0,1,1,1,0,1,1,0,1,1,0,1,1,0,1,1,0,1]
.lf)))))))))))))))))))))))))))))))))))) (fun h3 =>
(.pa [0,0]
(.qO (c := (n5 == (1099511627776 : Int)))
(.pa [1,1,0,1,0]
(.qO (c := (decide (IntKind.wrap .i64 (n5 + (1 : Int)) < (1 : Int))))
(.qO (c := (decide (IntKind.wrap .i64 (n5 + (1 : Int)) > (1099511627776 : Int))))
(.pa [1,1,1,1]
(.qO (c := (decide (IntKind.wrap .i64 (n5 + (1 : Int)) < (0 : Int))))
(.qO (c := (decide (IntKind.wrap .i64 (n5 + (1 : Int)) > (1099511627784 : Int))))
(.pa [1,1]
(.qO (c := (decide (IntKind.wrap .i64 (n1 + (8 : Int)) < (0 : Int))))
(.qO (c := (decide (IntKind.wrap .i64 (n1 + (8 : Int)) > (1099511627784 : Int))))
(.pa [0,1,0]
(.qO (c := (decide (IntKind.wrap .i64 (n5 + (1 : Int)) < n10)))
(.qO (c := (IntKind.wrap .i64 (n5 + (1 : Int)) == n10))
(.pa [1,1,0]
(.qO (c := (IntKind.wrap .i64 (n5 + (1 : Int)) == n10))
(.pa [0,1,0,1]
(.qO (c := (decide (IntKind.wrap .i64 (n5 + (1 : Int)) < n12)))
(.pa [1,1,1,1,1,1,1,1,1,1]
(.pO (c := (decide (IntKind.wrap .i64 (n5 + (1 : Int)) > (0 : Int))))
(.pa [1,1]
(.pO (c := (decide (IntKind.wrap .i64 (n1 - n3) ≤ IntKind.wrap .i64 (IntKind.wrap .i64 (n1 + (8 : Int)) - (2 : Int)))))
(.pa [0,1,1,1,1,1,1]
(.nd (fun h4 =>
(.pa [1,1,1]
(.nd (fun h5 =>
(.pa [1]
.lf)) (fun h5 =>
(.pa [1]
(.pS (c := (decide (sp2 l0 n2 = (0 : Int))))
(.pa [1,0,1,1]
(.pS (c := (decide (sp2 l0 n2 = (0 : Int))))
(.pa [1,0,1]
(.pO (c := (inR (sp2 l0 n2) 2))
(.pa [1]
(.qO (c := (decide (IntKind.wrap .i64 (n5 + (1 : Int)) ≤ (gd2 n8 n9 (sp2 l0 n2)))))
(.pa [1,1,1,0,1,1,1,1,0,1,1,1,0,1,1,0,1,1,0,1,1,0,1,1,0,1]
.lf))))))))))))) (fun h4 =>
(.pa [0,1,1,1,0,1]
(.pS (c := (decide (sp2 l0 n2 = (0 : Int))))
(.pa [1,0,1,1]
(.pS (c := (decide (sp2 l0 n2 = (0 : Int))))
(.pa [1,0,1]
(.pO (c := (inR (sp2 l0 n2) 2))
(.pa [1]
(.qO (c := (decide (IntKind.wrap .i64 (n5 + (1 : Int)) ≤ (gd2 n8 n9 (sp2 l0 n2)))))
(.pa [1,1,1,0,1,1,1,1,0,1,1,1,0,1,1,0,1,1,0,1,1,0,1,1,0,1]
.lf))))))))))))))))))))))))))))))))))))) (fun h2 =>
(.pa [0,0,0,0]
(.qO (c := (n5 == (1099511627776 : Int)))
(.pa [1,1,0,1,0]
(.qO (c := (decide (IntKind.wrap .i64 (n5 + (1 : Int)) < (1 : Int))))
(.qO (c := (decide (IntKind.wrap .i64 (n5 + (1 : Int)) > (1099511627776 : Int))))
(.pa [1,1,1,1]
(.qO (c := (decide (IntKind.wrap .i64 (n5 + (1 : Int)) < (0 : Int))))
(.qO (c := (decide (IntKind.wrap .i64 (n5 + (1 : Int)) > (1099511627784 : Int))))
(.pa [1,1]
(.qO (c := (decide (IntKind.wrap .i64 (n1 + (8 : Int)) < (0 : Int))))
(.qO (c := (decide (IntKind.wrap .i64 (n1 + (8 : Int)) > (1099511627784 : Int))))
(.pa [0,1,0]
(.qO (c := (decide (IntKind.wrap .i64 (n5 + (1 : Int)) < n10)))
(.qO (c := (IntKind.wrap .i64 (n5 + (1 : Int)) == n10))
(.pa [1,1,0]
(.qO (c := (IntKind.wrap .i64 (n5 + (1 : Int)) == n10))
(.pa [0,1,0,1]
(.qO (c := (decide (IntKind.wrap .i64 (n5 + (1 : Int)) < n12)))
(.pa [1,1,1,1,1,1,1,1,1,1]
(.pO (c := (decide (IntKind.wrap .i64 (n5 + (1 : Int)) > (0 : Int))))
(.pa [1,1]
(.pO (c := (decide (IntKind.wrap .i64 (n1 - n3) ≤ IntKind.wrap .i64 (IntKind.wrap .i64 (n1 + (8 : Int)) - (2 : Int)))))
(.pa [0,1,1,1,1,1,1]
(.nd (fun h3 =>
(.pa [1,1,1]
(.nd (fun h4 =>
(.pa [1]
.lf)) (fun h4 =>
(.pa [1]
(.pS (c := (decide (sp2 l0 n2 = (0 : Int))))
(.pa [1,0,1,1]
(.pS (c := (decide (sp2 l0 n2 = (0 : Int))))
(.pa [1,0,1]
(.pO (c := (inR (sp2 l0 n2) 2))
(.pa [1]
(.qO (c := (decide (IntKind.wrap .i64 (n5 + (1 : Int)) ≤ (gd2 n8 n9 (sp2 l0 n2)))))
(.pa [1,1,1,0,1,1,1,1,0,1,1,1,0,1,1,0,1,1,0,1,1,0,1,1,0,1]
.lf))))))))))))) (fun h3 =>
(.pa [0,1,1,1,0,1]
(.pS (c := (decide (sp2 l0 n2 = (0 : Int))))
(.pa [1,0,1,1]
(.pS (c := (decide (sp2 l0 n2 = (0 : Int))))
(.pa [1,0,1]
(.pO (c := (inR (sp2 l0 n2) 2))
(.pa [1]
(.qO (c := (decide (IntKind.wrap .i64 (n5 + (1 : Int)) ≤ (gd2 n8 n9 (sp2 l0 n2)))))
(.pa [1,1,1,0,1,1,1,1,0,1,1,1,0,1,1,0,1,1,0,1,1,0,1,1,0,1]
.lf)))))))))))))))))))))))))))))))))))))))))))) (fun h1 =>
(.pa [1]
(.pO (c := (n6 == (-1 : Int)))
(.pa [1,1,1]
(.qS (c := (decide (sp2 l0 n2 < (0 : Int))))
(.qS (c := (decide (sp2 l0 n2 > (1 : Int))))
(.pa [0,1,1,1,1,1]
(.qO (c := (decide (n1 < (0 : Int))))
(.qO (c := (decide (n1 > (1099511627776 : Int))))
(.pa [0,1,1,0]
(.nd (fun h2 =>
(.pO (c := (n6 != sp2 l0 n2))
(.pO (c := (decide (n1 ≤ n7)))
(.pa [1,1,1,0,1,1,1,1,1,1,1,1,0,0,1,0,0,1,0,1]
(.pS (c := (decide (sp2 l0 n2 = (0 : Int))))
(.pa [1,0,1,0,0,1,0,1,1,1,0,1,0,1,0,1,1,0,1,1,0,1,1,0,1,1,0,1]
.lf)))))) (fun h2 =>
(.pa [0,0,0,0]
(.qO (c := (n5 == (1099511627776 : Int)))
(.pa [1,1,0,1,0]
(.qO (c := (decide (IntKind.wrap .i64 (n5 + (1 : Int)) < (1 : Int))))
(.qO (c := (decide (IntKind.wrap .i64 (n5 + (1 : Int)) > (1099511627776 : Int))))
(.pa [1,1,1,1]
(.qO (c := (decide (IntKind.wrap .i64 (n5 + (1 : Int)) < (0 : Int))))
(.qO (c := (decide (IntKind.wrap .i64 (n5 + (1 : Int)) > (1099511627784 : Int))))
(.pa [1,1]
(.qO (c := (decide (IntKind.wrap .i64 (n1 + (8 : Int)) < (0 : Int))))
(.qO (c := (decide (IntKind.wrap .i64 (n1 + (8 : Int)) > (1099511627784 : Int))))
(.pa [0,1,0]
(.qO (c := (decide (IntKind.wrap .i64 (n5 + (1 : Int)) < n10)))
(.qO (c := (IntKind.wrap .i64 (n5 + (1 : Int)) == n10))
(.pa [1,1,0]
(.qO (c := (IntKind.wrap .i64 (n5 + (1 : Int)) == n10))
(.pa [0,1,0,1]
(.qO (c := (decide (IntKind.wrap .i64 (n5 + (1 : Int)) < n12)))
(.pa [1,1,1,1,1,1,1,1,1,1]
(.pO (c := (decide (IntKind.wrap .i64 (n5 + (1 : Int)) > (0 : Int))))
(.pa [1,1]
(.pO (c := (decide (IntKind.wrap .i64 (n1 - n3) ≤ IntKind.wrap .i64 (IntKind.wrap .i64 (n1 + (8 : Int)) - (2 : Int)))))
(.pa [0,1,1,1,1,1,1]
(.qO (c := (decide (n14 > (0 : Int))))
(.pa [0,1,1,1,0,1]
(.pS (c := (decide (sp2 l0 n2 = (0 : Int))))
(.pa [1,0,1,1]
(.pS (c := (decide (sp2 l0 n2 = (0 : Int))))
(.pa [1,0,1]
(.pO (c := (inR (sp2 l0 n2) 2))
(.pa [1]
(.qO (c := (decide (IntKind.wrap .i64 (n5 + (1 : Int)) ≤ (gd2 n8 n9 (sp2 l0 n2)))))
(.pa [1,1,1,0,1,1,1,1,0,1,1,1,0,1,1,0,1,1,0,1,1,0,1,1,0,1]
.lf))))))))))))))))))))))))))))))))))))))))))))))))))))))))))))))))))))))))))))))))

noncomputable def fn_L3_13_r01p0k3 : List Dat → Tree Step
  | [.l (Ty.pair (Ty.int IntKind.u8) (Ty.int IntKind.u8)) l0, .n n1, .n n2, .n n3, .n n4, .n n5, .n n6, .n n7, .n n8, .n n9, .n n10, .n n11, .n n12, .n n13, .n n14, .n n15, .n n16, .n n17] =>
    (.node (decide (IntKind.wrap .i64 (n13 + (1 : Int)) ≤ (4 : Int)))
     (.leaf (Step.go [.k 0, .l TSt l0, .n n1, .n (IntKind.wrap .i64 (n2 + (1 : Int))), .l (Ty.int IntKind.i64) [n3, n4], .n n5, .n n6, .n n7, .l (Ty.int IntKind.i64) [n8, n14], .n (0 : Int), .n n10, .n n11, .n (0 : Int), .n n12, .n (IntKind.wrap .i64 (n13 + (1 : Int))), .n (1 : Int), .n n14, .n n15, .n (1 : Int), .n n16, .n n17]))
     (.leaf (Step.go [.k 0, .l TSt l0, .n n1, .n (IntKind.wrap .i64 (n2 + (1 : Int))), .l (Ty.int IntKind.i64) [n3, n4], .n n5, .n n6, .n n7, .l (Ty.int IntKind.i64) [n8, n14], .n (0 : Int), .n n10, .n n11, .n (0 : Int), .n n12, .n (0 : Int), .n (1 : Int), .n n14, .n n15, .n (1 : Int), .n n16, .n n17])))
  | _ => .bad 0
theorem fn_L3_13_r01p0k3_im (l0 : List (Ty.den TSt)) (n1 : Int) (n2 : Int) (n3 : Int) (n4 : Int) (n5 : Int) (n6 : Int) (n7 : Int) (n8 : Int) (n9 : Int) (n10 : Int) (n11 : Int) (n12 : Int) (n13 : Int) (n14 : Int) (n15 : Int) (n16 : Int) (n17 : Int) (g0 : 0 ≤ n2) (g1 :  n2 < (l0.length : Int)) (g2 :  n2 ≤ 400) (g3 :  10 ≤ n1) (g4 :  n1 ≤ 10 + n2) (g5 :  0 ≤ n3) (g6 :  n3 ≤ 2) (g7 :  0 ≤ n4) (g8 :  n4 ≤ 2) (g9 :  0 ≤ n5) (g10 :  n5 ≤ n2) (g11 :  -1 ≤ n6) (g12 :  n6 ≤ 1) (g13 :  (n5 > 0 ∨ n6 = -1)) (g14 :  0 ≤ n7) (g15 :  n7 ≤ n1 + 8) (g16 :  0 ≤ n8) (g17 :  n8 ≤ n5) (g18 :  0 ≤ n9) (g19 :  n9 ≤ n5) (g20 :  0 ≤ n10) (g21 :  n10 ≤ n5) (g22 :  0 ≤ n11) (g23 :  n11 ≤ n1 + 8) (g24 :  0 ≤ n12) (g25 :  n12 ≤ n5) (g26 :  0 ≤ n13) (g27 :  n13 ≤ 4) (g28 :  0 ≤ n14) (g29 :  n14 ≤ n5) (g30 :  0 ≤ n15) (g31 :  n15 ≤ n1 + 8) (g32 :  0 ≤ n16) (g33 :  n16 ≤ n5) (g34 :  0 ≤ n17) (g35 :  n17 ≤ 4) (g36 :  (n11 < n1 ∨ (n6 = 0 ∧ n11 ≤ n7))) (g37 :  (n15 < n1 ∨ (n6 = 1 ∧ n15 ≤ n7))) (g38 :  (sp1 l0 n2) = 3) (g39 :  (sp2 l0 n2) = 0) (g40 :  @Eq Int (gd2 n3 n4 (sp2 l0 n2)) n3) (g41 :  @Eq Int (gd2 n8 n9 (sp2 l0 n2)) n8) : Imp (fn_L3_13_r01p0k3 [.l TSt l0, .n n1, .n n2, .n n3, .n n4, .n n5, .n n6, .n n7, .n n8, .n n9, .n n10, .n n11, .n n12, .n n13, .n n14, .n n15, .n n16, .n n17]) (st_L3_13 [.k 0, .l TSt l0, .n n1, .n n2, .l TI (I2 n3 n4), .n n5, .n n6, .n n7, .l TI (I2 n8 n9), .n 0, .n n10, .n n11, .n 0, .n n12, .n n13, .n 1, .n n14, .n n15, .n 1, .n n16, .n n17]) :=
(.pa [1]
(.pS (c := (decide (n2 < (↑(List.length l0) : Int))))
(.pO (c := (inR n2 (List.length l0)))
(.pa [1]
(.pS (c := (decide (sp2 l0 n2 = (0 : Int))))
(.pa [1,0,1]
(.pO (c := (inR n2 (List.length l0)))
(.pa [1]
(.qS (c := (sp1 l0 n2 == (0 : Int)))
(.qS (c := (sp1 l0 n2 == (1 : Int)))
(.qS (c := (sp1 l0 n2 == (2 : Int)))
(.pS (c := (sp1 l0 n2 == (3 : Int)))
(.pS (c := (decide (sp2 l0 n2 = (0 : Int))))
(.pO (c := (inR (sp2 l0 n2) 2))
(.pa [1,0]
(.qO (c := (decide (IntKind.wrap .i64 (n1 - (gd2 n3 n4 (sp2 l0 n2))) < (0 : Int))))
(.qO (c := (decide (IntKind.wrap .i64 (n1 - (gd2 n3 n4 (sp2 l0 n2))) > (1099511627776 : Int))))
(.pa [0,1,1]
(.nd (fun h0 =>
(.pa [1,1,1]
(.pO (c := (inR n2 (List.length l0)))
(.pa [1]
(.qS (c := (sp1 l0 n2 == (2 : Int)))
(.pa [1,1,1,1,0,0,1,0,0,1,0,1]
(.pS (c := (decide (sp2 l0 n2 = (0 : Int))))
(.pa [1,0,1,0,0,1,0,1,1,1,0,1,0,1,0,1,1,0,1,1,0,1,1,0,1,1,0,1]
.lf)))))))) (fun h0 =>
(.pa [1,1,1]
(.pO (c := (inR n2 (List.length l0)))
(.pa [1]
(.qS (c := (sp1 l0 n2 == (2 : Int)))
(.pa [1,1,1,1,0,0,1,0,0,1,0,1]
(.pS (c := (decide (sp2 l0 n2 = (0 : Int))))
(.pa [1,0,1,0,0,1,0,1,1,1,0,1,0,1,0,1,1,0,1,1,0,1,1,0,1,1,0,1]
.lf)))))))))))))))))))))))))))

noncomputable def fn_L3_13_r01p0k4 : List Dat → Tree Step
  | [.l (Ty.pair (Ty.int IntKind.u8) (Ty.int IntKind.u8)) l0, .n n1, .n n2, .n n3, .n n4, .n n5, .n n6, .n n7, .n n8, .n n9, .n n10, .n n11, .n n12, .n n13, .n n14, .n n15, .n n16, .n n17] =>
    (.leaf (Step.go [.k 0, .l TSt l0, .n n1, .n (IntKind.wrap .i64 (n2 + (1 : Int))), .l (Ty.int IntKind.i64) [n3, n4], .n n5, .n n6, .n n7, .l (Ty.int IntKind.i64) [n8, n14], .n (0 : Int), .n n10, .n n11, .n (0 : Int), .n n12, .n n13, .n (1 : Int), .n n14, .n n15, .n (1 : Int), .n n16, .n n17]))
  | _ => .bad 0
theorem fn_L3_13_r01p0k4_im (l0 : List (Ty.den TSt)) (n1 : Int) (n2 : Int) (n3 : Int) (n4 : Int) (n5 : Int) (n6 : Int) (n7 : Int) (n8 : Int) (n9 : Int) (n10 : Int) (n11 : Int) (n12 : Int) (n13 : Int) (n14 : Int) (n15 : Int) (n16 : Int) (n17 : Int) (g0 : 0 ≤ n2) (g1 :  n2 < (l0.length : Int)) (g2 :  n2 ≤ 400) (g3 :  10 ≤ n1) (g4 :  n1 ≤ 10 + n2) (g5 :  0 ≤ n3) (g6 :  n3 ≤ 2) (g7 :  0 ≤ n4) (g8 :  n4 ≤ 2) (g9 :  0 ≤ n5) (g10 :  n5 ≤ n2) (g11 :  -1 ≤ n6) (g12 :  n6 ≤ 1) (g13 :  (n5 > 0 ∨ n6 = -1)) (g14 :  0 ≤ n7) (g15 :  n7 ≤ n1 + 8) (g16 :  0 ≤ n8) (g17 :  n8 ≤ n5) (g18 :  0 ≤ n9) (g19 :  n9 ≤ n5) (g20 :  0 ≤ n10) (g21 :  n10 ≤ n5) (g22 :  0 ≤ n11) (g23 :  n11 ≤ n1 + 8) (g24 :  0 ≤ n12) (g25 :  n12 ≤ n5) (g26 :  0 ≤ n13) (g27 :  n13 ≤ 4) (g28 :  0 ≤ n14) (g29 :  n14 ≤ n5) (g30 :  0 ≤ n15) (g31 :  n15 ≤ n1 + 8) (g32 :  0 ≤ n16) (g33 :  n16 ≤ n5) (g34 :  0 ≤ n17) (g35 :  n17 ≤ 4) (g36 :  (n11 < n1 ∨ (n6 = 0 ∧ n11 ≤ n7))) (g37 :  (n15 < n1 ∨ (n6 = 1 ∧ n15 ≤ n7))) (g38 :  (sp1 l0 n2) = 4) (g39 :  (sp2 l0 n2) = 0) (g40 :  @Eq Int (gd2 n3 n4 (sp2 l0 n2)) n3) (g41 :  @Eq Int (gd2 n8 n9 (sp2 l0 n2)) n8) : Imp (fn_L3_13_r01p0k4 [.l TSt l0, .n n1, .n n2, .n n3, .n n4, .n n5, .n n6, .n n7, .n n8, .n n9, .n n10, .n n11, .n n12, .n n13, .n n14, .n n15, .n n16, .n n17]) (st_L3_13 [.k 0, .l TSt l0, .n n1, .n n2, .l TI (I2 n3 n4), .n n5, .n n6, .n n7, .l TI (I2 n8 n9), .n 0, .n n10, .n n11, .n 0, .n n12, .n n13, .n 1, .n n14, .n n15, .n 1, .n n16, .n n17]) :=
(.pa [1]
(.pS (c := (decide (n2 < (↑(List.length l0) : Int))))
(.pO (c := (inR n2 (List.length l0)))
(.pa [1]
(.pS (c := (decide (sp2 l0 n2 = (0 : Int))))
(.pa [1,0,1]
(.pO (c := (inR n2 (List.length l0)))
(.pa [1]
(.qS (c := (sp1 l0 n2 == (0 : Int)))
(.qS (c := (sp1 l0 n2 == (1 : Int)))
(.qS (c := (sp1 l0 n2 == (2 : Int)))
(.qS (c := (sp1 l0 n2 == (3 : Int)))
(.pS (c := (sp1 l0 n2 == (4 : Int)))
(.pS (c := (decide (sp2 l0 n2 = (0 : Int))))
(.pa [1,0,1,0,1,1,1,1,0,0,1,0,0,1,0,1]
(.pS (c := (decide (sp2 l0 n2 = (0 : Int))))
(.pa [1,0,1,0,0,1,0,1,1,1,0,1,0,1,0,1,1,0,1,1,0,1,1,0,1,1,0,1]
.lf)))))))))))))))))

noncomputable def fn_L3_13_r01p0k5 : List Dat → Tree Step
  | [.l (Ty.pair (Ty.int IntKind.u8) (Ty.int IntKind.u8)) l0, .n n1, .n n2, .n n3, .n n4, .n n5, .n n6, .n n7, .n n8, .n n9, .n n10, .n n11, .n n12, .n n13, .n n14, .n n15, .n n16, .n n17] =>
    (.node (decide (n5 > (0 : Int)))
     (.node (n6 != (-1 : Int))
      (.node (n6 != sp2 l0 n2)
       (.node (decide (n1 ≤ n7))
        (.leaf (Step.go [.k 0, .l TSt l0, .n n1, .n (IntKind.wrap .i64 (n2 + (1 : Int))), .l (Ty.int IntKind.i64) [n3, n4], .n n5, .n n6, .n n7, .l (Ty.int IntKind.i64) [n8, n14], .n (0 : Int), .n n10, .n n11, .n (0 : Int), .n n12, .n n13, .n (1 : Int), .n n14, .n n15, .n (1 : Int), .n n16, .n n17]))
        (.node (decide (n14 > (0 : Int)))
         (.leaf (Step.go [.k 0, .l TSt l0, .n n1, .n (IntKind.wrap .i64 (n2 + (1 : Int))), .l (Ty.int IntKind.i64) [n3, n4], .n (IntKind.wrap .i64 (n5 + (1 : Int))), .n (sp2 l0 n2), .n (IntKind.wrap .i64 (n1 + (8 : Int))), .l (Ty.int IntKind.i64) [IntKind.wrap .i64 (n5 + (1 : Int)), n14], .n (0 : Int), .n (IntKind.wrap .i64 (n5 + (1 : Int))), .n (IntKind.wrap .i64 (n1 + (8 : Int))), .n (1 : Int), .n (IntKind.wrap .i64 (n5 + (1 : Int))), .n (0 : Int), .n (1 : Int), .n n14, .n n15, .n (1 : Int), .n n16, .n n17]))
         (.leaf (Step.go [.k 0, .l TSt l0, .n n1, .n (IntKind.wrap .i64 (n2 + (1 : Int))), .l (Ty.int IntKind.i64) [n3, n4], .n (IntKind.wrap .i64 (n5 + (1 : Int))), .n (sp2 l0 n2), .n (IntKind.wrap .i64 (n1 + (8 : Int))), .l (Ty.int IntKind.i64) [IntKind.wrap .i64 (n5 + (1 : Int)), n14], .n (0 : Int), .n (IntKind.wrap .i64 (n5 + (1 : Int))), .n (IntKind.wrap .i64 (n1 + (8 : Int))), .n (1 : Int), .n (IntKind.wrap .i64 (n5 + (1 : Int))), .n (0 : Int), .n (1 : Int), .n n14, .n n15, .n (1 : Int), .n n16, .n n17]))))
       (.node (decide (n14 > (0 : Int)))
        (.node (decide (IntKind.wrap .i64 (n1 - n4) ≤ IntKind.wrap .i64 (n15 - (2 : Int))))
         (.leaf (Step.stop 1 [.b false]))
         (.leaf (Step.go [.k 0, .l TSt l0, .n n1, .n (IntKind.wrap .i64 (n2 + (1 : Int))), .l (Ty.int IntKind.i64) [n3, n4], .n (IntKind.wrap .i64 (n5 + (1 : Int))), .n (sp2 l0 n2), .n (IntKind.wrap .i64 (n1 + (8 : Int))), .l (Ty.int IntKind.i64) [IntKind.wrap .i64 (n5 + (1 : Int)), n14], .n (0 : Int), .n (IntKind.wrap .i64 (n5 + (1 : Int))), .n (IntKind.wrap .i64 (n1 + (8 : Int))), .n (1 : Int), .n (IntKind.wrap .i64 (n5 + (1 : Int))), .n (0 : Int), .n (1 : Int), .n n14, .n n15, .n (1 : Int), .n n16, .n n17])))
        (.leaf (Step.go [.k 0, .l TSt l0, .n n1, .n (IntKind.wrap .i64 (n2 + (1 : Int))), .l (Ty.int IntKind.i64) [n3, n4], .n (IntKind.wrap .i64 (n5 + (1 : Int))), .n (sp2 l0 n2), .n (IntKind.wrap .i64 (n1 + (8 : Int))), .l (Ty.int IntKind.i64) [IntKind.wrap .i64 (n5 + (1 : Int)), n14], .n (0 : Int), .n (IntKind.wrap .i64 (n5 + (1 : Int))), .n (IntKind.wrap .i64 (n1 + (8 : Int))), .n (1 : Int), .n (IntKind.wrap .i64 (n5 + (1 : Int))), .n (0 : Int), .n (1 : Int), .n n14, .n n15, .n (1 : Int), .n n16, .n n17]))))
      (.node (decide (n14 > (0 : Int)))
       (.node (decide (IntKind.wrap .i64 (n1 - n4) ≤ IntKind.wrap .i64 (n15 - (2 : Int))))
        (.leaf (Step.stop 1 [.b false]))
        (.leaf (Step.go [.k 0, .l TSt l0, .n n1, .n (IntKind.wrap .i64 (n2 + (1 : Int))), .l (Ty.int IntKind.i64) [n3, n4], .n (IntKind.wrap .i64 (n5 + (1 : Int))), .n (sp2 l0 n2), .n (IntKind.wrap .i64 (n1 + (8 : Int))), .l (Ty.int IntKind.i64) [IntKind.wrap .i64 (n5 + (1 : Int)), n14], .n (0 : Int), .n (IntKind.wrap .i64 (n5 + (1 : Int))), .n (IntKind.wrap .i64 (n1 + (8 : Int))), .n (1 : Int), .n (IntKind.wrap .i64 (n5 + (1 : Int))), .n (0 : Int), .n (1 : Int), .n n14, .n n15, .n (1 : Int), .n n16, .n n17])))
       (.leaf (Step.go [.k 0, .l TSt l0, .n n1, .n (IntKind.wrap .i64 (n2 + (1 : Int))), .l (Ty.int IntKind.i64) [n3, n4], .n (IntKind.wrap .i64 (n5 + (1 : Int))), .n (sp2 l0 n2), .n (IntKind.wrap .i64 (n1 + (8 : Int))), .l (Ty.int IntKind.i64) [IntKind.wrap .i64 (n5 + (1 : Int)), n14], .n (0 : Int), .n (IntKind.wrap .i64 (n5 + (1 : Int))), .n (IntKind.wrap .i64 (n1 + (8 : Int))), .n (1 : Int), .n (IntKind.wrap .i64 (n5 + (1 : Int))), .n (0 : Int), .n (1 : Int), .n n14, .n n15, .n (1 : Int), .n n16, .n n17]))))
     (.node (n6 != (-1 : Int))
      (.leaf (Step.go [.k 0, .l TSt l0, .n n1, .n (IntKind.wrap .i64 (n2 + (1 : Int))), .l (Ty.int IntKind.i64) [n3, n4], .n n5, .n n6, .n n7, .l (Ty.int IntKind.i64) [n8, n14], .n (0 : Int), .n n10, .n n11, .n (0 : Int), .n n12, .n n13, .n (1 : Int), .n n14, .n n15, .n (1 : Int), .n n16, .n n17]))
      (.leaf (Step.go [.k 0, .l TSt l0, .n n1, .n (IntKind.wrap .i64 (n2 + (1 : Int))), .l (Ty.int IntKind.i64) [n3, n4], .n (IntKind.wrap .i64 (n5 + (1 : Int))), .n (sp2 l0 n2), .n (IntKind.wrap .i64 (n1 + (8 : Int))), .l (Ty.int IntKind.i64) [IntKind.wrap .i64 (n5 + (1 : Int)), n14], .n (0 : Int), .n (IntKind.wrap .i64 (n5 + (1 : Int))), .n (IntKind.wrap .i64 (n1 + (8 : Int))), .n (1 : Int), .n (IntKind.wrap .i64 (n5 + (1 : Int))), .n (0 : Int), .n (1 : Int), .n n14, .n n15, .n (1 : Int), .n n16, .n n17]))))
  | _ => .bad 0
theorem fn_L3_13_r01p0k5_im (l0 : List (Ty.den TSt)) (n1 : Int) (n2 : Int) (n3 : Int) (n4 : Int) (n5 : Int) (n6 : Int) (n7 : Int) (n8 : Int) (n9 : Int) (n10 : Int) (n11 : Int) (n12 : Int) (n13 : Int) (n14 : Int) (n15 : Int) (n16 : Int) (n17 : Int) (g0 : 0 ≤ n2) (g1 :  n2 < (l0.length : Int)) (g2 :  n2 ≤ 400) (g3 :  10 ≤ n1) (g4 :  n1 ≤ 10 + n2) (g5 :  0 ≤ n3) (g6 :  n3 ≤ 2) (g7 :  0 ≤ n4) (g8 :  n4 ≤ 2) (g9 :  0 ≤ n5) (g10 :  n5 ≤ n2) (g11 :  -1 ≤ n6) (g12 :  n6 ≤ 1) (g13 :  (n5 > 0 ∨ n6 = -1)) (g14 :  0 ≤ n7) (g15 :  n7 ≤ n1 + 8) (g16 :  0 ≤ n8) (g17 :  n8 ≤ n5) (g18 :  0 ≤ n9) (g19 :  n9 ≤ n5) (g20 :  0 ≤ n10) (g21 :  n10 ≤ n5) (g22 :  0 ≤ n11) (g23 :  n11 ≤ n1 + 8) (g24 :  0 ≤ n12) (g25 :  n12 ≤ n5) (g26 :  0 ≤ n13) (g27 :  n13 ≤ 4) (g28 :  0 ≤ n14) (g29 :  n14 ≤ n5) (g30 :  0 ≤ n15) (g31 :  n15 ≤ n1 + 8) (g32 :  0 ≤ n16) (g33 :  n16 ≤ n5) (g34 :  0 ≤ n17) (g35 :  n17 ≤ 4) (g36 :  (n11 < n1 ∨ (n6 = 0 ∧ n11 ≤ n7))) (g37 :  (n15 < n1 ∨ (n6 = 1 ∧ n15 ≤ n7))) (g38 :  (sp1 l0 n2) = 5) (g39 :  (sp2 l0 n2) = 0) (g40 :  @Eq Int (gd2 n3 n4 (sp2 l0 n2)) n3) (g41 :  @Eq Int (gd2 n8 n9 (sp2 l0 n2)) n8) : Imp (fn_L3_13_r01p0k5 [.l TSt l0, .n n1, .n n2, .n n3, .n n4, .n n5, .n n6, .n n7, .n n8, .n n9, .n n10, .n n11, .n n12, .n n13, .n n14, .n n15, .n n16, .n n17]) (st_L3_13 [.k 0, .l TSt l0, .n n1, .n n2, .l TI (I2 n3 n4), .n n5, .n n6, .n n7, .l TI (I2 n8 n9), .n 0, .n n10, .n n11, .n 0, .n n12, .n n13, .n 1, .n n14, .n n15, .n 1, .n n16, .n n17]) :=
(.pa [1]
(.pS (c := (decide (n2 < (↑(List.length l0) : Int))))
(.pO (c := (inR n2 (List.length l0)))
(.pa [1]
(.pS (c := (decide (sp2 l0 n2 = (0 : Int))))
(.pa [1,0,1]
(.pO (c := (inR n2 (List.length l0)))
(.pa [1]
(.qS (c := (sp1 l0 n2 == (0 : Int)))
(.qS (c := (sp1 l0 n2 == (1 : Int)))
(.qS (c := (sp1 l0 n2 == (2 : Int)))
(.qS (c := (sp1 l0 n2 == (3 : Int)))
(.qS (c := (sp1 l0 n2 == (4 : Int)))
(.pS (c := (decide (sp2 l0 n2 = (0 : Int))))
(.pa [1,1,1,1,1,1,1,1]
(.qS (c := (decide (n5 < (0 : Int))))
(.qO (c := (decide (n5 > (1099511627776 : Int))))
(.pa [0,1,1,1,1,1]
(.qS (c := (decide (n7 < (0 : Int))))
(.qO (c := (decide (n7 > (1099511627784 : Int))))
(.pa [0,1,1]
(.pS (c := (decide (n6 ≥ (-1 : Int))))
(.pS (c := (decide (n6 ≤ (1 : Int))))
(.nd (fun h0 =>
(.pa [1,1,1,1,1,1]
(.qS (c := (decide (sp2 l0 n2 < (0 : Int))))
(.qS (c := (decide (sp2 l0 n2 > (1 : Int))))
(.pa [0,1,1,1,1,1]
(.qO (c := (decide (n1 < (0 : Int))))
(.qO (c := (decide (n1 > (1099511627776 : Int))))
(.pa [0,1,1,0]
(.nd (fun h1 =>
(.nd (fun h2 =>
(.nd (fun h3 =>
(.pa [1,1,1,0,1,1,1,1,1,1,1,1,0,0,1,0,0,1,0,1]
(.pS (c := (decide (sp2 l0 n2 = (0 : Int))))
(.pa [1,0,1,0,0,1,0,1,1,1,0,1,0,1,0,1,1,0,1,1,0,1,1,0,1,1,0,1]
.lf)))) (fun h3 =>
(.qO (c := (n5 == (1099511627776 : Int)))
(.pa [1,1,0,1,0]
(.qO (c := (decide (IntKind.wrap .i64 (n5 + (1 : Int)) < (1 : Int))))
(.qO (c := (decide (IntKind.wrap .i64 (n5 + (1 : Int)) > (1099511627776 : Int))))
(.pa [1,1,1,1]
(.qO (c := (decide (IntKind.wrap .i64 (n5 + (1 : Int)) < (0 : Int))))
(.qO (c := (decide (IntKind.wrap .i64 (n5 + (1 : Int)) > (1099511627784 : Int))))
(.pa [1,1]
(.qO (c := (decide (IntKind.wrap .i64 (n1 + (8 : Int)) < (0 : Int))))
(.qO (c := (decide (IntKind.wrap .i64 (n1 + (8 : Int)) > (1099511627784 : Int))))
(.pa [0,1,0]
(.qO (c := (decide (IntKind.wrap .i64 (n5 + (1 : Int)) < n10)))
(.qO (c := (IntKind.wrap .i64 (n5 + (1 : Int)) == n10))
(.pa [1,1,0]
(.qO (c := (IntKind.wrap .i64 (n5 + (1 : Int)) == n10))
(.pa [0,1,0,1]
(.qO (c := (decide (IntKind.wrap .i64 (n5 + (1 : Int)) < n12)))
(.pa [1,1,1,1,1,1,1,1,1,1]
(.pO (c := (decide (IntKind.wrap .i64 (n5 + (1 : Int)) > (0 : Int))))
(.pa [1,1]
(.pO (c := (decide (IntKind.wrap .i64 (n1 - n3) ≤ IntKind.wrap .i64 (IntKind.wrap .i64 (n1 + (8 : Int)) - (2 : Int)))))
(.pa [0,1,1,1,1,1,1]
(.nd (fun h4 =>
(.pa [1,1,1]
(.qO (c := (decide (IntKind.wrap .i64 (n1 - n4) ≤ IntKind.wrap .i64 (n15 - (2 : Int)))))
(.pa [1]
(.pS (c := (decide (sp2 l0 n2 = (0 : Int))))
(.pa [1,0,1,1]
(.pS (c := (decide (sp2 l0 n2 = (0 : Int))))
(.pa [1,0,1]
(.pO (c := (inR (sp2 l0 n2) 2))
(.pa [1]
(.qO (c := (decide (IntKind.wrap .i64 (n5 + (1 : Int)) ≤ (gd2 n8 n9 (sp2 l0 n2)))))
(.pa [1,1,1,0,1,1,1,1,0,1,1,1,0,1,1,0,1,1,0,1,1,0,1,1,0,1]
.lf)))))))))))) (fun h4 =>
(.pa [0,1,1,1,0,1]
(.pS (c := (decide (sp2 l0 n2 = (0 : Int))))
(.pa [1,0,1,1]
(.pS (c := (decide (sp2 l0 n2 = (0 : Int))))
(.pa [1,0,1]
(.pO (c := (inR (sp2 l0 n2) 2))
(.pa [1]
(.qO (c := (decide (IntKind.wrap .i64 (n5 + (1 : Int)) ≤ (gd2 n8 n9 (sp2 l0 n2)))))
(.pa [1,1,1,0,1,1,1,1,0,1,1,1,0,1,1,0,1,1,0,1,1,0,1,1,0,1]
.lf)))))))))))))))))))))))))))))))))))) (fun h2 =>
(.pa [0,0]
(.qO (c := (n5 == (1099511627776 : Int)))
(.pa [1,1,0,1,0]
(.qO (c := (decide (IntKind.wrap .i64 (n5 + (1 : Int)) < (1 : Int))))
(.qO (c := (decide (IntKind.wrap .i64 (n5 + (1 : Int)) > (1099511627776 : Int))))
(.pa [1,1,1,1]
(.qO (c := (decide (IntKind.wrap .i64 (n5 + (1 : Int)) < (0 : Int))))
(.qO (c := (decide (IntKind.wrap .i64 (n5 + (1 : Int)) > (1099511627784 : Int))))
(.pa [1,1]
(.qO (c := (decide (IntKind.wrap .i64 (n1 + (8 : Int)) < (0 : Int))))
(.qO (c := (decide (IntKind.wrap .i64 (n1 + (8 : Int)) > (1099511627784 : Int))))
(.pa [0,1,0]
(.qO (c := (decide (IntKind.wrap .i64 (n5 + (1 : Int)) < n10)))
(.qO (c := (IntKind.wrap .i64 (n5 + (1 : Int)) == n10))
(.pa [1,1,0]
(.qO (c := (IntKind.wrap .i64 (n5 + (1 : Int)) == n10))
(.pa [0,1,0,1]
(.qO (c := (decide (IntKind.wrap .i64 (n5 + (1 : Int)) < n12)))
(.pa [1,1,1,1,1,1,1,1,1,1]
(.pO (c := (decide (IntKind.wrap .i64 (n5 + (1 : Int)) > (0 : Int))))
(.pa [1,1]
(.pO (c := (decide (IntKind.wrap .i64 (n1 - n3) ≤ IntKind.wrap .i64 (IntKind.wrap .i64 (n1 + (8 : Int)) - (2 : Int)))))
(.pa [0,1,1,1,1,1,1]
(.nd (fun h3 =>
(.pa [1,1,1]
(.nd (fun h4 =>
(.pa [1]
.lf)) (fun h4 =>
(.pa [1]
(.pS (c := (decide (sp2 l0 n2 = (0 : Int))))
(.pa [1,0,1,1]
(.pS (c := (decide (sp2 l0 n2 = (0 : Int))))
(.pa [1,0,1]
(.pO (c := (inR (sp2 l0 n2) 2))
(.pa [1]
(.qO (c := (decide (IntKind.wrap .i64 (n5 + (1 : Int)) ≤ (gd2 n8 n9 (sp2 l0 n2)))))
(.pa [1,1,1,0,1,1,1,1,0,1,1,1,0,1,1,0,1,1,0,1,1,0,1,1,0,1]
.lf))))))))))))) (fun h3 =>
(.pa [0,1,1,1,0,1]
(.pS (c := (decide (sp2 l0 n2 = (0 : Int))))
(.pa [1,0,1,1]
(.pS (c := (decide (sp2 l0 n2 = (0 : Int))))
(.pa [1,0,1]
(.pO (c := (inR (sp2 l0 n2) 2))
(.pa [1]
(.qO (c := (decide (IntKind.wrap .i64 (n5 + (1 : Int)) ≤ (gd2 n8 n9 (sp2 l0 n2)))))
(.pa [1,1,1,0,1,1,1,1,0,1,1,1,0,1,1,0,1,1,0,1,1,0,1,1,0,1]
.lf))))))))))))))))))))))))))))))))))))) (fun h1 =>
(.pa [0,0,0,0]
(.qO (c := (n5 == (1099511627776 : Int)))
(.pa [1,1,0,1,0]
(.qO (c := (decide (IntKind.wrap .i64 (n5 + (1 : Int)) < (1 : Int))))
(.qO (c := (decide (IntKind.wrap .i64 (n5 + (1 : Int)) > (1099511627776 : Int))))
(.pa [1,1,1,1]
(.qO (c := (decide (IntKind.wrap .i64 (n5 + (1 : Int)) < (0 : Int))))
(.qO (c := (decide (IntKind.wrap .i64 (n5 + (1 : Int)) > (1099511627784 : Int))))
(.pa [1,1]
(.qO (c := (decide (IntKind.wrap .i64 (n1 + (8 : Int)) < (0 : Int))))
(.qO (c := (decide (IntKind.wrap .i64 (n1 + (8 : Int)) > (1099511627784 : Int))))
(.pa [0,1,0]
(.qO (c := (decide (IntKind.wrap .i64 (n5 + (1 : Int)) < n10)))
(.qO (c := (IntKind.wrap .i64 (n5 + (1 : Int)) == n10))
(.pa [1,1,0]
(.qO (c := (IntKind.wrap .i64 (n5 + (1 : Int)) == n10))
(.pa [0,1,0,1]
(.qO (c := (decide (IntKind.wrap .i64 (n5 + (1 : Int)) < n12)))
(.pa [1,1,1,1,1,1,1,1,1,1]
(.pO (c := (decide (IntKind.wrap .i64 (n5 + (1 : Int)) > (0 : Int))))
(.pa [1,1]
(.pO (c := (decide (IntKind.wrap .i64 (n1 - n3) ≤ IntKind.wrap .i64 (IntKind.wrap .i64 (n1 + (8 : Int)) - (2 : Int)))))
(.pa [0,1,1,1,1,1,1]
(.nd (fun h2 =>
(.pa [1,1,1]
(.nd (fun h3 =>
(.pa [1]
.lf)) (fun h3 =>
(.pa [1]
(.pS (c := (decide (sp2 l0 n2 = (0 : Int))))
(.pa [1,0,1,1]
(.pS (c := (decide (sp2 l0 n2 = (0 : Int))))
(.pa [1,0,1]
(.pO (c := (inR (sp2 l0 n2) 2))
(.pa [1]
(.qO (c := (decide (IntKind.wrap .i64 (n5 + (1 : Int)) ≤ (gd2 n8 n9 (sp2 l0 n2)))))
(.pa [1,1,1,0,1,1,1,1,0,1,1,1,0,1,1,0,1,1,0,1,1,0,1,1,0,1]
.lf))))))))))))) (fun h2 =>
(.pa [0,1,1,1,0,1]
(.pS (c := (decide (sp2 l0 n2 = (0 : Int))))
(.pa [1,0,1,1]
(.pS (c := (decide (sp2 l0 n2 = (0 : Int))))
(.pa [1,0,1]
(.pO (c := (inR (sp2 l0 n2) 2))
(.pa [1]
(.qO (c := (decide (IntKind.wrap .i64 (n5 + (1 : Int)) ≤ (gd2 n8 n9 (sp2 l0 n2)))))
(.pa [1,1,1,0,1,1,1,1,0,1,1,1,0,1,1,0,1,1,0,1,1,0,1,1,0,1]
.lf)))))))))))))))))))))))))))))))))))))))))))) (fun h0 =>
(.pa [1]
(.pO (c := (n6 == (-1 : Int)))
(.pa [1,1,1]
(.qS (c := (decide (sp2 l0 n2 < (0 : Int))))
(.qS (c := (decide (sp2 l0 n2 > (1 : Int))))
(.pa [0,1,1,1,1,1]
(.qO (c := (decide (n1 < (0 : Int))))
(.qO (c := (decide (n1 > (1099511627776 : Int))))
(.pa [0,1,1,0]
(.nd (fun h1 =>
(.pO (c := (n6 != sp2 l0 n2))
(.pO (c := (decide (n1 ≤ n7)))
(.pa [1,1,1,0,1,1,1,1,1,1,1,1,0,0,1,0,0,1,0,1]
(.pS (c := (decide (sp2 l0 n2 = (0 : Int))))
(.pa [1,0,1,0,0,1,0,1,1,1,0,1,0,1,0,1,1,0,1,1,0,1,1,0,1,1,0,1]
.lf)))))) (fun h1 =>
(.pa [0,0,0,0]
(.qO (c := (n5 == (1099511627776 : Int)))
(.pa [1,1,0,1,0]
(.qO (c := (decide (IntKind.wrap .i64 (n5 + (1 : Int)) < (1 : Int))))
(.qO (c := (decide (IntKind.wrap .i64 (n5 + (1 : Int)) > (1099511627776 : Int))))
(.pa [1,1,1,1]
(.qO (c := (decide (IntKind.wrap .i64 (n5 + (1 : Int)) < (0 : Int))))
(.qO (c := (decide (IntKind.wrap .i64 (n5 + (1 : Int)) > (1099511627784 : Int))))
(.pa [1,1]
(.qO (c := (decide (IntKind.wrap .i64 (n1 + (8 : Int)) < (0 : Int))))
(.qO (c := (decide (IntKind.wrap .i64 (n1 + (8 : Int)) > (1099511627784 : Int))))
(.pa [0,1,0]
(.qO (c := (decide (IntKind.wrap .i64 (n5 + (1 : Int)) < n10)))
(.qO (c := (IntKind.wrap .i64 (n5 + (1 : Int)) == n10))
(.pa [1,1,0]
(.qO (c := (IntKind.wrap .i64 (n5 + (1 : Int)) == n10))
(.pa [0,1,0,1]
(.qO (c := (decide (IntKind.wrap .i64 (n5 + (1 : Int)) < n12)))
(.pa [1,1,1,1,1,1,1,1,1,1]
(.pO (c := (decide (IntKind.wrap .i64 (n5 + (1 : Int)) > (0 : Int))))
(.pa [1,1]
(.pO (c := (decide (IntKind.wrap .i64 (n1 - n3) ≤ IntKind.wrap .i64 (IntKind.wrap .i64 (n1 + (8 : Int)) - (2 : Int)))))
(.pa [0,1,1,1,1,1,1]
(.qO (c := (decide (n14 > (0 : Int))))
(.pa [0,1,1,1,0,1]
(.pS (c := (decide (sp2 l0 n2 = (0 : Int))))
(.pa [1,0,1,1]
(.pS (c := (decide (sp2 l0 n2 = (0 : Int))))
(.pa [1,0,1]
(.pO (c := (inR (sp2 l0 n2) 2))
(.pa [1]
(.qO (c := (decide (IntKind.wrap .i64 (n5 + (1 : Int)) ≤ (gd2 n8 n9 (sp2 l0 n2)))))
(.pa [1,1,1,0,1,1,1,1,0,1,1,1,0,1,1,0,1,1,0,1,1,0,1,1,0,1]
.lf)))))))))))))))))))))))))))))))))))))))))))))))))))))))))))))))))))))

noncomputable def fn_L3_13_r01p1k0 : List Dat → Tree Step
  | [.l (Ty.pair (Ty.int IntKind.u8) (Ty.int IntKind.u8)) l0, .n n1, .n n2, .n n3, .n n4, .n n5, .n n6, .n n7, .n n8, .n n9, .n n10, .n n11, .n n12, .n n13, .n n14, .n n15, .n n16, .n n17] =>
    (.leaf (Step.go [.k 0, .l TSt l0, .n (IntKind.wrap .i64 (n1 + (1 : Int))), .n (IntKind.wrap .i64 (n2 + (1 : Int))), .l (Ty.int IntKind.i64) [n3, n4], .n n5, .n n6, .n n7, .l (Ty.int IntKind.i64) [n8, n14], .n (0 : Int), .n n10, .n n11, .n (0 : Int), .n n12, .n n13, .n (1 : Int), .n n14, .n n15, .n (1 : Int), .n n16, .n n17]))
  | _ => .bad 0
theorem fn_L3_13_r01p1k0_im (l0 : List (Ty.den TSt)) (n1 : Int) (n2 : Int) (n3 : Int) (n4 : Int) (n5 : Int) (n6 : Int) (n7 : Int) (n8 : Int) (n9 : Int) (n10 : Int) (n11 : Int) (n12 : Int) (n13 : Int) (n14 : Int) (n15 : Int) (n16 : Int) (n17 : Int) (g0 : 0 ≤ n2) (g1 :  n2 < (l0.length : Int)) (g2 :  n2 ≤ 400) (g3 :  10 ≤ n1) (g4 :  n1 ≤ 10 + n2) (g5 :  0 ≤ n3) (g6 :  n3 ≤ 2) (g7 :  0 ≤ n4) (g8 :  n4 ≤ 2) (g9 :  0 ≤ n5) (g10 :  n5 ≤ n2) (g11 :  -1 ≤ n6) (g12 :  n6 ≤ 1) (g13 :  (n5 > 0 ∨ n6 = -1)) (g14 :  0 ≤ n7) (g15 :  n7 ≤ n1 + 8) (g16 :  0 ≤ n8) (g17 :  n8 ≤ n5) (g18 :  0 ≤ n9) (g19 :  n9 ≤ n5) (g20 :  0 ≤ n10) (g21 :  n10 ≤ n5) (g22 :  0 ≤ n11) (g23 :  n11 ≤ n1 + 8) (g24 :  0 ≤ n12) (g25 :  n12 ≤ n5) (g26 :  0 ≤ n13) (g27 :  n13 ≤ 4) (g28 :  0 ≤ n14) (g29 :  n14 ≤ n5) (g30 :  0 ≤ n15) (g31 :  n15 ≤ n1 + 8) (g32 :  0 ≤ n16) (g33 :  n16 ≤ n5) (g34 :  0 ≤ n17) (g35 :  n17 ≤ 4) (g36 :  (n11 < n1 ∨ (n6 = 0 ∧ n11 ≤ n7))) (g37 :  (n15 < n1 ∨ (n6 = 1 ∧ n15 ≤ n7))) (g38 :  (sp1 l0 n2) = 0) (g39 :  (sp2 l0 n2) = 1) (g40 :  @Eq Int (gd2 n3 n4 (sp2 l0 n2)) n4) (g41 :  @Eq Int (gd2 n8 n9 (sp2 l0 n2)) n9) : Imp (fn_L3_13_r01p1k0 [.l TSt l0, .n n1, .n n2, .n n3, .n n4, .n n5, .n n6, .n n7, .n n8, .n n9, .n n10, .n n11, .n n12, .n n13, .n n14, .n n15, .n n16, .n n17]) (st_L3_13 [.k 0, .l TSt l0, .n n1, .n n2, .l TI (I2 n3 n4), .n n5, .n n6, .n n7, .l TI (I2 n8 n9), .n 0, .n n10, .n n11, .n 0, .n n12, .n n13, .n 1, .n n14, .n n15, .n 1, .n n16, .n n17]) :=
(.pa [1]
(.pS (c := (decide (n2 < (↑(List.length l0) : Int))))
(.pO (c := (inR n2 (List.length l0)))
(.pa [1]
(.qS (c := (decide (sp2 l0 n2 = (0 : Int))))
(.pS (c := (decide (sp2 l0 n2 = (1 : Int))))
(.pa [1,0,1]
(.pO (c := (inR n2 (List.length l0)))
(.pa [1]
(.pS (c := (sp1 l0 n2 == (0 : Int)))
(.pS (c := (sp1 l0 n2 == (0 : Int)))
(.path (1 ::1 ::1 ::1 ::0 ::0 ::1 ::0 ::0 ::1 ::0 ::0 ::0 ::0 ::0 ::1 ::0 ::1 ::1 ::1 ::0 ::1 ::0 ::1 ::0 ::1 ::1 ::0 ::1 ::1 ::0 ::1 ::1 ::0 ::1 ::1 ::0 ::1 :: []) (by kernel_rfl)
.lf))))))))))))

noncomputable def fn_L3_13_r01p1k1 : List Dat → Tree Step
  | [.l (Ty.pair (Ty.int IntKind.u8) (Ty.int IntKind.u8)) l0, .n n1, .n n2, .n n3, .n n4, .n n5, .n n6, .n n7, .n n8, .n n9, .n n10, .n n11, .n n12, .n n13, .n n14, .n n15, .n n16, .n n17] =>
    (.leaf (Step.go [.k 0, .l TSt l0, .n (IntKind.wrap .i64 (n1 + (1 : Int))), .n (IntKind.wrap .i64 (n2 + (1 : Int))), .l (Ty.int IntKind.i64) [n3, n4], .n n5, .n n6, .n n7, .l (Ty.int IntKind.i64) [n8, n14], .n (0 : Int), .n n10, .n n11, .n (0 : Int), .n n12, .n n13, .n (1 : Int), .n n14, .n n15, .n (1 : Int), .n n16, .n n17]))
  | _ => .bad 0
theorem fn_L3_13_r01p1k1_im (l0 : List (Ty.den TSt)) (n1 : Int) (n2 : Int) (n3 : Int) (n4 : Int) (n5 : Int) (n6 : Int) (n7 : Int) (n8 : Int) (n9 : Int) (n10 : Int) (n11 : Int) (n12 : Int) (n13 : Int) (n14 : Int) (n15 : Int) (n16 : Int) (n17 : Int) (g0 : 0 ≤ n2) (g1 :  n2 < (l0.length : Int)) (g2 :  n2 ≤ 400) (g3 :  10 ≤ n1) (g4 :  n1 ≤ 10 + n2) (g5 :  0 ≤ n3) (g6 :  n3 ≤ 2) (g7 :  0 ≤ n4) (g8 :  n4 ≤ 2) (g9 :  0 ≤ n5) (g10 :  n5 ≤ n2) (g11 :  -1 ≤ n6) (g12 :  n6 ≤ 1) (g13 :  (n5 > 0 ∨ n6 = -1)) (g14 :  0 ≤ n7) (g15 :  n7 ≤ n1 + 8) (g16 :  0 ≤ n8) (g17 :  n8 ≤ n5) (g18 :  0 ≤ n9) (g19 :  n9 ≤ n5) (g20 :  0 ≤ n10) (g21 :  n10 ≤ n5) (g22 :  0 ≤ n11) (g23 :  n11 ≤ n1 + 8) (g24 :  0 ≤ n12) (g25 :  n12 ≤ n5) (g26 :  0 ≤ n13) (g27 :  n13 ≤ 4) (g28 :  0 ≤ n14) (g29 :  n14 ≤ n5) (g30 :  0 ≤ n15) (g31 :  n15 ≤ n1 + 8) (g32 :  0 ≤ n16) (g33 :  n16 ≤ n5) (g34 :  0 ≤ n17) (g35 :  n17 ≤ 4) (g36 :  (n11 < n1 ∨ (n6 = 0 ∧ n11 ≤ n7))) (g37 :  (n15 < n1 ∨ (n6 = 1 ∧ n15 ≤ n7))) (g38 :  (sp1 l0 n2) = 1) (g39 :  (sp2 l0 n2) = 1) (g40 :  @Eq Int (gd2 n3 n4 (sp2 l0 n2)) n4) (g41 :  @Eq Int (gd2 n8 n9 (sp2 l0 n2)) n9) : Imp (fn_L3_13_r01p1k1 [.l TSt l0, .n n1, .n n2, .n n3, .n n4, .n n5, .n n6, .n n7, .n n8, .n n9, .n n10, .n n11, .n n12, .n n13, .n n14, .n n15, .n n16, .n n17]) (st_L3_13 [.k 0, .l TSt l0, .n n1, .n n2, .l TI (I2 n3 n4), .n n5, .n n6, .n n7, .l TI (I2 n8 n9), .n 0, .n n10, .n n11, .n 0, .n n12, .n n13, .n 1, .n n14, .n n15, .n 1, .n n16, .n n17]) :=
(.pa [1]
(.pS (c := (decide (n2 < (↑(List.length l0) : Int))))
(.pO (c := (inR n2 (List.length l0)))
(.pa [1]
(.qS (c := (decide (sp2 l0 n2 = (0 : Int))))
(.pS (c := (decide (sp2 l0 n2 = (1 : Int))))
(.pa [1,0,1]
(.pO (c := (inR n2 (List.length l0)))
(.pa [1]
(.qS (c := (sp1 l0 n2 == (0 : Int)))
(.pS (c := (sp1 l0 n2 == (1 : Int)))
(.path (1 ::1 ::1 ::1 ::0 ::0 ::1 ::0 ::0 ::1 ::0 ::0 ::0 ::0 ::0 ::1 ::0 ::1 ::1 ::1 ::0 ::1 ::0 ::1 ::0 ::1 ::1 ::0 ::1 ::1 ::0 ::1 ::1 ::0 ::1 ::1 ::0 ::1 :: []) (by kernel_rfl)
.lf))))))))))))

noncomputable def fn_L3_13_r01p1k2 : List Dat → Tree Step
  | [.l (Ty.pair (Ty.int IntKind.u8) (Ty.int IntKind.u8)) l0, .n n1, .n n2, .n n3, .n n4, .n n5, .n n6, .n n7, .n n8, .n n9, .n n10, .n n11, .n n12, .n n13, .n n14, .n n15, .n n16, .n n17] =>
    (.node (decide (n14 > (0 : Int)))
     (.node (!decide (IntKind.wrap .i64 (n1 - (gd2 n3 n4 (sp2 l0 n2))) ≤ IntKind.wrap .i64 (n15 - (2 : Int))))
      (.leaf (Step.go [.k 0, .l TSt l0, .n n1, .n (IntKind.wrap .i64 (n2 + (1 : Int))), .l (Ty.int IntKind.i64) [n3, n4], .n n5, .n n6, .n n7, .l (Ty.int IntKind.i64) [n8, n9], .n (0 : Int), .n n10, .n n11, .n (0 : Int), .n n12, .n n13, .n (1 : Int), .n n14, .n n15, .n (0 : Int), .n n16, .n (0 : Int)]))
      (.node (decide (n15 ≤ IntKind.wrap .i64 (IntKind.wrap .i64 (n1 - (gd2 n3 n4 (sp2 l0 n2))) + (4 : Int))))
       (.node (decide (n14 < n5))
        (.leaf (Step.go [.k 0, .l TSt l0, .n n1, .n (IntKind.wrap .i64 (n2 + (1 : Int))), .l (Ty.int IntKind.i64) [n3, n4], .n n5, .n n6, .n n7, .l (Ty.int IntKind.i64) [n8, n9], .n (0 : Int), .n n10, .n n11, .n (0 : Int), .n n12, .n n13, .n (1 : Int), .n n14, .n n15, .n (0 : Int), .n n16, .n (0 : Int)]))
        (.node (n14 != n5)
         (.leaf (Step.go [.k 0, .l TSt l0, .n n1, .n (IntKind.wrap .i64 (n2 + (1 : Int))), .l (Ty.int IntKind.i64) [n3, n4], .n n5, .n n6, .n n7, .l (Ty.int IntKind.i64) [n8, n9], .n (0 : Int), .n n10, .n n11, .n (0 : Int), .n n12, .n n13, .n (1 : Int), .n n14, .n n15, .n (0 : Int), .n n16, .n (0 : Int)]))
         (.node (n6 != sp2 l0 n2)
          (.leaf (Step.go [.k 0, .l TSt l0, .n n1, .n (IntKind.wrap .i64 (n2 + (1 : Int))), .l (Ty.int IntKind.i64) [n3, n4], .n n5, .n n6, .n n7, .l (Ty.int IntKind.i64) [n8, n9], .n (0 : Int), .n n10, .n n11, .n (0 : Int), .n n12, .n n13, .n (1 : Int), .n n14, .n n15, .n (0 : Int), .n n16, .n (0 : Int)]))
          (.node (decide (imax n7 (IntKind.wrap .i64 (n1 + (8 : Int))) < (0 : Int)))
           (.leaf (Step.go [.k 0, .l TSt l0, .n n1, .n (IntKind.wrap .i64 (n2 + (1 : Int))), .l (Ty.int IntKind.i64) [n3, n4], .n n5, .n n6, .n (imax n7 (IntKind.wrap .i64 (n1 + (8 : Int)))), .l (Ty.int IntKind.i64) [n8, n14], .n (0 : Int), .n n10, .n n11, .n (0 : Int), .n n12, .n n13, .n (1 : Int), .n n14, .n n15, .n (1 : Int), .n n16, .n n17]))
           (.node (decide (imax n7 (IntKind.wrap .i64 (n1 + (8 : Int))) > (1099511627784 : Int)))
            (.leaf (Step.go [.k 0, .l TSt l0, .n n1, .n (IntKind.wrap .i64 (n2 + (1 : Int))), .l (Ty.int IntKind.i64) [n3, n4], .n n5, .n n6, .n (imax n7 (IntKind.wrap .i64 (n1 + (8 : Int)))), .l (Ty.int IntKind.i64) [n8, n14], .n (0 : Int), .n n10, .n n11, .n (0 : Int), .n n12, .n n13, .n (1 : Int), .n n14, .n n15, .n (1 : Int), .n n16, .n n17]))
            (.leaf (Step.go [.k 0, .l TSt l0, .n n1, .n (IntKind.wrap .i64 (n2 + (1 : Int))), .l (Ty.int IntKind.i64) [n3, n4], .n n5, .n n6, .n (imax n7 (IntKind.wrap .i64 (n1 + (8 : Int)))), .l (Ty.int IntKind.i64) [n8, n5], .n (0 : Int), .n n10, .n n11, .n (0 : Int), .n n12, .n n13, .n (1 : Int), .n n5, .n (imax (imax n7 (IntKind.wrap .i64 (n1 + (8 : Int)))) n15), .n (1 : Int), .n n5, .n (0 : Int)])))))))
       (.leaf (Step.go [.k 0, .l TSt l0, .n n1, .n (IntKind.wrap .i64 (n2 + (1 : Int))), .l (Ty.int IntKind.i64) [n3, n4], .n n5, .n n6, .n n7, .l (Ty.int IntKind.i64) [n8, n14], .n (0 : Int), .n n10, .n n11, .n (0 : Int), .n n12, .n n13, .n (1 : Int), .n n14, .n n15, .n (1 : Int), .n n16, .n n17]))))
     (.leaf (Step.go [.k 0, .l TSt l0, .n n1, .n (IntKind.wrap .i64 (n2 + (1 : Int))), .l (Ty.int IntKind.i64) [n3, n4], .n n5, .n n6, .n n7, .l (Ty.int IntKind.i64) [n8, n9], .n (0 : Int), .n n10, .n n11, .n (0 : Int), .n n12, .n n13, .n (1 : Int), .n n14, .n n15, .n (0 : Int), .n n16, .n (0 : Int)])))
  | _ => .bad 0
theorem fn_L3_13_r01p1k2_im (l0 : List (Ty.den TSt)) (n1 : Int) (n2 : Int) (n3 : Int) (n4 : Int) (n5 : Int) (n6 : Int) (n7 : Int) (n8 : Int) (n9 : Int) (n10 : Int) (n11 : Int) (n12 : Int) (n13 : Int) (n14 : Int) (n15 : Int) (n16 : Int) (n17 : Int) (g0 : 0 ≤ n2) (g1 :  n2 < (l0.length : Int)) (g2 :  n2 ≤ 400) (g3 :  10 ≤ n1) (g4 :  n1 ≤ 10 + n2) (g5 :  0 ≤ n3) (g6 :  n3 ≤ 2) (g7 :  0 ≤ n4) (g8 :  n4 ≤ 2) (g9 :  0 ≤ n5) (g10 :  n5 ≤ n2) (g11 :  -1 ≤ n6) (g12 :  n6 ≤ 1) (g13 :  (n5 > 0 ∨ n6 = -1)) (g14 :  0 ≤ n7) (g15 :  n7 ≤ n1 + 8) (g16 :  0 ≤ n8) (g17 :  n8 ≤ n5) (g18 :  0 ≤ n9) (g19 :  n9 ≤ n5) (g20 :  0 ≤ n10) (g21 :  n10 ≤ n5) (g22 :  0 ≤ n11) (g23 :  n11 ≤ n1 + 8) (g24 :  0 ≤ n12) (g25 :  n12 ≤ n5) (g26 :  0 ≤ n13) (g27 :  n13 ≤ 4) (g28 :  0 ≤ n14) (g29 :  n14 ≤ n5) (g30 :  0 ≤ n15) (g31 :  n15 ≤ n1 + 8) (g32 :  0 ≤ n16) (g33 :  n16 ≤ n5) (g34 :  0 ≤ n17) (g35 :  n17 ≤ 4) (g36 :  (n11 < n1 ∨ (n6 = 0 ∧ n11 ≤ n7))) (g37 :  (n15 < n1 ∨ (n6 = 1 ∧ n15 ≤ n7))) (g38 :  (sp1 l0 n2) = 2) (g39 :  (sp2 l0 n2) = 1) (g40 :  @Eq Int (gd2 n3 n4 (sp2 l0 n2)) n4) (g41 :  @Eq Int (gd2 n8 n9 (sp2 l0 n2)) n9) : Imp (fn_L3_13_r01p1k2 [.l TSt l0, .n n1, .n n2, .n n3, .n n4, .n n5, .n n6, .n n7, .n n8, .n n9, .n n10, .n n11, .n n12, .n n13, .n n14, .n n15, .n n16, .n n17]) (st_L3_13 [.k 0, .l TSt l0, .n n1, .n n2, .l TI (I2 n3 n4), .n n5, .n n6, .n n7, .l TI (I2 n8 n9), .n 0, .n n10, .n n11, .n 0, .n n12, .n n13, .n 1, .n n14, .n n15, .n 1, .n n16, .n n17]) :=
(.pa [1]
(.pS (c := (decide (n2 < (↑(List.length l0) : Int))))
(.pO (c := (inR n2 (List.length l0)))
(.pa [1]
(.qS (c := (decide (sp2 l0 n2 = (0 : Int))))
(.pS (c := (decide (sp2 l0 n2 = (1 : Int))))
(.pa [1,0,1]
(.pO (c := (inR n2 (List.length l0)))
(.pa [1]
(.qS (c := (sp1 l0 n2 == (0 : Int)))
(.qS (c := (sp1 l0 n2 == (1 : Int)))
(.pS (c := (sp1 l0 n2 == (2 : Int)))
(.pS (c := (sp1 l0 n2 == (2 : Int)))
(.qS (c := (decide (sp2 l0 n2 = (0 : Int))))
(.pS (c := (decide (sp2 l0 n2 = (1 : Int))))
(.pO (c := (inR (sp2 l0 n2) 2))
(.pa [1,0]
(.qO (c := (decide (IntKind.wrap .i64 (n1 - (gd2 n3 n4 (sp2 l0 n2))) < (0 : Int))))
(.qO (c := (decide (IntKind.wrap .i64 (n1 - (gd2 n3 n4 (sp2 l0 n2))) > (1099511627776 : Int))))
(.pa [0,0,1,1,1]
(.nd (fun h0 =>
(.pa [1]
(.nd (fun h1 =>
(.pa [1,1,1,1,1]
(.pO (c := (inR n2 (List.length l0)))
(.pa [1]
(.pS (c := (sp1 l0 n2 == (2 : Int)))
(.qS (c := (decide (sp2 l0 n2 = (0 : Int))))
(.pS (c := (decide (sp2 l0 n2 = (1 : Int))))
(.path (1 ::0 ::0 ::1 ::1 ::1 ::1 ::1 ::1 ::0 ::0 ::1 ::0 ::0 ::1 ::0 ::0 ::0 ::0 ::0 ::1 ::0 ::1 ::1 ::1 ::0 ::1 ::0 ::1 ::0 ::1 ::1 ::0 ::1 ::0 ::0 ::1 :: []) (by kernel_rfl)
.lf)))))))) (fun h1 =>
(.nd (fun h2 =>
(.pa [1,1,1]
(.pO (c := (inR n2 (List.length l0)))
(.pa [1]
(.pS (c := (sp1 l0 n2 == (2 : Int)))
(.qS (c := (decide (sp2 l0 n2 = (0 : Int))))
(.pS (c := (decide (sp2 l0 n2 = (1 : Int))))
(.pa [1,0,1,1,0,1,1,1,1,1,1,1]
(.qS (c := (decide (n5 < (0 : Int))))
(.qO (c := (decide (n5 > (1099511627776 : Int))))
(.pa [0,1,1,1,1,1]
(.qS (c := (decide (n7 < (0 : Int))))
(.qO (c := (decide (n7 > (1099511627784 : Int))))
(.pa [0,1,1]
(.pS (c := (decide (n6 ≥ (-1 : Int))))
(.pS (c := (decide (n6 ≤ (1 : Int))))
(.pO (c := (decide (n5 > (0 : Int))))
(.pa [1,1,1,1,1,1]
(.qS (c := (decide (sp2 l0 n2 < (0 : Int))))
(.qS (c := (decide (sp2 l0 n2 > (1 : Int))))
(.pa [0,1,1,1,1,1]
(.qS (c := (decide (n14 < (0 : Int))))
(.qO (c := (decide (n14 > (1099511627776 : Int))))
(.pa [1,1]
(.qO (c := (decide (n1 < (0 : Int))))
(.qO (c := (decide (n1 > (1099511627776 : Int))))
(.pa [0,1,1,0]
(.nd (fun h3 =>
(.path (1 ::1 ::1 ::1 ::0 ::0 ::1 ::1 ::1 ::1 ::1 ::1 ::1 ::1 ::1 ::0 ::0 ::1 ::0 ::0 ::1 ::0 ::0 ::0 ::0 ::0 ::1 ::0 ::1 ::1 ::1 ::0 ::1 ::0 ::1 ::0 ::1 ::1 ::0 ::1 ::0 ::0 ::1 :: []) (by kernel_rfl)
.lf)) (fun h3 =>
(.nd (fun h4 =>
(.path (1 ::1 ::1 ::1 ::1 ::1 ::1 ::1 ::0 ::0 ::1 ::1 ::1 ::1 ::1 ::1 ::1 ::1 ::1 ::0 ::0 ::1 ::0 ::0 ::1 ::0 ::0 ::0 ::0 ::0 ::1 ::0 ::1 ::1 ::1 ::0 ::1 ::0 ::1 ::0 ::1 ::1 ::0 ::1 ::0 ::0 ::1 :: []) (by kernel_rfl)
.lf)) (fun h4 =>
(.nd (fun h5 =>
(.path (1 ::1 ::1 ::1 ::1 ::1 ::0 ::0 ::1 ::1 ::1 ::1 ::1 ::1 ::1 ::1 ::1 ::0 ::0 ::1 ::0 ::0 ::1 ::0 ::0 ::0 ::0 ::0 ::1 ::0 ::1 ::1 ::1 ::0 ::1 ::0 ::1 ::0 ::1 ::1 ::0 ::1 ::0 ::0 ::1 :: []) (by kernel_rfl)
.lf)) (fun h5 =>
(.qO (c := (decide (n1 > n7)))
(.pa [1,1,1,0,1,0]
(.qO (c := (decide (n5 < (1 : Int))))
(.qO (c := (decide (n5 > (1099511627776 : Int))))
(.pa [1,1,1,1]
(.qS (c := (decide (n5 < (0 : Int))))
(.qO (c := (decide (n5 > (1099511627784 : Int))))
(.pa [1,1]
(.nd (fun h6 =>
(.path (1 ::1 ::1 ::1 ::1 ::1 ::1 ::1 ::1 ::1 ::1 ::1 ::1 ::1 ::0 ::0 ::1 ::0 ::0 ::1 ::0 ::0 ::0 ::0 ::0 ::1 ::0 ::1 ::1 ::1 ::0 ::1 ::0 ::1 ::0 ::1 ::1 ::0 ::1 ::1 ::0 ::1 ::1 ::0 ::1 ::1 ::0 ::1 :: []) (by kernel_rfl)
.lf)) (fun h6 =>
(.nd (fun h7 =>
(.path (1 ::1 ::1 ::1 ::1 ::1 ::1 ::1 ::1 ::1 ::1 ::1 ::0 ::0 ::1 ::0 ::0 ::1 ::0 ::0 ::0 ::0 ::0 ::1 ::0 ::1 ::1 ::1 ::0 ::1 ::0 ::1 ::0 ::1 ::1 ::0 ::1 ::1 ::0 ::1 ::1 ::0 ::1 ::1 ::0 ::1 :: []) (by kernel_rfl)
.lf)) (fun h7 =>
(.pa [0,1,0]
(.qS (c := (decide (n5 < n14)))
(.pO (c := (n5 == n14))
(.pa [1,1,0]
(.pO (c := (n5 == n14))
(.pa [1,0,1]
(.qS (c := (decide (n5 < n16)))
(.path (1 ::1 ::1 ::1 ::1 ::1 ::1 ::1 ::0 ::0 ::1 ::0 ::0 ::1 ::0 ::0 ::0 ::0 ::0 ::1 ::0 ::1 ::1 ::1 ::0 ::1 ::0 ::1 ::0 ::1 ::1 ::0 ::1 ::1 ::0 ::1 ::1 ::0 ::1 ::1 ::0 ::1 :: []) (by kernel_rfl)
.lf))))))))))))))))))))))))))))))))))))))))))))))))))))) (fun h2 =>
(.pa [1,1,1]
(.pO (c := (inR n2 (List.length l0)))
(.pa [1]
(.pS (c := (sp1 l0 n2 == (2 : Int)))
(.qS (c := (decide (sp2 l0 n2 = (0 : Int))))
(.pS (c := (decide (sp2 l0 n2 = (1 : Int))))
(.path (1 ::0 ::0 ::1 ::1 ::1 ::1 ::1 ::1 ::0 ::0 ::1 ::0 ::0 ::1 ::0 ::0 ::0 ::0 ::0 ::1 ::0 ::1 ::1 ::1 ::0 ::1 ::0 ::1 ::0 ::1 ::1 ::0 ::1 ::1 ::0 ::1 ::1 ::0 ::1 ::1 ::0 ::1 :: []) (by kernel_rfl)
.lf))))))))))))) (fun h0 =>
(.pa [0,1,1,1,1,1,1,1]
(.pO (c := (inR n2 (List.length l0)))
(.pa [1]
(.pS (c := (sp1 l0 n2 == (2 : Int)))
(.qS (c := (decide (sp2 l0 n2 = (0 : Int))))
(.pS (c := (decide (sp2 l0 n2 = (1 : Int))))
(.path (1 ::0 ::0 ::1 ::1 ::1 ::1 ::1 ::1 ::0 ::0 ::1 ::0 ::0 ::1 ::0 ::0 ::0 ::0 ::0 ::1 ::0 ::1 ::1 ::1 ::0 ::1 ::0 ::1 ::0 ::1 ::1 ::0 ::1 ::0 ::0 ::1 :: []) (by kernel_rfl)
.lf)))))))))))))))))))))))))))))

noncomputable def fn_L3_13_r01p1k3 : List Dat → Tree Step
  | [.l (Ty.pair (Ty.int IntKind.u8) (Ty.int IntKind.u8)) l0, .n n1, .n n2, .n n3, .n n4, .n n5, .n n6, .n n7, .n n8, .n n9, .n n10, .n n11, .n n12, .n n13, .n n14, .n n15, .n n16, .n n17] =>
    (.node (decide (n14 > (0 : Int)))
     (.node (!decide (IntKind.wrap .i64 (n1 - (gd2 n3 n4 (sp2 l0 n2))) ≤ IntKind.wrap .i64 (n15 - (2 : Int))))
      (.leaf (Step.go [.k 0, .l TSt l0, .n n1, .n (IntKind.wrap .i64 (n2 + (1 : Int))), .l (Ty.int IntKind.i64) [n3, n4], .n n5, .n n6, .n n7, .l (Ty.int IntKind.i64) [n8, n9], .n (0 : Int), .n n10, .n n11, .n (0 : Int), .n n12, .n n13, .n (1 : Int), .n n14, .n n15, .n (0 : Int), .n n16, .n (0 : Int)]))
      (.node (decide (n15 ≤ IntKind.wrap .i64 (IntKind.wrap .i64 (n1 - (gd2 n3 n4 (sp2 l0 n2))) + (4 : Int))))
       (.leaf (Step.go [.k 0, .l TSt l0, .n n1, .n (IntKind.wrap .i64 (n2 + (1 : Int))), .l (Ty.int IntKind.i64) [n3, n4], .n n5, .n n6, .n n7, .l (Ty.int IntKind.i64) [n8, n14], .n (0 : Int), .n n10, .n n11, .n (0 : Int), .n n12, .n n13, .n (1 : Int), .n n14, .n n15, .n (1 : Int), .n n16, .n n17]))
       (.leaf (Step.go [.k 0, .l TSt l0, .n n1, .n (IntKind.wrap .i64 (n2 + (1 : Int))), .l (Ty.int IntKind.i64) [n3, n4], .n n5, .n n6, .n n7, .l (Ty.int IntKind.i64) [n8, n14], .n (0 : Int), .n n10, .n n11, .n (0 : Int), .n n12, .n n13, .n (1 : Int), .n n14, .n n15, .n (1 : Int), .n n16, .n n17]))))
     (.leaf (Step.go [.k 0, .l TSt l0, .n n1, .n (IntKind.wrap .i64 (n2 + (1 : Int))), .l (Ty.int IntKind.i64) [n3, n4], .n n5, .n n6, .n n7, .l (Ty.int IntKind.i64) [n8, n9], .n (0 : Int), .n n10, .n n11, .n (0 : Int), .n n12, .n n13, .n (1 : Int), .n n14, .n n15, .n (0 : Int), .n n16, .n (0 : Int)])))
  | _ => .bad 0
theorem fn_L3_13_r01p1k3_im (l0 : List (Ty.den TSt)) (n1 : Int) (n2 : Int) (n3 : Int) (n4 : Int) (n5 : Int) (n6 : Int) (n7 : Int) (n8 : Int) (n9 : Int) (n10 : Int) (n11 : Int) (n12 : Int) (n13 : Int) (n14 : Int) (n15 : Int) (n16 : Int) (n17 : Int) (g0 : 0 ≤ n2) (g1 :  n2 < (l0.length : Int)) (g2 :  n2 ≤ 400) (g3 :  10 ≤ n1) (g4 :  n1 ≤ 10 + n2) (g5 :  0 ≤ n3) (g6 :  n3 ≤ 2) (g7 :  0 ≤ n4) (g8 :  n4 ≤ 2) (g9 :  0 ≤ n5) (g10 :  n5 ≤ n2) (g11 :  -1 ≤ n6) (g12 :  n6 ≤ 1) (g13 :  (n5 > 0 ∨ n6 = -1)) (g14 :  0 ≤ n7) (g15 :  n7 ≤ n1 + 8) (g16 :  0 ≤ n8) (g17 :  n8 ≤ n5) (g18 :  0 ≤ n9) (g19 :  n9 ≤ n5) (g20 :  0 ≤ n10) (g21 :  n10 ≤ n5) (g22 :  0 ≤ n11) (g23 :  n11 ≤ n1 + 8) (g24 :  0 ≤ n12) (g25 :  n12 ≤ n5) (g26 :  0 ≤ n13) (g27 :  n13 ≤ 4) (g28 :  0 ≤ n14) (g29 :  n14 ≤ n5) (g30 :  0 ≤ n15) (g31 :  n15 ≤ n1 + 8) (g32 :  0 ≤ n16) (g33 :  n16 ≤ n5) (g34 :  0 ≤ n17) (g35 :  n17 ≤ 4) (g36 :  (n11 < n1 ∨ (n6 = 0 ∧ n11 ≤ n7))) (g37 :  (n15 < n1 ∨ (n6 = 1 ∧ n15 ≤ n7))) (g38 :  (sp1 l0 n2) = 3) (g39 :  (sp2 l0 n2) = 1) (g40 :  @Eq Int (gd2 n3 n4 (sp2 l0 n2)) n4) (g41 :  @Eq Int (gd2 n8 n9 (sp2 l0 n2)) n9) : Imp (fn_L3_13_r01p1k3 [.l TSt l0, .n n1, .n n2, .n n3, .n n4, .n n5, .n n6, .n n7, .n n8, .n n9, .n n10, .n n11, .n n12, .n n13, .n n14, .n n15, .n n16, .n n17]) (st_L3_13 [.k 0, .l TSt l0, .n n1, .n n2, .l TI (I2 n3 n4), .n n5, .n n6, .n n7, .l TI (I2 n8 n9), .n 0, .n n10, .n n11, .n 0, .n n12, .n n13, .n 1, .n n14, .n n15, .n 1, .n n16, .n n17]) :=
(.pa [1]
(.pS (c := (decide (n2 < (↑(List.length l0) : Int))))
(.pO (c := (inR n2 (List.length l0)))
(.pa [1]
(.qS (c := (decide (sp2 l0 n2 = (0 : Int))))
(.pS (c := (decide (sp2 l0 n2 = (1 : Int))))
(.pa [1,0,1]
(.pO (c := (inR n2 (List.length l0)))
(.pa [1]
(.qS (c := (sp1 l0 n2 == (0 : Int)))
(.qS (c := (sp1 l0 n2 == (1 : Int)))
(.qS (c := (sp1 l0 n2 == (2 : Int)))
(.pS (c := (sp1 l0 n2 == (3 : Int)))
(.qS (c := (decide (sp2 l0 n2 = (0 : Int))))
(.pS (c := (decide (sp2 l0 n2 = (1 : Int))))
(.pO (c := (inR (sp2 l0 n2) 2))
(.pa [1,0]
(.qO (c := (decide (IntKind.wrap .i64 (n1 - (gd2 n3 n4 (sp2 l0 n2))) < (0 : Int))))
(.qO (c := (decide (IntKind.wrap .i64 (n1 - (gd2 n3 n4 (sp2 l0 n2))) > (1099511627776 : Int))))
(.pa [0,0,1,1,1]
(.nd (fun h0 =>
(.pa [1]
(.nd (fun h1 =>
(.pa [1,1,1,1,1]
(.pO (c := (inR n2 (List.length l0)))
(.pa [1]
(.qS (c := (sp1 l0 n2 == (2 : Int)))
(.path (1 ::1 ::1 ::1 ::0 ::0 ::1 ::0 ::0 ::1 ::0 ::0 ::0 ::0 ::0 ::1 ::0 ::1 ::1 ::1 ::0 ::1 ::0 ::1 ::0 ::1 ::1 ::0 ::1 ::0 ::0 ::1 :: []) (by kernel_rfl)
.lf)))))) (fun h1 =>
(.nd (fun h2 =>
(.pa [1,1,1]
(.pO (c := (inR n2 (List.length l0)))
(.pa [1]
(.qS (c := (sp1 l0 n2 == (2 : Int)))
(.path (1 ::1 ::1 ::1 ::0 ::0 ::1 ::0 ::0 ::1 ::0 ::0 ::0 ::0 ::0 ::1 ::0 ::1 ::1 ::1 ::0 ::1 ::0 ::1 ::0 ::1 ::1 ::0 ::1 ::1 ::0 ::1 ::1 ::0 ::1 ::1 ::0 ::1 :: []) (by kernel_rfl)
.lf)))))) (fun h2 =>
(.pa [1,1,1]
(.pO (c := (inR n2 (List.length l0)))
(.pa [1]
(.qS (c := (sp1 l0 n2 == (2 : Int)))
(.path (1 ::1 ::1 ::1 ::0 ::0 ::1 ::0 ::0 ::1 ::0 ::0 ::0 ::0 ::0 ::1 ::0 ::1 ::1 ::1 ::0 ::1 ::0 ::1 ::0 ::1 ::1 ::0 ::1 ::1 ::0 ::1 ::1 ::0 ::1 ::1 ::0 ::1 :: []) (by kernel_rfl)
.lf))))))))))) (fun h0 =>
(.pa [0,1,1,1,1,1,1,1]
(.pO (c := (inR n2 (List.length l0)))
(.pa [1]
(.qS (c := (sp1 l0 n2 == (2 : Int)))
(.path (1 ::1 ::1 ::1 ::0 ::0 ::1 ::0 ::0 ::1 ::0 ::0 ::0 ::0 ::0 ::1 ::0 ::1 ::1 ::1 ::0 ::1 ::0 ::1 ::0 ::1 ::1 ::0 ::1 ::0 ::0 ::1 :: []) (by kernel_rfl)
.lf)))))))))))))))))))))))))))

noncomputable def fn_L3_13_r01p1k4 : List Dat → Tree Step
  | [.l (Ty.pair (Ty.int IntKind.u8) (Ty.int IntKind.u8)) l0, .n n1, .n n2, .n n3, .n n4, .n n5, .n n6, .n n7, .n n8, .n n9, .n n10, .n n11, .n n12, .n n13, .n n14, .n n15, .n n16, .n n17] =>
    (.node (decide (n14 < (1 : Int)))
     (.leaf (Step.go [.k 0, .l TSt l0, .n n1, .n (IntKind.wrap .i64 (n2 + (1 : Int))), .l (Ty.int IntKind.i64) [n3, n4], .n n5, .n n6, .n n7, .l (Ty.int IntKind.i64) [n8, n14], .n (0 : Int), .n n10, .n n11, .n (0 : Int), .n n12, .n n13, .n (1 : Int), .n n14, .n n15, .n (1 : Int), .n n16, .n n17]))
     (.node (decide (n14 < n12))
      (.leaf (Step.go [.k 0, .l TSt l0, .n n1, .n (IntKind.wrap .i64 (n2 + (1 : Int))), .l (Ty.int IntKind.i64) [n3, n4], .n n5, .n n6, .n n7, .l (Ty.int IntKind.i64) [n8, n14], .n (0 : Int), .n n10, .n n11, .n (0 : Int), .n n12, .n n13, .n (1 : Int), .n n14, .n n15, .n (1 : Int), .n n16, .n n17]))
      (.leaf (Step.go [.k 0, .l TSt l0, .n n1, .n (IntKind.wrap .i64 (n2 + (1 : Int))), .l (Ty.int IntKind.i64) [n3, n4], .n n5, .n n6, .n n7, .l (Ty.int IntKind.i64) [n8, n14], .n (0 : Int), .n n10, .n n11, .n (0 : Int), .n n14, .n (0 : Int), .n (1 : Int), .n n14, .n n15, .n (1 : Int), .n n16, .n n17]))))
  | _ => .bad 0
theorem fn_L3_13_r01p1k4_im (l0 : List (Ty.den TSt)) (n1 : Int) (n2 : Int) (n3 : Int) (n4 : Int) (n5 : Int) (n6 : Int) (n7 : Int) (n8 : Int) (n9 : Int) (n10 : Int) (n11 : Int) (n12 : Int) (n13 : Int) (n14 : Int) (n15 : Int) (n16 : Int) (n17 : Int) (g0 : 0 ≤ n2) (g1 :  n2 < (l0.length : Int)) (g2 :  n2 ≤ 400) (g3 :  10 ≤ n1) (g4 :  n1 ≤ 10 + n2) (g5 :  0 ≤ n3) (g6 :  n3 ≤ 2) (g7 :  0 ≤ n4) (g8 :  n4 ≤ 2) (g9 :  0 ≤ n5) (g10 :  n5 ≤ n2) (g11 :  -1 ≤ n6) (g12 :  n6 ≤ 1) (g13 :  (n5 > 0 ∨ n6 = -1)) (g14 :  0 ≤ n7) (g15 :  n7 ≤ n1 + 8) (g16 :  0 ≤ n8) (g17 :  n8 ≤ n5) (g18 :  0 ≤ n9) (g19 :  n9 ≤ n5) (g20 :  0 ≤ n10) (g21 :  n10 ≤ n5) (g22 :  0 ≤ n11) (g23 :  n11 ≤ n1 + 8) (g24 :  0 ≤ n12) (g25 :  n12 ≤ n5) (g26 :  0 ≤ n13) (g27 :  n13 ≤ 4) (g28 :  0 ≤ n14) (g29 :  n14 ≤ n5) (g30 :  0 ≤ n15) (g31 :  n15 ≤ n1 + 8) (g32 :  0 ≤ n16) (g33 :  n16 ≤ n5) (g34 :  0 ≤ n17) (g35 :  n17 ≤ 4) (g36 :  (n11 < n1 ∨ (n6 = 0 ∧ n11 ≤ n7))) (g37 :  (n15 < n1 ∨ (n6 = 1 ∧ n15 ≤ n7))) (g38 :  (sp1 l0 n2) = 4) (g39 :  (sp2 l0 n2) = 1) (g40 :  @Eq Int (gd2 n3 n4 (sp2 l0 n2)) n4) (g41 :  @Eq Int (gd2 n8 n9 (sp2 l0 n2)) n9) : Imp (fn_L3_13_r01p1k4 [.l TSt l0, .n n1, .n n2, .n n3, .n n4, .n n5, .n n6, .n n7, .n n8, .n n9, .n n10, .n n11, .n n12, .n n13, .n n14, .n n15, .n n16, .n n17]) (st_L3_13 [.k 0, .l TSt l0, .n n1, .n n2, .l TI (I2 n3 n4), .n n5, .n n6, .n n7, .l TI (I2 n8 n9), .n 0, .n n10, .n n11, .n 0, .n n12, .n n13, .n 1, .n n14, .n n15, .n 1, .n n16, .n n17]) :=
(.pa [1]
(.pS (c := (decide (n2 < (↑(List.length l0) : Int))))
(.pO (c := (inR n2 (List.length l0)))
(.pa [1]
(.qS (c := (decide (sp2 l0 n2 = (0 : Int))))
(.pS (c := (decide (sp2 l0 n2 = (1 : Int))))
(.pa [1,0,1]
(.pO (c := (inR n2 (List.length l0)))
(.pa [1]
(.qS (c := (sp1 l0 n2 == (0 : Int)))
(.qS (c := (sp1 l0 n2 == (1 : Int)))
(.qS (c := (sp1 l0 n2 == (2 : Int)))
(.qS (c := (sp1 l0 n2 == (3 : Int)))
(.pS (c := (sp1 l0 n2 == (4 : Int)))
(.qS (c := (decide (sp2 l0 n2 = (0 : Int))))
(.pS (c := (decide (sp2 l0 n2 = (1 : Int))))
(.pa [1,0,1,1]
(.pO (c := (decide (IntKind.wrap .i64 ((1 : Int) - sp2 l0 n2) = (0 : Int))))
(.qS (c := (decide (sp2 l0 n2 = (0 : Int))))
(.pS (c := (decide (sp2 l0 n2 = (1 : Int))))
(.pa [1,0,1,1,0]
(.nd (fun h0 =>
(.path (1 ::1 ::1 ::1 ::1 ::1 ::1 ::1 ::1 ::1 ::0 ::0 ::1 ::0 ::0 ::1 ::0 ::0 ::0 ::0 ::0 ::1 ::0 ::1 ::1 ::1 ::0 ::1 ::0 ::1 ::0 ::1 ::1 ::0 ::1 ::1 ::0 ::1 ::1 ::0 ::1 ::1 ::0 ::1 :: []) (by kernel_rfl)
.lf)) (fun h0 =>
(.qO (c := (decide (n14 > (1099511627776 : Int))))
(.nd (fun h1 =>
(.path (1 ::1 ::1 ::1 ::1 ::1 ::0 ::0 ::1 ::0 ::0 ::1 ::0 ::0 ::0 ::0 ::0 ::1 ::0 ::1 ::1 ::1 ::0 ::1 ::0 ::1 ::0 ::1 ::1 ::0 ::1 ::1 ::0 ::1 ::1 ::0 ::1 ::1 ::0 ::1 :: []) (by kernel_rfl)
.lf)) (fun h1 =>
(.path (1 ::1 ::1 ::1 ::1 ::1 ::1 ::0 ::0 ::1 ::0 ::0 ::1 ::0 ::0 ::0 ::0 ::0 ::1 ::0 ::1 ::1 ::1 ::0 ::1 ::0 ::1 ::0 ::1 ::1 ::0 ::1 ::1 ::0 ::1 ::1 ::0 ::1 ::1 ::0 ::1 :: []) (by kernel_rfl)
.lf)))))))))))))))))))))))))))

noncomputable def fn_L3_13_r01p1k5 : List Dat → Tree Step
  | [.l (Ty.pair (Ty.int IntKind.u8) (Ty.int IntKind.u8)) l0, .n n1, .n n2, .n n3, .n n4, .n n5, .n n6, .n n7, .n n8, .n n9, .n n10, .n n11, .n n12, .n n13, .n n14, .n n15, .n n16, .n n17] =>
    (.node (decide (n5 > (0 : Int)))
     (.node (n6 != (-1 : Int))
      (.node (n6 != sp2 l0 n2)
       (.node (decide (n1 ≤ n7))
        (.leaf (Step.go [.k 0, .l TSt l0, .n n1, .n (IntKind.wrap .i64 (n2 + (1 : Int))), .l (Ty.int IntKind.i64) [n3, n4], .n n5, .n n6, .n n7, .l (Ty.int IntKind.i64) [n8, n9], .n (0 : Int), .n n10, .n n11, .n (0 : Int), .n n12, .n n13, .n (1 : Int), .n n14, .n n15, .n (0 : Int), .n n16, .n (0 : Int)]))
        (.leaf (Step.go [.k 0, .l TSt l0, .n n1, .n (IntKind.wrap .i64 (n2 + (1 : Int))), .l (Ty.int IntKind.i64) [n3, n4], .n (IntKind.wrap .i64 (n5 + (1 : Int))), .n (sp2 l0 n2), .n (IntKind.wrap .i64 (n1 + (8 : Int))), .l (Ty.int IntKind.i64) [n8, IntKind.wrap .i64 (n5 + (1 : Int))], .n (0 : Int), .n n10, .n n11, .n (0 : Int), .n n12, .n n13, .n (1 : Int), .n (IntKind.wrap .i64 (n5 + (1 : Int))), .n (IntKind.wrap .i64 (n1 + (8 : Int))), .n (1 : Int), .n (IntKind.wrap .i64 (n5 + (1 : Int))), .n (0 : Int)])))
       (.leaf (Step.go [.k 0, .l TSt l0, .n n1, .n (IntKind.wrap .i64 (n2 + (1 : Int))), .l (Ty.int IntKind.i64) [n3, n4], .n (IntKind.wrap .i64 (n5 + (1 : Int))), .n (sp2 l0 n2), .n (IntKind.wrap .i64 (n1 + (8 : Int))), .l (Ty.int IntKind.i64) [n8, IntKind.wrap .i64 (n5 + (1 : Int))], .n (0 : Int), .n n10, .n n11, .n (0 : Int), .n n12, .n n13, .n (1 : Int), .n (IntKind.wrap .i64 (n5 + (1 : Int))), .n (IntKind.wrap .i64 (n1 + (8 : Int))), .n (1 : Int), .n (IntKind.wrap .i64 (n5 + (1 : Int))), .n (0 : Int)])))
      (.leaf (Step.go [.k 0, .l TSt l0, .n n1, .n (IntKind.wrap .i64 (n2 + (1 : Int))), .l (Ty.int IntKind.i64) [n3, n4], .n (IntKind.wrap .i64 (n5 + (1 : Int))), .n (sp2 l0 n2), .n (IntKind.wrap .i64 (n1 + (8 : Int))), .l (Ty.int IntKind.i64) [n8, IntKind.wrap .i64 (n5 + (1 : Int))], .n (0 : Int), .n n10, .n n11, .n (0 : Int), .n n12, .n n13, .n (1 : Int), .n (IntKind.wrap .i64 (n5 + (1 : Int))), .n (IntKind.wrap .i64 (n1 + (8 : Int))), .n (1 : Int), .n (IntKind.wrap .i64 (n5 + (1 : Int))), .n (0 : Int)])))
     (.node (n6 != (-1 : Int))
      (.leaf (Step.go [.k 0, .l TSt l0, .n n1, .n (IntKind.wrap .i64 (n2 + (1 : Int))), .l (Ty.int IntKind.i64) [n3, n4], .n n5, .n n6, .n n7, .l (Ty.int IntKind.i64) [n8, n9], .n (0 : Int), .n n10, .n n11, .n (0 : Int), .n n12, .n n13, .n (1 : Int), .n n14, .n n15, .n (0 : Int), .n n16, .n (0 : Int)]))
      (.leaf (Step.go [.k 0, .l TSt l0, .n n1, .n (IntKind.wrap .i64 (n2 + (1 : Int))), .l (Ty.int IntKind.i64) [n3, n4], .n (IntKind.wrap .i64 (n5 + (1 : Int))), .n (sp2 l0 n2), .n (IntKind.wrap .i64 (n1 + (8 : Int))), .l (Ty.int IntKind.i64) [n8, IntKind.wrap .i64 (n5 + (1 : Int))], .n (0 : Int), .n n10, .n n11, .n (0 : Int), .n n12, .n n13, .n (1 : Int), .n (IntKind.wrap .i64 (n5 + (1 : Int))), .n (IntKind.wrap .i64 (n1 + (8 : Int))), .n (1 : Int), .n (IntKind.wrap .i64 (n5 + (1 : Int))), .n (0 : Int)]))))
  | _ => .bad 0
theorem fn_L3_13_r01p1k5_im (l0 : List (Ty.den TSt)) (n1 : Int) (n2 : Int) (n3 : Int) (n4 : Int) (n5 : Int) (n6 : Int) (n7 : Int) (n8 : Int) (n9 : Int) (n10 : Int) (n11 : Int) (n12 : Int) (n13 : Int) (n14 : Int) (n15 : Int) (n16 : Int) (n17 : Int) (g0 : 0 ≤ n2) (g1 :  n2 < (l0.length : Int)) (g2 :  n2 ≤ 400) (g3 :  10 ≤ n1) (g4 :  n1 ≤ 10 + n2) (g5 :  0 ≤ n3) (g6 :  n3 ≤ 2) (g7 :  0 ≤ n4) (g8 :  n4 ≤ 2) (g9 :  0 ≤ n5) (g10 :  n5 ≤ n2) (g11 :  -1 ≤ n6) (g12 :  n6 ≤ 1) (g13 :  (n5 > 0 ∨ n6 = -1)) (g14 :  0 ≤ n7) (g15 :  n7 ≤ n1 + 8) (g16 :  0 ≤ n8) (g17 :  n8 ≤ n5) (g18 :  0 ≤ n9) (g19 :  n9 ≤ n5) (g20 :  0 ≤ n10) (g21 :  n10 ≤ n5) (g22 :  0 ≤ n11) (g23 :  n11 ≤ n1 + 8) (g24 :  0 ≤ n12) (g25 :  n12 ≤ n5) (g26 :  0 ≤ n13) (g27 :  n13 ≤ 4) (g28 :  0 ≤ n14) (g29 :  n14 ≤ n5) (g30 :  0 ≤ n15) (g31 :  n15 ≤ n1 + 8) (g32 :  0 ≤ n16) (g33 :  n16 ≤ n5) (g34 :  0 ≤ n17) (g35 :  n17 ≤ 4) (g36 :  (n11 < n1 ∨ (n6 = 0 ∧ n11 ≤ n7))) (g37 :  (n15 < n1 ∨ (n6 = 1 ∧ n15 ≤ n7))) (g38 :  (sp1 l0 n2) = 5) (g39 :  (sp2 l0 n2) = 1) (g40 :  @Eq Int (gd2 n3 n4 (sp2 l0 n2)) n4) (g41 :  @Eq Int (gd2 n8 n9 (sp2 l0 n2)) n9) : Imp (fn_L3_13_r01p1k5 [.l TSt l0, .n n1, .n n2, .n n3, .n n4, .n n5, .n n6, .n n7, .n n8, .n n9, .n n10, .n n11, .n n12, .n n13, .n n14, .n n15, .n n16, .n n17]) (st_L3_13 [.k 0, .l TSt l0, .n n1, .n n2, .l TI (I2 n3 n4), .n n5, .n n6, .n n7, .l TI (I2 n8 n9), .n 0, .n n10, .n n11, .n 0, .n n12, .n n13, .n 1, .n n14, .n n15, .n 1, .n n16, .n n17]) :=
(.pa [1]
(.pS (c := (decide (n2 < (↑(List.length l0) : Int))))
(.pO (c := (inR n2 (List.length l0)))
(.pa [1]
(.qS (c := (decide (sp2 l0 n2 = (0 : Int))))
(.pS (c := (decide (sp2 l0 n2 = (1 : Int))))
(.pa [1,0,1]
(.pO (c := (inR n2 (List.length l0)))
(.pa [1]
(.qS (c := (sp1 l0 n2 == (0 : Int)))
(.qS (c := (sp1 l0 n2 == (1 : Int)))
(.qS (c := (sp1 l0 n2 == (2 : Int)))
(.qS (c := (sp1 l0 n2 == (3 : Int)))
(.qS (c := (sp1 l0 n2 == (4 : Int)))
(.qS (c := (decide (sp2 l0 n2 = (0 : Int))))
(.pS (c := (decide (sp2 l0 n2 = (1 : Int))))
(.pa [1,1,1,1,1,1,1,1]
(.qS (c := (decide (n5 < (0 : Int))))
(.qO (c := (decide (n5 > (1099511627776 : Int))))
(.pa [0,1,1,1,1,1]
(.qS (c := (decide (n7 < (0 : Int))))
(.qO (c := (decide (n7 > (1099511627784 : Int))))
(.pa [0,1,1]
(.pS (c := (decide (n6 ≥ (-1 : Int))))
(.pS (c := (decide (n6 ≤ (1 : Int))))
(.nd (fun h0 =>
(.pa [1,1,1,1,1,1]
(.qS (c := (decide (sp2 l0 n2 < (0 : Int))))
(.qS (c := (decide (sp2 l0 n2 > (1 : Int))))
(.pa [0,1,1,1,1,1]
(.qO (c := (decide (n1 < (0 : Int))))
(.qO (c := (decide (n1 > (1099511627776 : Int))))
(.pa [0,1,1,0]
(.nd (fun h1 =>
(.nd (fun h2 =>
(.nd (fun h3 =>
(.path (1 ::1 ::1 ::0 ::0 ::1 ::1 ::1 ::1 ::1 ::1 ::1 ::1 ::1 ::0 ::0 ::1 ::0 ::0 ::1 ::0 ::0 ::0 ::0 ::0 ::1 ::0 ::1 ::1 ::1 ::0 ::1 ::0 ::1 ::0 ::1 ::1 ::0 ::1 ::0 ::0 ::1 :: []) (by kernel_rfl)
.lf)) (fun h3 =>
(.qO (c := (n5 == (1099511627776 : Int)))
(.pa [1,1,0,1,0]
(.qO (c := (decide (IntKind.wrap .i64 (n5 + (1 : Int)) < (1 : Int))))
(.qO (c := (decide (IntKind.wrap .i64 (n5 + (1 : Int)) > (1099511627776 : Int))))
(.pa [1,1,1,1]
(.qO (c := (decide (IntKind.wrap .i64 (n5 + (1 : Int)) < (0 : Int))))
(.qO (c := (decide (IntKind.wrap .i64 (n5 + (1 : Int)) > (1099511627784 : Int))))
(.pa [1,1]
(.qO (c := (decide (IntKind.wrap .i64 (n1 + (8 : Int)) < (0 : Int))))
(.qO (c := (decide (IntKind.wrap .i64 (n1 + (8 : Int)) > (1099511627784 : Int))))
(.pa [0,1,0]
(.qO (c := (decide (IntKind.wrap .i64 (n5 + (1 : Int)) < n14)))
(.qO (c := (IntKind.wrap .i64 (n5 + (1 : Int)) == n14))
(.pa [1,1,0]
(.qO (c := (IntKind.wrap .i64 (n5 + (1 : Int)) == n14))
(.pa [0,1,0,1]
(.qO (c := (decide (IntKind.wrap .i64 (n5 + (1 : Int)) < n16)))
(.path (1 ::1 ::1 ::1 ::1 ::1 ::1 ::1 ::0 ::0 ::1 ::0 ::0 ::1 ::0 ::0 ::0 ::0 ::0 ::1 ::0 ::1 ::1 ::1 ::0 ::1 ::0 ::1 ::0 ::1 ::1 ::0 ::1 ::1 ::0 ::1 ::1 ::0 ::1 ::1 ::0 ::1 :: []) (by kernel_rfl)
.lf))))))))))))))))))))) (fun h2 =>
(.pa [0,0]
(.qO (c := (n5 == (1099511627776 : Int)))
(.pa [1,1,0,1,0]
(.qO (c := (decide (IntKind.wrap .i64 (n5 + (1 : Int)) < (1 : Int))))
(.qO (c := (decide (IntKind.wrap .i64 (n5 + (1 : Int)) > (1099511627776 : Int))))
(.pa [1,1,1,1]
(.qO (c := (decide (IntKind.wrap .i64 (n5 + (1 : Int)) < (0 : Int))))
(.qO (c := (decide (IntKind.wrap .i64 (n5 + (1 : Int)) > (1099511627784 : Int))))
(.pa [1,1]
(.qO (c := (decide (IntKind.wrap .i64 (n1 + (8 : Int)) < (0 : Int))))
(.qO (c := (decide (IntKind.wrap .i64 (n1 + (8 : Int)) > (1099511627784 : Int))))
(.pa [0,1,0]
(.qO (c := (decide (IntKind.wrap .i64 (n5 + (1 : Int)) < n14)))
(.qO (c := (IntKind.wrap .i64 (n5 + (1 : Int)) == n14))
(.pa [1,1,0]
(.qO (c := (IntKind.wrap .i64 (n5 + (1 : Int)) == n14))
(.pa [0,1,0,1]
(.qO (c := (decide (IntKind.wrap .i64 (n5 + (1 : Int)) < n16)))
(.path (1 ::1 ::1 ::1 ::1 ::1 ::1 ::1 ::0 ::0 ::1 ::0 ::0 ::1 ::0 ::0 ::0 ::0 ::0 ::1 ::0 ::1 ::1 ::1 ::0 ::1 ::0 ::1 ::0 ::1 ::1 ::0 ::1 ::1 ::0 ::1 ::1 ::0 ::1 ::1 ::0 ::1 :: []) (by kernel_rfl)
.lf)))))))))))))))))))))) (fun h1 =>
(.pa [0,0,0,0]
(.qO (c := (n5 == (1099511627776 : Int)))
(.pa [1,1,0,1,0]
(.qO (c := (decide (IntKind.wrap .i64 (n5 + (1 : Int)) < (1 : Int))))
(.qO (c := (decide (IntKind.wrap .i64 (n5 + (1 : Int)) > (1099511627776 : Int))))
(.pa [1,1,1,1]
(.qO (c := (decide (IntKind.wrap .i64 (n5 + (1 : Int)) < (0 : Int))))
(.qO (c := (decide (IntKind.wrap .i64 (n5 + (1 : Int)) > (1099511627784 : Int))))
(.pa [1,1]
(.qO (c := (decide (IntKind.wrap .i64 (n1 + (8 : Int)) < (0 : Int))))
(.qO (c := (decide (IntKind.wrap .i64 (n1 + (8 : Int)) > (1099511627784 : Int))))
(.pa [0,1,0]
(.qO (c := (decide (IntKind.wrap .i64 (n5 + (1 : Int)) < n14)))
(.qO (c := (IntKind.wrap .i64 (n5 + (1 : Int)) == n14))
(.pa [1,1,0]
(.qO (c := (IntKind.wrap .i64 (n5 + (1 : Int)) == n14))
(.pa [0,1,0,1]
(.qO (c := (decide (IntKind.wrap .i64 (n5 + (1 : Int)) < n16)))
(.path (1 ::1 ::1 ::1 ::1 ::1 ::1 ::1 ::0 ::0 ::1 ::0 ::0 ::1 ::0 ::0 ::0 ::0 ::0 ::1 ::0 ::1 ::1 ::1 ::0 ::1 ::0 ::1 ::0 ::1 ::1 ::0 ::1 ::1 ::0 ::1 ::1 ::0 ::1 ::1 ::0 ::1 :: []) (by kernel_rfl)
.lf))))))))))))))))))))))))))))) (fun h0 =>
(.pa [1]
(.pO (c := (n6 == (-1 : Int)))
(.pa [1,1,1]
(.qS (c := (decide (sp2 l0 n2 < (0 : Int))))
(.qS (c := (decide (sp2 l0 n2 > (1 : Int))))
(.pa [0,1,1,1,1,1]
(.qO (c := (decide (n1 < (0 : Int))))
(.qO (c := (decide (n1 > (1099511627776 : Int))))
(.pa [0,1,1,0]
(.nd (fun h1 =>
(.pO (c := (n6 != sp2 l0 n2))
(.pO (c := (decide (n1 ≤ n7)))
(.path (1 ::1 ::1 ::0 ::0 ::1 ::1 ::1 ::1 ::1 ::1 ::1 ::1 ::1 ::0 ::0 ::1 ::0 ::0 ::1 ::0 ::0 ::0 ::0 ::0 ::1 ::0 ::1 ::1 ::1 ::0 ::1 ::0 ::1 ::0 ::1 ::1 ::0 ::1 ::0 ::0 ::1 :: []) (by kernel_rfl)
.lf)))) (fun h1 =>
(.pa [0,0,0,0]
(.qO (c := (n5 == (1099511627776 : Int)))
(.pa [1,1,0,1,0]
(.qO (c := (decide (IntKind.wrap .i64 (n5 + (1 : Int)) < (1 : Int))))
(.qO (c := (decide (IntKind.wrap .i64 (n5 + (1 : Int)) > (1099511627776 : Int))))
(.pa [1,1,1,1]
(.qO (c := (decide (IntKind.wrap .i64 (n5 + (1 : Int)) < (0 : Int))))
(.qO (c := (decide (IntKind.wrap .i64 (n5 + (1 : Int)) > (1099511627784 : Int))))
(.pa [1,1]
(.qO (c := (decide (IntKind.wrap .i64 (n1 + (8 : Int)) < (0 : Int))))
(.qO (c := (decide (IntKind.wrap .i64 (n1 + (8 : Int)) > (1099511627784 : Int))))
(.pa [0,1,0]
(.qO (c := (decide (IntKind.wrap .i64 (n5 + (1 : Int)) < n14)))
(.qO (c := (IntKind.wrap .i64 (n5 + (1 : Int)) == n14))
(.pa [1,1,0]
(.qO (c := (IntKind.wrap .i64 (n5 + (1 : Int)) == n14))
(.pa [0,1,0,1]
(.qO (c := (decide (IntKind.wrap .i64 (n5 + (1 : Int)) < n16)))
(.path (1 ::1 ::1 ::1 ::1 ::1 ::1 ::1 ::0 ::0 ::1 ::0 ::0 ::1 ::0 ::0 ::0 ::0 ::0 ::1 ::0 ::1 ::1 ::1 ::0 ::1 ::0 ::1 ::0 ::1 ::1 ::0 ::1 ::1 ::0 ::1 ::1 ::0 ::1 ::1 ::0 ::1 :: []) (by kernel_rfl)
.lf)))))))))))))))))))))))))))))))))))))))))))))))))))))))))

end Go.Proofs.Ytgepnailecclkaa.Vx
