import Derived.Test.YtcoamiaifbjofaaX20
import Derived.Test.YtcoamiaifbjofaaVxIm
import Derived.Test.YtcoamiaifbjofaaVxLk
import Derived.Test.YtcoamiaifbjofaaVxLaw
import Derived.Test.YtcoamiaifbjofaaX20a
import Derived.KernelRfl
namespace Go.Proofs.Ytcoamiaifbjofaa.Vx
open Go Go.RowKit
set_option linter.unusedVariables false
set_option linter.unusedSimpArgs false
set_option maxRecDepth 100000
set_option maxHeartbeats 0
noncomputable def fn_L3_10_t011 : List Dat → Tree Step
  | [.l (Ty.pair (Ty.int IntKind.i64) (Ty.pair (Ty.int IntKind.i64) (Ty.pair (Ty.int IntKind.i64) (Ty.pair (Ty.int IntKind.u64) (Ty.pair (Ty.int IntKind.u32) (Ty.pair (Ty.int IntKind.u32) (Ty.sl (Ty.pair (Ty.int IntKind.u8) (Ty.int IntKind.i64))))))))) l0, .n n1, .n n2, .n n3, .b b4, .n n5, .n n6, .n n7, .l (Ty.pair (Ty.int IntKind.u8) (Ty.int IntKind.i64)) l8, .n n9, .n n10, .n n11, .l (Ty.pair (Ty.int IntKind.u8) (Ty.int IntKind.i64)) l12, .n n13, .n n14, .n n15, .l (Ty.pair (Ty.int IntKind.u8) (Ty.int IntKind.i64)) l16, .n n17, .n n18, .n n19] =>
    (.node (decide (List.length (cl_7 l0 n1) * 16 ≤ 140737488355328))
     (let r1 : Option (Nat × List Dat) := (op_12 [.n (cl_1 l0 n1), .n (3 : Int)]);
      (.node (isK 0 [HK.n] r1)
       (.node (gn (dOf r1) 0 == (0 : Int))
        (.node (decide ((cl_3 l0 n1 : Int) ≤ n3))
         (let r2 : Option (Nat × List Dat) := (op_16n [.n (0 : Int), .n (0 : Int), .n (0 : Int), .n (0 : Int), .n (0 : Int)]);
          (.node (isK 0 [] r2)
           (let r3 : Option (Nat × List Dat) := (op_16o [.n (cl_2 l0 n1), .n (cl_3 l0 n1), .n (cl_4 l0 n1), .n (cl_5 l0 n1), .n (cl_6 l0 n1), .l TCmd (cl_7 l0 n1)]);
            (.node (isK 0 [HK.l TCmd] r3)
             (.leaf (Step.go (.k 3 :: .l TCall l0 :: .n (IntKind.wrap .i64 (n1 + (1 : Int))) :: .n n2 :: .n n3 :: .b b4 :: .n n2 :: .n n3 :: .b false :: .n n5 :: .n n6 :: .n n7 :: .l TCmd l8 :: .b true :: .n n9 :: .n n10 :: .n n11 :: .l TCmd l12 :: .b true :: .n n17 :: .n n18 :: .n n13 :: .n n14 :: .n n15 :: .l TCmd l16 :: .b b4 :: .n n19 :: .n n3 :: .n n9 :: .n n10 :: .n n11 :: .l TCmd l12 :: .n n17 :: .n n18 :: .n n13 :: .n n14 :: .n n15 :: .l TCmd l16 :: [])))
             (.bad 351)))
           (.bad 351)))
         (let r2 : Option (Nat × List Dat) := (op_62 [.l TCmd (cl_7 l0 n1)]);
          (.node (isK 0 [HK.l TCmd] r2)
           (.node (decide (n18 ≤ (cl_3 l0 n1 : Int)))
            (.node (n18 == cl_3 l0 n1)
             (let r3 : Option (Nat × List Dat) := (op_62 [.l TCmd (gl TCmd (dOf r2) 0)]);
              (.node (isK 0 [HK.l TCmd] r3)
               (let r4 : Option (Nat × List Dat) := (op_30 [.n (cl_4 l0 n1), .n (cl_5 l0 n1), .n (cl_6 l0 n1), .l TCmd (gl TCmd (dOf r3) 0), .n (cl_4 l0 n1), .n (cl_5 l0 n1), .n (cl_6 l0 n1), .l TCmd (cl_7 l0 n1)]);
                (.node (isK 0 [HK.b] r4)
                 (.node (!gb (dOf r4) 0)
                  (.leaf (Step.stop 1 [.b false]))
                  (let r5 : Option (Nat × List Dat) := (op_16o [.n n2, .n (cl_3 l0 n1), .n (cl_4 l0 n1), .n (cl_5 l0 n1), .n (cl_6 l0 n1), .l TCmd (gl TCmd (dOf r3) 0)]);
                   (.node (isK 0 [HK.l TCmd] r5)
                    (let r6 : Option (Nat × List Dat) := (op_16o [.n (cl_2 l0 n1), .n (cl_3 l0 n1), .n (cl_4 l0 n1), .n (cl_5 l0 n1), .n (cl_6 l0 n1), .l TCmd (cl_7 l0 n1)]);
                     (.node (isK 0 [HK.l TCmd] r6)
                      (let r7 : Option (Nat × List Dat) := (op_31 [.n (cl_4 l0 n1), .n (cl_5 l0 n1), .n (cl_6 l0 n1), .l TCmd (gl TCmd (dOf r2) 0), .n n13, .n n14, .n n15, .l TCmd l16]);
                       (.node (isK 0 [HK.n, HK.n, HK.n, HK.l TCmd] r7)
                        (let r8 : Option (Nat × List Dat) := (op_32 [.n (cl_4 l0 n1), .n (cl_5 l0 n1), .n (cl_6 l0 n1), .l TCmd (cl_7 l0 n1), .n n13, .n n14, .n n15, .l TCmd l16]);
                         (.node (isK 0 [HK.n, HK.n, HK.n, HK.l TCmd] r8)
                          (let r9 : Option (Nat × List Dat) := (op_30 [.n (gn (dOf r7) 0), .n (gn (dOf r7) 1), .n (gn (dOf r7) 2), .l TCmd (gl TCmd (dOf r7) 3), .n (gn (dOf r8) 0), .n (gn (dOf r8) 1), .n (gn (dOf r8) 2), .l TCmd (gl TCmd (dOf r8) 3)]);
                           (.node (isK 0 [HK.b] r9)
                            (.node (!gb (dOf r9) 0)
                             (.leaf (Step.stop 1 [.b false]))
                             (let r10 : Option (Nat × List Dat) := (op_16o [.n (0 : Int), .n (0 : Int), .n (gn (dOf r7) 0), .n (gn (dOf r7) 1), .n (gn (dOf r7) 2), .l TCmd (gl TCmd (dOf r7) 3)]);
                              (.node (isK 0 [HK.l TCmd] r10)
                               (.leaf (Step.go (.k 6 :: .l TCall l0 :: .n (IntKind.wrap .i64 (n1 + (1 : Int))) :: .n n2 :: .n (cl_3 l0 n1) :: .b false :: .n n2 :: .n (cl_3 l0 n1) :: .b true :: .n (cl_4 l0 n1) :: .n (cl_5 l0 n1) :: .n (cl_6 l0 n1) :: .l TCmd (cl_7 l0 n1) :: .b (n18 == cl_3 l0 n1) :: .n n13 :: .n n14 :: .n n15 :: .l TCmd l16 :: .b (decide (n18 > (cl_3 l0 n1 : Int))) :: .n n17 :: .n n18 :: .n n13 :: .n n14 :: .n n15 :: .l TCmd l16 :: .b false :: .n n2 :: .n (cl_3 l0 n1) :: .n (cl_4 l0 n1) :: .n (cl_5 l0 n1) :: .n (cl_6 l0 n1) :: .l TCmd (gl TCmd (dOf r2) 0) :: .n n17 :: .n n18 :: .n n13 :: .n n14 :: .n n15 :: .l TCmd l16 :: [])))
                               (.bad 351))))
                            (.bad 351)))
                          (.bad 351)))
                        (.bad 351)))
                      (.bad 351)))
                    (.bad 351))))
                 (.bad 351)))
               (.bad 351)))
             (let r3 : Option (Nat × List Dat) := (op_62 [.l TCmd (gl TCmd (dOf r2) 0)]);
              (.node (isK 0 [HK.l TCmd] r3)
               (let r4 : Option (Nat × List Dat) := (op_30 [.n (cl_4 l0 n1), .n (cl_5 l0 n1), .n (cl_6 l0 n1), .l TCmd (gl TCmd (dOf r3) 0), .n (cl_4 l0 n1), .n (cl_5 l0 n1), .n (cl_6 l0 n1), .l TCmd (cl_7 l0 n1)]);
                (.node (isK 0 [HK.b] r4)
                 (.node (!gb (dOf r4) 0)
                  (.leaf (Step.stop 1 [.b false]))
                  (let r5 : Option (Nat × List Dat) := (op_16o [.n n2, .n (cl_3 l0 n1), .n (cl_4 l0 n1), .n (cl_5 l0 n1), .n (cl_6 l0 n1), .l TCmd (gl TCmd (dOf r3) 0)]);
                   (.node (isK 0 [HK.l TCmd] r5)
                    (let r6 : Option (Nat × List Dat) := (op_16o [.n (cl_2 l0 n1), .n (cl_3 l0 n1), .n (cl_4 l0 n1), .n (cl_5 l0 n1), .n (cl_6 l0 n1), .l TCmd (cl_7 l0 n1)]);
                     (.node (isK 0 [HK.l TCmd] r6)
                      (let r7 : Option (Nat × List Dat) := (op_16n [.n (0 : Int), .n (0 : Int), .n (0 : Int), .n (0 : Int), .n (0 : Int)]);
                       (.node (isK 0 [] r7)
                        (.leaf (Step.go (.k 4 :: .l TCall l0 :: .n (IntKind.wrap .i64 (n1 + (1 : Int))) :: .n n2 :: .n (cl_3 l0 n1) :: .b false :: .n n2 :: .n (cl_3 l0 n1) :: .b true :: .n (cl_4 l0 n1) :: .n (cl_5 l0 n1) :: .n (cl_6 l0 n1) :: .l TCmd (cl_7 l0 n1) :: .b (n18 == cl_3 l0 n1) :: .n (0 : Int) :: .n (0 : Int) :: .n (0 : Int) :: .l TCmd [] :: .b (decide (n18 > (cl_3 l0 n1 : Int))) :: .n n17 :: .n n18 :: .n n13 :: .n n14 :: .n n15 :: .l TCmd l16 :: .b false :: .n n2 :: .n (cl_3 l0 n1) :: .n (cl_4 l0 n1) :: .n (cl_5 l0 n1) :: .n (cl_6 l0 n1) :: .l TCmd (gl TCmd (dOf r2) 0) :: [])))
                        (.bad 351)))
                      (.bad 351)))
                    (.bad 351))))
                 (.bad 351)))
               (.bad 351))))
            (let r3 : Option (Nat × List Dat) := (op_62 [.l TCmd (gl TCmd (dOf r2) 0)]);
             (.node (isK 0 [HK.l TCmd] r3)
              (let r4 : Option (Nat × List Dat) := (op_30 [.n (cl_4 l0 n1), .n (cl_5 l0 n1), .n (cl_6 l0 n1), .l TCmd (gl TCmd (dOf r3) 0), .n (cl_4 l0 n1), .n (cl_5 l0 n1), .n (cl_6 l0 n1), .l TCmd (cl_7 l0 n1)]);
               (.node (isK 0 [HK.b] r4)
                (.node (!gb (dOf r4) 0)
                 (.leaf (Step.stop 1 [.b false]))
                 (let r5 : Option (Nat × List Dat) := (op_16o [.n n2, .n (cl_3 l0 n1), .n (cl_4 l0 n1), .n (cl_5 l0 n1), .n (cl_6 l0 n1), .l TCmd (gl TCmd (dOf r3) 0)]);
                  (.node (isK 0 [HK.l TCmd] r5)
                   (let r6 : Option (Nat × List Dat) := (op_16o [.n (cl_2 l0 n1), .n (cl_3 l0 n1), .n (cl_4 l0 n1), .n (cl_5 l0 n1), .n (cl_6 l0 n1), .l TCmd (cl_7 l0 n1)]);
                    (.node (isK 0 [HK.l TCmd] r6)
                     (let r7 : Option (Nat × List Dat) := (op_16n [.n (0 : Int), .n (0 : Int), .n (0 : Int), .n (0 : Int), .n (0 : Int)]);
                      (.node (isK 0 [] r7)
                       (.leaf (Step.go (.k 5 :: .l TCall l0 :: .n (IntKind.wrap .i64 (n1 + (1 : Int))) :: .n n2 :: .n (cl_3 l0 n1) :: .b false :: .n n2 :: .n (cl_3 l0 n1) :: .b true :: .n (cl_4 l0 n1) :: .n (cl_5 l0 n1) :: .n (cl_6 l0 n1) :: .l TCmd (cl_7 l0 n1) :: .b (n18 == cl_3 l0 n1) :: .n (0 : Int) :: .n (0 : Int) :: .n (0 : Int) :: .l TCmd [] :: .b (decide (n18 > (cl_3 l0 n1 : Int))) :: .n n17 :: .n n18 :: .n n13 :: .n n14 :: .n n15 :: .l TCmd l16 :: .b false :: .n n2 :: .n (cl_3 l0 n1) :: .n (cl_4 l0 n1) :: .n (cl_5 l0 n1) :: .n (cl_6 l0 n1) :: .l TCmd (gl TCmd (dOf r2) 0) :: .n n17 :: .n n18 :: .n n13 :: .n n14 :: .n n15 :: .l TCmd l16 :: [])))
                       (.bad 351)))
                     (.bad 351)))
                   (.bad 351))))
                (.bad 351)))
              (.bad 351))))
           (.bad 351))))
        (.node (cl_2 l0 n1 != IntKind.wrap .i64 ((1 : Int) - n2))
         (let r2 : Option (Nat × List Dat) := (op_16o [.n (cl_2 l0 n1), .n (cl_3 l0 n1), .n (cl_4 l0 n1), .n (cl_5 l0 n1), .n (cl_6 l0 n1), .l TCmd (cl_7 l0 n1)]);
          (.node (isK 0 [HK.l TCmd] r2)
           (let r3 : Option (Nat × List Dat) := (op_16n [.n (0 : Int), .n (0 : Int), .n (0 : Int), .n (0 : Int), .n (0 : Int)]);
            (.node (isK 0 [] r3)
             (.leaf (Step.go (.k 3 :: .l TCall l0 :: .n (IntKind.wrap .i64 (n1 + (1 : Int))) :: .n n2 :: .n n3 :: .b b4 :: .n n2 :: .n n3 :: .b false :: .n n5 :: .n n6 :: .n n7 :: .l TCmd l8 :: .b true :: .n n9 :: .n n10 :: .n n11 :: .l TCmd l12 :: .b true :: .n n17 :: .n n18 :: .n n13 :: .n n14 :: .n n15 :: .l TCmd l16 :: .b b4 :: .n n19 :: .n n3 :: .n n9 :: .n n10 :: .n n11 :: .l TCmd l12 :: .n n17 :: .n n18 :: .n n13 :: .n n14 :: .n n15 :: .l TCmd l16 :: [])))
             (.bad 351)))
           (.bad 351)))
         (.node (decide ((cl_3 l0 n1 : Int) < n3))
          (let r2 : Option (Nat × List Dat) := (op_16o [.n (cl_2 l0 n1), .n (cl_3 l0 n1), .n (cl_4 l0 n1), .n (cl_5 l0 n1), .n (cl_6 l0 n1), .l TCmd (cl_7 l0 n1)]);
           (.node (isK 0 [HK.l TCmd] r2)
            (let r3 : Option (Nat × List Dat) := (op_16n [.n (0 : Int), .n (0 : Int), .n (0 : Int), .n (0 : Int), .n (0 : Int)]);
             (.node (isK 0 [] r3)
              (.leaf (Step.go (.k 3 :: .l TCall l0 :: .n (IntKind.wrap .i64 (n1 + (1 : Int))) :: .n n2 :: .n n3 :: .b b4 :: .n n2 :: .n n3 :: .b false :: .n n5 :: .n n6 :: .n n7 :: .l TCmd l8 :: .b true :: .n n9 :: .n n10 :: .n n11 :: .l TCmd l12 :: .b true :: .n n17 :: .n n18 :: .n n13 :: .n n14 :: .n n15 :: .l TCmd l16 :: .b b4 :: .n n19 :: .n n3 :: .n n9 :: .n n10 :: .n n11 :: .l TCmd l12 :: .n n17 :: .n n18 :: .n n13 :: .n n14 :: .n n15 :: .l TCmd l16 :: [])))
              (.bad 351)))
            (.bad 351)))
          (let r2 : Option (Nat × List Dat) := (op_62 [.l TCmd (cl_7 l0 n1)]);
           (.node (isK 0 [HK.l TCmd] r2)
            (.node (decide ((cl_3 l0 n1 : Int) > n3))
             (.node (decide ((cl_3 l0 n1 : Int) > n18))
              (let r3 : Option (Nat × List Dat) := (op_16o [.n (cl_2 l0 n1), .n (cl_3 l0 n1), .n (cl_4 l0 n1), .n (cl_5 l0 n1), .n (cl_6 l0 n1), .l TCmd (cl_7 l0 n1)]);
               (.node (isK 0 [HK.l TCmd] r3)
                (let r4 : Option (Nat × List Dat) := (op_16n [.n (0 : Int), .n (0 : Int), .n (0 : Int), .n (0 : Int), .n (0 : Int)]);
                 (.node (isK 0 [] r4)
                  (.leaf (Step.go (.k 3 :: .l TCall l0 :: .n (IntKind.wrap .i64 (n1 + (1 : Int))) :: .n n2 :: .n n3 :: .b b4 :: .n n2 :: .n n3 :: .b false :: .n n5 :: .n n6 :: .n n7 :: .l TCmd l8 :: .b true :: .n n9 :: .n n10 :: .n n11 :: .l TCmd l12 :: .b true :: .n (cl_2 l0 n1) :: .n (cl_3 l0 n1) :: .n (cl_4 l0 n1) :: .n (cl_5 l0 n1) :: .n (cl_6 l0 n1) :: .l TCmd (cl_7 l0 n1) :: .b b4 :: .n n19 :: .n n3 :: .n n9 :: .n n10 :: .n n11 :: .l TCmd l12 :: .n (cl_2 l0 n1) :: .n (cl_3 l0 n1) :: .n (cl_4 l0 n1) :: .n (cl_5 l0 n1) :: .n (cl_6 l0 n1) :: .l TCmd (gl TCmd (dOf r2) 0) :: [])))
                  (.bad 351)))
                (.bad 351)))
              (.node (n18 == cl_3 l0 n1)
               (let r3 : Option (Nat × List Dat) := (op_29 [.n n13, .n n14, .n n15, .l TCmd l16, .n (cl_4 l0 n1), .n (cl_5 l0 n1), .n (cl_6 l0 n1), .l TCmd (gl TCmd (dOf r2) 0)]);
                (.node (isK 0 [HK.b] r3)
                 (.node (gb (dOf r3) 0)
                  (let r4 : Option (Nat × List Dat) := (op_30 [.n (cl_4 l0 n1), .n (cl_5 l0 n1), .n (cl_6 l0 n1), .l TCmd (cl_7 l0 n1), .n n13, .n n14, .n n15, .l TCmd l16]);
                   (.node (isK 0 [HK.b] r4)
                    (.node (gb (dOf r4) 0)
                     (let r5 : Option (Nat × List Dat) := (op_16o [.n (cl_2 l0 n1), .n (cl_3 l0 n1), .n (cl_4 l0 n1), .n (cl_5 l0 n1), .n (cl_6 l0 n1), .l TCmd (cl_7 l0 n1)]);
                      (.node (isK 0 [HK.l TCmd] r5)
                       (let r6 : Option (Nat × List Dat) := (op_16n [.n (0 : Int), .n (0 : Int), .n (0 : Int), .n (0 : Int), .n (0 : Int)]);
                        (.node (isK 0 [] r6)
                         (.leaf (Step.go (.k 3 :: .l TCall l0 :: .n (IntKind.wrap .i64 (n1 + (1 : Int))) :: .n n2 :: .n n3 :: .b b4 :: .n n2 :: .n n3 :: .b false :: .n n5 :: .n n6 :: .n n7 :: .l TCmd l8 :: .b true :: .n n9 :: .n n10 :: .n n11 :: .l TCmd l12 :: .b true :: .n n17 :: .n n18 :: .n n13 :: .n n14 :: .n n15 :: .l TCmd l16 :: .b b4 :: .n n19 :: .n n3 :: .n n9 :: .n n10 :: .n n11 :: .l TCmd l12 :: .n n17 :: .n n18 :: .n n13 :: .n n14 :: .n n15 :: .l TCmd l16 :: [])))
                         (.bad 351)))
                       (.bad 351)))
                     (.leaf (Step.stop 1 [.b false])))
                    (.bad 351)))
                  (let r4 : Option (Nat × List Dat) := (op_30 [.n (cl_4 l0 n1), .n (cl_5 l0 n1), .n (cl_6 l0 n1), .l TCmd (cl_7 l0 n1), .n n13, .n n14, .n n15, .l TCmd l16]);
                   (.node (isK 0 [HK.b] r4)
                    (.node (gb (dOf r4) 0)
                     (.leaf (Step.stop 1 [.b false]))
                     (let r5 : Option (Nat × List Dat) := (op_16o [.n (cl_2 l0 n1), .n (cl_3 l0 n1), .n (cl_4 l0 n1), .n (cl_5 l0 n1), .n (cl_6 l0 n1), .l TCmd (cl_7 l0 n1)]);
                      (.node (isK 0 [HK.l TCmd] r5)
                       (let r6 : Option (Nat × List Dat) := (op_16n [.n (0 : Int), .n (0 : Int), .n (0 : Int), .n (0 : Int), .n (0 : Int)]);
                        (.node (isK 0 [] r6)
                         (.leaf (Step.go (.k 3 :: .l TCall l0 :: .n (IntKind.wrap .i64 (n1 + (1 : Int))) :: .n n2 :: .n n3 :: .b b4 :: .n n2 :: .n n3 :: .b false :: .n n5 :: .n n6 :: .n n7 :: .l TCmd l8 :: .b true :: .n n9 :: .n n10 :: .n n11 :: .l TCmd l12 :: .b true :: .n n17 :: .n n18 :: .n n13 :: .n n14 :: .n n15 :: .l TCmd l16 :: .b b4 :: .n n19 :: .n n3 :: .n n9 :: .n n10 :: .n n11 :: .l TCmd l12 :: .n n17 :: .n n18 :: .n n13 :: .n n14 :: .n n15 :: .l TCmd l16 :: [])))
                         (.bad 351)))
                       (.bad 351))))
                    (.bad 351))))
                 (.bad 351)))
               (let r3 : Option (Nat × List Dat) := (op_16o [.n (cl_2 l0 n1), .n (cl_3 l0 n1), .n (cl_4 l0 n1), .n (cl_5 l0 n1), .n (cl_6 l0 n1), .l TCmd (cl_7 l0 n1)]);
                (.node (isK 0 [HK.l TCmd] r3)
                 (let r4 : Option (Nat × List Dat) := (op_16n [.n (0 : Int), .n (0 : Int), .n (0 : Int), .n (0 : Int), .n (0 : Int)]);
                  (.node (isK 0 [] r4)
                   (.leaf (Step.go (.k 3 :: .l TCall l0 :: .n (IntKind.wrap .i64 (n1 + (1 : Int))) :: .n n2 :: .n n3 :: .b b4 :: .n n2 :: .n n3 :: .b false :: .n n5 :: .n n6 :: .n n7 :: .l TCmd l8 :: .b true :: .n n9 :: .n n10 :: .n n11 :: .l TCmd l12 :: .b true :: .n n17 :: .n n18 :: .n n13 :: .n n14 :: .n n15 :: .l TCmd l16 :: .b b4 :: .n n19 :: .n n3 :: .n n9 :: .n n10 :: .n n11 :: .l TCmd l12 :: .n n17 :: .n n18 :: .n n13 :: .n n14 :: .n n15 :: .l TCmd l16 :: [])))
                   (.bad 351)))
                 (.bad 351)))))
             (let r3 : Option (Nat × List Dat) := (op_29 [.n n9, .n n10, .n n11, .l TCmd l12, .n (cl_4 l0 n1), .n (cl_5 l0 n1), .n (cl_6 l0 n1), .l TCmd (gl TCmd (dOf r2) 0)]);
              (.node (isK 0 [HK.b] r3)
               (.node (gb (dOf r3) 0)
                (let r4 : Option (Nat × List Dat) := (op_30 [.n (cl_4 l0 n1), .n (cl_5 l0 n1), .n (cl_6 l0 n1), .l TCmd (cl_7 l0 n1), .n n9, .n n10, .n n11, .l TCmd l12]);
                 (.node (isK 0 [HK.b] r4)
                  (.node (gb (dOf r4) 0)
                   (let r5 : Option (Nat × List Dat) := (op_16o [.n (cl_2 l0 n1), .n (cl_3 l0 n1), .n (cl_4 l0 n1), .n (cl_5 l0 n1), .n (cl_6 l0 n1), .l TCmd (cl_7 l0 n1)]);
                    (.node (isK 0 [HK.l TCmd] r5)
                     (let r6 : Option (Nat × List Dat) := (op_16n [.n (0 : Int), .n (0 : Int), .n (0 : Int), .n (0 : Int), .n (0 : Int)]);
                      (.node (isK 0 [] r6)
                       (.leaf (Step.go (.k 3 :: .l TCall l0 :: .n (IntKind.wrap .i64 (n1 + (1 : Int))) :: .n n2 :: .n n3 :: .b b4 :: .n n2 :: .n n3 :: .b false :: .n n5 :: .n n6 :: .n n7 :: .l TCmd l8 :: .b true :: .n n9 :: .n n10 :: .n n11 :: .l TCmd l12 :: .b true :: .n n17 :: .n n18 :: .n n13 :: .n n14 :: .n n15 :: .l TCmd l16 :: .b b4 :: .n n19 :: .n n3 :: .n n9 :: .n n10 :: .n n11 :: .l TCmd l12 :: .n n17 :: .n n18 :: .n n13 :: .n n14 :: .n n15 :: .l TCmd l16 :: [])))
                       (.bad 351)))
                     (.bad 351)))
                   (.leaf (Step.stop 1 [.b false])))
                  (.bad 351)))
                (let r4 : Option (Nat × List Dat) := (op_30 [.n (cl_4 l0 n1), .n (cl_5 l0 n1), .n (cl_6 l0 n1), .l TCmd (cl_7 l0 n1), .n n9, .n n10, .n n11, .l TCmd l12]);
                 (.node (isK 0 [HK.b] r4)
                  (.node (gb (dOf r4) 0)
                   (.leaf (Step.stop 1 [.b false]))
                   (let r5 : Option (Nat × List Dat) := (op_16o [.n (cl_2 l0 n1), .n (cl_3 l0 n1), .n (cl_4 l0 n1), .n (cl_5 l0 n1), .n (cl_6 l0 n1), .l TCmd (cl_7 l0 n1)]);
                    (.node (isK 0 [HK.l TCmd] r5)
                     (let r6 : Option (Nat × List Dat) := (op_16n [.n (0 : Int), .n (0 : Int), .n (0 : Int), .n (0 : Int), .n (0 : Int)]);
                      (.node (isK 0 [] r6)
                       (.leaf (Step.go (.k 3 :: .l TCall l0 :: .n (IntKind.wrap .i64 (n1 + (1 : Int))) :: .n n2 :: .n n3 :: .b true :: .n n2 :: .n n3 :: .b false :: .n n5 :: .n n6 :: .n n7 :: .l TCmd l8 :: .b true :: .n n9 :: .n n10 :: .n n11 :: .l TCmd l12 :: .b true :: .n n17 :: .n n18 :: .n n13 :: .n n14 :: .n n15 :: .l TCmd l16 :: .b true :: .n n19 :: .n n3 :: .n n9 :: .n n10 :: .n n11 :: .l TCmd l12 :: .n n17 :: .n n18 :: .n n13 :: .n n14 :: .n n15 :: .l TCmd l16 :: [])))
                       (.bad 351)))
                     (.bad 351))))
                  (.bad 351))))
               (.bad 351))))
            (.bad 351))))))
       (.bad 351)))
     (.bad 60))
  | _ => .bad 0
theorem fn_L3_10_t011_im (l0 : List (Ty.den TCall)) (n1 : Int) (n2 : Int) (n3 : Int) (b4 : Bool) (n5 : Int) (n6 : Int) (n7 : Int) (l8 : List (Ty.den TCmd)) (n9 : Int) (n10 : Int) (n11 : Int) (l12 : List (Ty.den TCmd)) (n13 : Int) (n14 : Int) (n15 : Int) (l16 : List (Ty.den TCmd)) (n17 : Int) (n18 : Int) (n19 : Int) (g0 : 0 ≤ n1) (g1 :  n1 < (l0.length : Int)) : Imp (fn_L3_10_t011 [.l TCall l0, .n n1, .n n2, .n n3, .b b4, .n n5, .n n6, .n n7, .l TCmd l8, .n n9, .n n10, .n n11, .l TCmd l12, .n n13, .n n14, .n n15, .l TCmd l16, .n n17, .n n18, .n n19]) (st_L3_10 [.k 3, .l TCall l0, .n n1, .n n2, .n n3, .b b4, .n n2, .n n3, .b false, .n n5, .n n6, .n n7, .l TCmd l8, .b true, .n n9, .n n10, .n n11, .l TCmd l12, .b true, .n n17, .n n18, .n n13, .n n14, .n n15, .l TCmd l16, .b b4, .n n19, .n n3, .n n9, .n n10, .n n11, .l TCmd l12, .n n17, .n n18, .n n13, .n n14, .n n15, .l TCmd l16]) :=
(.path [1] (by kernel_rfl)
(.pt (c := (decide (n1 < (↑(List.length l0) : Int)))) (by kernel_rfl) (by kernel_rfl) (by (simp [*]; done))
(.pt (c := (inR n1 (List.length l0))) (by kernel_rfl) (by kernel_rfl) (by (simp only [w64d, decide_eq_true_eq, decide_eq_false_iff_not, beq_iff_eq, beq_eq_false_iff_ne, bne_iff_ne, ne_eq, inR, Bool.and_eq_true, Bool.and_eq_false_iff, Bool.not_eq_true', Bool.not_eq_false', Bool.not_eq_eq_eq_not, Bool.not_true, Bool.not_false] at *; omega))
(.path [1] (by kernel_rfl)
(.node (by kernel_rfl) (by kernel_rfl) (fun h0 =>
(.path [1] (by kernel_rfl)
(.pt (c := (inR n1 (List.length l0))) (by kernel_rfl) (by kernel_rfl) (by (simp only [w64d, decide_eq_true_eq, decide_eq_false_iff_not, beq_iff_eq, beq_eq_false_iff_ne, bne_iff_ne, ne_eq, inR, Bool.and_eq_true, Bool.and_eq_false_iff, Bool.not_eq_true', Bool.not_eq_false', Bool.not_eq_eq_eq_not, Bool.not_true, Bool.not_false] at *; omega))
(.node (by kernel_rfl) (by kernel_rfl) (fun h1 =>
(.path [1] (by kernel_rfl)
(.node (by kernel_rfl) (by kernel_rfl) (fun h2 =>
(.path [1,0] (by kernel_rfl)
(.node (by kernel_rfl) (by kernel_rfl) (fun h3 =>
(.path [1] (by kernel_rfl)
(.pt (c := (inR n1 (List.length l0))) (by kernel_rfl) (by kernel_rfl) (by (simp only [w64d, decide_eq_true_eq, decide_eq_false_iff_not, beq_iff_eq, beq_eq_false_iff_ne, bne_iff_ne, ne_eq, inR, Bool.and_eq_true, Bool.and_eq_false_iff, Bool.not_eq_true', Bool.not_eq_false', Bool.not_eq_eq_eq_not, Bool.not_true, Bool.not_false] at *; omega))
(.pt (c := (inR n1 (List.length l0))) (by kernel_rfl) (by kernel_rfl) (by (simp only [w64d, decide_eq_true_eq, decide_eq_false_iff_not, beq_iff_eq, beq_eq_false_iff_ne, bne_iff_ne, ne_eq, inR, Bool.and_eq_true, Bool.and_eq_false_iff, Bool.not_eq_true', Bool.not_eq_false', Bool.not_eq_eq_eq_not, Bool.not_true, Bool.not_false] at *; omega))
(.path [1] (by kernel_rfl)
(.pt (by kernel_rfl) (by kernel_rfl) h3
(.path [1,1,0,1,1,1,1,1,1,0,1] (by kernel_rfl)
(.node (by kernel_rfl) (by kernel_rfl) (fun h4 =>
(.path [1,1] (by kernel_rfl)
(.node (by kernel_rfl) (by kernel_rfl) (fun h5 =>
(.path [1,1,0,1,1,1,1,1,1,1,1,1,1,1,1,1,0,1,1,0,1,0,1,1] (by kernel_rfl)
(.pf (c := (n3 != n3)) (by kernel_rfl) (by kernel_rfl) (by (simp [*]; done))
(.path [1] (by kernel_rfl)
(.pt (by kernel_rfl) (by kernel_rfl) h4
(.path [1,1] (by kernel_rfl)
(.leaf (by kernel_rfl)))))))) (fun h5 =>
.none)))) (fun h4 =>
.none))))))))) (fun h3 =>
(.path [1] (by kernel_rfl)
(.node (by kernel_rfl) (by kernel_rfl) (fun h4 =>
(.path [1,1,1,1] (by kernel_rfl)
(.node (by kernel_rfl) (by kernel_rfl) (fun h5 =>
(.node (by kernel_rfl) (by kernel_rfl) (fun h6 =>
(.path [1] (by kernel_rfl)
(.node (by kernel_rfl) (by kernel_rfl) (fun h7 =>
(.path [1,1,1] (by kernel_rfl)
(.pt (c := (inR n1 (List.length l0))) (by kernel_rfl) (by kernel_rfl) (by (simp only [w64d, decide_eq_true_eq, decide_eq_false_iff_not, beq_iff_eq, beq_eq_false_iff_ne, bne_iff_ne, ne_eq, inR, Bool.and_eq_true, Bool.and_eq_false_iff, Bool.not_eq_true', Bool.not_eq_false', Bool.not_eq_eq_eq_not, Bool.not_true, Bool.not_false] at *; omega))
(.pt (c := (inR n1 (List.length l0))) (by kernel_rfl) (by kernel_rfl) (by (simp only [w64d, decide_eq_true_eq, decide_eq_false_iff_not, beq_iff_eq, beq_eq_false_iff_ne, bne_iff_ne, ne_eq, inR, Bool.and_eq_true, Bool.and_eq_false_iff, Bool.not_eq_true', Bool.not_eq_false', Bool.not_eq_eq_eq_not, Bool.not_true, Bool.not_false] at *; omega))
(.path [1] (by kernel_rfl)
(.pf (by kernel_rfl) (by kernel_rfl) h3
(.path [1] (by kernel_rfl)
(.pt (by kernel_rfl) (by kernel_rfl) h0
(.path [1,1] (by kernel_rfl)
(.pt (by kernel_rfl) (by kernel_rfl) h6
(.path [1,1] (by kernel_rfl)
(.pt (by kernel_rfl) (by kernel_rfl) h0
(.path [1,1,1,1,0,1] (by kernel_rfl)
(.pt (c := (n2 == n2)) (by kernel_rfl) (by kernel_rfl) (by (simp [*]; done))
(.pt (c := (cl_3 l0 n1 == cl_3 l0 n1)) (by kernel_rfl) (by kernel_rfl) (by (simp [*]; done))
(.node (by kernel_rfl) (by kernel_rfl) (fun h8 =>
(.path [1,1] (by kernel_rfl)
(.node (by kernel_rfl) (by kernel_rfl) (fun h9 =>
(.path [1] (by kernel_rfl)
(.leaf (by kernel_rfl)))) (fun h9 =>
(.path [1] (by kernel_rfl)
(.node (by kernel_rfl) (by kernel_rfl) (fun h10 =>
(.path [1,1] (by kernel_rfl)
(.node (by kernel_rfl) (by kernel_rfl) (fun h11 =>
(.path [1,1,0,0,0,0] (by kernel_rfl)
(.node (by kernel_rfl) (by kernel_rfl) (fun h12 =>
(.path [1,1,1,1,0] (by kernel_rfl)
(.pf (c := (!n18 == cl_3 l0 n1)) (by kernel_rfl) (by kernel_rfl) (by (simp [*]; done))
(.path [0] (by kernel_rfl)
(.node (by kernel_rfl) (by kernel_rfl) (fun h13 =>
(.path [1,1,1,0] (by kernel_rfl)
(.node (by kernel_rfl) (by kernel_rfl) (fun h14 =>
(.path [1] (by kernel_rfl)
(.node (by kernel_rfl) (by kernel_rfl) (fun h15 =>
(.path [1,1,1,1] (by kernel_rfl)
(.leaf (by kernel_rfl)))) (fun h15 =>
(.path [1,0,1,1] (by kernel_rfl)
(.pf (c := (cl_3 l0 n1 != cl_3 l0 n1)) (by kernel_rfl) (by kernel_rfl) (by (simp [*]; done))
(.path [1] (by kernel_rfl)
(.node (by kernel_rfl) (by kernel_rfl) (fun h16 =>
(.path [1,1] (by kernel_rfl)
(.leaf (by kernel_rfl)))) (fun h16 =>
.none))))))))) (fun h14 =>
.none)))) (fun h13 =>
.none)))))) (fun h12 =>
.none)))) (fun h11 =>
.none)))) (fun h10 =>
.none))))))) (fun h8 =>
.none))))))))))))))))) (fun h7 =>
.none)))) (fun h6 =>
(.path [1] (by kernel_rfl)
(.node (by kernel_rfl) (by kernel_rfl) (fun h7 =>
(.path [1,1,1] (by kernel_rfl)
(.pt (c := (inR n1 (List.length l0))) (by kernel_rfl) (by kernel_rfl) (by (simp only [w64d, decide_eq_true_eq, decide_eq_false_iff_not, beq_iff_eq, beq_eq_false_iff_ne, bne_iff_ne, ne_eq, inR, Bool.and_eq_true, Bool.and_eq_false_iff, Bool.not_eq_true', Bool.not_eq_false', Bool.not_eq_eq_eq_not, Bool.not_true, Bool.not_false] at *; omega))
(.pt (c := (inR n1 (List.length l0))) (by kernel_rfl) (by kernel_rfl) (by (simp only [w64d, decide_eq_true_eq, decide_eq_false_iff_not, beq_iff_eq, beq_eq_false_iff_ne, bne_iff_ne, ne_eq, inR, Bool.and_eq_true, Bool.and_eq_false_iff, Bool.not_eq_true', Bool.not_eq_false', Bool.not_eq_eq_eq_not, Bool.not_true, Bool.not_false] at *; omega))
(.path [1] (by kernel_rfl)
(.pf (by kernel_rfl) (by kernel_rfl) h3
(.path [1] (by kernel_rfl)
(.pt (by kernel_rfl) (by kernel_rfl) h0
(.path [1,1] (by kernel_rfl)
(.pf (by kernel_rfl) (by kernel_rfl) h6
(.path [1,1] (by kernel_rfl)
(.pt (by kernel_rfl) (by kernel_rfl) h0
(.path [1,1,1,1,0,1] (by kernel_rfl)
(.pt (c := (n2 == n2)) (by kernel_rfl) (by kernel_rfl) (by (simp [*]; done))
(.pt (c := (cl_3 l0 n1 == cl_3 l0 n1)) (by kernel_rfl) (by kernel_rfl) (by (simp [*]; done))
(.node (by kernel_rfl) (by kernel_rfl) (fun h8 =>
(.path [1,1] (by kernel_rfl)
(.node (by kernel_rfl) (by kernel_rfl) (fun h9 =>
(.path [1] (by kernel_rfl)
(.leaf (by kernel_rfl)))) (fun h9 =>
(.path [1] (by kernel_rfl)
(.node (by kernel_rfl) (by kernel_rfl) (fun h10 =>
(.path [1,1] (by kernel_rfl)
(.node (by kernel_rfl) (by kernel_rfl) (fun h11 =>
(.path [1,1,0,0,1,1,1,1,1,0] (by kernel_rfl)
(.pt (c := (!n18 == cl_3 l0 n1)) (by kernel_rfl) (by kernel_rfl) (by (simp [*]; done))
(.path [1,1,1,0,1,1,0,1,0,1,1] (by kernel_rfl)
(.pf (c := (cl_3 l0 n1 != cl_3 l0 n1)) (by kernel_rfl) (by kernel_rfl) (by (simp [*]; done))
(.path [1] (by kernel_rfl)
(.node (by kernel_rfl) (by kernel_rfl) (fun h12 =>
(.path [1,1] (by kernel_rfl)
(.leaf (by kernel_rfl)))) (fun h12 =>
.none)))))))) (fun h11 =>
.none)))) (fun h10 =>
.none))))))) (fun h8 =>
.none))))))))))))))))) (fun h7 =>
.none)))))) (fun h5 =>
(.path [1] (by kernel_rfl)
(.node (by kernel_rfl) (by kernel_rfl) (fun h6 =>
(.path [1,1,1] (by kernel_rfl)
(.pt (c := (inR n1 (List.length l0))) (by kernel_rfl) (by kernel_rfl) (by (simp only [w64d, decide_eq_true_eq, decide_eq_false_iff_not, beq_iff_eq, beq_eq_false_iff_ne, bne_iff_ne, ne_eq, inR, Bool.and_eq_true, Bool.and_eq_false_iff, Bool.not_eq_true', Bool.not_eq_false', Bool.not_eq_eq_eq_not, Bool.not_true, Bool.not_false] at *; omega))
(.pt (c := (inR n1 (List.length l0))) (by kernel_rfl) (by kernel_rfl) (by (simp only [w64d, decide_eq_true_eq, decide_eq_false_iff_not, beq_iff_eq, beq_eq_false_iff_ne, bne_iff_ne, ne_eq, inR, Bool.and_eq_true, Bool.and_eq_false_iff, Bool.not_eq_true', Bool.not_eq_false', Bool.not_eq_eq_eq_not, Bool.not_true, Bool.not_false] at *; omega))
(.path [1] (by kernel_rfl)
(.pf (by kernel_rfl) (by kernel_rfl) h3
(.path [1] (by kernel_rfl)
(.pt (by kernel_rfl) (by kernel_rfl) h0
(.path [1,1] (by kernel_rfl)
(.pf (c := (n18 == cl_3 l0 n1)) (by kernel_rfl) (by kernel_rfl) (by (simp only [w64d, decide_eq_true_eq, decide_eq_false_iff_not, beq_iff_eq, beq_eq_false_iff_ne, bne_iff_ne, ne_eq, inR, Bool.and_eq_true, Bool.and_eq_false_iff, Bool.not_eq_true', Bool.not_eq_false', Bool.not_eq_eq_eq_not, Bool.not_true, Bool.not_false] at *; omega))
(.path [1,1] (by kernel_rfl)
(.pt (by kernel_rfl) (by kernel_rfl) h0
(.path [1,1,1,1,0,1] (by kernel_rfl)
(.pt (c := (n2 == n2)) (by kernel_rfl) (by kernel_rfl) (by (simp [*]; done))
(.pt (c := (cl_3 l0 n1 == cl_3 l0 n1)) (by kernel_rfl) (by kernel_rfl) (by (simp [*]; done))
(.node (by kernel_rfl) (by kernel_rfl) (fun h7 =>
(.path [1,1] (by kernel_rfl)
(.node (by kernel_rfl) (by kernel_rfl) (fun h8 =>
(.path [1] (by kernel_rfl)
(.leaf (by kernel_rfl)))) (fun h8 =>
(.path [1] (by kernel_rfl)
(.node (by kernel_rfl) (by kernel_rfl) (fun h9 =>
(.path [1,1] (by kernel_rfl)
(.node (by kernel_rfl) (by kernel_rfl) (fun h10 =>
(.path [1,1,0,0,1,1,1,1,1,0] (by kernel_rfl)
(.pt (c := (!n18 == cl_3 l0 n1)) (by kernel_rfl) (by kernel_rfl) (by (simp only [w64d, decide_eq_true_eq, decide_eq_false_iff_not, beq_iff_eq, beq_eq_false_iff_ne, bne_iff_ne, ne_eq, inR, Bool.and_eq_true, Bool.and_eq_false_iff, Bool.not_eq_true', Bool.not_eq_false', Bool.not_eq_eq_eq_not, Bool.not_true, Bool.not_false] at *; omega))
(.path [1,1,1,0,1,1,0,1,0,1,1] (by kernel_rfl)
(.pf (c := (cl_3 l0 n1 != cl_3 l0 n1)) (by kernel_rfl) (by kernel_rfl) (by (simp [*]; done))
(.path [1] (by kernel_rfl)
(.node (by kernel_rfl) (by kernel_rfl) (fun h11 =>
(.path [1,1] (by kernel_rfl)
(.leaf (by kernel_rfl)))) (fun h11 =>
.none)))))))) (fun h10 =>
.none)))) (fun h9 =>
.none))))))) (fun h7 =>
.none))))))))))))))))) (fun h6 =>
.none))))))) (fun h4 =>
.none))))))) (fun h2 =>
(.path [1,0,0,1] (by kernel_rfl)
(.node (by kernel_rfl) (by kernel_rfl) (fun h3 =>
(.path [1] (by kernel_rfl)
(.pt (c := (inR n1 (List.length l0))) (by kernel_rfl) (by kernel_rfl) (by (simp only [w64d, decide_eq_true_eq, decide_eq_false_iff_not, beq_iff_eq, beq_eq_false_iff_ne, bne_iff_ne, ne_eq, inR, Bool.and_eq_true, Bool.and_eq_false_iff, Bool.not_eq_true', Bool.not_eq_false', Bool.not_eq_eq_eq_not, Bool.not_true, Bool.not_false] at *; omega))
(.path [1,1,1,1] (by kernel_rfl)
(.pt (by kernel_rfl) (by kernel_rfl) h3
(.path [1,1,0,1] (by kernel_rfl)
(.node (by kernel_rfl) (by kernel_rfl) (fun h4 =>
(.path [1,1,0,1,1,1,1,1,1,1,1,1,1,1,1,1,0,1,1,0,1,0,1,1] (by kernel_rfl)
(.pf (c := (n3 != n3)) (by kernel_rfl) (by kernel_rfl) (by (simp [*]; done))
(.path [1] (by kernel_rfl)
(.node (by kernel_rfl) (by kernel_rfl) (fun h5 =>
(.path [1,1] (by kernel_rfl)
(.leaf (by kernel_rfl)))) (fun h5 =>
.none)))))) (fun h4 =>
.none)))))))) (fun h3 =>
(.path [1] (by kernel_rfl)
(.node (by kernel_rfl) (by kernel_rfl) (fun h4 =>
(.path [1] (by kernel_rfl)
(.pt (c := (inR n1 (List.length l0))) (by kernel_rfl) (by kernel_rfl) (by (simp only [w64d, decide_eq_true_eq, decide_eq_false_iff_not, beq_iff_eq, beq_eq_false_iff_ne, bne_iff_ne, ne_eq, inR, Bool.and_eq_true, Bool.and_eq_false_iff, Bool.not_eq_true', Bool.not_eq_false', Bool.not_eq_eq_eq_not, Bool.not_true, Bool.not_false] at *; omega))
(.path [1,1,1,1] (by kernel_rfl)
(.pf (by kernel_rfl) (by kernel_rfl) h3
(.path [1] (by kernel_rfl)
(.pt (by kernel_rfl) (by kernel_rfl) h4
(.path [1,1,0,1] (by kernel_rfl)
(.node (by kernel_rfl) (by kernel_rfl) (fun h5 =>
(.path [1,1,0,1,1,1,1,1,1,1,1,1,1,1,1,1,0,1,1,0,1,0,1,1] (by kernel_rfl)
(.pf (c := (n3 != n3)) (by kernel_rfl) (by kernel_rfl) (by (simp [*]; done))
(.path [1] (by kernel_rfl)
(.node (by kernel_rfl) (by kernel_rfl) (fun h6 =>
(.path [1,1] (by kernel_rfl)
(.leaf (by kernel_rfl)))) (fun h6 =>
.none)))))) (fun h5 =>
.none)))))))))) (fun h4 =>
(.path [1] (by kernel_rfl)
(.node (by kernel_rfl) (by kernel_rfl) (fun h5 =>
(.path [1,1,1] (by kernel_rfl)
(.node (by kernel_rfl) (by kernel_rfl) (fun h6 =>
(.path [1,0,1] (by kernel_rfl)
(.node (by kernel_rfl) (by kernel_rfl) (fun h7 =>
(.path [1,1] (by kernel_rfl)
(.pt (c := (inR n1 (List.length l0))) (by kernel_rfl) (by kernel_rfl) (by (simp only [w64d, decide_eq_true_eq, decide_eq_false_iff_not, beq_iff_eq, beq_eq_false_iff_ne, bne_iff_ne, ne_eq, inR, Bool.and_eq_true, Bool.and_eq_false_iff, Bool.not_eq_true', Bool.not_eq_false', Bool.not_eq_eq_eq_not, Bool.not_true, Bool.not_false] at *; omega))
(.path [1,1,1,1] (by kernel_rfl)
(.pf (by kernel_rfl) (by kernel_rfl) h3
(.path [1] (by kernel_rfl)
(.pf (by kernel_rfl) (by kernel_rfl) h4
(.path [1] (by kernel_rfl)
(.pt (by kernel_rfl) (by kernel_rfl) h6
(.path [0,1] (by kernel_rfl)
(.pt (by kernel_rfl) (by kernel_rfl) h7
(.path [1] (by kernel_rfl)
(.pt (by kernel_rfl) (by kernel_rfl) h0
(.path [1,1,1,1,0,1] (by kernel_rfl)
(.node (by kernel_rfl) (by kernel_rfl) (fun h8 =>
(.path [1,1,0,1,1,1,1,1,1,1,1,1,1,1,1,1,0,1,1,0,1,0,1,1] (by kernel_rfl)
(.pf (c := (n3 != n3)) (by kernel_rfl) (by kernel_rfl) (by (simp [*]; done))
(.path [1] (by kernel_rfl)
(.node (by kernel_rfl) (by kernel_rfl) (fun h9 =>
(.path [1,1] (by kernel_rfl)
(.leaf (by kernel_rfl)))) (fun h9 =>
.none)))))) (fun h8 =>
.none)))))))))))))))) (fun h7 =>
(.path [1] (by kernel_rfl)
(.node (by kernel_rfl) (by kernel_rfl) (fun h8 =>
(.node (by kernel_rfl) (by kernel_rfl) (fun h9 =>
(.path [1,1,1] (by kernel_rfl)
(.node (by kernel_rfl) (by kernel_rfl) (fun h10 =>
(.path [1,1] (by kernel_rfl)
(.pt (c := (inR n1 (List.length l0))) (by kernel_rfl) (by kernel_rfl) (by (simp only [w64d, decide_eq_true_eq, decide_eq_false_iff_not, beq_iff_eq, beq_eq_false_iff_ne, bne_iff_ne, ne_eq, inR, Bool.and_eq_true, Bool.and_eq_false_iff, Bool.not_eq_true', Bool.not_eq_false', Bool.not_eq_eq_eq_not, Bool.not_true, Bool.not_false] at *; omega))
(.path [1,1,1,1] (by kernel_rfl)
(.pf (by kernel_rfl) (by kernel_rfl) h3
(.path [1] (by kernel_rfl)
(.pf (by kernel_rfl) (by kernel_rfl) h4
(.path [1] (by kernel_rfl)
(.pt (by kernel_rfl) (by kernel_rfl) h6
(.path [0,1] (by kernel_rfl)
(.pf (by kernel_rfl) (by kernel_rfl) h7
(.pt (c := (cl_3 l0 n1 == n18)) (by kernel_rfl) (by kernel_rfl) (by (simp only [w64d, decide_eq_true_eq, decide_eq_false_iff_not, beq_iff_eq, beq_eq_false_iff_ne, bne_iff_ne, ne_eq, inR, Bool.and_eq_true, Bool.and_eq_false_iff, Bool.not_eq_true', Bool.not_eq_false', Bool.not_eq_eq_eq_not, Bool.not_true, Bool.not_false] at *; omega))
(.node (by kernel_rfl) (by kernel_rfl) (fun h11 =>
(.path [1,1] (by kernel_rfl)
(.node (by kernel_rfl) (by kernel_rfl) (fun h12 =>
(.path [1,1,0,1] (by kernel_rfl)
(.node (by kernel_rfl) (by kernel_rfl) (fun h13 =>
(.path [1,1,0,1,1,1,1,1,1,1,1,1,1,1,1,1,0,1,1,0,1,0,1,1] (by kernel_rfl)
(.pf (c := (n3 != n3)) (by kernel_rfl) (by kernel_rfl) (by (simp [*]; done))
(.path [1] (by kernel_rfl)
(.node (by kernel_rfl) (by kernel_rfl) (fun h14 =>
(.path [1,1] (by kernel_rfl)
(.leaf (by kernel_rfl)))) (fun h14 =>
.none)))))) (fun h13 =>
.none)))) (fun h12 =>
(.path [1,1,1,1] (by kernel_rfl)
(.leaf (by kernel_rfl))))))) (fun h11 =>
.none)))))))))))))) (fun h10 =>
(.path [1,1] (by kernel_rfl)
(.pt (c := (inR n1 (List.length l0))) (by kernel_rfl) (by kernel_rfl) (by (simp only [w64d, decide_eq_true_eq, decide_eq_false_iff_not, beq_iff_eq, beq_eq_false_iff_ne, bne_iff_ne, ne_eq, inR, Bool.and_eq_true, Bool.and_eq_false_iff, Bool.not_eq_true', Bool.not_eq_false', Bool.not_eq_eq_eq_not, Bool.not_true, Bool.not_false] at *; omega))
(.path [1,1,1,1] (by kernel_rfl)
(.pf (by kernel_rfl) (by kernel_rfl) h3
(.path [1] (by kernel_rfl)
(.pf (by kernel_rfl) (by kernel_rfl) h4
(.path [1] (by kernel_rfl)
(.pt (by kernel_rfl) (by kernel_rfl) h6
(.path [0,1] (by kernel_rfl)
(.pf (by kernel_rfl) (by kernel_rfl) h7
(.pt (c := (cl_3 l0 n1 == n18)) (by kernel_rfl) (by kernel_rfl) (by (simp only [w64d, decide_eq_true_eq, decide_eq_false_iff_not, beq_iff_eq, beq_eq_false_iff_ne, bne_iff_ne, ne_eq, inR, Bool.and_eq_true, Bool.and_eq_false_iff, Bool.not_eq_true', Bool.not_eq_false', Bool.not_eq_eq_eq_not, Bool.not_true, Bool.not_false] at *; omega))
(.node (by kernel_rfl) (by kernel_rfl) (fun h11 =>
(.path [1,1] (by kernel_rfl)
(.node (by kernel_rfl) (by kernel_rfl) (fun h12 =>
(.path [1,1,1,1] (by kernel_rfl)
(.leaf (by kernel_rfl)))) (fun h12 =>
(.path [1,1,0,1] (by kernel_rfl)
(.node (by kernel_rfl) (by kernel_rfl) (fun h13 =>
(.path [1,1,0,1,1,1,1,1,1,1,1,1,1,1,1,1,0,1,1,0,1,0,1,1] (by kernel_rfl)
(.pf (c := (n3 != n3)) (by kernel_rfl) (by kernel_rfl) (by (simp [*]; done))
(.path [1] (by kernel_rfl)
(.node (by kernel_rfl) (by kernel_rfl) (fun h14 =>
(.path [1,1] (by kernel_rfl)
(.leaf (by kernel_rfl)))) (fun h14 =>
.none)))))) (fun h13 =>
.none))))))) (fun h11 =>
.none))))))))))))))))) (fun h9 =>
.none))) (fun h8 =>
(.path [0,1,1,0,1,1] (by kernel_rfl)
(.pt (c := (inR n1 (List.length l0))) (by kernel_rfl) (by kernel_rfl) (by (simp only [w64d, decide_eq_true_eq, decide_eq_false_iff_not, beq_iff_eq, beq_eq_false_iff_ne, bne_iff_ne, ne_eq, inR, Bool.and_eq_true, Bool.and_eq_false_iff, Bool.not_eq_true', Bool.not_eq_false', Bool.not_eq_eq_eq_not, Bool.not_true, Bool.not_false] at *; omega))
(.path [1,1,1,1] (by kernel_rfl)
(.pf (by kernel_rfl) (by kernel_rfl) h3
(.path [1] (by kernel_rfl)
(.pf (by kernel_rfl) (by kernel_rfl) h4
(.path [1] (by kernel_rfl)
(.pt (by kernel_rfl) (by kernel_rfl) h6
(.path [0,1] (by kernel_rfl)
(.pf (by kernel_rfl) (by kernel_rfl) h7
(.pf (c := (cl_3 l0 n1 == n18)) (by kernel_rfl) (by kernel_rfl) (by (simp only [w64d, decide_eq_true_eq, decide_eq_false_iff_not, beq_iff_eq, beq_eq_false_iff_ne, bne_iff_ne, ne_eq, inR, Bool.and_eq_true, Bool.and_eq_false_iff, Bool.not_eq_true', Bool.not_eq_false', Bool.not_eq_eq_eq_not, Bool.not_true, Bool.not_false] at *; omega))
(.path [0,1,0,1,1,0,1] (by kernel_rfl)
(.node (by kernel_rfl) (by kernel_rfl) (fun h9 =>
(.path [1,1,0,1,1,1,1,1,1,1,1,1,1,1,1,1,0,1,1,0,1,0,1,1] (by kernel_rfl)
(.pf (c := (n3 != n3)) (by kernel_rfl) (by kernel_rfl) (by (simp [*]; done))
(.path [1] (by kernel_rfl)
(.node (by kernel_rfl) (by kernel_rfl) (fun h10 =>
(.path [1,1] (by kernel_rfl)
(.leaf (by kernel_rfl)))) (fun h10 =>
.none)))))) (fun h9 =>
.none))))))))))))))))))))) (fun h6 =>
(.path [0,1] (by kernel_rfl)
(.pt (c := (n3 == cl_3 l0 n1)) (by kernel_rfl) (by kernel_rfl) (by (simp only [w64d, decide_eq_true_eq, decide_eq_false_iff_not, beq_iff_eq, beq_eq_false_iff_ne, bne_iff_ne, ne_eq, inR, Bool.and_eq_true, Bool.and_eq_false_iff, Bool.not_eq_true', Bool.not_eq_false', Bool.not_eq_eq_eq_not, Bool.not_true, Bool.not_false] at *; omega))
(.node (by kernel_rfl) (by kernel_rfl) (fun h7 =>
(.path [1,1,1] (by kernel_rfl)
(.node (by kernel_rfl) (by kernel_rfl) (fun h8 =>
(.path [1] (by kernel_rfl)
(.pt (c := (inR n1 (List.length l0))) (by kernel_rfl) (by kernel_rfl) (by (simp only [w64d, decide_eq_true_eq, decide_eq_false_iff_not, beq_iff_eq, beq_eq_false_iff_ne, bne_iff_ne, ne_eq, inR, Bool.and_eq_true, Bool.and_eq_false_iff, Bool.not_eq_true', Bool.not_eq_false', Bool.not_eq_eq_eq_not, Bool.not_true, Bool.not_false] at *; omega))
(.path [1,1,1,1] (by kernel_rfl)
(.pf (by kernel_rfl) (by kernel_rfl) h3
(.path [1] (by kernel_rfl)
(.pf (by kernel_rfl) (by kernel_rfl) h4
(.path [1] (by kernel_rfl)
(.pf (by kernel_rfl) (by kernel_rfl) h6
(.path [0] (by kernel_rfl)
(.node (by kernel_rfl) (by kernel_rfl) (fun h9 =>
(.path [1,1] (by kernel_rfl)
(.node (by kernel_rfl) (by kernel_rfl) (fun h10 =>
(.path [1,1,0,1] (by kernel_rfl)
(.node (by kernel_rfl) (by kernel_rfl) (fun h11 =>
(.path [1,1,0,1,1,1,1,1,1,1,1,1,1,1,1,1,0,1,1,0,1,0,1,1] (by kernel_rfl)
(.pf (c := (n3 != n3)) (by kernel_rfl) (by kernel_rfl) (by (simp [*]; done))
(.path [1] (by kernel_rfl)
(.node (by kernel_rfl) (by kernel_rfl) (fun h12 =>
(.path [1,1] (by kernel_rfl)
(.leaf (by kernel_rfl)))) (fun h12 =>
.none)))))) (fun h11 =>
.none)))) (fun h10 =>
(.path [1,1,1,1] (by kernel_rfl)
(.leaf (by kernel_rfl))))))) (fun h9 =>
.none)))))))))))) (fun h8 =>
(.path [1] (by kernel_rfl)
(.pt (c := (inR n1 (List.length l0))) (by kernel_rfl) (by kernel_rfl) (by (simp only [w64d, decide_eq_true_eq, decide_eq_false_iff_not, beq_iff_eq, beq_eq_false_iff_ne, bne_iff_ne, ne_eq, inR, Bool.and_eq_true, Bool.and_eq_false_iff, Bool.not_eq_true', Bool.not_eq_false', Bool.not_eq_eq_eq_not, Bool.not_true, Bool.not_false] at *; omega))
(.path [1,1,1,1] (by kernel_rfl)
(.pf (by kernel_rfl) (by kernel_rfl) h3
(.path [1] (by kernel_rfl)
(.pf (by kernel_rfl) (by kernel_rfl) h4
(.path [1] (by kernel_rfl)
(.pf (by kernel_rfl) (by kernel_rfl) h6
(.path [0] (by kernel_rfl)
(.node (by kernel_rfl) (by kernel_rfl) (fun h9 =>
(.path [1,1] (by kernel_rfl)
(.node (by kernel_rfl) (by kernel_rfl) (fun h10 =>
(.path [1,1,1,1] (by kernel_rfl)
(.leaf (by kernel_rfl)))) (fun h10 =>
(.path [1,1,0,1] (by kernel_rfl)
(.node (by kernel_rfl) (by kernel_rfl) (fun h11 =>
(.path [1,1,0,1,1,1,1,1,1,1,1,1,1,1,1,1,0,1,1,0,1,0,1,1] (by kernel_rfl)
(.pf (c := (n3 != n3)) (by kernel_rfl) (by kernel_rfl) (by (simp [*]; done))
(.path [1] (by kernel_rfl)
(.node (by kernel_rfl) (by kernel_rfl) (fun h12 =>
(.path [1,1] (by kernel_rfl)
(.leaf (by kernel_rfl)))) (fun h12 =>
.none)))))) (fun h11 =>
.none))))))) (fun h9 =>
.none))))))))))))))) (fun h7 =>
.none)))))))) (fun h5 =>
.none))))))))))))) (fun h1 =>
.none))))) (fun h0 =>
.none))))))
end Go.Proofs.Ytcoamiaifbjofaa.Vx
namespace Go.Proofs.Ytcoamiaifbjofaa.Vx
open Go Go.RowKit
set_option linter.unusedVariables false
set_option linter.unusedSimpArgs false
set_option maxRecDepth 100000
set_option maxHeartbeats 0
noncomputable def fn_L3_10_t101 : List Dat → Tree Step
  | [.l (Ty.pair (Ty.int IntKind.i64) (Ty.pair (Ty.int IntKind.i64) (Ty.pair (Ty.int IntKind.i64) (Ty.pair (Ty.int IntKind.u64) (Ty.pair (Ty.int IntKind.u32) (Ty.pair (Ty.int IntKind.u32) (Ty.sl (Ty.pair (Ty.int IntKind.u8) (Ty.int IntKind.i64))))))))) l0, .n n1, .n n2, .n n3, .b b4, .n n5, .n n6, .n n7, .l (Ty.pair (Ty.int IntKind.u8) (Ty.int IntKind.i64)) l8, .n n9, .n n10, .n n11, .l (Ty.pair (Ty.int IntKind.u8) (Ty.int IntKind.i64)) l12, .n n13, .n n14, .n n15, .l (Ty.pair (Ty.int IntKind.u8) (Ty.int IntKind.i64)) l16, .n n17, .n n18, .n n19, .n n20] =>
    (.node (decide (List.length (cl_7 l0 n1) * 16 ≤ 140737488355328))
     (let r1 : Option (Nat × List Dat) := (op_12 [.n (cl_1 l0 n1), .n (3 : Int)]);
      (.node (isK 0 [HK.n] r1)
       (.node (gn (dOf r1) 0 == (0 : Int))
        (.node (decide ((cl_3 l0 n1 : Int) ≤ n3))
         (let r2 : Option (Nat × List Dat) := (op_16n [.n (0 : Int), .n (0 : Int), .n (0 : Int), .n (0 : Int), .n (0 : Int)]);
          (.node (isK 0 [] r2)
           (let r3 : Option (Nat × List Dat) := (op_16o [.n (cl_2 l0 n1), .n (cl_3 l0 n1), .n (cl_4 l0 n1), .n (cl_5 l0 n1), .n (cl_6 l0 n1), .l TCmd (cl_7 l0 n1)]);
            (.node (isK 0 [HK.l TCmd] r3)
             (.leaf (Step.go (.k 5 :: .l TCall l0 :: .n (IntKind.wrap .i64 (n1 + (1 : Int))) :: .n n2 :: .n n3 :: .b b4 :: .n n2 :: .n n3 :: .b true :: .n n5 :: .n n6 :: .n n7 :: .l TCmd l8 :: .b false :: .n n9 :: .n n10 :: .n n11 :: .l TCmd l12 :: .b true :: .n n17 :: .n n18 :: .n n13 :: .n n14 :: .n n15 :: .l TCmd l16 :: .b b4 :: .n n19 :: .n n20 :: .n n5 :: .n n6 :: .n n7 :: .l TCmd l8 :: .n n17 :: .n n18 :: .n n13 :: .n n14 :: .n n15 :: .l TCmd l16 :: [])))
             (.bad 351)))
           (.bad 351)))
         (let r2 : Option (Nat × List Dat) := (op_62 [.l TCmd (cl_7 l0 n1)]);
          (.node (isK 0 [HK.l TCmd] r2)
           (.node (decide (n18 ≤ (cl_3 l0 n1 : Int)))
            (.node (n18 == cl_3 l0 n1)
             (let r3 : Option (Nat × List Dat) := (op_62 [.l TCmd (gl TCmd (dOf r2) 0)]);
              (.node (isK 0 [HK.l TCmd] r3)
               (let r4 : Option (Nat × List Dat) := (op_30 [.n (cl_4 l0 n1), .n (cl_5 l0 n1), .n (cl_6 l0 n1), .l TCmd (gl TCmd (dOf r3) 0), .n (cl_4 l0 n1), .n (cl_5 l0 n1), .n (cl_6 l0 n1), .l TCmd (cl_7 l0 n1)]);
                (.node (isK 0 [HK.b] r4)
                 (.node (!gb (dOf r4) 0)
                  (.leaf (Step.stop 1 [.b false]))
                  (let r5 : Option (Nat × List Dat) := (op_16o [.n n2, .n (cl_3 l0 n1), .n (cl_4 l0 n1), .n (cl_5 l0 n1), .n (cl_6 l0 n1), .l TCmd (gl TCmd (dOf r3) 0)]);
                   (.node (isK 0 [HK.l TCmd] r5)
                    (let r6 : Option (Nat × List Dat) := (op_16o [.n (cl_2 l0 n1), .n (cl_3 l0 n1), .n (cl_4 l0 n1), .n (cl_5 l0 n1), .n (cl_6 l0 n1), .l TCmd (cl_7 l0 n1)]);
                     (.node (isK 0 [HK.l TCmd] r6)
                      (let r7 : Option (Nat × List Dat) := (op_31 [.n (cl_4 l0 n1), .n (cl_5 l0 n1), .n (cl_6 l0 n1), .l TCmd (gl TCmd (dOf r2) 0), .n n13, .n n14, .n n15, .l TCmd l16]);
                       (.node (isK 0 [HK.n, HK.n, HK.n, HK.l TCmd] r7)
                        (let r8 : Option (Nat × List Dat) := (op_32 [.n (cl_4 l0 n1), .n (cl_5 l0 n1), .n (cl_6 l0 n1), .l TCmd (cl_7 l0 n1), .n n13, .n n14, .n n15, .l TCmd l16]);
                         (.node (isK 0 [HK.n, HK.n, HK.n, HK.l TCmd] r8)
                          (let r9 : Option (Nat × List Dat) := (op_30 [.n (gn (dOf r7) 0), .n (gn (dOf r7) 1), .n (gn (dOf r7) 2), .l TCmd (gl TCmd (dOf r7) 3), .n (gn (dOf r8) 0), .n (gn (dOf r8) 1), .n (gn (dOf r8) 2), .l TCmd (gl TCmd (dOf r8) 3)]);
                           (.node (isK 0 [HK.b] r9)
                            (.node (!gb (dOf r9) 0)
                             (.leaf (Step.stop 1 [.b false]))
                             (let r10 : Option (Nat × List Dat) := (op_16o [.n (0 : Int), .n (0 : Int), .n (gn (dOf r7) 0), .n (gn (dOf r7) 1), .n (gn (dOf r7) 2), .l TCmd (gl TCmd (dOf r7) 3)]);
                              (.node (isK 0 [HK.l TCmd] r10)
                               (.leaf (Step.go (.k 6 :: .l TCall l0 :: .n (IntKind.wrap .i64 (n1 + (1 : Int))) :: .n n2 :: .n (cl_3 l0 n1) :: .b false :: .n n2 :: .n (cl_3 l0 n1) :: .b true :: .n (cl_4 l0 n1) :: .n (cl_5 l0 n1) :: .n (cl_6 l0 n1) :: .l TCmd (cl_7 l0 n1) :: .b (n18 == cl_3 l0 n1) :: .n n13 :: .n n14 :: .n n15 :: .l TCmd l16 :: .b (decide (n18 > (cl_3 l0 n1 : Int))) :: .n n17 :: .n n18 :: .n n13 :: .n n14 :: .n n15 :: .l TCmd l16 :: .b false :: .n n2 :: .n (cl_3 l0 n1) :: .n (cl_4 l0 n1) :: .n (cl_5 l0 n1) :: .n (cl_6 l0 n1) :: .l TCmd (gl TCmd (dOf r2) 0) :: .n n17 :: .n n18 :: .n n13 :: .n n14 :: .n n15 :: .l TCmd l16 :: [])))
                               (.bad 351))))
                            (.bad 351)))
                          (.bad 351)))
                        (.bad 351)))
                      (.bad 351)))
                    (.bad 351))))
                 (.bad 351)))
               (.bad 351)))
             (let r3 : Option (Nat × List Dat) := (op_62 [.l TCmd (gl TCmd (dOf r2) 0)]);
              (.node (isK 0 [HK.l TCmd] r3)
               (let r4 : Option (Nat × List Dat) := (op_30 [.n (cl_4 l0 n1), .n (cl_5 l0 n1), .n (cl_6 l0 n1), .l TCmd (gl TCmd (dOf r3) 0), .n (cl_4 l0 n1), .n (cl_5 l0 n1), .n (cl_6 l0 n1), .l TCmd (cl_7 l0 n1)]);
                (.node (isK 0 [HK.b] r4)
                 (.node (!gb (dOf r4) 0)
                  (.leaf (Step.stop 1 [.b false]))
                  (let r5 : Option (Nat × List Dat) := (op_16o [.n n2, .n (cl_3 l0 n1), .n (cl_4 l0 n1), .n (cl_5 l0 n1), .n (cl_6 l0 n1), .l TCmd (gl TCmd (dOf r3) 0)]);
                   (.node (isK 0 [HK.l TCmd] r5)
                    (let r6 : Option (Nat × List Dat) := (op_16o [.n (cl_2 l0 n1), .n (cl_3 l0 n1), .n (cl_4 l0 n1), .n (cl_5 l0 n1), .n (cl_6 l0 n1), .l TCmd (cl_7 l0 n1)]);
                     (.node (isK 0 [HK.l TCmd] r6)
                      (let r7 : Option (Nat × List Dat) := (op_16n [.n (0 : Int), .n (0 : Int), .n (0 : Int), .n (0 : Int), .n (0 : Int)]);
                       (.node (isK 0 [] r7)
                        (.leaf (Step.go (.k 4 :: .l TCall l0 :: .n (IntKind.wrap .i64 (n1 + (1 : Int))) :: .n n2 :: .n (cl_3 l0 n1) :: .b false :: .n n2 :: .n (cl_3 l0 n1) :: .b true :: .n (cl_4 l0 n1) :: .n (cl_5 l0 n1) :: .n (cl_6 l0 n1) :: .l TCmd (cl_7 l0 n1) :: .b (n18 == cl_3 l0 n1) :: .n (0 : Int) :: .n (0 : Int) :: .n (0 : Int) :: .l TCmd [] :: .b (decide (n18 > (cl_3 l0 n1 : Int))) :: .n n17 :: .n n18 :: .n n13 :: .n n14 :: .n n15 :: .l TCmd l16 :: .b false :: .n n2 :: .n (cl_3 l0 n1) :: .n (cl_4 l0 n1) :: .n (cl_5 l0 n1) :: .n (cl_6 l0 n1) :: .l TCmd (gl TCmd (dOf r2) 0) :: [])))
                        (.bad 351)))
                      (.bad 351)))
                    (.bad 351))))
                 (.bad 351)))
               (.bad 351))))
            (let r3 : Option (Nat × List Dat) := (op_62 [.l TCmd (gl TCmd (dOf r2) 0)]);
             (.node (isK 0 [HK.l TCmd] r3)
              (let r4 : Option (Nat × List Dat) := (op_30 [.n (cl_4 l0 n1), .n (cl_5 l0 n1), .n (cl_6 l0 n1), .l TCmd (gl TCmd (dOf r3) 0), .n (cl_4 l0 n1), .n (cl_5 l0 n1), .n (cl_6 l0 n1), .l TCmd (cl_7 l0 n1)]);
               (.node (isK 0 [HK.b] r4)
                (.node (!gb (dOf r4) 0)
                 (.leaf (Step.stop 1 [.b false]))
                 (let r5 : Option (Nat × List Dat) := (op_16o [.n n2, .n (cl_3 l0 n1), .n (cl_4 l0 n1), .n (cl_5 l0 n1), .n (cl_6 l0 n1), .l TCmd (gl TCmd (dOf r3) 0)]);
                  (.node (isK 0 [HK.l TCmd] r5)
                   (let r6 : Option (Nat × List Dat) := (op_16o [.n (cl_2 l0 n1), .n (cl_3 l0 n1), .n (cl_4 l0 n1), .n (cl_5 l0 n1), .n (cl_6 l0 n1), .l TCmd (cl_7 l0 n1)]);
                    (.node (isK 0 [HK.l TCmd] r6)
                     (let r7 : Option (Nat × List Dat) := (op_16n [.n (0 : Int), .n (0 : Int), .n (0 : Int), .n (0 : Int), .n (0 : Int)]);
                      (.node (isK 0 [] r7)
                       (.leaf (Step.go (.k 5 :: .l TCall l0 :: .n (IntKind.wrap .i64 (n1 + (1 : Int))) :: .n n2 :: .n (cl_3 l0 n1) :: .b false :: .n n2 :: .n (cl_3 l0 n1) :: .b true :: .n (cl_4 l0 n1) :: .n (cl_5 l0 n1) :: .n (cl_6 l0 n1) :: .l TCmd (cl_7 l0 n1) :: .b (n18 == cl_3 l0 n1) :: .n (0 : Int) :: .n (0 : Int) :: .n (0 : Int) :: .l TCmd [] :: .b (decide (n18 > (cl_3 l0 n1 : Int))) :: .n n17 :: .n n18 :: .n n13 :: .n n14 :: .n n15 :: .l TCmd l16 :: .b false :: .n n2 :: .n (cl_3 l0 n1) :: .n (cl_4 l0 n1) :: .n (cl_5 l0 n1) :: .n (cl_6 l0 n1) :: .l TCmd (gl TCmd (dOf r2) 0) :: .n n17 :: .n n18 :: .n n13 :: .n n14 :: .n n15 :: .l TCmd l16 :: [])))
                       (.bad 351)))
                     (.bad 351)))
                   (.bad 351))))
                (.bad 351)))
              (.bad 351))))
           (.bad 351))))
        (.node (cl_2 l0 n1 != IntKind.wrap .i64 ((1 : Int) - n2))
         (let r2 : Option (Nat × List Dat) := (op_16o [.n (cl_2 l0 n1), .n (cl_3 l0 n1), .n (cl_4 l0 n1), .n (cl_5 l0 n1), .n (cl_6 l0 n1), .l TCmd (cl_7 l0 n1)]);
          (.node (isK 0 [HK.l TCmd] r2)
           (let r3 : Option (Nat × List Dat) := (op_16n [.n (0 : Int), .n (0 : Int), .n (0 : Int), .n (0 : Int), .n (0 : Int)]);
            (.node (isK 0 [] r3)
             (.leaf (Step.go (.k 5 :: .l TCall l0 :: .n (IntKind.wrap .i64 (n1 + (1 : Int))) :: .n n2 :: .n n3 :: .b b4 :: .n n2 :: .n n3 :: .b true :: .n n5 :: .n n6 :: .n n7 :: .l TCmd l8 :: .b false :: .n n9 :: .n n10 :: .n n11 :: .l TCmd l12 :: .b true :: .n n17 :: .n n18 :: .n n13 :: .n n14 :: .n n15 :: .l TCmd l16 :: .b b4 :: .n n19 :: .n n20 :: .n n5 :: .n n6 :: .n n7 :: .l TCmd l8 :: .n n17 :: .n n18 :: .n n13 :: .n n14 :: .n n15 :: .l TCmd l16 :: [])))
             (.bad 351)))
           (.bad 351)))
         (.node (decide ((cl_3 l0 n1 : Int) < n3))
          (let r2 : Option (Nat × List Dat) := (op_16o [.n (cl_2 l0 n1), .n (cl_3 l0 n1), .n (cl_4 l0 n1), .n (cl_5 l0 n1), .n (cl_6 l0 n1), .l TCmd (cl_7 l0 n1)]);
           (.node (isK 0 [HK.l TCmd] r2)
            (let r3 : Option (Nat × List Dat) := (op_16n [.n (0 : Int), .n (0 : Int), .n (0 : Int), .n (0 : Int), .n (0 : Int)]);
             (.node (isK 0 [] r3)
              (.leaf (Step.go (.k 5 :: .l TCall l0 :: .n (IntKind.wrap .i64 (n1 + (1 : Int))) :: .n n2 :: .n n3 :: .b b4 :: .n n2 :: .n n3 :: .b true :: .n n5 :: .n n6 :: .n n7 :: .l TCmd l8 :: .b false :: .n n9 :: .n n10 :: .n n11 :: .l TCmd l12 :: .b true :: .n n17 :: .n n18 :: .n n13 :: .n n14 :: .n n15 :: .l TCmd l16 :: .b b4 :: .n n19 :: .n n20 :: .n n5 :: .n n6 :: .n n7 :: .l TCmd l8 :: .n n17 :: .n n18 :: .n n13 :: .n n14 :: .n n15 :: .l TCmd l16 :: [])))
              (.bad 351)))
            (.bad 351)))
          (let r2 : Option (Nat × List Dat) := (op_62 [.l TCmd (cl_7 l0 n1)]);
           (.node (isK 0 [HK.l TCmd] r2)
            (.node (decide ((cl_3 l0 n1 : Int) > n3))
             (.node (decide ((cl_3 l0 n1 : Int) > n18))
              (let r3 : Option (Nat × List Dat) := (op_16o [.n (cl_2 l0 n1), .n (cl_3 l0 n1), .n (cl_4 l0 n1), .n (cl_5 l0 n1), .n (cl_6 l0 n1), .l TCmd (cl_7 l0 n1)]);
               (.node (isK 0 [HK.l TCmd] r3)
                (let r4 : Option (Nat × List Dat) := (op_16n [.n (0 : Int), .n (0 : Int), .n (0 : Int), .n (0 : Int), .n (0 : Int)]);
                 (.node (isK 0 [] r4)
                  (.leaf (Step.go (.k 5 :: .l TCall l0 :: .n (IntKind.wrap .i64 (n1 + (1 : Int))) :: .n n2 :: .n n3 :: .b b4 :: .n n2 :: .n n3 :: .b true :: .n n5 :: .n n6 :: .n n7 :: .l TCmd l8 :: .b false :: .n n9 :: .n n10 :: .n n11 :: .l TCmd l12 :: .b true :: .n (cl_2 l0 n1) :: .n (cl_3 l0 n1) :: .n (cl_4 l0 n1) :: .n (cl_5 l0 n1) :: .n (cl_6 l0 n1) :: .l TCmd (cl_7 l0 n1) :: .b b4 :: .n n19 :: .n n20 :: .n n5 :: .n n6 :: .n n7 :: .l TCmd l8 :: .n (cl_2 l0 n1) :: .n (cl_3 l0 n1) :: .n (cl_4 l0 n1) :: .n (cl_5 l0 n1) :: .n (cl_6 l0 n1) :: .l TCmd (gl TCmd (dOf r2) 0) :: [])))
                  (.bad 351)))
                (.bad 351)))
              (.node (n18 == cl_3 l0 n1)
               (let r3 : Option (Nat × List Dat) := (op_29 [.n n13, .n n14, .n n15, .l TCmd l16, .n (cl_4 l0 n1), .n (cl_5 l0 n1), .n (cl_6 l0 n1), .l TCmd (gl TCmd (dOf r2) 0)]);
                (.node (isK 0 [HK.b] r3)
                 (.node (gb (dOf r3) 0)
                  (let r4 : Option (Nat × List Dat) := (op_30 [.n (cl_4 l0 n1), .n (cl_5 l0 n1), .n (cl_6 l0 n1), .l TCmd (cl_7 l0 n1), .n n13, .n n14, .n n15, .l TCmd l16]);
                   (.node (isK 0 [HK.b] r4)
                    (.node (gb (dOf r4) 0)
                     (let r5 : Option (Nat × List Dat) := (op_16o [.n (cl_2 l0 n1), .n (cl_3 l0 n1), .n (cl_4 l0 n1), .n (cl_5 l0 n1), .n (cl_6 l0 n1), .l TCmd (cl_7 l0 n1)]);
                      (.node (isK 0 [HK.l TCmd] r5)
                       (let r6 : Option (Nat × List Dat) := (op_16n [.n (0 : Int), .n (0 : Int), .n (0 : Int), .n (0 : Int), .n (0 : Int)]);
                        (.node (isK 0 [] r6)
                         (.leaf (Step.go (.k 5 :: .l TCall l0 :: .n (IntKind.wrap .i64 (n1 + (1 : Int))) :: .n n2 :: .n n3 :: .b b4 :: .n n2 :: .n n3 :: .b true :: .n n5 :: .n n6 :: .n n7 :: .l TCmd l8 :: .b false :: .n n9 :: .n n10 :: .n n11 :: .l TCmd l12 :: .b true :: .n n17 :: .n n18 :: .n n13 :: .n n14 :: .n n15 :: .l TCmd l16 :: .b b4 :: .n n19 :: .n n20 :: .n n5 :: .n n6 :: .n n7 :: .l TCmd l8 :: .n n17 :: .n n18 :: .n n13 :: .n n14 :: .n n15 :: .l TCmd l16 :: [])))
                         (.bad 351)))
                       (.bad 351)))
                     (.leaf (Step.stop 1 [.b false])))
                    (.bad 351)))
                  (let r4 : Option (Nat × List Dat) := (op_30 [.n (cl_4 l0 n1), .n (cl_5 l0 n1), .n (cl_6 l0 n1), .l TCmd (cl_7 l0 n1), .n n13, .n n14, .n n15, .l TCmd l16]);
                   (.node (isK 0 [HK.b] r4)
                    (.node (gb (dOf r4) 0)
                     (.leaf (Step.stop 1 [.b false]))
                     (let r5 : Option (Nat × List Dat) := (op_16o [.n (cl_2 l0 n1), .n (cl_3 l0 n1), .n (cl_4 l0 n1), .n (cl_5 l0 n1), .n (cl_6 l0 n1), .l TCmd (cl_7 l0 n1)]);
                      (.node (isK 0 [HK.l TCmd] r5)
                       (let r6 : Option (Nat × List Dat) := (op_16n [.n (0 : Int), .n (0 : Int), .n (0 : Int), .n (0 : Int), .n (0 : Int)]);
                        (.node (isK 0 [] r6)
                         (.leaf (Step.go (.k 5 :: .l TCall l0 :: .n (IntKind.wrap .i64 (n1 + (1 : Int))) :: .n n2 :: .n n3 :: .b b4 :: .n n2 :: .n n3 :: .b true :: .n n5 :: .n n6 :: .n n7 :: .l TCmd l8 :: .b false :: .n n9 :: .n n10 :: .n n11 :: .l TCmd l12 :: .b true :: .n n17 :: .n n18 :: .n n13 :: .n n14 :: .n n15 :: .l TCmd l16 :: .b b4 :: .n n19 :: .n n20 :: .n n5 :: .n n6 :: .n n7 :: .l TCmd l8 :: .n n17 :: .n n18 :: .n n13 :: .n n14 :: .n n15 :: .l TCmd l16 :: [])))
                         (.bad 351)))
                       (.bad 351))))
                    (.bad 351))))
                 (.bad 351)))
               (let r3 : Option (Nat × List Dat) := (op_16o [.n (cl_2 l0 n1), .n (cl_3 l0 n1), .n (cl_4 l0 n1), .n (cl_5 l0 n1), .n (cl_6 l0 n1), .l TCmd (cl_7 l0 n1)]);
                (.node (isK 0 [HK.l TCmd] r3)
                 (let r4 : Option (Nat × List Dat) := (op_16n [.n (0 : Int), .n (0 : Int), .n (0 : Int), .n (0 : Int), .n (0 : Int)]);
                  (.node (isK 0 [] r4)
                   (.leaf (Step.go (.k 5 :: .l TCall l0 :: .n (IntKind.wrap .i64 (n1 + (1 : Int))) :: .n n2 :: .n n3 :: .b b4 :: .n n2 :: .n n3 :: .b true :: .n n5 :: .n n6 :: .n n7 :: .l TCmd l8 :: .b false :: .n n9 :: .n n10 :: .n n11 :: .l TCmd l12 :: .b true :: .n n17 :: .n n18 :: .n n13 :: .n n14 :: .n n15 :: .l TCmd l16 :: .b b4 :: .n n19 :: .n n20 :: .n n5 :: .n n6 :: .n n7 :: .l TCmd l8 :: .n n17 :: .n n18 :: .n n13 :: .n n14 :: .n n15 :: .l TCmd l16 :: [])))
                   (.bad 351)))
                 (.bad 351)))))
             (let r3 : Option (Nat × List Dat) := (op_16o [.n (cl_2 l0 n1), .n (cl_3 l0 n1), .n (cl_4 l0 n1), .n (cl_5 l0 n1), .n (cl_6 l0 n1), .l TCmd (cl_7 l0 n1)]);
              (.node (isK 0 [HK.l TCmd] r3)
               (.node (b4)
                (let r4 : Option (Nat × List Dat) := (op_16n [.n (0 : Int), .n (0 : Int), .n (0 : Int), .n (0 : Int), .n (0 : Int)]);
                 (.node (isK 0 [] r4)
                  (.leaf (Step.go (.k 7 :: .l TCall l0 :: .n (IntKind.wrap .i64 (n1 + (1 : Int))) :: .n n2 :: .n n3 :: .b b4 :: .n n2 :: .n n3 :: .b true :: .n n5 :: .n n6 :: .n n7 :: .l TCmd l8 :: .b true :: .n (cl_4 l0 n1) :: .n (cl_5 l0 n1) :: .n (cl_6 l0 n1) :: .l TCmd (cl_7 l0 n1) :: .b true :: .n n17 :: .n n18 :: .n n13 :: .n n14 :: .n n15 :: .l TCmd l16 :: .b b4 :: .n n19 :: .n n20 :: .n n5 :: .n n6 :: .n n7 :: .l TCmd l8 :: .n (cl_2 l0 n1) :: .n (cl_3 l0 n1) :: .n (cl_4 l0 n1) :: .n (cl_5 l0 n1) :: .n (cl_6 l0 n1) :: .l TCmd (gl TCmd (dOf r2) 0) :: .n n17 :: .n n18 :: .n n13 :: .n n14 :: .n n15 :: .l TCmd l16 :: [])))
                  (.bad 351)))
                (let r4 : Option (Nat × List Dat) := (op_31 [.n n5, .n n6, .n n7, .l TCmd l8, .n (cl_4 l0 n1), .n (cl_5 l0 n1), .n (cl_6 l0 n1), .l TCmd (gl TCmd (dOf r2) 0)]);
                 (.node (isK 0 [HK.n, HK.n, HK.n, HK.l TCmd] r4)
                  (let r5 : Option (Nat × List Dat) := (op_32 [.n n5, .n n6, .n n7, .l TCmd l8, .n (cl_4 l0 n1), .n (cl_5 l0 n1), .n (cl_6 l0 n1), .l TCmd (cl_7 l0 n1)]);
                   (.node (isK 0 [HK.n, HK.n, HK.n, HK.l TCmd] r5)
                    (let r6 : Option (Nat × List Dat) := (op_30 [.n (gn (dOf r4) 0), .n (gn (dOf r4) 1), .n (gn (dOf r4) 2), .l TCmd (gl TCmd (dOf r4) 3), .n (gn (dOf r5) 0), .n (gn (dOf r5) 1), .n (gn (dOf r5) 2), .l TCmd (gl TCmd (dOf r5) 3)]);
                     (.node (isK 0 [HK.b] r6)
                      (.node (!gb (dOf r6) 0)
                       (.leaf (Step.stop 1 [.b false]))
                       (let r7 : Option (Nat × List Dat) := (op_16o [.n (0 : Int), .n (0 : Int), .n (gn (dOf r4) 0), .n (gn (dOf r4) 1), .n (gn (dOf r4) 2), .l TCmd (gl TCmd (dOf r4) 3)]);
                        (.node (isK 0 [HK.l TCmd] r7)
                         (.leaf (Step.go (.k 7 :: .l TCall l0 :: .n (IntKind.wrap .i64 (n1 + (1 : Int))) :: .n n2 :: .n n3 :: .b b4 :: .n n2 :: .n n3 :: .b true :: .n n5 :: .n n6 :: .n n7 :: .l TCmd l8 :: .b true :: .n (cl_4 l0 n1) :: .n (cl_5 l0 n1) :: .n (cl_6 l0 n1) :: .l TCmd (cl_7 l0 n1) :: .b true :: .n n17 :: .n n18 :: .n n13 :: .n n14 :: .n n15 :: .l TCmd l16 :: .b b4 :: .n n19 :: .n n20 :: .n n5 :: .n n6 :: .n n7 :: .l TCmd l8 :: .n (cl_2 l0 n1) :: .n (cl_3 l0 n1) :: .n (cl_4 l0 n1) :: .n (cl_5 l0 n1) :: .n (cl_6 l0 n1) :: .l TCmd (gl TCmd (dOf r2) 0) :: .n n17 :: .n n18 :: .n n13 :: .n n14 :: .n n15 :: .l TCmd l16 :: [])))
                         (.bad 351))))
                      (.bad 351)))
                    (.bad 351)))
                  (.bad 351))))
               (.bad 351))))
            (.bad 351))))))
       (.bad 351)))
     (.bad 60))
  | _ => .bad 0
theorem fn_L3_10_t101_im (l0 : List (Ty.den TCall)) (n1 : Int) (n2 : Int) (n3 : Int) (b4 : Bool) (n5 : Int) (n6 : Int) (n7 : Int) (l8 : List (Ty.den TCmd)) (n9 : Int) (n10 : Int) (n11 : Int) (l12 : List (Ty.den TCmd)) (n13 : Int) (n14 : Int) (n15 : Int) (l16 : List (Ty.den TCmd)) (n17 : Int) (n18 : Int) (n19 : Int) (n20 : Int) (g0 : 0 ≤ n1) (g1 :  n1 < (l0.length : Int)) : Imp (fn_L3_10_t101 [.l TCall l0, .n n1, .n n2, .n n3, .b b4, .n n5, .n n6, .n n7, .l TCmd l8, .n n9, .n n10, .n n11, .l TCmd l12, .n n13, .n n14, .n n15, .l TCmd l16, .n n17, .n n18, .n n19, .n n20]) (st_L3_10 [.k 5, .l TCall l0, .n n1, .n n2, .n n3, .b b4, .n n2, .n n3, .b true, .n n5, .n n6, .n n7, .l TCmd l8, .b false, .n n9, .n n10, .n n11, .l TCmd l12, .b true, .n n17, .n n18, .n n13, .n n14, .n n15, .l TCmd l16, .b b4, .n n19, .n n20, .n n5, .n n6, .n n7, .l TCmd l8, .n n17, .n n18, .n n13, .n n14, .n n15, .l TCmd l16]) :=
(.path [1] (by kernel_rfl)
(.pt (c := (decide (n1 < (↑(List.length l0) : Int)))) (by kernel_rfl) (by kernel_rfl) (by (simp [*]; done))
(.pt (c := (inR n1 (List.length l0))) (by kernel_rfl) (by kernel_rfl) (by (simp only [w64d, decide_eq_true_eq, decide_eq_false_iff_not, beq_iff_eq, beq_eq_false_iff_ne, bne_iff_ne, ne_eq, inR, Bool.and_eq_true, Bool.and_eq_false_iff, Bool.not_eq_true', Bool.not_eq_false', Bool.not_eq_eq_eq_not, Bool.not_true, Bool.not_false] at *; omega))
(.path [1] (by kernel_rfl)
(.node (by kernel_rfl) (by kernel_rfl) (fun h0 =>
(.path [1] (by kernel_rfl)
(.pt (c := (inR n1 (List.length l0))) (by kernel_rfl) (by kernel_rfl) (by (simp only [w64d, decide_eq_true_eq, decide_eq_false_iff_not, beq_iff_eq, beq_eq_false_iff_ne, bne_iff_ne, ne_eq, inR, Bool.and_eq_true, Bool.and_eq_false_iff, Bool.not_eq_true', Bool.not_eq_false', Bool.not_eq_eq_eq_not, Bool.not_true, Bool.not_false] at *; omega))
(.node (by kernel_rfl) (by kernel_rfl) (fun h1 =>
(.path [1] (by kernel_rfl)
(.node (by kernel_rfl) (by kernel_rfl) (fun h2 =>
(.path [1,0] (by kernel_rfl)
(.node (by kernel_rfl) (by kernel_rfl) (fun h3 =>
(.path [1] (by kernel_rfl)
(.pt (c := (inR n1 (List.length l0))) (by kernel_rfl) (by kernel_rfl) (by (simp only [w64d, decide_eq_true_eq, decide_eq_false_iff_not, beq_iff_eq, beq_eq_false_iff_ne, bne_iff_ne, ne_eq, inR, Bool.and_eq_true, Bool.and_eq_false_iff, Bool.not_eq_true', Bool.not_eq_false', Bool.not_eq_eq_eq_not, Bool.not_true, Bool.not_false] at *; omega))
(.pt (c := (inR n1 (List.length l0))) (by kernel_rfl) (by kernel_rfl) (by (simp only [w64d, decide_eq_true_eq, decide_eq_false_iff_not, beq_iff_eq, beq_eq_false_iff_ne, bne_iff_ne, ne_eq, inR, Bool.and_eq_true, Bool.and_eq_false_iff, Bool.not_eq_true', Bool.not_eq_false', Bool.not_eq_eq_eq_not, Bool.not_true, Bool.not_false] at *; omega))
(.path [1] (by kernel_rfl)
(.pt (by kernel_rfl) (by kernel_rfl) h3
(.path [1,1,0,1,1,1,1,1,1,0,1] (by kernel_rfl)
(.node (by kernel_rfl) (by kernel_rfl) (fun h4 =>
(.path [1,1] (by kernel_rfl)
(.node (by kernel_rfl) (by kernel_rfl) (fun h5 =>
(.path [1,1,0,0,1,1,1,1,1,0,1,1,1,1,0,1,1,0,1,0,1,1] (by kernel_rfl)
(.pf (c := (n3 != n3)) (by kernel_rfl) (by kernel_rfl) (by (simp [*]; done))
(.path [1] (by kernel_rfl)
(.pt (by kernel_rfl) (by kernel_rfl) h4
(.path [1,1] (by kernel_rfl)
(.leaf (by kernel_rfl)))))))) (fun h5 =>
.none)))) (fun h4 =>
.none))))))))) (fun h3 =>
(.path [1] (by kernel_rfl)
(.node (by kernel_rfl) (by kernel_rfl) (fun h4 =>
(.path [1,1,1,1] (by kernel_rfl)
(.node (by kernel_rfl) (by kernel_rfl) (fun h5 =>
(.node (by kernel_rfl) (by kernel_rfl) (fun h6 =>
(.path [1] (by kernel_rfl)
(.node (by kernel_rfl) (by kernel_rfl) (fun h7 =>
(.path [1,1,1] (by kernel_rfl)
(.pt (c := (inR n1 (List.length l0))) (by kernel_rfl) (by kernel_rfl) (by (simp only [w64d, decide_eq_true_eq, decide_eq_false_iff_not, beq_iff_eq, beq_eq_false_iff_ne, bne_iff_ne, ne_eq, inR, Bool.and_eq_true, Bool.and_eq_false_iff, Bool.not_eq_true', Bool.not_eq_false', Bool.not_eq_eq_eq_not, Bool.not_true, Bool.not_false] at *; omega))
(.pt (c := (inR n1 (List.length l0))) (by kernel_rfl) (by kernel_rfl) (by (simp only [w64d, decide_eq_true_eq, decide_eq_false_iff_not, beq_iff_eq, beq_eq_false_iff_ne, bne_iff_ne, ne_eq, inR, Bool.and_eq_true, Bool.and_eq_false_iff, Bool.not_eq_true', Bool.not_eq_false', Bool.not_eq_eq_eq_not, Bool.not_true, Bool.not_false] at *; omega))
(.path [1] (by kernel_rfl)
(.pf (by kernel_rfl) (by kernel_rfl) h3
(.path [1] (by kernel_rfl)
(.pt (by kernel_rfl) (by kernel_rfl) h0
(.path [1,1] (by kernel_rfl)
(.pt (by kernel_rfl) (by kernel_rfl) h6
(.path [1,1] (by kernel_rfl)
(.pt (by kernel_rfl) (by kernel_rfl) h0
(.path [1,1,1,1,0,1] (by kernel_rfl)
(.pt (c := (n2 == n2)) (by kernel_rfl) (by kernel_rfl) (by (simp [*]; done))
(.pt (c := (cl_3 l0 n1 == cl_3 l0 n1)) (by kernel_rfl) (by kernel_rfl) (by (simp [*]; done))
(.node (by kernel_rfl) (by kernel_rfl) (fun h8 =>
(.path [1,1] (by kernel_rfl)
(.node (by kernel_rfl) (by kernel_rfl) (fun h9 =>
(.path [1] (by kernel_rfl)
(.leaf (by kernel_rfl)))) (fun h9 =>
(.path [1] (by kernel_rfl)
(.node (by kernel_rfl) (by kernel_rfl) (fun h10 =>
(.path [1,1] (by kernel_rfl)
(.node (by kernel_rfl) (by kernel_rfl) (fun h11 =>
(.path [1,1,0,0,0,0] (by kernel_rfl)
(.node (by kernel_rfl) (by kernel_rfl) (fun h12 =>
(.path [1,1,1,1,0] (by kernel_rfl)
(.pf (c := (!n18 == cl_3 l0 n1)) (by kernel_rfl) (by kernel_rfl) (by (simp [*]; done))
(.path [0] (by kernel_rfl)
(.node (by kernel_rfl) (by kernel_rfl) (fun h13 =>
(.path [1,1,1,0] (by kernel_rfl)
(.node (by kernel_rfl) (by kernel_rfl) (fun h14 =>
(.path [1] (by kernel_rfl)
(.node (by kernel_rfl) (by kernel_rfl) (fun h15 =>
(.path [1,1,1,1] (by kernel_rfl)
(.leaf (by kernel_rfl)))) (fun h15 =>
(.path [1,0,1,1] (by kernel_rfl)
(.pf (c := (cl_3 l0 n1 != cl_3 l0 n1)) (by kernel_rfl) (by kernel_rfl) (by (simp [*]; done))
(.path [1] (by kernel_rfl)
(.node (by kernel_rfl) (by kernel_rfl) (fun h16 =>
(.path [1,1] (by kernel_rfl)
(.leaf (by kernel_rfl)))) (fun h16 =>
.none))))))))) (fun h14 =>
.none)))) (fun h13 =>
.none)))))) (fun h12 =>
.none)))) (fun h11 =>
.none)))) (fun h10 =>
.none))))))) (fun h8 =>
.none))))))))))))))))) (fun h7 =>
.none)))) (fun h6 =>
(.path [1] (by kernel_rfl)
(.node (by kernel_rfl) (by kernel_rfl) (fun h7 =>
(.path [1,1,1] (by kernel_rfl)
(.pt (c := (inR n1 (List.length l0))) (by kernel_rfl) (by kernel_rfl) (by (simp only [w64d, decide_eq_true_eq, decide_eq_false_iff_not, beq_iff_eq, beq_eq_false_iff_ne, bne_iff_ne, ne_eq, inR, Bool.and_eq_true, Bool.and_eq_false_iff, Bool.not_eq_true', Bool.not_eq_false', Bool.not_eq_eq_eq_not, Bool.not_true, Bool.not_false] at *; omega))
(.pt (c := (inR n1 (List.length l0))) (by kernel_rfl) (by kernel_rfl) (by (simp only [w64d, decide_eq_true_eq, decide_eq_false_iff_not, beq_iff_eq, beq_eq_false_iff_ne, bne_iff_ne, ne_eq, inR, Bool.and_eq_true, Bool.and_eq_false_iff, Bool.not_eq_true', Bool.not_eq_false', Bool.not_eq_eq_eq_not, Bool.not_true, Bool.not_false] at *; omega))
(.path [1] (by kernel_rfl)
(.pf (by kernel_rfl) (by kernel_rfl) h3
(.path [1] (by kernel_rfl)
(.pt (by kernel_rfl) (by kernel_rfl) h0
(.path [1,1] (by kernel_rfl)
(.pf (by kernel_rfl) (by kernel_rfl) h6
(.path [1,1] (by kernel_rfl)
(.pt (by kernel_rfl) (by kernel_rfl) h0
(.path [1,1,1,1,0,1] (by kernel_rfl)
(.pt (c := (n2 == n2)) (by kernel_rfl) (by kernel_rfl) (by (simp [*]; done))
(.pt (c := (cl_3 l0 n1 == cl_3 l0 n1)) (by kernel_rfl) (by kernel_rfl) (by (simp [*]; done))
(.node (by kernel_rfl) (by kernel_rfl) (fun h8 =>
(.path [1,1] (by kernel_rfl)
(.node (by kernel_rfl) (by kernel_rfl) (fun h9 =>
(.path [1] (by kernel_rfl)
(.leaf (by kernel_rfl)))) (fun h9 =>
(.path [1] (by kernel_rfl)
(.node (by kernel_rfl) (by kernel_rfl) (fun h10 =>
(.path [1,1] (by kernel_rfl)
(.node (by kernel_rfl) (by kernel_rfl) (fun h11 =>
(.path [1,1,0,0,1,1,1,1,1,0] (by kernel_rfl)
(.pt (c := (!n18 == cl_3 l0 n1)) (by kernel_rfl) (by kernel_rfl) (by (simp [*]; done))
(.path [1,1,1,0,1,1,0,1,0,1,1] (by kernel_rfl)
(.pf (c := (cl_3 l0 n1 != cl_3 l0 n1)) (by kernel_rfl) (by kernel_rfl) (by (simp [*]; done))
(.path [1] (by kernel_rfl)
(.node (by kernel_rfl) (by kernel_rfl) (fun h12 =>
(.path [1,1] (by kernel_rfl)
(.leaf (by kernel_rfl)))) (fun h12 =>
.none)))))))) (fun h11 =>
.none)))) (fun h10 =>
.none))))))) (fun h8 =>
.none))))))))))))))))) (fun h7 =>
.none)))))) (fun h5 =>
(.path [1] (by kernel_rfl)
(.node (by kernel_rfl) (by kernel_rfl) (fun h6 =>
(.path [1,1,1] (by kernel_rfl)
(.pt (c := (inR n1 (List.length l0))) (by kernel_rfl) (by kernel_rfl) (by (simp only [w64d, decide_eq_true_eq, decide_eq_false_iff_not, beq_iff_eq, beq_eq_false_iff_ne, bne_iff_ne, ne_eq, inR, Bool.and_eq_true, Bool.and_eq_false_iff, Bool.not_eq_true', Bool.not_eq_false', Bool.not_eq_eq_eq_not, Bool.not_true, Bool.not_false] at *; omega))
(.pt (c := (inR n1 (List.length l0))) (by kernel_rfl) (by kernel_rfl) (by (simp only [w64d, decide_eq_true_eq, decide_eq_false_iff_not, beq_iff_eq, beq_eq_false_iff_ne, bne_iff_ne, ne_eq, inR, Bool.and_eq_true, Bool.and_eq_false_iff, Bool.not_eq_true', Bool.not_eq_false', Bool.not_eq_eq_eq_not, Bool.not_true, Bool.not_false] at *; omega))
(.path [1] (by kernel_rfl)
(.pf (by kernel_rfl) (by kernel_rfl) h3
(.path [1] (by kernel_rfl)
(.pt (by kernel_rfl) (by kernel_rfl) h0
(.path [1,1] (by kernel_rfl)
(.pf (c := (n18 == cl_3 l0 n1)) (by kernel_rfl) (by kernel_rfl) (by (simp only [w64d, decide_eq_true_eq, decide_eq_false_iff_not, beq_iff_eq, beq_eq_false_iff_ne, bne_iff_ne, ne_eq, inR, Bool.and_eq_true, Bool.and_eq_false_iff, Bool.not_eq_true', Bool.not_eq_false', Bool.not_eq_eq_eq_not, Bool.not_true, Bool.not_false] at *; omega))
(.path [1,1] (by kernel_rfl)
(.pt (by kernel_rfl) (by kernel_rfl) h0
(.path [1,1,1,1,0,1] (by kernel_rfl)
(.pt (c := (n2 == n2)) (by kernel_rfl) (by kernel_rfl) (by (simp [*]; done))
(.pt (c := (cl_3 l0 n1 == cl_3 l0 n1)) (by kernel_rfl) (by kernel_rfl) (by (simp [*]; done))
(.node (by kernel_rfl) (by kernel_rfl) (fun h7 =>
(.path [1,1] (by kernel_rfl)
(.node (by kernel_rfl) (by kernel_rfl) (fun h8 =>
(.path [1] (by kernel_rfl)
(.leaf (by kernel_rfl)))) (fun h8 =>
(.path [1] (by kernel_rfl)
(.node (by kernel_rfl) (by kernel_rfl) (fun h9 =>
(.path [1,1] (by kernel_rfl)
(.node (by kernel_rfl) (by kernel_rfl) (fun h10 =>
(.path [1,1,0,0,1,1,1,1,1,0] (by kernel_rfl)
(.pt (c := (!n18 == cl_3 l0 n1)) (by kernel_rfl) (by kernel_rfl) (by (simp only [w64d, decide_eq_true_eq, decide_eq_false_iff_not, beq_iff_eq, beq_eq_false_iff_ne, bne_iff_ne, ne_eq, inR, Bool.and_eq_true, Bool.and_eq_false_iff, Bool.not_eq_true', Bool.not_eq_false', Bool.not_eq_eq_eq_not, Bool.not_true, Bool.not_false] at *; omega))
(.path [1,1,1,0,1,1,0,1,0,1,1] (by kernel_rfl)
(.pf (c := (cl_3 l0 n1 != cl_3 l0 n1)) (by kernel_rfl) (by kernel_rfl) (by (simp [*]; done))
(.path [1] (by kernel_rfl)
(.node (by kernel_rfl) (by kernel_rfl) (fun h11 =>
(.path [1,1] (by kernel_rfl)
(.leaf (by kernel_rfl)))) (fun h11 =>
.none)))))))) (fun h10 =>
.none)))) (fun h9 =>
.none))))))) (fun h7 =>
.none))))))))))))))))) (fun h6 =>
.none))))))) (fun h4 =>
.none))))))) (fun h2 =>
(.path [1,0,0,1] (by kernel_rfl)
(.node (by kernel_rfl) (by kernel_rfl) (fun h3 =>
(.path [1] (by kernel_rfl)
(.pt (c := (inR n1 (List.length l0))) (by kernel_rfl) (by kernel_rfl) (by (simp only [w64d, decide_eq_true_eq, decide_eq_false_iff_not, beq_iff_eq, beq_eq_false_iff_ne, bne_iff_ne, ne_eq, inR, Bool.and_eq_true, Bool.and_eq_false_iff, Bool.not_eq_true', Bool.not_eq_false', Bool.not_eq_eq_eq_not, Bool.not_true, Bool.not_false] at *; omega))
(.path [1,1,1,1] (by kernel_rfl)
(.pt (by kernel_rfl) (by kernel_rfl) h3
(.path [1,1,0,1] (by kernel_rfl)
(.node (by kernel_rfl) (by kernel_rfl) (fun h4 =>
(.path [1,1,0,0,1,1,1,1,1,0,1,1,1,1,0,1,1,0,1,0,1,1] (by kernel_rfl)
(.pf (c := (n3 != n3)) (by kernel_rfl) (by kernel_rfl) (by (simp [*]; done))
(.path [1] (by kernel_rfl)
(.node (by kernel_rfl) (by kernel_rfl) (fun h5 =>
(.path [1,1] (by kernel_rfl)
(.leaf (by kernel_rfl)))) (fun h5 =>
.none)))))) (fun h4 =>
.none)))))))) (fun h3 =>
(.path [1] (by kernel_rfl)
(.node (by kernel_rfl) (by kernel_rfl) (fun h4 =>
(.path [1] (by kernel_rfl)
(.pt (c := (inR n1 (List.length l0))) (by kernel_rfl) (by kernel_rfl) (by (simp only [w64d, decide_eq_true_eq, decide_eq_false_iff_not, beq_iff_eq, beq_eq_false_iff_ne, bne_iff_ne, ne_eq, inR, Bool.and_eq_true, Bool.and_eq_false_iff, Bool.not_eq_true', Bool.not_eq_false', Bool.not_eq_eq_eq_not, Bool.not_true, Bool.not_false] at *; omega))
(.path [1,1,1,1] (by kernel_rfl)
(.pf (by kernel_rfl) (by kernel_rfl) h3
(.path [1] (by kernel_rfl)
(.pt (by kernel_rfl) (by kernel_rfl) h4
(.path [1,1,0,1] (by kernel_rfl)
(.node (by kernel_rfl) (by kernel_rfl) (fun h5 =>
(.path [1,1,0,0,1,1,1,1,1,0,1,1,1,1,0,1,1,0,1,0,1,1] (by kernel_rfl)
(.pf (c := (n3 != n3)) (by kernel_rfl) (by kernel_rfl) (by (simp [*]; done))
(.path [1] (by kernel_rfl)
(.node (by kernel_rfl) (by kernel_rfl) (fun h6 =>
(.path [1,1] (by kernel_rfl)
(.leaf (by kernel_rfl)))) (fun h6 =>
.none)))))) (fun h5 =>
.none)))))))))) (fun h4 =>
(.path [1] (by kernel_rfl)
(.node (by kernel_rfl) (by kernel_rfl) (fun h5 =>
(.path [1,1,1] (by kernel_rfl)
(.node (by kernel_rfl) (by kernel_rfl) (fun h6 =>
(.path [1,0,1] (by kernel_rfl)
(.node (by kernel_rfl) (by kernel_rfl) (fun h7 =>
(.path [1,1] (by kernel_rfl)
(.pt (c := (inR n1 (List.length l0))) (by kernel_rfl) (by kernel_rfl) (by (simp only [w64d, decide_eq_true_eq, decide_eq_false_iff_not, beq_iff_eq, beq_eq_false_iff_ne, bne_iff_ne, ne_eq, inR, Bool.and_eq_true, Bool.and_eq_false_iff, Bool.not_eq_true', Bool.not_eq_false', Bool.not_eq_eq_eq_not, Bool.not_true, Bool.not_false] at *; omega))
(.path [1,1,1,1] (by kernel_rfl)
(.pf (by kernel_rfl) (by kernel_rfl) h3
(.path [1] (by kernel_rfl)
(.pf (by kernel_rfl) (by kernel_rfl) h4
(.path [1] (by kernel_rfl)
(.pt (by kernel_rfl) (by kernel_rfl) h6
(.path [0,1] (by kernel_rfl)
(.pt (by kernel_rfl) (by kernel_rfl) h7
(.path [1] (by kernel_rfl)
(.pt (by kernel_rfl) (by kernel_rfl) h0
(.path [1,1,1,1,0,1] (by kernel_rfl)
(.node (by kernel_rfl) (by kernel_rfl) (fun h8 =>
(.path [1,1,0,0,1,1,1,1,1,0,1,1,1,1,0,1,1,0,1,0,1,1] (by kernel_rfl)
(.pf (c := (n3 != n3)) (by kernel_rfl) (by kernel_rfl) (by (simp [*]; done))
(.path [1] (by kernel_rfl)
(.node (by kernel_rfl) (by kernel_rfl) (fun h9 =>
(.path [1,1] (by kernel_rfl)
(.leaf (by kernel_rfl)))) (fun h9 =>
.none)))))) (fun h8 =>
.none)))))))))))))))) (fun h7 =>
(.path [1] (by kernel_rfl)
(.node (by kernel_rfl) (by kernel_rfl) (fun h8 =>
(.node (by kernel_rfl) (by kernel_rfl) (fun h9 =>
(.path [1,1,1] (by kernel_rfl)
(.node (by kernel_rfl) (by kernel_rfl) (fun h10 =>
(.path [1,1] (by kernel_rfl)
(.pt (c := (inR n1 (List.length l0))) (by kernel_rfl) (by kernel_rfl) (by (simp only [w64d, decide_eq_true_eq, decide_eq_false_iff_not, beq_iff_eq, beq_eq_false_iff_ne, bne_iff_ne, ne_eq, inR, Bool.and_eq_true, Bool.and_eq_false_iff, Bool.not_eq_true', Bool.not_eq_false', Bool.not_eq_eq_eq_not, Bool.not_true, Bool.not_false] at *; omega))
(.path [1,1,1,1] (by kernel_rfl)
(.pf (by kernel_rfl) (by kernel_rfl) h3
(.path [1] (by kernel_rfl)
(.pf (by kernel_rfl) (by kernel_rfl) h4
(.path [1] (by kernel_rfl)
(.pt (by kernel_rfl) (by kernel_rfl) h6
(.path [0,1] (by kernel_rfl)
(.pf (by kernel_rfl) (by kernel_rfl) h7
(.pt (c := (cl_3 l0 n1 == n18)) (by kernel_rfl) (by kernel_rfl) (by (simp only [w64d, decide_eq_true_eq, decide_eq_false_iff_not, beq_iff_eq, beq_eq_false_iff_ne, bne_iff_ne, ne_eq, inR, Bool.and_eq_true, Bool.and_eq_false_iff, Bool.not_eq_true', Bool.not_eq_false', Bool.not_eq_eq_eq_not, Bool.not_true, Bool.not_false] at *; omega))
(.node (by kernel_rfl) (by kernel_rfl) (fun h11 =>
(.path [1,1] (by kernel_rfl)
(.node (by kernel_rfl) (by kernel_rfl) (fun h12 =>
(.path [1,1,0,1] (by kernel_rfl)
(.node (by kernel_rfl) (by kernel_rfl) (fun h13 =>
(.path [1,1,0,0,1,1,1,1,1,0,1,1,1,1,0,1,1,0,1,0,1,1] (by kernel_rfl)
(.pf (c := (n3 != n3)) (by kernel_rfl) (by kernel_rfl) (by (simp [*]; done))
(.path [1] (by kernel_rfl)
(.node (by kernel_rfl) (by kernel_rfl) (fun h14 =>
(.path [1,1] (by kernel_rfl)
(.leaf (by kernel_rfl)))) (fun h14 =>
.none)))))) (fun h13 =>
.none)))) (fun h12 =>
(.path [1,1,1,1] (by kernel_rfl)
(.leaf (by kernel_rfl))))))) (fun h11 =>
.none)))))))))))))) (fun h10 =>
(.path [1,1] (by kernel_rfl)
(.pt (c := (inR n1 (List.length l0))) (by kernel_rfl) (by kernel_rfl) (by (simp only [w64d, decide_eq_true_eq, decide_eq_false_iff_not, beq_iff_eq, beq_eq_false_iff_ne, bne_iff_ne, ne_eq, inR, Bool.and_eq_true, Bool.and_eq_false_iff, Bool.not_eq_true', Bool.not_eq_false', Bool.not_eq_eq_eq_not, Bool.not_true, Bool.not_false] at *; omega))
(.path [1,1,1,1] (by kernel_rfl)
(.pf (by kernel_rfl) (by kernel_rfl) h3
(.path [1] (by kernel_rfl)
(.pf (by kernel_rfl) (by kernel_rfl) h4
(.path [1] (by kernel_rfl)
(.pt (by kernel_rfl) (by kernel_rfl) h6
(.path [0,1] (by kernel_rfl)
(.pf (by kernel_rfl) (by kernel_rfl) h7
(.pt (c := (cl_3 l0 n1 == n18)) (by kernel_rfl) (by kernel_rfl) (by (simp only [w64d, decide_eq_true_eq, decide_eq_false_iff_not, beq_iff_eq, beq_eq_false_iff_ne, bne_iff_ne, ne_eq, inR, Bool.and_eq_true, Bool.and_eq_false_iff, Bool.not_eq_true', Bool.not_eq_false', Bool.not_eq_eq_eq_not, Bool.not_true, Bool.not_false] at *; omega))
(.node (by kernel_rfl) (by kernel_rfl) (fun h11 =>
(.path [1,1] (by kernel_rfl)
(.node (by kernel_rfl) (by kernel_rfl) (fun h12 =>
(.path [1,1,1,1] (by kernel_rfl)
(.leaf (by kernel_rfl)))) (fun h12 =>
(.path [1,1,0,1] (by kernel_rfl)
(.node (by kernel_rfl) (by kernel_rfl) (fun h13 =>
(.path [1,1,0,0,1,1,1,1,1,0,1,1,1,1,0,1,1,0,1,0,1,1] (by kernel_rfl)
(.pf (c := (n3 != n3)) (by kernel_rfl) (by kernel_rfl) (by (simp [*]; done))
(.path [1] (by kernel_rfl)
(.node (by kernel_rfl) (by kernel_rfl) (fun h14 =>
(.path [1,1] (by kernel_rfl)
(.leaf (by kernel_rfl)))) (fun h14 =>
.none)))))) (fun h13 =>
.none))))))) (fun h11 =>
.none))))))))))))))))) (fun h9 =>
.none))) (fun h8 =>
(.path [0,1,1,0,1,1] (by kernel_rfl)
(.pt (c := (inR n1 (List.length l0))) (by kernel_rfl) (by kernel_rfl) (by (simp only [w64d, decide_eq_true_eq, decide_eq_false_iff_not, beq_iff_eq, beq_eq_false_iff_ne, bne_iff_ne, ne_eq, inR, Bool.and_eq_true, Bool.and_eq_false_iff, Bool.not_eq_true', Bool.not_eq_false', Bool.not_eq_eq_eq_not, Bool.not_true, Bool.not_false] at *; omega))
(.path [1,1,1,1] (by kernel_rfl)
(.pf (by kernel_rfl) (by kernel_rfl) h3
(.path [1] (by kernel_rfl)
(.pf (by kernel_rfl) (by kernel_rfl) h4
(.path [1] (by kernel_rfl)
(.pt (by kernel_rfl) (by kernel_rfl) h6
(.path [0,1] (by kernel_rfl)
(.pf (by kernel_rfl) (by kernel_rfl) h7
(.pf (c := (cl_3 l0 n1 == n18)) (by kernel_rfl) (by kernel_rfl) (by (simp only [w64d, decide_eq_true_eq, decide_eq_false_iff_not, beq_iff_eq, beq_eq_false_iff_ne, bne_iff_ne, ne_eq, inR, Bool.and_eq_true, Bool.and_eq_false_iff, Bool.not_eq_true', Bool.not_eq_false', Bool.not_eq_eq_eq_not, Bool.not_true, Bool.not_false] at *; omega))
(.path [0,1,0,1,1,0,1] (by kernel_rfl)
(.node (by kernel_rfl) (by kernel_rfl) (fun h9 =>
(.path [1,1,0,0,1,1,1,1,1,0,1,1,1,1,0,1,1,0,1,0,1,1] (by kernel_rfl)
(.pf (c := (n3 != n3)) (by kernel_rfl) (by kernel_rfl) (by (simp [*]; done))
(.path [1] (by kernel_rfl)
(.node (by kernel_rfl) (by kernel_rfl) (fun h10 =>
(.path [1,1] (by kernel_rfl)
(.leaf (by kernel_rfl)))) (fun h10 =>
.none)))))) (fun h9 =>
.none))))))))))))))))))))) (fun h6 =>
(.path [1,1] (by kernel_rfl)
(.pt (c := (inR n1 (List.length l0))) (by kernel_rfl) (by kernel_rfl) (by (simp only [w64d, decide_eq_true_eq, decide_eq_false_iff_not, beq_iff_eq, beq_eq_false_iff_ne, bne_iff_ne, ne_eq, inR, Bool.and_eq_true, Bool.and_eq_false_iff, Bool.not_eq_true', Bool.not_eq_false', Bool.not_eq_eq_eq_not, Bool.not_true, Bool.not_false] at *; omega))
(.path [1,1,1,1] (by kernel_rfl)
(.pf (by kernel_rfl) (by kernel_rfl) h3
(.path [1] (by kernel_rfl)
(.pf (by kernel_rfl) (by kernel_rfl) h4
(.path [1] (by kernel_rfl)
(.pf (by kernel_rfl) (by kernel_rfl) h6
(.path [1,1] (by kernel_rfl)
(.pt (by kernel_rfl) (by kernel_rfl) h0
(.path [1,1,1,0,1] (by kernel_rfl)
(.node (by kernel_rfl) (by kernel_rfl) (fun h7 =>
(.path [1,1,0,0,0] (by kernel_rfl)
(.node (by kernel_rfl) (by kernel_rfl) (fun h8 =>
(.path [1,1,0,0] (by kernel_rfl)
(.pt (by kernel_rfl) (by kernel_rfl) h8
(.path [1,0,1,1,0,1,0,1,1] (by kernel_rfl)
(.pf (c := (n3 != n3)) (by kernel_rfl) (by kernel_rfl) (by (simp [*]; done))
(.path [1] (by kernel_rfl)
(.node (by kernel_rfl) (by kernel_rfl) (fun h9 =>
(.path [1,1] (by kernel_rfl)
(.leaf (by kernel_rfl)))) (fun h9 =>
.none)))))))) (fun h8 =>
(.node (by kernel_rfl) (by kernel_rfl) (fun h9 =>
(.path [1,1,1,1,0,0] (by kernel_rfl)
(.pf (by kernel_rfl) (by kernel_rfl) h8
(.node (by kernel_rfl) (by kernel_rfl) (fun h10 =>
(.path [1,1,1,0] (by kernel_rfl)
(.node (by kernel_rfl) (by kernel_rfl) (fun h11 =>
(.path [1] (by kernel_rfl)
(.node (by kernel_rfl) (by kernel_rfl) (fun h12 =>
(.path [1,1,1,1] (by kernel_rfl)
(.leaf (by kernel_rfl)))) (fun h12 =>
(.path [1,0,1,1] (by kernel_rfl)
(.pf (c := (n3 != n3)) (by kernel_rfl) (by kernel_rfl) (by (simp [*]; done))
(.path [1] (by kernel_rfl)
(.node (by kernel_rfl) (by kernel_rfl) (fun h13 =>
(.path [1,1] (by kernel_rfl)
(.leaf (by kernel_rfl)))) (fun h13 =>
.none))))))))) (fun h11 =>
.none)))) (fun h10 =>
.none))))) (fun h9 =>
.none)))))) (fun h7 =>
.none))))))))))))))))) (fun h5 =>
.none))))))))))))) (fun h1 =>
.none))))) (fun h0 =>
.none))))))
end Go.Proofs.Ytcoamiaifbjofaa.Vx
namespace Go.Proofs.Ytcoamiaifbjofaa.Vx
open Go Go.RowKit
set_option linter.unusedVariables false
set_option linter.unusedSimpArgs false
set_option maxRecDepth 100000
set_option maxHeartbeats 0
noncomputable def fn_L3_10_t111 : List Dat → Tree Step
  | [.l (Ty.pair (Ty.int IntKind.i64) (Ty.pair (Ty.int IntKind.i64) (Ty.pair (Ty.int IntKind.i64) (Ty.pair (Ty.int IntKind.u64) (Ty.pair (Ty.int IntKind.u32) (Ty.pair (Ty.int IntKind.u32) (Ty.sl (Ty.pair (Ty.int IntKind.u8) (Ty.int IntKind.i64))))))))) l0, .n n1, .n n2, .n n3, .b b4, .n n5, .n n6, .n n7, .l (Ty.pair (Ty.int IntKind.u8) (Ty.int IntKind.i64)) l8, .n n9, .n n10, .n n11, .l (Ty.pair (Ty.int IntKind.u8) (Ty.int IntKind.i64)) l12, .n n13, .n n14, .n n15, .l (Ty.pair (Ty.int IntKind.u8) (Ty.int IntKind.i64)) l16, .n n17, .n n18, .n n19, .n n20, .n n21] =>
    (.node (decide (List.length (cl_7 l0 n1) * 16 ≤ 140737488355328))
     (let r1 : Option (Nat × List Dat) := (op_12 [.n (cl_1 l0 n1), .n (3 : Int)]);
      (.node (isK 0 [HK.n] r1)
       (.node (gn (dOf r1) 0 == (0 : Int))
        (.node (decide ((cl_3 l0 n1 : Int) ≤ n3))
         (let r2 : Option (Nat × List Dat) := (op_16n [.n (0 : Int), .n (0 : Int), .n (0 : Int), .n (0 : Int), .n (0 : Int)]);
          (.node (isK 0 [] r2)
           (let r3 : Option (Nat × List Dat) := (op_16o [.n (cl_2 l0 n1), .n (cl_3 l0 n1), .n (cl_4 l0 n1), .n (cl_5 l0 n1), .n (cl_6 l0 n1), .l TCmd (cl_7 l0 n1)]);
            (.node (isK 0 [HK.l TCmd] r3)
             (.node (b4)
              (.leaf (Step.go (.k 7 :: .l TCall l0 :: .n (IntKind.wrap .i64 (n1 + (1 : Int))) :: .n n2 :: .n n3 :: .b b4 :: .n n2 :: .n n3 :: .b true :: .n n5 :: .n n6 :: .n n7 :: .l TCmd l8 :: .b true :: .n n9 :: .n n10 :: .n n11 :: .l TCmd l12 :: .b true :: .n n17 :: .n n18 :: .n n13 :: .n n14 :: .n n15 :: .l TCmd l16 :: .b b4 :: .n n19 :: .n n20 :: .n n5 :: .n n6 :: .n n7 :: .l TCmd l8 :: .n n21 :: .n n3 :: .n n9 :: .n n10 :: .n n11 :: .l TCmd l12 :: .n n17 :: .n n18 :: .n n13 :: .n n14 :: .n n15 :: .l TCmd l16 :: [])))
              (let r4 : Option (Nat × List Dat) := (op_31 [.n n5, .n n6, .n n7, .l TCmd l8, .n n9, .n n10, .n n11, .l TCmd l12]);
               (.node (isK 0 [HK.n, HK.n, HK.n, HK.l TCmd] r4)
                (let r5 : Option (Nat × List Dat) := (op_32 [.n n5, .n n6, .n n7, .l TCmd l8, .n n9, .n n10, .n n11, .l TCmd l12]);
                 (.node (isK 0 [HK.n, HK.n, HK.n, HK.l TCmd] r5)
                  (let r6 : Option (Nat × List Dat) := (op_30 [.n (gn (dOf r4) 0), .n (gn (dOf r4) 1), .n (gn (dOf r4) 2), .l TCmd (gl TCmd (dOf r4) 3), .n (gn (dOf r5) 0), .n (gn (dOf r5) 1), .n (gn (dOf r5) 2), .l TCmd (gl TCmd (dOf r5) 3)]);
                   (.node (isK 0 [HK.b] r6)
                    (.node (!gb (dOf r6) 0)
                     (.leaf (Step.stop 1 [.b false]))
                     (let r7 : Option (Nat × List Dat) := (op_16o [.n (0 : Int), .n (0 : Int), .n (gn (dOf r4) 0), .n (gn (dOf r4) 1), .n (gn (dOf r4) 2), .l TCmd (gl TCmd (dOf r4) 3)]);
                      (.node (isK 0 [HK.l TCmd] r7)
                       (.leaf (Step.go (.k 7 :: .l TCall l0 :: .n (IntKind.wrap .i64 (n1 + (1 : Int))) :: .n n2 :: .n n3 :: .b b4 :: .n n2 :: .n n3 :: .b true :: .n n5 :: .n n6 :: .n n7 :: .l TCmd l8 :: .b true :: .n n9 :: .n n10 :: .n n11 :: .l TCmd l12 :: .b true :: .n n17 :: .n n18 :: .n n13 :: .n n14 :: .n n15 :: .l TCmd l16 :: .b b4 :: .n n19 :: .n n20 :: .n n5 :: .n n6 :: .n n7 :: .l TCmd l8 :: .n n21 :: .n n3 :: .n n9 :: .n n10 :: .n n11 :: .l TCmd l12 :: .n n17 :: .n n18 :: .n n13 :: .n n14 :: .n n15 :: .l TCmd l16 :: [])))
                       (.bad 351))))
                    (.bad 351)))
                  (.bad 351)))
                (.bad 351))))
             (.bad 351)))
           (.bad 351)))
         (let r2 : Option (Nat × List Dat) := (op_62 [.l TCmd (cl_7 l0 n1)]);
          (.node (isK 0 [HK.l TCmd] r2)
           (.node (decide (n18 ≤ (cl_3 l0 n1 : Int)))
            (.node (n18 == cl_3 l0 n1)
             (let r3 : Option (Nat × List Dat) := (op_62 [.l TCmd (gl TCmd (dOf r2) 0)]);
              (.node (isK 0 [HK.l TCmd] r3)
               (let r4 : Option (Nat × List Dat) := (op_30 [.n (cl_4 l0 n1), .n (cl_5 l0 n1), .n (cl_6 l0 n1), .l TCmd (gl TCmd (dOf r3) 0), .n (cl_4 l0 n1), .n (cl_5 l0 n1), .n (cl_6 l0 n1), .l TCmd (cl_7 l0 n1)]);
                (.node (isK 0 [HK.b] r4)
                 (.node (!gb (dOf r4) 0)
                  (.leaf (Step.stop 1 [.b false]))
                  (let r5 : Option (Nat × List Dat) := (op_16o [.n n2, .n (cl_3 l0 n1), .n (cl_4 l0 n1), .n (cl_5 l0 n1), .n (cl_6 l0 n1), .l TCmd (gl TCmd (dOf r3) 0)]);
                   (.node (isK 0 [HK.l TCmd] r5)
                    (let r6 : Option (Nat × List Dat) := (op_16o [.n (cl_2 l0 n1), .n (cl_3 l0 n1), .n (cl_4 l0 n1), .n (cl_5 l0 n1), .n (cl_6 l0 n1), .l TCmd (cl_7 l0 n1)]);
                     (.node (isK 0 [HK.l TCmd] r6)
                      (let r7 : Option (Nat × List Dat) := (op_31 [.n (cl_4 l0 n1), .n (cl_5 l0 n1), .n (cl_6 l0 n1), .l TCmd (gl TCmd (dOf r2) 0), .n n13, .n n14, .n n15, .l TCmd l16]);
                       (.node (isK 0 [HK.n, HK.n, HK.n, HK.l TCmd] r7)
                        (let r8 : Option (Nat × List Dat) := (op_32 [.n (cl_4 l0 n1), .n (cl_5 l0 n1), .n (cl_6 l0 n1), .l TCmd (cl_7 l0 n1), .n n13, .n n14, .n n15, .l TCmd l16]);
                         (.node (isK 0 [HK.n, HK.n, HK.n, HK.l TCmd] r8)
                          (let r9 : Option (Nat × List Dat) := (op_30 [.n (gn (dOf r7) 0), .n (gn (dOf r7) 1), .n (gn (dOf r7) 2), .l TCmd (gl TCmd (dOf r7) 3), .n (gn (dOf r8) 0), .n (gn (dOf r8) 1), .n (gn (dOf r8) 2), .l TCmd (gl TCmd (dOf r8) 3)]);
                           (.node (isK 0 [HK.b] r9)
                            (.node (!gb (dOf r9) 0)
                             (.leaf (Step.stop 1 [.b false]))
                             (let r10 : Option (Nat × List Dat) := (op_16o [.n (0 : Int), .n (0 : Int), .n (gn (dOf r7) 0), .n (gn (dOf r7) 1), .n (gn (dOf r7) 2), .l TCmd (gl TCmd (dOf r7) 3)]);
                              (.node (isK 0 [HK.l TCmd] r10)
                               (.leaf (Step.go (.k 6 :: .l TCall l0 :: .n (IntKind.wrap .i64 (n1 + (1 : Int))) :: .n n2 :: .n (cl_3 l0 n1) :: .b false :: .n n2 :: .n (cl_3 l0 n1) :: .b true :: .n (cl_4 l0 n1) :: .n (cl_5 l0 n1) :: .n (cl_6 l0 n1) :: .l TCmd (cl_7 l0 n1) :: .b (n18 == cl_3 l0 n1) :: .n n13 :: .n n14 :: .n n15 :: .l TCmd l16 :: .b (decide (n18 > (cl_3 l0 n1 : Int))) :: .n n17 :: .n n18 :: .n n13 :: .n n14 :: .n n15 :: .l TCmd l16 :: .b false :: .n n2 :: .n (cl_3 l0 n1) :: .n (cl_4 l0 n1) :: .n (cl_5 l0 n1) :: .n (cl_6 l0 n1) :: .l TCmd (gl TCmd (dOf r2) 0) :: .n n17 :: .n n18 :: .n n13 :: .n n14 :: .n n15 :: .l TCmd l16 :: [])))
                               (.bad 351))))
                            (.bad 351)))
                          (.bad 351)))
                        (.bad 351)))
                      (.bad 351)))
                    (.bad 351))))
                 (.bad 351)))
               (.bad 351)))
             (let r3 : Option (Nat × List Dat) := (op_62 [.l TCmd (gl TCmd (dOf r2) 0)]);
              (.node (isK 0 [HK.l TCmd] r3)
               (let r4 : Option (Nat × List Dat) := (op_30 [.n (cl_4 l0 n1), .n (cl_5 l0 n1), .n (cl_6 l0 n1), .l TCmd (gl TCmd (dOf r3) 0), .n (cl_4 l0 n1), .n (cl_5 l0 n1), .n (cl_6 l0 n1), .l TCmd (cl_7 l0 n1)]);
                (.node (isK 0 [HK.b] r4)
                 (.node (!gb (dOf r4) 0)
                  (.leaf (Step.stop 1 [.b false]))
                  (let r5 : Option (Nat × List Dat) := (op_16o [.n n2, .n (cl_3 l0 n1), .n (cl_4 l0 n1), .n (cl_5 l0 n1), .n (cl_6 l0 n1), .l TCmd (gl TCmd (dOf r3) 0)]);
                   (.node (isK 0 [HK.l TCmd] r5)
                    (let r6 : Option (Nat × List Dat) := (op_16o [.n (cl_2 l0 n1), .n (cl_3 l0 n1), .n (cl_4 l0 n1), .n (cl_5 l0 n1), .n (cl_6 l0 n1), .l TCmd (cl_7 l0 n1)]);
                     (.node (isK 0 [HK.l TCmd] r6)
                      (let r7 : Option (Nat × List Dat) := (op_16n [.n (0 : Int), .n (0 : Int), .n (0 : Int), .n (0 : Int), .n (0 : Int)]);
                       (.node (isK 0 [] r7)
                        (.leaf (Step.go (.k 4 :: .l TCall l0 :: .n (IntKind.wrap .i64 (n1 + (1 : Int))) :: .n n2 :: .n (cl_3 l0 n1) :: .b false :: .n n2 :: .n (cl_3 l0 n1) :: .b true :: .n (cl_4 l0 n1) :: .n (cl_5 l0 n1) :: .n (cl_6 l0 n1) :: .l TCmd (cl_7 l0 n1) :: .b (n18 == cl_3 l0 n1) :: .n (0 : Int) :: .n (0 : Int) :: .n (0 : Int) :: .l TCmd [] :: .b (decide (n18 > (cl_3 l0 n1 : Int))) :: .n n17 :: .n n18 :: .n n13 :: .n n14 :: .n n15 :: .l TCmd l16 :: .b false :: .n n2 :: .n (cl_3 l0 n1) :: .n (cl_4 l0 n1) :: .n (cl_5 l0 n1) :: .n (cl_6 l0 n1) :: .l TCmd (gl TCmd (dOf r2) 0) :: [])))
                        (.bad 351)))
                      (.bad 351)))
                    (.bad 351))))
                 (.bad 351)))
               (.bad 351))))
            (let r3 : Option (Nat × List Dat) := (op_62 [.l TCmd (gl TCmd (dOf r2) 0)]);
             (.node (isK 0 [HK.l TCmd] r3)
              (let r4 : Option (Nat × List Dat) := (op_30 [.n (cl_4 l0 n1), .n (cl_5 l0 n1), .n (cl_6 l0 n1), .l TCmd (gl TCmd (dOf r3) 0), .n (cl_4 l0 n1), .n (cl_5 l0 n1), .n (cl_6 l0 n1), .l TCmd (cl_7 l0 n1)]);
               (.node (isK 0 [HK.b] r4)
                (.node (!gb (dOf r4) 0)
                 (.leaf (Step.stop 1 [.b false]))
                 (let r5 : Option (Nat × List Dat) := (op_16o [.n n2, .n (cl_3 l0 n1), .n (cl_4 l0 n1), .n (cl_5 l0 n1), .n (cl_6 l0 n1), .l TCmd (gl TCmd (dOf r3) 0)]);
                  (.node (isK 0 [HK.l TCmd] r5)
                   (let r6 : Option (Nat × List Dat) := (op_16o [.n (cl_2 l0 n1), .n (cl_3 l0 n1), .n (cl_4 l0 n1), .n (cl_5 l0 n1), .n (cl_6 l0 n1), .l TCmd (cl_7 l0 n1)]);
                    (.node (isK 0 [HK.l TCmd] r6)
                     (let r7 : Option (Nat × List Dat) := (op_16n [.n (0 : Int), .n (0 : Int), .n (0 : Int), .n (0 : Int), .n (0 : Int)]);
                      (.node (isK 0 [] r7)
                       (.leaf (Step.go (.k 5 :: .l TCall l0 :: .n (IntKind.wrap .i64 (n1 + (1 : Int))) :: .n n2 :: .n (cl_3 l0 n1) :: .b false :: .n n2 :: .n (cl_3 l0 n1) :: .b true :: .n (cl_4 l0 n1) :: .n (cl_5 l0 n1) :: .n (cl_6 l0 n1) :: .l TCmd (cl_7 l0 n1) :: .b (n18 == cl_3 l0 n1) :: .n (0 : Int) :: .n (0 : Int) :: .n (0 : Int) :: .l TCmd [] :: .b (decide (n18 > (cl_3 l0 n1 : Int))) :: .n n17 :: .n n18 :: .n n13 :: .n n14 :: .n n15 :: .l TCmd l16 :: .b false :: .n n2 :: .n (cl_3 l0 n1) :: .n (cl_4 l0 n1) :: .n (cl_5 l0 n1) :: .n (cl_6 l0 n1) :: .l TCmd (gl TCmd (dOf r2) 0) :: .n n17 :: .n n18 :: .n n13 :: .n n14 :: .n n15 :: .l TCmd l16 :: [])))
                       (.bad 351)))
                     (.bad 351)))
                   (.bad 351))))
                (.bad 351)))
              (.bad 351))))
           (.bad 351))))
        (.node (cl_2 l0 n1 != IntKind.wrap .i64 ((1 : Int) - n2))
         (let r2 : Option (Nat × List Dat) := (op_16o [.n (cl_2 l0 n1), .n (cl_3 l0 n1), .n (cl_4 l0 n1), .n (cl_5 l0 n1), .n (cl_6 l0 n1), .l TCmd (cl_7 l0 n1)]);
          (.node (isK 0 [HK.l TCmd] r2)
           (.node (b4)
            (let r3 : Option (Nat × List Dat) := (op_16n [.n (0 : Int), .n (0 : Int), .n (0 : Int), .n (0 : Int), .n (0 : Int)]);
             (.node (isK 0 [] r3)
              (.leaf (Step.go (.k 7 :: .l TCall l0 :: .n (IntKind.wrap .i64 (n1 + (1 : Int))) :: .n n2 :: .n n3 :: .b b4 :: .n n2 :: .n n3 :: .b true :: .n n5 :: .n n6 :: .n n7 :: .l TCmd l8 :: .b true :: .n n9 :: .n n10 :: .n n11 :: .l TCmd l12 :: .b true :: .n n17 :: .n n18 :: .n n13 :: .n n14 :: .n n15 :: .l TCmd l16 :: .b b4 :: .n n19 :: .n n20 :: .n n5 :: .n n6 :: .n n7 :: .l TCmd l8 :: .n n21 :: .n n3 :: .n n9 :: .n n10 :: .n n11 :: .l TCmd l12 :: .n n17 :: .n n18 :: .n n13 :: .n n14 :: .n n15 :: .l TCmd l16 :: [])))
              (.bad 351)))
            (let r3 : Option (Nat × List Dat) := (op_31 [.n n5, .n n6, .n n7, .l TCmd l8, .n n9, .n n10, .n n11, .l TCmd l12]);
             (.node (isK 0 [HK.n, HK.n, HK.n, HK.l TCmd] r3)
              (let r4 : Option (Nat × List Dat) := (op_32 [.n n5, .n n6, .n n7, .l TCmd l8, .n n9, .n n10, .n n11, .l TCmd l12]);
               (.node (isK 0 [HK.n, HK.n, HK.n, HK.l TCmd] r4)
                (let r5 : Option (Nat × List Dat) := (op_30 [.n (gn (dOf r3) 0), .n (gn (dOf r3) 1), .n (gn (dOf r3) 2), .l TCmd (gl TCmd (dOf r3) 3), .n (gn (dOf r4) 0), .n (gn (dOf r4) 1), .n (gn (dOf r4) 2), .l TCmd (gl TCmd (dOf r4) 3)]);
                 (.node (isK 0 [HK.b] r5)
                  (.node (!gb (dOf r5) 0)
                   (.leaf (Step.stop 1 [.b false]))
                   (let r6 : Option (Nat × List Dat) := (op_16o [.n (0 : Int), .n (0 : Int), .n (gn (dOf r3) 0), .n (gn (dOf r3) 1), .n (gn (dOf r3) 2), .l TCmd (gl TCmd (dOf r3) 3)]);
                    (.node (isK 0 [HK.l TCmd] r6)
                     (.leaf (Step.go (.k 7 :: .l TCall l0 :: .n (IntKind.wrap .i64 (n1 + (1 : Int))) :: .n n2 :: .n n3 :: .b b4 :: .n n2 :: .n n3 :: .b true :: .n n5 :: .n n6 :: .n n7 :: .l TCmd l8 :: .b true :: .n n9 :: .n n10 :: .n n11 :: .l TCmd l12 :: .b true :: .n n17 :: .n n18 :: .n n13 :: .n n14 :: .n n15 :: .l TCmd l16 :: .b b4 :: .n n19 :: .n n20 :: .n n5 :: .n n6 :: .n n7 :: .l TCmd l8 :: .n n21 :: .n n3 :: .n n9 :: .n n10 :: .n n11 :: .l TCmd l12 :: .n n17 :: .n n18 :: .n n13 :: .n n14 :: .n n15 :: .l TCmd l16 :: [])))
                     (.bad 351))))
                  (.bad 351)))
                (.bad 351)))
              (.bad 351))))
           (.bad 351)))
         (.node (decide ((cl_3 l0 n1 : Int) < n3))
          (let r2 : Option (Nat × List Dat) := (op_16o [.n (cl_2 l0 n1), .n (cl_3 l0 n1), .n (cl_4 l0 n1), .n (cl_5 l0 n1), .n (cl_6 l0 n1), .l TCmd (cl_7 l0 n1)]);
           (.node (isK 0 [HK.l TCmd] r2)
            (.node (b4)
             (let r3 : Option (Nat × List Dat) := (op_16n [.n (0 : Int), .n (0 : Int), .n (0 : Int), .n (0 : Int), .n (0 : Int)]);
              (.node (isK 0 [] r3)
               (.leaf (Step.go (.k 7 :: .l TCall l0 :: .n (IntKind.wrap .i64 (n1 + (1 : Int))) :: .n n2 :: .n n3 :: .b b4 :: .n n2 :: .n n3 :: .b true :: .n n5 :: .n n6 :: .n n7 :: .l TCmd l8 :: .b true :: .n n9 :: .n n10 :: .n n11 :: .l TCmd l12 :: .b true :: .n n17 :: .n n18 :: .n n13 :: .n n14 :: .n n15 :: .l TCmd l16 :: .b b4 :: .n n19 :: .n n20 :: .n n5 :: .n n6 :: .n n7 :: .l TCmd l8 :: .n n21 :: .n n3 :: .n n9 :: .n n10 :: .n n11 :: .l TCmd l12 :: .n n17 :: .n n18 :: .n n13 :: .n n14 :: .n n15 :: .l TCmd l16 :: [])))
               (.bad 351)))
             (let r3 : Option (Nat × List Dat) := (op_31 [.n n5, .n n6, .n n7, .l TCmd l8, .n n9, .n n10, .n n11, .l TCmd l12]);
              (.node (isK 0 [HK.n, HK.n, HK.n, HK.l TCmd] r3)
               (let r4 : Option (Nat × List Dat) := (op_32 [.n n5, .n n6, .n n7, .l TCmd l8, .n n9, .n n10, .n n11, .l TCmd l12]);
                (.node (isK 0 [HK.n, HK.n, HK.n, HK.l TCmd] r4)
                 (let r5 : Option (Nat × List Dat) := (op_30 [.n (gn (dOf r3) 0), .n (gn (dOf r3) 1), .n (gn (dOf r3) 2), .l TCmd (gl TCmd (dOf r3) 3), .n (gn (dOf r4) 0), .n (gn (dOf r4) 1), .n (gn (dOf r4) 2), .l TCmd (gl TCmd (dOf r4) 3)]);
                  (.node (isK 0 [HK.b] r5)
                   (.node (!gb (dOf r5) 0)
                    (.leaf (Step.stop 1 [.b false]))
                    (let r6 : Option (Nat × List Dat) := (op_16o [.n (0 : Int), .n (0 : Int), .n (gn (dOf r3) 0), .n (gn (dOf r3) 1), .n (gn (dOf r3) 2), .l TCmd (gl TCmd (dOf r3) 3)]);
                     (.node (isK 0 [HK.l TCmd] r6)
                      (.leaf (Step.go (.k 7 :: .l TCall l0 :: .n (IntKind.wrap .i64 (n1 + (1 : Int))) :: .n n2 :: .n n3 :: .b b4 :: .n n2 :: .n n3 :: .b true :: .n n5 :: .n n6 :: .n n7 :: .l TCmd l8 :: .b true :: .n n9 :: .n n10 :: .n n11 :: .l TCmd l12 :: .b true :: .n n17 :: .n n18 :: .n n13 :: .n n14 :: .n n15 :: .l TCmd l16 :: .b b4 :: .n n19 :: .n n20 :: .n n5 :: .n n6 :: .n n7 :: .l TCmd l8 :: .n n21 :: .n n3 :: .n n9 :: .n n10 :: .n n11 :: .l TCmd l12 :: .n n17 :: .n n18 :: .n n13 :: .n n14 :: .n n15 :: .l TCmd l16 :: [])))
                      (.bad 351))))
                   (.bad 351)))
                 (.bad 351)))
               (.bad 351))))
            (.bad 351)))
          (let r2 : Option (Nat × List Dat) := (op_62 [.l TCmd (cl_7 l0 n1)]);
           (.node (isK 0 [HK.l TCmd] r2)
            (.node (decide ((cl_3 l0 n1 : Int) > n3))
             (.node (decide ((cl_3 l0 n1 : Int) > n18))
              (let r3 : Option (Nat × List Dat) := (op_16o [.n (cl_2 l0 n1), .n (cl_3 l0 n1), .n (cl_4 l0 n1), .n (cl_5 l0 n1), .n (cl_6 l0 n1), .l TCmd (cl_7 l0 n1)]);
               (.node (isK 0 [HK.l TCmd] r3)
                (.node (b4)
                 (let r4 : Option (Nat × List Dat) := (op_16n [.n (0 : Int), .n (0 : Int), .n (0 : Int), .n (0 : Int), .n (0 : Int)]);
                  (.node (isK 0 [] r4)
                   (.leaf (Step.go (.k 7 :: .l TCall l0 :: .n (IntKind.wrap .i64 (n1 + (1 : Int))) :: .n n2 :: .n n3 :: .b b4 :: .n n2 :: .n n3 :: .b true :: .n n5 :: .n n6 :: .n n7 :: .l TCmd l8 :: .b true :: .n n9 :: .n n10 :: .n n11 :: .l TCmd l12 :: .b true :: .n (cl_2 l0 n1) :: .n (cl_3 l0 n1) :: .n (cl_4 l0 n1) :: .n (cl_5 l0 n1) :: .n (cl_6 l0 n1) :: .l TCmd (cl_7 l0 n1) :: .b b4 :: .n n19 :: .n n20 :: .n n5 :: .n n6 :: .n n7 :: .l TCmd l8 :: .n n21 :: .n n3 :: .n n9 :: .n n10 :: .n n11 :: .l TCmd l12 :: .n (cl_2 l0 n1) :: .n (cl_3 l0 n1) :: .n (cl_4 l0 n1) :: .n (cl_5 l0 n1) :: .n (cl_6 l0 n1) :: .l TCmd (gl TCmd (dOf r2) 0) :: [])))
                   (.bad 351)))
                 (let r4 : Option (Nat × List Dat) := (op_31 [.n n5, .n n6, .n n7, .l TCmd l8, .n n9, .n n10, .n n11, .l TCmd l12]);
                  (.node (isK 0 [HK.n, HK.n, HK.n, HK.l TCmd] r4)
                   (let r5 : Option (Nat × List Dat) := (op_32 [.n n5, .n n6, .n n7, .l TCmd l8, .n n9, .n n10, .n n11, .l TCmd l12]);
                    (.node (isK 0 [HK.n, HK.n, HK.n, HK.l TCmd] r5)
                     (let r6 : Option (Nat × List Dat) := (op_30 [.n (gn (dOf r4) 0), .n (gn (dOf r4) 1), .n (gn (dOf r4) 2), .l TCmd (gl TCmd (dOf r4) 3), .n (gn (dOf r5) 0), .n (gn (dOf r5) 1), .n (gn (dOf r5) 2), .l TCmd (gl TCmd (dOf r5) 3)]);
                      (.node (isK 0 [HK.b] r6)
                       (.node (!gb (dOf r6) 0)
                        (.leaf (Step.stop 1 [.b false]))
                        (let r7 : Option (Nat × List Dat) := (op_16o [.n (0 : Int), .n (0 : Int), .n (gn (dOf r4) 0), .n (gn (dOf r4) 1), .n (gn (dOf r4) 2), .l TCmd (gl TCmd (dOf r4) 3)]);
                         (.node (isK 0 [HK.l TCmd] r7)
                          (.leaf (Step.go (.k 7 :: .l TCall l0 :: .n (IntKind.wrap .i64 (n1 + (1 : Int))) :: .n n2 :: .n n3 :: .b b4 :: .n n2 :: .n n3 :: .b true :: .n n5 :: .n n6 :: .n n7 :: .l TCmd l8 :: .b true :: .n n9 :: .n n10 :: .n n11 :: .l TCmd l12 :: .b true :: .n (cl_2 l0 n1) :: .n (cl_3 l0 n1) :: .n (cl_4 l0 n1) :: .n (cl_5 l0 n1) :: .n (cl_6 l0 n1) :: .l TCmd (cl_7 l0 n1) :: .b b4 :: .n n19 :: .n n20 :: .n n5 :: .n n6 :: .n n7 :: .l TCmd l8 :: .n n21 :: .n n3 :: .n n9 :: .n n10 :: .n n11 :: .l TCmd l12 :: .n (cl_2 l0 n1) :: .n (cl_3 l0 n1) :: .n (cl_4 l0 n1) :: .n (cl_5 l0 n1) :: .n (cl_6 l0 n1) :: .l TCmd (gl TCmd (dOf r2) 0) :: [])))
                          (.bad 351))))
                       (.bad 351)))
                     (.bad 351)))
                   (.bad 351))))
                (.bad 351)))
              (.node (n18 == cl_3 l0 n1)
               (let r3 : Option (Nat × List Dat) := (op_29 [.n n13, .n n14, .n n15, .l TCmd l16, .n (cl_4 l0 n1), .n (cl_5 l0 n1), .n (cl_6 l0 n1), .l TCmd (gl TCmd (dOf r2) 0)]);
                (.node (isK 0 [HK.b] r3)
                 (.node (gb (dOf r3) 0)
                  (let r4 : Option (Nat × List Dat) := (op_30 [.n (cl_4 l0 n1), .n (cl_5 l0 n1), .n (cl_6 l0 n1), .l TCmd (cl_7 l0 n1), .n n13, .n n14, .n n15, .l TCmd l16]);
                   (.node (isK 0 [HK.b] r4)
                    (.node (gb (dOf r4) 0)
                     (let r5 : Option (Nat × List Dat) := (op_16o [.n (cl_2 l0 n1), .n (cl_3 l0 n1), .n (cl_4 l0 n1), .n (cl_5 l0 n1), .n (cl_6 l0 n1), .l TCmd (cl_7 l0 n1)]);
                      (.node (isK 0 [HK.l TCmd] r5)
                       (.node (b4)
                        (let r6 : Option (Nat × List Dat) := (op_16n [.n (0 : Int), .n (0 : Int), .n (0 : Int), .n (0 : Int), .n (0 : Int)]);
                         (.node (isK 0 [] r6)
                          (.leaf (Step.go (.k 7 :: .l TCall l0 :: .n (IntKind.wrap .i64 (n1 + (1 : Int))) :: .n n2 :: .n n3 :: .b b4 :: .n n2 :: .n n3 :: .b true :: .n n5 :: .n n6 :: .n n7 :: .l TCmd l8 :: .b true :: .n n9 :: .n n10 :: .n n11 :: .l TCmd l12 :: .b true :: .n n17 :: .n n18 :: .n n13 :: .n n14 :: .n n15 :: .l TCmd l16 :: .b b4 :: .n n19 :: .n n20 :: .n n5 :: .n n6 :: .n n7 :: .l TCmd l8 :: .n n21 :: .n n3 :: .n n9 :: .n n10 :: .n n11 :: .l TCmd l12 :: .n n17 :: .n n18 :: .n n13 :: .n n14 :: .n n15 :: .l TCmd l16 :: [])))
                          (.bad 351)))
                        (let r6 : Option (Nat × List Dat) := (op_31 [.n n5, .n n6, .n n7, .l TCmd l8, .n n9, .n n10, .n n11, .l TCmd l12]);
                         (.node (isK 0 [HK.n, HK.n, HK.n, HK.l TCmd] r6)
                          (let r7 : Option (Nat × List Dat) := (op_32 [.n n5, .n n6, .n n7, .l TCmd l8, .n n9, .n n10, .n n11, .l TCmd l12]);
                           (.node (isK 0 [HK.n, HK.n, HK.n, HK.l TCmd] r7)
                            (let r8 : Option (Nat × List Dat) := (op_30 [.n (gn (dOf r6) 0), .n (gn (dOf r6) 1), .n (gn (dOf r6) 2), .l TCmd (gl TCmd (dOf r6) 3), .n (gn (dOf r7) 0), .n (gn (dOf r7) 1), .n (gn (dOf r7) 2), .l TCmd (gl TCmd (dOf r7) 3)]);
                             (.node (isK 0 [HK.b] r8)
                              (.node (!gb (dOf r8) 0)
                               (.leaf (Step.stop 1 [.b false]))
                               (let r9 : Option (Nat × List Dat) := (op_16o [.n (0 : Int), .n (0 : Int), .n (gn (dOf r6) 0), .n (gn (dOf r6) 1), .n (gn (dOf r6) 2), .l TCmd (gl TCmd (dOf r6) 3)]);
                                (.node (isK 0 [HK.l TCmd] r9)
                                 (.leaf (Step.go (.k 7 :: .l TCall l0 :: .n (IntKind.wrap .i64 (n1 + (1 : Int))) :: .n n2 :: .n n3 :: .b b4 :: .n n2 :: .n n3 :: .b true :: .n n5 :: .n n6 :: .n n7 :: .l TCmd l8 :: .b true :: .n n9 :: .n n10 :: .n n11 :: .l TCmd l12 :: .b true :: .n n17 :: .n n18 :: .n n13 :: .n n14 :: .n n15 :: .l TCmd l16 :: .b b4 :: .n n19 :: .n n20 :: .n n5 :: .n n6 :: .n n7 :: .l TCmd l8 :: .n n21 :: .n n3 :: .n n9 :: .n n10 :: .n n11 :: .l TCmd l12 :: .n n17 :: .n n18 :: .n n13 :: .n n14 :: .n n15 :: .l TCmd l16 :: [])))
                                 (.bad 351))))
                              (.bad 351)))
                            (.bad 351)))
                          (.bad 351))))
                       (.bad 351)))
                     (.leaf (Step.stop 1 [.b false])))
                    (.bad 351)))
                  (let r4 : Option (Nat × List Dat) := (op_30 [.n (cl_4 l0 n1), .n (cl_5 l0 n1), .n (cl_6 l0 n1), .l TCmd (cl_7 l0 n1), .n n13, .n n14, .n n15, .l TCmd l16]);
                   (.node (isK 0 [HK.b] r4)
                    (.node (gb (dOf r4) 0)
                     (.leaf (Step.stop 1 [.b false]))
                     (let r5 : Option (Nat × List Dat) := (op_16o [.n (cl_2 l0 n1), .n (cl_3 l0 n1), .n (cl_4 l0 n1), .n (cl_5 l0 n1), .n (cl_6 l0 n1), .l TCmd (cl_7 l0 n1)]);
                      (.node (isK 0 [HK.l TCmd] r5)
                       (.node (b4)
                        (let r6 : Option (Nat × List Dat) := (op_16n [.n (0 : Int), .n (0 : Int), .n (0 : Int), .n (0 : Int), .n (0 : Int)]);
                         (.node (isK 0 [] r6)
                          (.leaf (Step.go (.k 7 :: .l TCall l0 :: .n (IntKind.wrap .i64 (n1 + (1 : Int))) :: .n n2 :: .n n3 :: .b b4 :: .n n2 :: .n n3 :: .b true :: .n n5 :: .n n6 :: .n n7 :: .l TCmd l8 :: .b true :: .n n9 :: .n n10 :: .n n11 :: .l TCmd l12 :: .b true :: .n n17 :: .n n18 :: .n n13 :: .n n14 :: .n n15 :: .l TCmd l16 :: .b b4 :: .n n19 :: .n n20 :: .n n5 :: .n n6 :: .n n7 :: .l TCmd l8 :: .n n21 :: .n n3 :: .n n9 :: .n n10 :: .n n11 :: .l TCmd l12 :: .n n17 :: .n n18 :: .n n13 :: .n n14 :: .n n15 :: .l TCmd l16 :: [])))
                          (.bad 351)))
                        (let r6 : Option (Nat × List Dat) := (op_31 [.n n5, .n n6, .n n7, .l TCmd l8, .n n9, .n n10, .n n11, .l TCmd l12]);
                         (.node (isK 0 [HK.n, HK.n, HK.n, HK.l TCmd] r6)
                          (let r7 : Option (Nat × List Dat) := (op_32 [.n n5, .n n6, .n n7, .l TCmd l8, .n n9, .n n10, .n n11, .l TCmd l12]);
                           (.node (isK 0 [HK.n, HK.n, HK.n, HK.l TCmd] r7)
                            (let r8 : Option (Nat × List Dat) := (op_30 [.n (gn (dOf r6) 0), .n (gn (dOf r6) 1), .n (gn (dOf r6) 2), .l TCmd (gl TCmd (dOf r6) 3), .n (gn (dOf r7) 0), .n (gn (dOf r7) 1), .n (gn (dOf r7) 2), .l TCmd (gl TCmd (dOf r7) 3)]);
                             (.node (isK 0 [HK.b] r8)
                              (.node (!gb (dOf r8) 0)
                               (.leaf (Step.stop 1 [.b false]))
                               (let r9 : Option (Nat × List Dat) := (op_16o [.n (0 : Int), .n (0 : Int), .n (gn (dOf r6) 0), .n (gn (dOf r6) 1), .n (gn (dOf r6) 2), .l TCmd (gl TCmd (dOf r6) 3)]);
                                (.node (isK 0 [HK.l TCmd] r9)
                                 (.leaf (Step.go (.k 7 :: .l TCall l0 :: .n (IntKind.wrap .i64 (n1 + (1 : Int))) :: .n n2 :: .n n3 :: .b b4 :: .n n2 :: .n n3 :: .b true :: .n n5 :: .n n6 :: .n n7 :: .l TCmd l8 :: .b true :: .n n9 :: .n n10 :: .n n11 :: .l TCmd l12 :: .b true :: .n n17 :: .n n18 :: .n n13 :: .n n14 :: .n n15 :: .l TCmd l16 :: .b b4 :: .n n19 :: .n n20 :: .n n5 :: .n n6 :: .n n7 :: .l TCmd l8 :: .n n21 :: .n n3 :: .n n9 :: .n n10 :: .n n11 :: .l TCmd l12 :: .n n17 :: .n n18 :: .n n13 :: .n n14 :: .n n15 :: .l TCmd l16 :: [])))
                                 (.bad 351))))
                              (.bad 351)))
                            (.bad 351)))
                          (.bad 351))))
                       (.bad 351))))
                    (.bad 351))))
                 (.bad 351)))
               (let r3 : Option (Nat × List Dat) := (op_16o [.n (cl_2 l0 n1), .n (cl_3 l0 n1), .n (cl_4 l0 n1), .n (cl_5 l0 n1), .n (cl_6 l0 n1), .l TCmd (cl_7 l0 n1)]);
                (.node (isK 0 [HK.l TCmd] r3)
                 (.node (b4)
                  (let r4 : Option (Nat × List Dat) := (op_16n [.n (0 : Int), .n (0 : Int), .n (0 : Int), .n (0 : Int), .n (0 : Int)]);
                   (.node (isK 0 [] r4)
                    (.leaf (Step.go (.k 7 :: .l TCall l0 :: .n (IntKind.wrap .i64 (n1 + (1 : Int))) :: .n n2 :: .n n3 :: .b b4 :: .n n2 :: .n n3 :: .b true :: .n n5 :: .n n6 :: .n n7 :: .l TCmd l8 :: .b true :: .n n9 :: .n n10 :: .n n11 :: .l TCmd l12 :: .b true :: .n n17 :: .n n18 :: .n n13 :: .n n14 :: .n n15 :: .l TCmd l16 :: .b b4 :: .n n19 :: .n n20 :: .n n5 :: .n n6 :: .n n7 :: .l TCmd l8 :: .n n21 :: .n n3 :: .n n9 :: .n n10 :: .n n11 :: .l TCmd l12 :: .n n17 :: .n n18 :: .n n13 :: .n n14 :: .n n15 :: .l TCmd l16 :: [])))
                    (.bad 351)))
                  (let r4 : Option (Nat × List Dat) := (op_31 [.n n5, .n n6, .n n7, .l TCmd l8, .n n9, .n n10, .n n11, .l TCmd l12]);
                   (.node (isK 0 [HK.n, HK.n, HK.n, HK.l TCmd] r4)
                    (let r5 : Option (Nat × List Dat) := (op_32 [.n n5, .n n6, .n n7, .l TCmd l8, .n n9, .n n10, .n n11, .l TCmd l12]);
                     (.node (isK 0 [HK.n, HK.n, HK.n, HK.l TCmd] r5)
                      (let r6 : Option (Nat × List Dat) := (op_30 [.n (gn (dOf r4) 0), .n (gn (dOf r4) 1), .n (gn (dOf r4) 2), .l TCmd (gl TCmd (dOf r4) 3), .n (gn (dOf r5) 0), .n (gn (dOf r5) 1), .n (gn (dOf r5) 2), .l TCmd (gl TCmd (dOf r5) 3)]);
                       (.node (isK 0 [HK.b] r6)
                        (.node (!gb (dOf r6) 0)
                         (.leaf (Step.stop 1 [.b false]))
                         (let r7 : Option (Nat × List Dat) := (op_16o [.n (0 : Int), .n (0 : Int), .n (gn (dOf r4) 0), .n (gn (dOf r4) 1), .n (gn (dOf r4) 2), .l TCmd (gl TCmd (dOf r4) 3)]);
                          (.node (isK 0 [HK.l TCmd] r7)
                           (.leaf (Step.go (.k 7 :: .l TCall l0 :: .n (IntKind.wrap .i64 (n1 + (1 : Int))) :: .n n2 :: .n n3 :: .b b4 :: .n n2 :: .n n3 :: .b true :: .n n5 :: .n n6 :: .n n7 :: .l TCmd l8 :: .b true :: .n n9 :: .n n10 :: .n n11 :: .l TCmd l12 :: .b true :: .n n17 :: .n n18 :: .n n13 :: .n n14 :: .n n15 :: .l TCmd l16 :: .b b4 :: .n n19 :: .n n20 :: .n n5 :: .n n6 :: .n n7 :: .l TCmd l8 :: .n n21 :: .n n3 :: .n n9 :: .n n10 :: .n n11 :: .l TCmd l12 :: .n n17 :: .n n18 :: .n n13 :: .n n14 :: .n n15 :: .l TCmd l16 :: [])))
                           (.bad 351))))
                        (.bad 351)))
                      (.bad 351)))
                    (.bad 351))))
                 (.bad 351)))))
             (let r3 : Option (Nat × List Dat) := (op_29 [.n n9, .n n10, .n n11, .l TCmd l12, .n (cl_4 l0 n1), .n (cl_5 l0 n1), .n (cl_6 l0 n1), .l TCmd (gl TCmd (dOf r2) 0)]);
              (.node (isK 0 [HK.b] r3)
               (.node (gb (dOf r3) 0)
                (let r4 : Option (Nat × List Dat) := (op_30 [.n (cl_4 l0 n1), .n (cl_5 l0 n1), .n (cl_6 l0 n1), .l TCmd (cl_7 l0 n1), .n n9, .n n10, .n n11, .l TCmd l12]);
                 (.node (isK 0 [HK.b] r4)
                  (.node (gb (dOf r4) 0)
                   (let r5 : Option (Nat × List Dat) := (op_16o [.n (cl_2 l0 n1), .n (cl_3 l0 n1), .n (cl_4 l0 n1), .n (cl_5 l0 n1), .n (cl_6 l0 n1), .l TCmd (cl_7 l0 n1)]);
                    (.node (isK 0 [HK.l TCmd] r5)
                     (.node (b4)
                      (let r6 : Option (Nat × List Dat) := (op_16n [.n (0 : Int), .n (0 : Int), .n (0 : Int), .n (0 : Int), .n (0 : Int)]);
                       (.node (isK 0 [] r6)
                        (.leaf (Step.go (.k 7 :: .l TCall l0 :: .n (IntKind.wrap .i64 (n1 + (1 : Int))) :: .n n2 :: .n n3 :: .b b4 :: .n n2 :: .n n3 :: .b true :: .n n5 :: .n n6 :: .n n7 :: .l TCmd l8 :: .b true :: .n n9 :: .n n10 :: .n n11 :: .l TCmd l12 :: .b true :: .n n17 :: .n n18 :: .n n13 :: .n n14 :: .n n15 :: .l TCmd l16 :: .b b4 :: .n n19 :: .n n20 :: .n n5 :: .n n6 :: .n n7 :: .l TCmd l8 :: .n n21 :: .n n3 :: .n n9 :: .n n10 :: .n n11 :: .l TCmd l12 :: .n n17 :: .n n18 :: .n n13 :: .n n14 :: .n n15 :: .l TCmd l16 :: [])))
                        (.bad 351)))
                      (let r6 : Option (Nat × List Dat) := (op_31 [.n n5, .n n6, .n n7, .l TCmd l8, .n n9, .n n10, .n n11, .l TCmd l12]);
                       (.node (isK 0 [HK.n, HK.n, HK.n, HK.l TCmd] r6)
                        (let r7 : Option (Nat × List Dat) := (op_32 [.n n5, .n n6, .n n7, .l TCmd l8, .n n9, .n n10, .n n11, .l TCmd l12]);
                         (.node (isK 0 [HK.n, HK.n, HK.n, HK.l TCmd] r7)
                          (let r8 : Option (Nat × List Dat) := (op_30 [.n (gn (dOf r6) 0), .n (gn (dOf r6) 1), .n (gn (dOf r6) 2), .l TCmd (gl TCmd (dOf r6) 3), .n (gn (dOf r7) 0), .n (gn (dOf r7) 1), .n (gn (dOf r7) 2), .l TCmd (gl TCmd (dOf r7) 3)]);
                           (.node (isK 0 [HK.b] r8)
                            (.node (!gb (dOf r8) 0)
                             (.leaf (Step.stop 1 [.b false]))
                             (let r9 : Option (Nat × List Dat) := (op_16o [.n (0 : Int), .n (0 : Int), .n (gn (dOf r6) 0), .n (gn (dOf r6) 1), .n (gn (dOf r6) 2), .l TCmd (gl TCmd (dOf r6) 3)]);
                              (.node (isK 0 [HK.l TCmd] r9)
                               (.leaf (Step.go (.k 7 :: .l TCall l0 :: .n (IntKind.wrap .i64 (n1 + (1 : Int))) :: .n n2 :: .n n3 :: .b b4 :: .n n2 :: .n n3 :: .b true :: .n n5 :: .n n6 :: .n n7 :: .l TCmd l8 :: .b true :: .n n9 :: .n n10 :: .n n11 :: .l TCmd l12 :: .b true :: .n n17 :: .n n18 :: .n n13 :: .n n14 :: .n n15 :: .l TCmd l16 :: .b b4 :: .n n19 :: .n n20 :: .n n5 :: .n n6 :: .n n7 :: .l TCmd l8 :: .n n21 :: .n n3 :: .n n9 :: .n n10 :: .n n11 :: .l TCmd l12 :: .n n17 :: .n n18 :: .n n13 :: .n n14 :: .n n15 :: .l TCmd l16 :: [])))
                               (.bad 351))))
                            (.bad 351)))
                          (.bad 351)))
                        (.bad 351))))
                     (.bad 351)))
                   (.leaf (Step.stop 1 [.b false])))
                  (.bad 351)))
                (let r4 : Option (Nat × List Dat) := (op_30 [.n (cl_4 l0 n1), .n (cl_5 l0 n1), .n (cl_6 l0 n1), .l TCmd (cl_7 l0 n1), .n n9, .n n10, .n n11, .l TCmd l12]);
                 (.node (isK 0 [HK.b] r4)
                  (.node (gb (dOf r4) 0)
                   (.leaf (Step.stop 1 [.b false]))
                   (let r5 : Option (Nat × List Dat) := (op_16o [.n (cl_2 l0 n1), .n (cl_3 l0 n1), .n (cl_4 l0 n1), .n (cl_5 l0 n1), .n (cl_6 l0 n1), .l TCmd (cl_7 l0 n1)]);
                    (.node (isK 0 [HK.l TCmd] r5)
                     (let r6 : Option (Nat × List Dat) := (op_16n [.n (0 : Int), .n (0 : Int), .n (0 : Int), .n (0 : Int), .n (0 : Int)]);
                      (.node (isK 0 [] r6)
                       (.leaf (Step.go (.k 7 :: .l TCall l0 :: .n (IntKind.wrap .i64 (n1 + (1 : Int))) :: .n n2 :: .n n3 :: .b true :: .n n2 :: .n n3 :: .b true :: .n n5 :: .n n6 :: .n n7 :: .l TCmd l8 :: .b true :: .n n9 :: .n n10 :: .n n11 :: .l TCmd l12 :: .b true :: .n n17 :: .n n18 :: .n n13 :: .n n14 :: .n n15 :: .l TCmd l16 :: .b true :: .n n19 :: .n n20 :: .n n5 :: .n n6 :: .n n7 :: .l TCmd l8 :: .n n21 :: .n n3 :: .n n9 :: .n n10 :: .n n11 :: .l TCmd l12 :: .n n17 :: .n n18 :: .n n13 :: .n n14 :: .n n15 :: .l TCmd l16 :: [])))
                       (.bad 351)))
                     (.bad 351))))
                  (.bad 351))))
               (.bad 351))))
            (.bad 351))))))
       (.bad 351)))
     (.bad 60))
  | _ => .bad 0
theorem fn_L3_10_t111_im (l0 : List (Ty.den TCall)) (n1 : Int) (n2 : Int) (n3 : Int) (b4 : Bool) (n5 : Int) (n6 : Int) (n7 : Int) (l8 : List (Ty.den TCmd)) (n9 : Int) (n10 : Int) (n11 : Int) (l12 : List (Ty.den TCmd)) (n13 : Int) (n14 : Int) (n15 : Int) (l16 : List (Ty.den TCmd)) (n17 : Int) (n18 : Int) (n19 : Int) (n20 : Int) (n21 : Int) (g0 : 0 ≤ n1) (g1 :  n1 < (l0.length : Int)) : Imp (fn_L3_10_t111 [.l TCall l0, .n n1, .n n2, .n n3, .b b4, .n n5, .n n6, .n n7, .l TCmd l8, .n n9, .n n10, .n n11, .l TCmd l12, .n n13, .n n14, .n n15, .l TCmd l16, .n n17, .n n18, .n n19, .n n20, .n n21]) (st_L3_10 [.k 7, .l TCall l0, .n n1, .n n2, .n n3, .b b4, .n n2, .n n3, .b true, .n n5, .n n6, .n n7, .l TCmd l8, .b true, .n n9, .n n10, .n n11, .l TCmd l12, .b true, .n n17, .n n18, .n n13, .n n14, .n n15, .l TCmd l16, .b b4, .n n19, .n n20, .n n5, .n n6, .n n7, .l TCmd l8, .n n21, .n n3, .n n9, .n n10, .n n11, .l TCmd l12, .n n17, .n n18, .n n13, .n n14, .n n15, .l TCmd l16]) :=
(.path [1] (by kernel_rfl)
(.pt (c := (decide (n1 < (↑(List.length l0) : Int)))) (by kernel_rfl) (by kernel_rfl) (by (simp [*]; done))
(.pt (c := (inR n1 (List.length l0))) (by kernel_rfl) (by kernel_rfl) (by (simp only [w64d, decide_eq_true_eq, decide_eq_false_iff_not, beq_iff_eq, beq_eq_false_iff_ne, bne_iff_ne, ne_eq, inR, Bool.and_eq_true, Bool.and_eq_false_iff, Bool.not_eq_true', Bool.not_eq_false', Bool.not_eq_eq_eq_not, Bool.not_true, Bool.not_false] at *; omega))
(.path [1] (by kernel_rfl)
(.node (by kernel_rfl) (by kernel_rfl) (fun h0 =>
(.path [1] (by kernel_rfl)
(.pt (c := (inR n1 (List.length l0))) (by kernel_rfl) (by kernel_rfl) (by (simp only [w64d, decide_eq_true_eq, decide_eq_false_iff_not, beq_iff_eq, beq_eq_false_iff_ne, bne_iff_ne, ne_eq, inR, Bool.and_eq_true, Bool.and_eq_false_iff, Bool.not_eq_true', Bool.not_eq_false', Bool.not_eq_eq_eq_not, Bool.not_true, Bool.not_false] at *; omega))
(.node (by kernel_rfl) (by kernel_rfl) (fun h1 =>
(.path [1] (by kernel_rfl)
(.node (by kernel_rfl) (by kernel_rfl) (fun h2 =>
(.path [1,0] (by kernel_rfl)
(.node (by kernel_rfl) (by kernel_rfl) (fun h3 =>
(.path [1] (by kernel_rfl)
(.pt (c := (inR n1 (List.length l0))) (by kernel_rfl) (by kernel_rfl) (by (simp only [w64d, decide_eq_true_eq, decide_eq_false_iff_not, beq_iff_eq, beq_eq_false_iff_ne, bne_iff_ne, ne_eq, inR, Bool.and_eq_true, Bool.and_eq_false_iff, Bool.not_eq_true', Bool.not_eq_false', Bool.not_eq_eq_eq_not, Bool.not_true, Bool.not_false] at *; omega))
(.pt (c := (inR n1 (List.length l0))) (by kernel_rfl) (by kernel_rfl) (by (simp only [w64d, decide_eq_true_eq, decide_eq_false_iff_not, beq_iff_eq, beq_eq_false_iff_ne, bne_iff_ne, ne_eq, inR, Bool.and_eq_true, Bool.and_eq_false_iff, Bool.not_eq_true', Bool.not_eq_false', Bool.not_eq_eq_eq_not, Bool.not_true, Bool.not_false] at *; omega))
(.path [1] (by kernel_rfl)
(.pt (by kernel_rfl) (by kernel_rfl) h3
(.path [1,1,0,1,1,1,1,1,1,0,1] (by kernel_rfl)
(.node (by kernel_rfl) (by kernel_rfl) (fun h4 =>
(.path [1,1] (by kernel_rfl)
(.node (by kernel_rfl) (by kernel_rfl) (fun h5 =>
(.path [1,1,0,0,0] (by kernel_rfl)
(.node (by kernel_rfl) (by kernel_rfl) (fun h6 =>
(.path [1,1,0,0] (by kernel_rfl)
(.pt (by kernel_rfl) (by kernel_rfl) h6
(.path [1,0,1,1,0,1,0,1,1] (by kernel_rfl)
(.pf (c := (n3 != n3)) (by kernel_rfl) (by kernel_rfl) (by (simp [*]; done))
(.path [1] (by kernel_rfl)
(.pt (by kernel_rfl) (by kernel_rfl) h4
(.path [1,1] (by kernel_rfl)
(.leaf (by kernel_rfl)))))))))) (fun h6 =>
(.node (by kernel_rfl) (by kernel_rfl) (fun h7 =>
(.path [1,1,1,1,0,0] (by kernel_rfl)
(.pf (by kernel_rfl) (by kernel_rfl) h6
(.node (by kernel_rfl) (by kernel_rfl) (fun h8 =>
(.path [1,1,1,0] (by kernel_rfl)
(.node (by kernel_rfl) (by kernel_rfl) (fun h9 =>
(.path [1] (by kernel_rfl)
(.node (by kernel_rfl) (by kernel_rfl) (fun h10 =>
(.path [1,1,1,1] (by kernel_rfl)
(.leaf (by kernel_rfl)))) (fun h10 =>
(.path [1,0,1,1] (by kernel_rfl)
(.pf (c := (n3 != n3)) (by kernel_rfl) (by kernel_rfl) (by (simp [*]; done))
(.path [1] (by kernel_rfl)
(.node (by kernel_rfl) (by kernel_rfl) (fun h11 =>
(.path [1,1] (by kernel_rfl)
(.leaf (by kernel_rfl)))) (fun h11 =>
.none))))))))) (fun h9 =>
.none)))) (fun h8 =>
.none))))) (fun h7 =>
.none)))))) (fun h5 =>
.none)))) (fun h4 =>
.none))))))))) (fun h3 =>
(.path [1] (by kernel_rfl)
(.node (by kernel_rfl) (by kernel_rfl) (fun h4 =>
(.path [1,1,1,1] (by kernel_rfl)
(.node (by kernel_rfl) (by kernel_rfl) (fun h5 =>
(.node (by kernel_rfl) (by kernel_rfl) (fun h6 =>
(.path [1] (by kernel_rfl)
(.node (by kernel_rfl) (by kernel_rfl) (fun h7 =>
(.path [1,1,1] (by kernel_rfl)
(.pt (c := (inR n1 (List.length l0))) (by kernel_rfl) (by kernel_rfl) (by (simp only [w64d, decide_eq_true_eq, decide_eq_false_iff_not, beq_iff_eq, beq_eq_false_iff_ne, bne_iff_ne, ne_eq, inR, Bool.and_eq_true, Bool.and_eq_false_iff, Bool.not_eq_true', Bool.not_eq_false', Bool.not_eq_eq_eq_not, Bool.not_true, Bool.not_false] at *; omega))
(.pt (c := (inR n1 (List.length l0))) (by kernel_rfl) (by kernel_rfl) (by (simp only [w64d, decide_eq_true_eq, decide_eq_false_iff_not, beq_iff_eq, beq_eq_false_iff_ne, bne_iff_ne, ne_eq, inR, Bool.and_eq_true, Bool.and_eq_false_iff, Bool.not_eq_true', Bool.not_eq_false', Bool.not_eq_eq_eq_not, Bool.not_true, Bool.not_false] at *; omega))
(.path [1] (by kernel_rfl)
(.pf (by kernel_rfl) (by kernel_rfl) h3
(.path [1] (by kernel_rfl)
(.pt (by kernel_rfl) (by kernel_rfl) h0
(.path [1,1] (by kernel_rfl)
(.pt (by kernel_rfl) (by kernel_rfl) h6
(.path [1,1] (by kernel_rfl)
(.pt (by kernel_rfl) (by kernel_rfl) h0
(.path [1,1,1,1,0,1] (by kernel_rfl)
(.pt (c := (n2 == n2)) (by kernel_rfl) (by kernel_rfl) (by (simp [*]; done))
(.pt (c := (cl_3 l0 n1 == cl_3 l0 n1)) (by kernel_rfl) (by kernel_rfl) (by (simp [*]; done))
(.node (by kernel_rfl) (by kernel_rfl) (fun h8 =>
(.path [1,1] (by kernel_rfl)
(.node (by kernel_rfl) (by kernel_rfl) (fun h9 =>
(.path [1] (by kernel_rfl)
(.leaf (by kernel_rfl)))) (fun h9 =>
(.path [1] (by kernel_rfl)
(.node (by kernel_rfl) (by kernel_rfl) (fun h10 =>
(.path [1,1] (by kernel_rfl)
(.node (by kernel_rfl) (by kernel_rfl) (fun h11 =>
(.path [1,1,0,0,0,0] (by kernel_rfl)
(.node (by kernel_rfl) (by kernel_rfl) (fun h12 =>
(.path [1,1,1,1,0] (by kernel_rfl)
(.pf (c := (!n18 == cl_3 l0 n1)) (by kernel_rfl) (by kernel_rfl) (by (simp [*]; done))
(.path [0] (by kernel_rfl)
(.node (by kernel_rfl) (by kernel_rfl) (fun h13 =>
(.path [1,1,1,0] (by kernel_rfl)
(.node (by kernel_rfl) (by kernel_rfl) (fun h14 =>
(.path [1] (by kernel_rfl)
(.node (by kernel_rfl) (by kernel_rfl) (fun h15 =>
(.path [1,1,1,1] (by kernel_rfl)
(.leaf (by kernel_rfl)))) (fun h15 =>
(.path [1,0,1,1] (by kernel_rfl)
(.pf (c := (cl_3 l0 n1 != cl_3 l0 n1)) (by kernel_rfl) (by kernel_rfl) (by (simp [*]; done))
(.path [1] (by kernel_rfl)
(.node (by kernel_rfl) (by kernel_rfl) (fun h16 =>
(.path [1,1] (by kernel_rfl)
(.leaf (by kernel_rfl)))) (fun h16 =>
.none))))))))) (fun h14 =>
.none)))) (fun h13 =>
.none)))))) (fun h12 =>
.none)))) (fun h11 =>
.none)))) (fun h10 =>
.none))))))) (fun h8 =>
.none))))))))))))))))) (fun h7 =>
.none)))) (fun h6 =>
(.path [1] (by kernel_rfl)
(.node (by kernel_rfl) (by kernel_rfl) (fun h7 =>
(.path [1,1,1] (by kernel_rfl)
(.pt (c := (inR n1 (List.length l0))) (by kernel_rfl) (by kernel_rfl) (by (simp only [w64d, decide_eq_true_eq, decide_eq_false_iff_not, beq_iff_eq, beq_eq_false_iff_ne, bne_iff_ne, ne_eq, inR, Bool.and_eq_true, Bool.and_eq_false_iff, Bool.not_eq_true', Bool.not_eq_false', Bool.not_eq_eq_eq_not, Bool.not_true, Bool.not_false] at *; omega))
(.pt (c := (inR n1 (List.length l0))) (by kernel_rfl) (by kernel_rfl) (by (simp only [w64d, decide_eq_true_eq, decide_eq_false_iff_not, beq_iff_eq, beq_eq_false_iff_ne, bne_iff_ne, ne_eq, inR, Bool.and_eq_true, Bool.and_eq_false_iff, Bool.not_eq_true', Bool.not_eq_false', Bool.not_eq_eq_eq_not, Bool.not_true, Bool.not_false] at *; omega))
(.path [1] (by kernel_rfl)
(.pf (by kernel_rfl) (by kernel_rfl) h3
(.path [1] (by kernel_rfl)
(.pt (by kernel_rfl) (by kernel_rfl) h0
(.path [1,1] (by kernel_rfl)
(.pf (by kernel_rfl) (by kernel_rfl) h6
(.path [1,1] (by kernel_rfl)
(.pt (by kernel_rfl) (by kernel_rfl) h0
(.path [1,1,1,1,0,1] (by kernel_rfl)
(.pt (c := (n2 == n2)) (by kernel_rfl) (by kernel_rfl) (by (simp [*]; done))
(.pt (c := (cl_3 l0 n1 == cl_3 l0 n1)) (by kernel_rfl) (by kernel_rfl) (by (simp [*]; done))
(.node (by kernel_rfl) (by kernel_rfl) (fun h8 =>
(.path [1,1] (by kernel_rfl)
(.node (by kernel_rfl) (by kernel_rfl) (fun h9 =>
(.path [1] (by kernel_rfl)
(.leaf (by kernel_rfl)))) (fun h9 =>
(.path [1] (by kernel_rfl)
(.node (by kernel_rfl) (by kernel_rfl) (fun h10 =>
(.path [1,1] (by kernel_rfl)
(.node (by kernel_rfl) (by kernel_rfl) (fun h11 =>
(.path [1,1,0,0,1,1,1,1,1,0] (by kernel_rfl)
(.pt (c := (!n18 == cl_3 l0 n1)) (by kernel_rfl) (by kernel_rfl) (by (simp [*]; done))
(.path [1,1,1,0,1,1,0,1,0,1,1] (by kernel_rfl)
(.pf (c := (cl_3 l0 n1 != cl_3 l0 n1)) (by kernel_rfl) (by kernel_rfl) (by (simp [*]; done))
(.path [1] (by kernel_rfl)
(.node (by kernel_rfl) (by kernel_rfl) (fun h12 =>
(.path [1,1] (by kernel_rfl)
(.leaf (by kernel_rfl)))) (fun h12 =>
.none)))))))) (fun h11 =>
.none)))) (fun h10 =>
.none))))))) (fun h8 =>
.none))))))))))))))))) (fun h7 =>
.none)))))) (fun h5 =>
(.path [1] (by kernel_rfl)
(.node (by kernel_rfl) (by kernel_rfl) (fun h6 =>
(.path [1,1,1] (by kernel_rfl)
(.pt (c := (inR n1 (List.length l0))) (by kernel_rfl) (by kernel_rfl) (by (simp only [w64d, decide_eq_true_eq, decide_eq_false_iff_not, beq_iff_eq, beq_eq_false_iff_ne, bne_iff_ne, ne_eq, inR, Bool.and_eq_true, Bool.and_eq_false_iff, Bool.not_eq_true', Bool.not_eq_false', Bool.not_eq_eq_eq_not, Bool.not_true, Bool.not_false] at *; omega))
(.pt (c := (inR n1 (List.length l0))) (by kernel_rfl) (by kernel_rfl) (by (simp only [w64d, decide_eq_true_eq, decide_eq_false_iff_not, beq_iff_eq, beq_eq_false_iff_ne, bne_iff_ne, ne_eq, inR, Bool.and_eq_true, Bool.and_eq_false_iff, Bool.not_eq_true', Bool.not_eq_false', Bool.not_eq_eq_eq_not, Bool.not_true, Bool.not_false] at *; omega))
(.path [1] (by kernel_rfl)
(.pf (by kernel_rfl) (by kernel_rfl) h3
(.path [1] (by kernel_rfl)
(.pt (by kernel_rfl) (by kernel_rfl) h0
(.path [1,1] (by kernel_rfl)
(.pf (c := (n18 == cl_3 l0 n1)) (by kernel_rfl) (by kernel_rfl) (by (simp only [w64d, decide_eq_true_eq, decide_eq_false_iff_not, beq_iff_eq, beq_eq_false_iff_ne, bne_iff_ne, ne_eq, inR, Bool.and_eq_true, Bool.and_eq_false_iff, Bool.not_eq_true', Bool.not_eq_false', Bool.not_eq_eq_eq_not, Bool.not_true, Bool.not_false] at *; omega))
(.path [1,1] (by kernel_rfl)
(.pt (by kernel_rfl) (by kernel_rfl) h0
(.path [1,1,1,1,0,1] (by kernel_rfl)
(.pt (c := (n2 == n2)) (by kernel_rfl) (by kernel_rfl) (by (simp [*]; done))
(.pt (c := (cl_3 l0 n1 == cl_3 l0 n1)) (by kernel_rfl) (by kernel_rfl) (by (simp [*]; done))
(.node (by kernel_rfl) (by kernel_rfl) (fun h7 =>
(.path [1,1] (by kernel_rfl)
(.node (by kernel_rfl) (by kernel_rfl) (fun h8 =>
(.path [1] (by kernel_rfl)
(.leaf (by kernel_rfl)))) (fun h8 =>
(.path [1] (by kernel_rfl)
(.node (by kernel_rfl) (by kernel_rfl) (fun h9 =>
(.path [1,1] (by kernel_rfl)
(.node (by kernel_rfl) (by kernel_rfl) (fun h10 =>
(.path [1,1,0,0,1,1,1,1,1,0] (by kernel_rfl)
(.pt (c := (!n18 == cl_3 l0 n1)) (by kernel_rfl) (by kernel_rfl) (by (simp only [w64d, decide_eq_true_eq, decide_eq_false_iff_not, beq_iff_eq, beq_eq_false_iff_ne, bne_iff_ne, ne_eq, inR, Bool.and_eq_true, Bool.and_eq_false_iff, Bool.not_eq_true', Bool.not_eq_false', Bool.not_eq_eq_eq_not, Bool.not_true, Bool.not_false] at *; omega))
(.path [1,1,1,0,1,1,0,1,0,1,1] (by kernel_rfl)
(.pf (c := (cl_3 l0 n1 != cl_3 l0 n1)) (by kernel_rfl) (by kernel_rfl) (by (simp [*]; done))
(.path [1] (by kernel_rfl)
(.node (by kernel_rfl) (by kernel_rfl) (fun h11 =>
(.path [1,1] (by kernel_rfl)
(.leaf (by kernel_rfl)))) (fun h11 =>
.none)))))))) (fun h10 =>
.none)))) (fun h9 =>
.none))))))) (fun h7 =>
.none))))))))))))))))) (fun h6 =>
.none))))))) (fun h4 =>
.none))))))) (fun h2 =>
(.path [1,0,0,1] (by kernel_rfl)
(.node (by kernel_rfl) (by kernel_rfl) (fun h3 =>
(.path [1] (by kernel_rfl)
(.pt (c := (inR n1 (List.length l0))) (by kernel_rfl) (by kernel_rfl) (by (simp only [w64d, decide_eq_true_eq, decide_eq_false_iff_not, beq_iff_eq, beq_eq_false_iff_ne, bne_iff_ne, ne_eq, inR, Bool.and_eq_true, Bool.and_eq_false_iff, Bool.not_eq_true', Bool.not_eq_false', Bool.not_eq_eq_eq_not, Bool.not_true, Bool.not_false] at *; omega))
(.path [1,1,1,1] (by kernel_rfl)
(.pt (by kernel_rfl) (by kernel_rfl) h3
(.path [1,1,0,1] (by kernel_rfl)
(.node (by kernel_rfl) (by kernel_rfl) (fun h4 =>
(.path [1,1,0,0,0] (by kernel_rfl)
(.node (by kernel_rfl) (by kernel_rfl) (fun h5 =>
(.path [1,1,0,0] (by kernel_rfl)
(.pt (by kernel_rfl) (by kernel_rfl) h5
(.path [1,0,1,1,0,1,0,1,1] (by kernel_rfl)
(.pf (c := (n3 != n3)) (by kernel_rfl) (by kernel_rfl) (by (simp [*]; done))
(.path [1] (by kernel_rfl)
(.node (by kernel_rfl) (by kernel_rfl) (fun h6 =>
(.path [1,1] (by kernel_rfl)
(.leaf (by kernel_rfl)))) (fun h6 =>
.none)))))))) (fun h5 =>
(.node (by kernel_rfl) (by kernel_rfl) (fun h6 =>
(.path [1,1,1,1,0,0] (by kernel_rfl)
(.pf (by kernel_rfl) (by kernel_rfl) h5
(.node (by kernel_rfl) (by kernel_rfl) (fun h7 =>
(.path [1,1,1,0] (by kernel_rfl)
(.node (by kernel_rfl) (by kernel_rfl) (fun h8 =>
(.path [1] (by kernel_rfl)
(.node (by kernel_rfl) (by kernel_rfl) (fun h9 =>
(.path [1,1,1,1] (by kernel_rfl)
(.leaf (by kernel_rfl)))) (fun h9 =>
(.path [1,0,1,1] (by kernel_rfl)
(.pf (c := (n3 != n3)) (by kernel_rfl) (by kernel_rfl) (by (simp [*]; done))
(.path [1] (by kernel_rfl)
(.node (by kernel_rfl) (by kernel_rfl) (fun h10 =>
(.path [1,1] (by kernel_rfl)
(.leaf (by kernel_rfl)))) (fun h10 =>
.none))))))))) (fun h8 =>
.none)))) (fun h7 =>
.none))))) (fun h6 =>
.none)))))) (fun h4 =>
.none)))))))) (fun h3 =>
(.path [1] (by kernel_rfl)
(.node (by kernel_rfl) (by kernel_rfl) (fun h4 =>
(.path [1] (by kernel_rfl)
(.pt (c := (inR n1 (List.length l0))) (by kernel_rfl) (by kernel_rfl) (by (simp only [w64d, decide_eq_true_eq, decide_eq_false_iff_not, beq_iff_eq, beq_eq_false_iff_ne, bne_iff_ne, ne_eq, inR, Bool.and_eq_true, Bool.and_eq_false_iff, Bool.not_eq_true', Bool.not_eq_false', Bool.not_eq_eq_eq_not, Bool.not_true, Bool.not_false] at *; omega))
(.path [1,1,1,1] (by kernel_rfl)
(.pf (by kernel_rfl) (by kernel_rfl) h3
(.path [1] (by kernel_rfl)
(.pt (by kernel_rfl) (by kernel_rfl) h4
(.path [1,1,0,1] (by kernel_rfl)
(.node (by kernel_rfl) (by kernel_rfl) (fun h5 =>
(.path [1,1,0,0,0] (by kernel_rfl)
(.node (by kernel_rfl) (by kernel_rfl) (fun h6 =>
(.path [1,1,0,0] (by kernel_rfl)
(.pt (by kernel_rfl) (by kernel_rfl) h6
(.path [1,0,1,1,0,1,0,1,1] (by kernel_rfl)
(.pf (c := (n3 != n3)) (by kernel_rfl) (by kernel_rfl) (by (simp [*]; done))
(.path [1] (by kernel_rfl)
(.node (by kernel_rfl) (by kernel_rfl) (fun h7 =>
(.path [1,1] (by kernel_rfl)
(.leaf (by kernel_rfl)))) (fun h7 =>
.none)))))))) (fun h6 =>
(.node (by kernel_rfl) (by kernel_rfl) (fun h7 =>
(.path [1,1,1,1,0,0] (by kernel_rfl)
(.pf (by kernel_rfl) (by kernel_rfl) h6
(.node (by kernel_rfl) (by kernel_rfl) (fun h8 =>
(.path [1,1,1,0] (by kernel_rfl)
(.node (by kernel_rfl) (by kernel_rfl) (fun h9 =>
(.path [1] (by kernel_rfl)
(.node (by kernel_rfl) (by kernel_rfl) (fun h10 =>
(.path [1,1,1,1] (by kernel_rfl)
(.leaf (by kernel_rfl)))) (fun h10 =>
(.path [1,0,1,1] (by kernel_rfl)
(.pf (c := (n3 != n3)) (by kernel_rfl) (by kernel_rfl) (by (simp [*]; done))
(.path [1] (by kernel_rfl)
(.node (by kernel_rfl) (by kernel_rfl) (fun h11 =>
(.path [1,1] (by kernel_rfl)
(.leaf (by kernel_rfl)))) (fun h11 =>
.none))))))))) (fun h9 =>
.none)))) (fun h8 =>
.none))))) (fun h7 =>
.none)))))) (fun h5 =>
.none)))))))))) (fun h4 =>
(.path [1] (by kernel_rfl)
(.node (by kernel_rfl) (by kernel_rfl) (fun h5 =>
(.path [1,1,1] (by kernel_rfl)
(.node (by kernel_rfl) (by kernel_rfl) (fun h6 =>
(.path [1,0,1] (by kernel_rfl)
(.node (by kernel_rfl) (by kernel_rfl) (fun h7 =>
(.path [1,1] (by kernel_rfl)
(.pt (c := (inR n1 (List.length l0))) (by kernel_rfl) (by kernel_rfl) (by (simp only [w64d, decide_eq_true_eq, decide_eq_false_iff_not, beq_iff_eq, beq_eq_false_iff_ne, bne_iff_ne, ne_eq, inR, Bool.and_eq_true, Bool.and_eq_false_iff, Bool.not_eq_true', Bool.not_eq_false', Bool.not_eq_eq_eq_not, Bool.not_true, Bool.not_false] at *; omega))
(.path [1,1,1,1] (by kernel_rfl)
(.pf (by kernel_rfl) (by kernel_rfl) h3
(.path [1] (by kernel_rfl)
(.pf (by kernel_rfl) (by kernel_rfl) h4
(.path [1] (by kernel_rfl)
(.pt (by kernel_rfl) (by kernel_rfl) h6
(.path [0,1] (by kernel_rfl)
(.pt (by kernel_rfl) (by kernel_rfl) h7
(.path [1] (by kernel_rfl)
(.pt (by kernel_rfl) (by kernel_rfl) h0
(.path [1,1,1,1,0,1] (by kernel_rfl)
(.node (by kernel_rfl) (by kernel_rfl) (fun h8 =>
(.path [1,1,0,0,0] (by kernel_rfl)
(.node (by kernel_rfl) (by kernel_rfl) (fun h9 =>
(.path [1,1,0,0] (by kernel_rfl)
(.pt (by kernel_rfl) (by kernel_rfl) h9
(.path [1,0,1,1,0,1,0,1,1] (by kernel_rfl)
(.pf (c := (n3 != n3)) (by kernel_rfl) (by kernel_rfl) (by (simp [*]; done))
(.path [1] (by kernel_rfl)
(.node (by kernel_rfl) (by kernel_rfl) (fun h10 =>
(.path [1,1] (by kernel_rfl)
(.leaf (by kernel_rfl)))) (fun h10 =>
.none)))))))) (fun h9 =>
(.node (by kernel_rfl) (by kernel_rfl) (fun h10 =>
(.path [1,1,1,1,0,0] (by kernel_rfl)
(.pf (by kernel_rfl) (by kernel_rfl) h9
(.node (by kernel_rfl) (by kernel_rfl) (fun h11 =>
(.path [1,1,1,0] (by kernel_rfl)
(.node (by kernel_rfl) (by kernel_rfl) (fun h12 =>
(.path [1] (by kernel_rfl)
(.node (by kernel_rfl) (by kernel_rfl) (fun h13 =>
(.path [1,1,1,1] (by kernel_rfl)
(.leaf (by kernel_rfl)))) (fun h13 =>
(.path [1,0,1,1] (by kernel_rfl)
(.pf (c := (n3 != n3)) (by kernel_rfl) (by kernel_rfl) (by (simp [*]; done))
(.path [1] (by kernel_rfl)
(.node (by kernel_rfl) (by kernel_rfl) (fun h14 =>
(.path [1,1] (by kernel_rfl)
(.leaf (by kernel_rfl)))) (fun h14 =>
.none))))))))) (fun h12 =>
.none)))) (fun h11 =>
.none))))) (fun h10 =>
.none)))))) (fun h8 =>
.none)))))))))))))))) (fun h7 =>
(.path [1] (by kernel_rfl)
(.node (by kernel_rfl) (by kernel_rfl) (fun h8 =>
(.node (by kernel_rfl) (by kernel_rfl) (fun h9 =>
(.path [1,1,1] (by kernel_rfl)
(.node (by kernel_rfl) (by kernel_rfl) (fun h10 =>
(.path [1,1] (by kernel_rfl)
(.pt (c := (inR n1 (List.length l0))) (by kernel_rfl) (by kernel_rfl) (by (simp only [w64d, decide_eq_true_eq, decide_eq_false_iff_not, beq_iff_eq, beq_eq_false_iff_ne, bne_iff_ne, ne_eq, inR, Bool.and_eq_true, Bool.and_eq_false_iff, Bool.not_eq_true', Bool.not_eq_false', Bool.not_eq_eq_eq_not, Bool.not_true, Bool.not_false] at *; omega))
(.path [1,1,1,1] (by kernel_rfl)
(.pf (by kernel_rfl) (by kernel_rfl) h3
(.path [1] (by kernel_rfl)
(.pf (by kernel_rfl) (by kernel_rfl) h4
(.path [1] (by kernel_rfl)
(.pt (by kernel_rfl) (by kernel_rfl) h6
(.path [0,1] (by kernel_rfl)
(.pf (by kernel_rfl) (by kernel_rfl) h7
(.pt (c := (cl_3 l0 n1 == n18)) (by kernel_rfl) (by kernel_rfl) (by (simp only [w64d, decide_eq_true_eq, decide_eq_false_iff_not, beq_iff_eq, beq_eq_false_iff_ne, bne_iff_ne, ne_eq, inR, Bool.and_eq_true, Bool.and_eq_false_iff, Bool.not_eq_true', Bool.not_eq_false', Bool.not_eq_eq_eq_not, Bool.not_true, Bool.not_false] at *; omega))
(.node (by kernel_rfl) (by kernel_rfl) (fun h11 =>
(.path [1,1] (by kernel_rfl)
(.node (by kernel_rfl) (by kernel_rfl) (fun h12 =>
(.path [1,1,0,1] (by kernel_rfl)
(.node (by kernel_rfl) (by kernel_rfl) (fun h13 =>
(.path [1,1,0,0,0] (by kernel_rfl)
(.node (by kernel_rfl) (by kernel_rfl) (fun h14 =>
(.path [1,1,0,0] (by kernel_rfl)
(.pt (by kernel_rfl) (by kernel_rfl) h14
(.path [1,0,1,1,0,1,0,1,1] (by kernel_rfl)
(.pf (c := (n3 != n3)) (by kernel_rfl) (by kernel_rfl) (by (simp [*]; done))
(.path [1] (by kernel_rfl)
(.node (by kernel_rfl) (by kernel_rfl) (fun h15 =>
(.path [1,1] (by kernel_rfl)
(.leaf (by kernel_rfl)))) (fun h15 =>
.none)))))))) (fun h14 =>
(.node (by kernel_rfl) (by kernel_rfl) (fun h15 =>
(.path [1,1,1,1,0,0] (by kernel_rfl)
(.pf (by kernel_rfl) (by kernel_rfl) h14
(.node (by kernel_rfl) (by kernel_rfl) (fun h16 =>
(.path [1,1,1,0] (by kernel_rfl)
(.node (by kernel_rfl) (by kernel_rfl) (fun h17 =>
(.path [1] (by kernel_rfl)
(.node (by kernel_rfl) (by kernel_rfl) (fun h18 =>
(.path [1,1,1,1] (by kernel_rfl)
(.leaf (by kernel_rfl)))) (fun h18 =>
(.path [1,0,1,1] (by kernel_rfl)
(.pf (c := (n3 != n3)) (by kernel_rfl) (by kernel_rfl) (by (simp [*]; done))
(.path [1] (by kernel_rfl)
(.node (by kernel_rfl) (by kernel_rfl) (fun h19 =>
(.path [1,1] (by kernel_rfl)
(.leaf (by kernel_rfl)))) (fun h19 =>
.none))))))))) (fun h17 =>
.none)))) (fun h16 =>
.none))))) (fun h15 =>
.none)))))) (fun h13 =>
.none)))) (fun h12 =>
(.path [1,1,1,1] (by kernel_rfl)
(.leaf (by kernel_rfl))))))) (fun h11 =>
.none)))))))))))))) (fun h10 =>
(.path [1,1] (by kernel_rfl)
(.pt (c := (inR n1 (List.length l0))) (by kernel_rfl) (by kernel_rfl) (by (simp only [w64d, decide_eq_true_eq, decide_eq_false_iff_not, beq_iff_eq, beq_eq_false_iff_ne, bne_iff_ne, ne_eq, inR, Bool.and_eq_true, Bool.and_eq_false_iff, Bool.not_eq_true', Bool.not_eq_false', Bool.not_eq_eq_eq_not, Bool.not_true, Bool.not_false] at *; omega))
(.path [1,1,1,1] (by kernel_rfl)
(.pf (by kernel_rfl) (by kernel_rfl) h3
(.path [1] (by kernel_rfl)
(.pf (by kernel_rfl) (by kernel_rfl) h4
(.path [1] (by kernel_rfl)
(.pt (by kernel_rfl) (by kernel_rfl) h6
(.path [0,1] (by kernel_rfl)
(.pf (by kernel_rfl) (by kernel_rfl) h7
(.pt (c := (cl_3 l0 n1 == n18)) (by kernel_rfl) (by kernel_rfl) (by (simp only [w64d, decide_eq_true_eq, decide_eq_false_iff_not, beq_iff_eq, beq_eq_false_iff_ne, bne_iff_ne, ne_eq, inR, Bool.and_eq_true, Bool.and_eq_false_iff, Bool.not_eq_true', Bool.not_eq_false', Bool.not_eq_eq_eq_not, Bool.not_true, Bool.not_false] at *; omega))
(.node (by kernel_rfl) (by kernel_rfl) (fun h11 =>
(.path [1,1] (by kernel_rfl)
(.node (by kernel_rfl) (by kernel_rfl) (fun h12 =>
(.path [1,1,1,1] (by kernel_rfl)
(.leaf (by kernel_rfl)))) (fun h12 =>
(.path [1,1,0,1] (by kernel_rfl)
(.node (by kernel_rfl) (by kernel_rfl) (fun h13 =>
(.path [1,1,0,0,0] (by kernel_rfl)
(.node (by kernel_rfl) (by kernel_rfl) (fun h14 =>
(.path [1,1,0,0] (by kernel_rfl)
(.pt (by kernel_rfl) (by kernel_rfl) h14
(.path [1,0,1,1,0,1,0,1,1] (by kernel_rfl)
(.pf (c := (n3 != n3)) (by kernel_rfl) (by kernel_rfl) (by (simp [*]; done))
(.path [1] (by kernel_rfl)
(.node (by kernel_rfl) (by kernel_rfl) (fun h15 =>
(.path [1,1] (by kernel_rfl)
(.leaf (by kernel_rfl)))) (fun h15 =>
.none)))))))) (fun h14 =>
(.node (by kernel_rfl) (by kernel_rfl) (fun h15 =>
(.path [1,1,1,1,0,0] (by kernel_rfl)
(.pf (by kernel_rfl) (by kernel_rfl) h14
(.node (by kernel_rfl) (by kernel_rfl) (fun h16 =>
(.path [1,1,1,0] (by kernel_rfl)
(.node (by kernel_rfl) (by kernel_rfl) (fun h17 =>
(.path [1] (by kernel_rfl)
(.node (by kernel_rfl) (by kernel_rfl) (fun h18 =>
(.path [1,1,1,1] (by kernel_rfl)
(.leaf (by kernel_rfl)))) (fun h18 =>
(.path [1,0,1,1] (by kernel_rfl)
(.pf (c := (n3 != n3)) (by kernel_rfl) (by kernel_rfl) (by (simp [*]; done))
(.path [1] (by kernel_rfl)
(.node (by kernel_rfl) (by kernel_rfl) (fun h19 =>
(.path [1,1] (by kernel_rfl)
(.leaf (by kernel_rfl)))) (fun h19 =>
.none))))))))) (fun h17 =>
.none)))) (fun h16 =>
.none))))) (fun h15 =>
.none)))))) (fun h13 =>
.none))))))) (fun h11 =>
.none))))))))))))))))) (fun h9 =>
.none))) (fun h8 =>
(.path [0,1,1,0,1,1] (by kernel_rfl)
(.pt (c := (inR n1 (List.length l0))) (by kernel_rfl) (by kernel_rfl) (by (simp only [w64d, decide_eq_true_eq, decide_eq_false_iff_not, beq_iff_eq, beq_eq_false_iff_ne, bne_iff_ne, ne_eq, inR, Bool.and_eq_true, Bool.and_eq_false_iff, Bool.not_eq_true', Bool.not_eq_false', Bool.not_eq_eq_eq_not, Bool.not_true, Bool.not_false] at *; omega))
(.path [1,1,1,1] (by kernel_rfl)
(.pf (by kernel_rfl) (by kernel_rfl) h3
(.path [1] (by kernel_rfl)
(.pf (by kernel_rfl) (by kernel_rfl) h4
(.path [1] (by kernel_rfl)
(.pt (by kernel_rfl) (by kernel_rfl) h6
(.path [0,1] (by kernel_rfl)
(.pf (by kernel_rfl) (by kernel_rfl) h7
(.pf (c := (cl_3 l0 n1 == n18)) (by kernel_rfl) (by kernel_rfl) (by (simp only [w64d, decide_eq_true_eq, decide_eq_false_iff_not, beq_iff_eq, beq_eq_false_iff_ne, bne_iff_ne, ne_eq, inR, Bool.and_eq_true, Bool.and_eq_false_iff, Bool.not_eq_true', Bool.not_eq_false', Bool.not_eq_eq_eq_not, Bool.not_true, Bool.not_false] at *; omega))
(.path [0,1,0,1,1,0,1] (by kernel_rfl)
(.node (by kernel_rfl) (by kernel_rfl) (fun h9 =>
(.path [1,1,0,0,0] (by kernel_rfl)
(.node (by kernel_rfl) (by kernel_rfl) (fun h10 =>
(.path [1,1,0,0] (by kernel_rfl)
(.pt (by kernel_rfl) (by kernel_rfl) h10
(.path [1,0,1,1,0,1,0,1,1] (by kernel_rfl)
(.pf (c := (n3 != n3)) (by kernel_rfl) (by kernel_rfl) (by (simp [*]; done))
(.path [1] (by kernel_rfl)
(.node (by kernel_rfl) (by kernel_rfl) (fun h11 =>
(.path [1,1] (by kernel_rfl)
(.leaf (by kernel_rfl)))) (fun h11 =>
.none)))))))) (fun h10 =>
(.node (by kernel_rfl) (by kernel_rfl) (fun h11 =>
(.path [1,1,1,1,0,0] (by kernel_rfl)
(.pf (by kernel_rfl) (by kernel_rfl) h10
(.node (by kernel_rfl) (by kernel_rfl) (fun h12 =>
(.path [1,1,1,0] (by kernel_rfl)
(.node (by kernel_rfl) (by kernel_rfl) (fun h13 =>
(.path [1] (by kernel_rfl)
(.node (by kernel_rfl) (by kernel_rfl) (fun h14 =>
(.path [1,1,1,1] (by kernel_rfl)
(.leaf (by kernel_rfl)))) (fun h14 =>
(.path [1,0,1,1] (by kernel_rfl)
(.pf (c := (n3 != n3)) (by kernel_rfl) (by kernel_rfl) (by (simp [*]; done))
(.path [1] (by kernel_rfl)
(.node (by kernel_rfl) (by kernel_rfl) (fun h15 =>
(.path [1,1] (by kernel_rfl)
(.leaf (by kernel_rfl)))) (fun h15 =>
.none))))))))) (fun h13 =>
.none)))) (fun h12 =>
.none))))) (fun h11 =>
.none)))))) (fun h9 =>
.none))))))))))))))))))))) (fun h6 =>
(.path [0,1] (by kernel_rfl)
(.pt (c := (n3 == cl_3 l0 n1)) (by kernel_rfl) (by kernel_rfl) (by (simp only [w64d, decide_eq_true_eq, decide_eq_false_iff_not, beq_iff_eq, beq_eq_false_iff_ne, bne_iff_ne, ne_eq, inR, Bool.and_eq_true, Bool.and_eq_false_iff, Bool.not_eq_true', Bool.not_eq_false', Bool.not_eq_eq_eq_not, Bool.not_true, Bool.not_false] at *; omega))
(.node (by kernel_rfl) (by kernel_rfl) (fun h7 =>
(.path [1,1,1] (by kernel_rfl)
(.node (by kernel_rfl) (by kernel_rfl) (fun h8 =>
(.path [1] (by kernel_rfl)
(.pt (c := (inR n1 (List.length l0))) (by kernel_rfl) (by kernel_rfl) (by (simp only [w64d, decide_eq_true_eq, decide_eq_false_iff_not, beq_iff_eq, beq_eq_false_iff_ne, bne_iff_ne, ne_eq, inR, Bool.and_eq_true, Bool.and_eq_false_iff, Bool.not_eq_true', Bool.not_eq_false', Bool.not_eq_eq_eq_not, Bool.not_true, Bool.not_false] at *; omega))
(.path [1,1,1,1] (by kernel_rfl)
(.pf (by kernel_rfl) (by kernel_rfl) h3
(.path [1] (by kernel_rfl)
(.pf (by kernel_rfl) (by kernel_rfl) h4
(.path [1] (by kernel_rfl)
(.pf (by kernel_rfl) (by kernel_rfl) h6
(.path [0] (by kernel_rfl)
(.node (by kernel_rfl) (by kernel_rfl) (fun h9 =>
(.path [1,1] (by kernel_rfl)
(.node (by kernel_rfl) (by kernel_rfl) (fun h10 =>
(.path [1,1,0,1] (by kernel_rfl)
(.node (by kernel_rfl) (by kernel_rfl) (fun h11 =>
(.path [1,1,0,0,0] (by kernel_rfl)
(.node (by kernel_rfl) (by kernel_rfl) (fun h12 =>
(.path [1,1,0,0] (by kernel_rfl)
(.pt (by kernel_rfl) (by kernel_rfl) h12
(.path [1,0,1,1,0,1,0,1,1] (by kernel_rfl)
(.pf (c := (n3 != n3)) (by kernel_rfl) (by kernel_rfl) (by (simp [*]; done))
(.path [1] (by kernel_rfl)
(.node (by kernel_rfl) (by kernel_rfl) (fun h13 =>
(.path [1,1] (by kernel_rfl)
(.leaf (by kernel_rfl)))) (fun h13 =>
.none)))))))) (fun h12 =>
(.node (by kernel_rfl) (by kernel_rfl) (fun h13 =>
(.path [1,1,1,1,0,0] (by kernel_rfl)
(.pf (by kernel_rfl) (by kernel_rfl) h12
(.node (by kernel_rfl) (by kernel_rfl) (fun h14 =>
(.path [1,1,1,0] (by kernel_rfl)
(.node (by kernel_rfl) (by kernel_rfl) (fun h15 =>
(.path [1] (by kernel_rfl)
(.node (by kernel_rfl) (by kernel_rfl) (fun h16 =>
(.path [1,1,1,1] (by kernel_rfl)
(.leaf (by kernel_rfl)))) (fun h16 =>
(.path [1,0,1,1] (by kernel_rfl)
(.pf (c := (n3 != n3)) (by kernel_rfl) (by kernel_rfl) (by (simp [*]; done))
(.path [1] (by kernel_rfl)
(.node (by kernel_rfl) (by kernel_rfl) (fun h17 =>
(.path [1,1] (by kernel_rfl)
(.leaf (by kernel_rfl)))) (fun h17 =>
.none))))))))) (fun h15 =>
.none)))) (fun h14 =>
.none))))) (fun h13 =>
.none)))))) (fun h11 =>
.none)))) (fun h10 =>
(.path [1,1,1,1] (by kernel_rfl)
(.leaf (by kernel_rfl))))))) (fun h9 =>
.none)))))))))))) (fun h8 =>
(.path [1] (by kernel_rfl)
(.pt (c := (inR n1 (List.length l0))) (by kernel_rfl) (by kernel_rfl) (by (simp only [w64d, decide_eq_true_eq, decide_eq_false_iff_not, beq_iff_eq, beq_eq_false_iff_ne, bne_iff_ne, ne_eq, inR, Bool.and_eq_true, Bool.and_eq_false_iff, Bool.not_eq_true', Bool.not_eq_false', Bool.not_eq_eq_eq_not, Bool.not_true, Bool.not_false] at *; omega))
(.path [1,1,1,1] (by kernel_rfl)
(.pf (by kernel_rfl) (by kernel_rfl) h3
(.path [1] (by kernel_rfl)
(.pf (by kernel_rfl) (by kernel_rfl) h4
(.path [1] (by kernel_rfl)
(.pf (by kernel_rfl) (by kernel_rfl) h6
(.path [0] (by kernel_rfl)
(.node (by kernel_rfl) (by kernel_rfl) (fun h9 =>
(.path [1,1] (by kernel_rfl)
(.node (by kernel_rfl) (by kernel_rfl) (fun h10 =>
(.path [1,1,1,1] (by kernel_rfl)
(.leaf (by kernel_rfl)))) (fun h10 =>
(.path [1,1,0,1] (by kernel_rfl)
(.node (by kernel_rfl) (by kernel_rfl) (fun h11 =>
(.path [1,1,0,0,0,1,1,1,0,0,1,1,0,1,1,0,1,0,1,1] (by kernel_rfl)
(.pf (c := (n3 != n3)) (by kernel_rfl) (by kernel_rfl) (by (simp [*]; done))
(.path [1] (by kernel_rfl)
(.node (by kernel_rfl) (by kernel_rfl) (fun h12 =>
(.path [1,1] (by kernel_rfl)
(.leaf (by kernel_rfl)))) (fun h12 =>
.none)))))) (fun h11 =>
.none))))))) (fun h9 =>
.none))))))))))))))) (fun h7 =>
.none)))))))) (fun h5 =>
.none))))))))))))) (fun h1 =>
.none))))) (fun h0 =>
.none))))))
end Go.Proofs.Ytcoamiaifbjofaa.Vx
