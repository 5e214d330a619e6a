import Derived.Test.YtkclmlcfdijbmaaVxNil
import Derived.Test.YtkclmlcfdijbmaaProg
import Derived.KernelRfl
namespace Go.Proofs.Ytkclmlcfdijbmaa.Vx.Pl
open Go Go.RowKit
set_option linter.unusedVariables false
set_option maxRecDepth 100000
set_option maxHeartbeats 0

abbrev TCall24 : Ty := .pair (.int .u8) (.pair (.int .i64) (.pair (.int .u8) (.pair (.int .i64) (.pair (.int .i64) (.pair (.int .u64) (.pair (.int .u32) (.pair (.int .u64) (.pair (.int .u64) (.pair (.int .u64) (.pair (.arr 64 (.int .u8)) (.int .u32)))))))))))
def rlA (h : Nat) : PB := .cells [.int .i64 h, .int .i64 (h+1), .nilif, .int .u64 (h+2), .int .u32 (h+3), .int .i64 (h+4), .int .i64 (h+5), .int .u64 (h+6), .int .u64 (h+7), .int .u64 (h+8), .arrd (.int .u8) 64 (h+9), .int .u32 (h+10), .bool (h+11), .int .i64 (h+12), .int .i64 (h+13), .bool (h+14)]
def rlB (h : Nat) : PB := .cells [.int .i64 h, .int .i64 (h+1), .iface 2 (.int .i64 (h+2)), .int .u64 (h+3), .int .u32 (h+4), .int .i64 (h+5), .int .i64 (h+6), .int .u64 (h+7), .int .u64 (h+8), .int .u64 (h+9), .arrd (.int .u8) 64 (h+10), .int .u32 (h+11), .bool (h+12), .int .i64 (h+13), .int .i64 (h+14), .bool (h+15)]
def rmB (h : Nat) : PB := .cells [.int .i64 h, .int .i64 (h+1), .bool (h+2), .int .i64 (h+3), .int .i64 (h+4), .int .i64 (h+5), .int .u64 (h+6), .int .u32 (h+7), .bool (h+8), .int .u64 (h+9), .int .u64 (h+10), .int .u64 (h+11), .arrd (.int .u8) 64 (h+12), .int .u32 (h+13), .int .i64 (h+14), .int .i64 (h+15)]
def foV (h : Nat) : PV := .agg [.int .u8 h, .int .i64 (h+1), .int .i64 (h+2), .int .u64 (h+3), .int .u32 (h+4)]
def stV (h : Nat) : PV := .agg [.int .u64 h, .int .u64 (h+1), .int .u64 (h+2), .arrd (.int .u8) 64 (h+3), .int .u32 (h+4)]
def ouV (h : Nat) : PV := .agg [.int .u64 h, .int .u32 (h+1)]
theorem hmix : Try.prog.follows .mixedOrders = true := by kernel_rfl
theorem csNone_ok0 : CsOk Try.prog csNone := csNone_ok _

def op_28 : List Dat → Option (Nat × List Dat) := fun _ => some (0, [.b true])
def B28 : FBox := (mkF [] [] [] [(.bool 0, [])] op_28)
def cs_28 : FuncId → Option CSpec := csAdd 28 [B28] csNone
theorem fn_28_ok (env : List Dat) (y : Nat × List Dat) (h : op_28 env = some y) : (boxC true Try.prog csNone 28 ls0 (mkF [] [] [] [(.bool 0, [])] fun _ => none) env).sel = some y := by
  cases h
  kernel_rfl
theorem B28_ok : RunOk Try.prog 28 (boxRun B28) := mkF_ok (op := op_28) csNone_ok0 hmix true (LsOk.none _ _ _) fn_28_ok
theorem cs_28_ok : CsOk Try.prog cs_28 := csAdd_ok csNone_ok0 fun B hB => by
  cases List.mem_singleton.1 hB
  exact B28_ok

def fn_33a : List Dat → Tree (Nat × List Dat)
  | [.n n0, .n n1, .n n2, .n n3, .n n4, .n n5, .n n6, .n n7, .n n8, .n n9, .n n10, .l (Ty.int IntKind.u8) l11, .n n12, .b b13, .n n14, .n n15, .b b16] =>
    (.node (decide (n0 < (0 : Int)))
     (.leaf ((0, [.n (2 : Int), .n n2, .n n3, .n n4, .n n5, .n n6, .n n7, .n n8, .n n9, .n n10, .l (Ty.int IntKind.u8) l11, .n n12, .b b13, .n n14, .n n15, .b b16])))
     (.node (decide (n0 > (1 : Int)))
      (.leaf ((0, [.n (2 : Int), .n n2, .n n3, .n n4, .n n5, .n n6, .n n7, .n n8, .n n9, .n n10, .l (Ty.int IntKind.u8) l11, .n n12, .b b13, .n n14, .n n15, .b b16])))
      (.node (decide (n1 < (1 : Int)))
       (.leaf ((0, [.n (2 : Int), .n n2, .n n3, .n n4, .n n5, .n n6, .n n7, .n n8, .n n9, .n n10, .l (Ty.int IntKind.u8) l11, .n n12, .b b13, .n n14, .n n15, .b b16])))
       (.node (decide (n1 > (1099511627776 : Int)))
        (.leaf ((0, [.n (2 : Int), .n n2, .n n3, .n n4, .n n5, .n n6, .n n7, .n n8, .n n9, .n n10, .l (Ty.int IntKind.u8) l11, .n n12, .b b13, .n n14, .n n15, .b b16])))
        (.node (decide (n1 < n2))
         (.leaf ((0, [.n (230 : Int), .n n2, .n n3, .n n4, .n n5, .n n6, .n n7, .n n8, .n n9, .n n10, .l (Ty.int IntKind.u8) l11, .n n12, .b b13, .n n14, .n n15, .b b16])))
         (.node (n1 == n2)
          (.node (n0 != n3)
           (.leaf ((0, [.n (230 : Int), .n n2, .n n3, .n n4, .n n5, .n n6, .n n7, .n n8, .n n9, .n n10, .l (Ty.int IntKind.u8) l11, .n n12, .b b13, .n n14, .n n15, .b b16])))
           (.node (decide (n1 > n2))
            (.leaf ((0, [.n (0 : Int), .n n1, .n n0, .n n4, .n n5, .n n6, .n n7, .n n8, .n n9, .n n10, .l (Ty.int IntKind.u8) l11, .n n12, .b b13, .n n14, .n n15, .b b16])))
            (.leaf ((0, [.n (0 : Int), .n n2, .n n3, .n n4, .n n5, .n n6, .n n7, .n n8, .n n9, .n n10, .l (Ty.int IntKind.u8) l11, .n n12, .b b13, .n n14, .n n15, .b b16])))))
          (.node (decide (n1 > n2))
           (.leaf ((0, [.n (0 : Int), .n n1, .n n0, .n n4, .n n5, .n n6, .n n7, .n n8, .n n9, .n n10, .l (Ty.int IntKind.u8) l11, .n n12, .b b13, .n n14, .n n15, .b b16])))
           (.leaf ((0, [.n (0 : Int), .n n2, .n n3, .n n4, .n n5, .n n6, .n n7, .n n8, .n n9, .n n10, .l (Ty.int IntKind.u8) l11, .n n12, .b b13, .n n14, .n n15, .b b16]))))))))))
  | _ => .bad 0
def op_33a : List Dat → Option (Nat × List Dat) := fun env => (fn_33a env).sel
def B33a : FBox := (mkF [.ptr 0 0, .int .i64 0, .int .i64 1] [rlA 2] [0] [(.int .i64 0, [rlA 1]), (.int .i64 0, [rlB 1])] op_33a)
theorem fn_33a_eq (n0 : Int) (n1 : Int) (n2 : Int) (n3 : Int) (n4 : Int) (n5 : Int) (n6 : Int) (n7 : Int) (n8 : Int) (n9 : Int) (n10 : Int) (l11 : List (Ty.den (Ty.int IntKind.u8))) (n12 : Int) (b13 : Bool) (n14 : Int) (n15 : Int) (b16 : Bool) : (boxC false Try.prog cs_28 33 ls0 (mkF [.ptr 0 0, .int .i64 0, .int .i64 1] [rlA 2] [0] [(.int .i64 0, [rlA 1]), (.int .i64 0, [rlB 1])] fun _ => none) [.n n0, .n n1, .n n2, .n n3, .n n4, .n n5, .n n6, .n n7, .n n8, .n n9, .n n10, .l (Ty.int IntKind.u8) l11, .n n12, .b b13, .n n14, .n n15, .b b16]).sel = (fn_33a [.n n0, .n n1, .n n2, .n n3, .n n4, .n n5, .n n6, .n n7, .n n8, .n n9, .n n10, .l (Ty.int IntKind.u8) l11, .n n12, .b b13, .n n14, .n n15, .b b16]).sel := by kernel_rfl
theorem fn_33a_ok (env : List Dat) (y : Nat × List Dat) (h : (fn_33a env).sel = some y) : (boxC false Try.prog cs_28 33 ls0 (mkF [.ptr 0 0, .int .i64 0, .int .i64 1] [rlA 2] [0] [(.int .i64 0, [rlA 1]), (.int .i64 0, [rlB 1])] fun _ => none) env).sel = some y := by
  unfold fn_33a at h
  split at h
  · rw [fn_33a_eq]; exact h
  · cases h
theorem B33a_ok : RunOk Try.prog 33 (boxRun B33a) := mkF_ok (op := op_33a) cs_28_ok hmix false (LsOk.none _ _ _) fn_33a_ok

def fn_33b : List Dat → Tree (Nat × List Dat)
  | [.n n0, .n n1, .n n2, .n n3, .n n4, .n n5, .n n6, .n n7, .n n8, .n n9, .n n10, .n n11, .l (Ty.int IntKind.u8) l12, .n n13, .b b14, .n n15, .n n16, .b b17] =>
    (.node (decide (n0 < (0 : Int)))
     (.leaf ((1, [.n (2 : Int), .n n2, .n n3, .n n4, .n n5, .n n6, .n n7, .n n8, .n n9, .n n10, .n n11, .l (Ty.int IntKind.u8) l12, .n n13, .b b14, .n n15, .n n16, .b b17])))
     (.node (decide (n0 > (1 : Int)))
      (.leaf ((1, [.n (2 : Int), .n n2, .n n3, .n n4, .n n5, .n n6, .n n7, .n n8, .n n9, .n n10, .n n11, .l (Ty.int IntKind.u8) l12, .n n13, .b b14, .n n15, .n n16, .b b17])))
      (.node (decide (n1 < (1 : Int)))
       (.leaf ((1, [.n (2 : Int), .n n2, .n n3, .n n4, .n n5, .n n6, .n n7, .n n8, .n n9, .n n10, .n n11, .l (Ty.int IntKind.u8) l12, .n n13, .b b14, .n n15, .n n16, .b b17])))
       (.node (decide (n1 > (1099511627776 : Int)))
        (.leaf ((1, [.n (2 : Int), .n n2, .n n3, .n n4, .n n5, .n n6, .n n7, .n n8, .n n9, .n n10, .n n11, .l (Ty.int IntKind.u8) l12, .n n13, .b b14, .n n15, .n n16, .b b17])))
        (.node (decide (n1 < n2))
         (.leaf ((1, [.n (230 : Int), .n n2, .n n3, .n n4, .n n5, .n n6, .n n7, .n n8, .n n9, .n n10, .n n11, .l (Ty.int IntKind.u8) l12, .n n13, .b b14, .n n15, .n n16, .b b17])))
         (.node (n1 == n2)
          (.node (n0 != n3)
           (.leaf ((1, [.n (230 : Int), .n n2, .n n3, .n n4, .n n5, .n n6, .n n7, .n n8, .n n9, .n n10, .n n11, .l (Ty.int IntKind.u8) l12, .n n13, .b b14, .n n15, .n n16, .b b17])))
           (.node (decide (n1 > n2))
            (.leaf ((0, [.n (0 : Int), .n n1, .n n0, .n n5, .n n6, .n n7, .n n8, .n n9, .n n10, .n n11, .l (Ty.int IntKind.u8) l12, .n n13, .b b14, .n n15, .n n16, .b b17])))
            (.leaf ((1, [.n (0 : Int), .n n2, .n n3, .n n4, .n n5, .n n6, .n n7, .n n8, .n n9, .n n10, .n n11, .l (Ty.int IntKind.u8) l12, .n n13, .b b14, .n n15, .n n16, .b b17])))))
          (.node (decide (n1 > n2))
           (.leaf ((0, [.n (0 : Int), .n n1, .n n0, .n n5, .n n6, .n n7, .n n8, .n n9, .n n10, .n n11, .l (Ty.int IntKind.u8) l12, .n n13, .b b14, .n n15, .n n16, .b b17])))
           (.leaf ((1, [.n (0 : Int), .n n2, .n n3, .n n4, .n n5, .n n6, .n n7, .n n8, .n n9, .n n10, .n n11, .l (Ty.int IntKind.u8) l12, .n n13, .b b14, .n n15, .n n16, .b b17]))))))))))
  | _ => .bad 0
def op_33b : List Dat → Option (Nat × List Dat) := fun env => (fn_33b env).sel
def B33b : FBox := (mkF [.ptr 0 0, .int .i64 0, .int .i64 1] [rlB 2] [0] [(.int .i64 0, [rlA 1]), (.int .i64 0, [rlB 1])] op_33b)
def cs_33b : FuncId → Option CSpec := csAdd 33 [B33a, B33b] cs_28
theorem fn_33b_eq (n0 : Int) (n1 : Int) (n2 : Int) (n3 : Int) (n4 : Int) (n5 : Int) (n6 : Int) (n7 : Int) (n8 : Int) (n9 : Int) (n10 : Int) (n11 : Int) (l12 : List (Ty.den (Ty.int IntKind.u8))) (n13 : Int) (b14 : Bool) (n15 : Int) (n16 : Int) (b17 : Bool) : (boxC false Try.prog cs_28 33 ls0 (mkF [.ptr 0 0, .int .i64 0, .int .i64 1] [rlB 2] [0] [(.int .i64 0, [rlA 1]), (.int .i64 0, [rlB 1])] fun _ => none) [.n n0, .n n1, .n n2, .n n3, .n n4, .n n5, .n n6, .n n7, .n n8, .n n9, .n n10, .n n11, .l (Ty.int IntKind.u8) l12, .n n13, .b b14, .n n15, .n n16, .b b17]).sel = (fn_33b [.n n0, .n n1, .n n2, .n n3, .n n4, .n n5, .n n6, .n n7, .n n8, .n n9, .n n10, .n n11, .l (Ty.int IntKind.u8) l12, .n n13, .b b14, .n n15, .n n16, .b b17]).sel := by kernel_rfl
theorem fn_33b_ok (env : List Dat) (y : Nat × List Dat) (h : (fn_33b env).sel = some y) : (boxC false Try.prog cs_28 33 ls0 (mkF [.ptr 0 0, .int .i64 0, .int .i64 1] [rlB 2] [0] [(.int .i64 0, [rlA 1]), (.int .i64 0, [rlB 1])] fun _ => none) env).sel = some y := by
  unfold fn_33b at h
  split at h
  · rw [fn_33b_eq]; exact h
  · cases h
theorem B33b_ok : RunOk Try.prog 33 (boxRun B33b) := mkF_ok (op := op_33b) cs_28_ok hmix false (LsOk.none _ _ _) fn_33b_ok
theorem cs_33b_ok : CsOk Try.prog cs_33b := csAdd_ok cs_28_ok fun B hB => by
  simp only [List.mem_cons, List.not_mem_nil, or_false] at hB
  rcases hB with rfl | rfl
  · exact B33a_ok
  · exact B33b_ok

def fn_34a : List Dat → Tree (Nat × List Dat)
  | [.n n0, .n n1, .n n2, .n n3, .n n4, .n n5, .n n6, .n n7, .n n8, .n n9, .n n10, .l (Ty.int IntKind.u8) l11, .n n12, .b b13, .n n14, .n n15, .b b16] =>
    (let r1 : Option (Nat × List Dat) := (op_33a [.n n0, .n n1, .n n2, .n n3, .n n4, .n n5, .n n6, .n n7, .n n8, .n n9, .n n10, .l (Ty.int IntKind.u8) l11, .n n12, .b b13, .n n14, .n n15, .b b16]);
     (.node (isK 0 [HK.n, HK.n, HK.n, HK.n, HK.n, HK.n, HK.n, HK.n, HK.n, HK.n, HK.l (Ty.int IntKind.u8), HK.n, HK.b, HK.n, HK.n, HK.b] r1)
      (.node (gn (dOf r1) 0 != (0 : Int))
       (.leaf ((0, [.n (gn (dOf r1) 0), .n (gn (dOf r1) 1), .n (gn (dOf r1) 2), .n (gn (dOf r1) 3), .n (gn (dOf r1) 4), .n (gn (dOf r1) 5), .n (gn (dOf r1) 6), .n (gn (dOf r1) 7), .n (gn (dOf r1) 8), .n (gn (dOf r1) 9), .l (Ty.int IntKind.u8) (gl (Ty.int IntKind.u8) (dOf r1) 10), .n (gn (dOf r1) 11), .b (gb (dOf r1) 12), .n (gn (dOf r1) 13), .n (gn (dOf r1) 14), .b (gb (dOf r1) 15)])))
       (.leaf ((0, [.n (0 : Int), .n (gn (dOf r1) 1), .n (gn (dOf r1) 2), .n (0 : Int), .n (gn (dOf r1) 4), .n (gn (dOf r1) 5), .n (gn (dOf r1) 6), .n (gn (dOf r1) 7), .n (gn (dOf r1) 8), .n (gn (dOf r1) 9), .l (Ty.int IntKind.u8) (gl (Ty.int IntKind.u8) (dOf r1) 10), .n (gn (dOf r1) 11), .b (gb (dOf r1) 12), .n (gn (dOf r1) 13), .n (gn (dOf r1) 14), .b true]))))
      (.node (isK 1 [HK.n, HK.n, HK.n, HK.n, HK.n, HK.n, HK.n, HK.n, HK.n, HK.n, HK.n, HK.l (Ty.int IntKind.u8), HK.n, HK.b, HK.n, HK.n, HK.b] r1)
       (.node (gn (dOf r1) 0 != (0 : Int))
        (.leaf ((1, [.n (gn (dOf r1) 0), .n (gn (dOf r1) 1), .n (gn (dOf r1) 2), .n (gn (dOf r1) 3), .n (gn (dOf r1) 4), .n (gn (dOf r1) 5), .n (gn (dOf r1) 6), .n (gn (dOf r1) 7), .n (gn (dOf r1) 8), .n (gn (dOf r1) 9), .n (gn (dOf r1) 10), .l (Ty.int IntKind.u8) (gl (Ty.int IntKind.u8) (dOf r1) 11), .n (gn (dOf r1) 12), .b (gb (dOf r1) 13), .n (gn (dOf r1) 14), .n (gn (dOf r1) 15), .b (gb (dOf r1) 16)])))
        (.leaf ((1, [.n (0 : Int), .n (gn (dOf r1) 1), .n (gn (dOf r1) 2), .n (gn (dOf r1) 3), .n (0 : Int), .n (gn (dOf r1) 5), .n (gn (dOf r1) 6), .n (gn (dOf r1) 7), .n (gn (dOf r1) 8), .n (gn (dOf r1) 9), .n (gn (dOf r1) 10), .l (Ty.int IntKind.u8) (gl (Ty.int IntKind.u8) (dOf r1) 11), .n (gn (dOf r1) 12), .b (gb (dOf r1) 13), .n (gn (dOf r1) 14), .n (gn (dOf r1) 15), .b true]))))
       (.bad 351))))
  | _ => .bad 0
def op_34a : List Dat → Option (Nat × List Dat) := fun env => (fn_34a env).sel
def B34a : FBox := (mkF [.ptr 0 0, .int .i64 0, .int .i64 1] [rlA 2] [0] [(.int .i64 0, [rlA 1]), (.int .i64 0, [rlB 1])] op_34a)
theorem fn_34a_eq (n0 : Int) (n1 : Int) (n2 : Int) (n3 : Int) (n4 : Int) (n5 : Int) (n6 : Int) (n7 : Int) (n8 : Int) (n9 : Int) (n10 : Int) (l11 : List (Ty.den (Ty.int IntKind.u8))) (n12 : Int) (b13 : Bool) (n14 : Int) (n15 : Int) (b16 : Bool) : (boxC false Try.prog cs_33b 34 ls0 (mkF [.ptr 0 0, .int .i64 0, .int .i64 1] [rlA 2] [0] [(.int .i64 0, [rlA 1]), (.int .i64 0, [rlB 1])] fun _ => none) [.n n0, .n n1, .n n2, .n n3, .n n4, .n n5, .n n6, .n n7, .n n8, .n n9, .n n10, .l (Ty.int IntKind.u8) l11, .n n12, .b b13, .n n14, .n n15, .b b16]).sel = (fn_34a [.n n0, .n n1, .n n2, .n n3, .n n4, .n n5, .n n6, .n n7, .n n8, .n n9, .n n10, .l (Ty.int IntKind.u8) l11, .n n12, .b b13, .n n14, .n n15, .b b16]).sel := by kernel_rfl
theorem fn_34a_ok (env : List Dat) (y : Nat × List Dat) (h : (fn_34a env).sel = some y) : (boxC false Try.prog cs_33b 34 ls0 (mkF [.ptr 0 0, .int .i64 0, .int .i64 1] [rlA 2] [0] [(.int .i64 0, [rlA 1]), (.int .i64 0, [rlB 1])] fun _ => none) env).sel = some y := by
  unfold fn_34a at h
  split at h
  · rw [fn_34a_eq]; exact h
  · cases h
theorem B34a_ok : RunOk Try.prog 34 (boxRun B34a) := mkF_ok (op := op_34a) cs_33b_ok hmix false (LsOk.none _ _ _) fn_34a_ok

def fn_34b : List Dat → Tree (Nat × List Dat)
  | [.n n0, .n n1, .n n2, .n n3, .n n4, .n n5, .n n6, .n n7, .n n8, .n n9, .n n10, .n n11, .l (Ty.int IntKind.u8) l12, .n n13, .b b14, .n n15, .n n16, .b b17] =>
    (let r1 : Option (Nat × List Dat) := (op_33b [.n n0, .n n1, .n n2, .n n3, .n n4, .n n5, .n n6, .n n7, .n n8, .n n9, .n n10, .n n11, .l (Ty.int IntKind.u8) l12, .n n13, .b b14, .n n15, .n n16, .b b17]);
     (.node (isK 0 [HK.n, HK.n, HK.n, HK.n, HK.n, HK.n, HK.n, HK.n, HK.n, HK.n, HK.l (Ty.int IntKind.u8), HK.n, HK.b, HK.n, HK.n, HK.b] r1)
      (.node (gn (dOf r1) 0 != (0 : Int))
       (.leaf ((0, [.n (gn (dOf r1) 0), .n (gn (dOf r1) 1), .n (gn (dOf r1) 2), .n (gn (dOf r1) 3), .n (gn (dOf r1) 4), .n (gn (dOf r1) 5), .n (gn (dOf r1) 6), .n (gn (dOf r1) 7), .n (gn (dOf r1) 8), .n (gn (dOf r1) 9), .l (Ty.int IntKind.u8) (gl (Ty.int IntKind.u8) (dOf r1) 10), .n (gn (dOf r1) 11), .b (gb (dOf r1) 12), .n (gn (dOf r1) 13), .n (gn (dOf r1) 14), .b (gb (dOf r1) 15)])))
       (.leaf ((0, [.n (0 : Int), .n (gn (dOf r1) 1), .n (gn (dOf r1) 2), .n (0 : Int), .n (gn (dOf r1) 4), .n (gn (dOf r1) 5), .n (gn (dOf r1) 6), .n (gn (dOf r1) 7), .n (gn (dOf r1) 8), .n (gn (dOf r1) 9), .l (Ty.int IntKind.u8) (gl (Ty.int IntKind.u8) (dOf r1) 10), .n (gn (dOf r1) 11), .b (gb (dOf r1) 12), .n (gn (dOf r1) 13), .n (gn (dOf r1) 14), .b true]))))
      (.node (isK 1 [HK.n, HK.n, HK.n, HK.n, HK.n, HK.n, HK.n, HK.n, HK.n, HK.n, HK.n, HK.l (Ty.int IntKind.u8), HK.n, HK.b, HK.n, HK.n, HK.b] r1)
       (.node (gn (dOf r1) 0 != (0 : Int))
        (.leaf ((1, [.n (gn (dOf r1) 0), .n (gn (dOf r1) 1), .n (gn (dOf r1) 2), .n (gn (dOf r1) 3), .n (gn (dOf r1) 4), .n (gn (dOf r1) 5), .n (gn (dOf r1) 6), .n (gn (dOf r1) 7), .n (gn (dOf r1) 8), .n (gn (dOf r1) 9), .n (gn (dOf r1) 10), .l (Ty.int IntKind.u8) (gl (Ty.int IntKind.u8) (dOf r1) 11), .n (gn (dOf r1) 12), .b (gb (dOf r1) 13), .n (gn (dOf r1) 14), .n (gn (dOf r1) 15), .b (gb (dOf r1) 16)])))
        (.leaf ((1, [.n (0 : Int), .n (gn (dOf r1) 1), .n (gn (dOf r1) 2), .n (gn (dOf r1) 3), .n (0 : Int), .n (gn (dOf r1) 5), .n (gn (dOf r1) 6), .n (gn (dOf r1) 7), .n (gn (dOf r1) 8), .n (gn (dOf r1) 9), .n (gn (dOf r1) 10), .l (Ty.int IntKind.u8) (gl (Ty.int IntKind.u8) (dOf r1) 11), .n (gn (dOf r1) 12), .b (gb (dOf r1) 13), .n (gn (dOf r1) 14), .n (gn (dOf r1) 15), .b true]))))
       (.bad 351))))
  | _ => .bad 0
def op_34b : List Dat → Option (Nat × List Dat) := fun env => (fn_34b env).sel
def B34b : FBox := (mkF [.ptr 0 0, .int .i64 0, .int .i64 1] [rlB 2] [0] [(.int .i64 0, [rlA 1]), (.int .i64 0, [rlB 1])] op_34b)
def cs_34b : FuncId → Option CSpec := csAdd 34 [B34a, B34b] cs_33b
theorem fn_34b_eq (n0 : Int) (n1 : Int) (n2 : Int) (n3 : Int) (n4 : Int) (n5 : Int) (n6 : Int) (n7 : Int) (n8 : Int) (n9 : Int) (n10 : Int) (n11 : Int) (l12 : List (Ty.den (Ty.int IntKind.u8))) (n13 : Int) (b14 : Bool) (n15 : Int) (n16 : Int) (b17 : Bool) : (boxC false Try.prog cs_33b 34 ls0 (mkF [.ptr 0 0, .int .i64 0, .int .i64 1] [rlB 2] [0] [(.int .i64 0, [rlA 1]), (.int .i64 0, [rlB 1])] fun _ => none) [.n n0, .n n1, .n n2, .n n3, .n n4, .n n5, .n n6, .n n7, .n n8, .n n9, .n n10, .n n11, .l (Ty.int IntKind.u8) l12, .n n13, .b b14, .n n15, .n n16, .b b17]).sel = (fn_34b [.n n0, .n n1, .n n2, .n n3, .n n4, .n n5, .n n6, .n n7, .n n8, .n n9, .n n10, .n n11, .l (Ty.int IntKind.u8) l12, .n n13, .b b14, .n n15, .n n16, .b b17]).sel := by kernel_rfl
theorem fn_34b_ok (env : List Dat) (y : Nat × List Dat) (h : (fn_34b env).sel = some y) : (boxC false Try.prog cs_33b 34 ls0 (mkF [.ptr 0 0, .int .i64 0, .int .i64 1] [rlB 2] [0] [(.int .i64 0, [rlA 1]), (.int .i64 0, [rlB 1])] fun _ => none) env).sel = some y := by
  unfold fn_34b at h
  split at h
  · rw [fn_34b_eq]; exact h
  · cases h
theorem B34b_ok : RunOk Try.prog 34 (boxRun B34b) := mkF_ok (op := op_34b) cs_33b_ok hmix false (LsOk.none _ _ _) fn_34b_ok
theorem cs_34b_ok : CsOk Try.prog cs_34b := csAdd_ok cs_33b_ok fun B hB => by
  simp only [List.mem_cons, List.not_mem_nil, or_false] at hB
  rcases hB with rfl | rfl
  · exact B34a_ok
  · exact B34b_ok

def fn_35a : List Dat → Tree (Nat × List Dat)
  | [.n n0, .n n1, .n n2, .n n3, .n n4, .n n5, .n n6, .n n7, .n n8, .l (Ty.int IntKind.u8) l9, .n n10, .b b11, .n n12, .n n13, .b b14] =>
    (.node (decide (IntKind.wrap .i64 (n12 + (1 : Int)) > n13))
     (.leaf ((0, [.n n0, .n n1, .n (0 : Int), .n n3, .n n4, .n n5, .n n6, .n n7, .n n8, .l (Ty.int IntKind.u8) l9, .n n10, .b b11, .n (IntKind.wrap .i64 (n12 + (1 : Int))), .n n13, .b true])))
     (.leaf ((0, [.n n0, .n n1, .n n2, .n n3, .n n4, .n n5, .n n6, .n n7, .n n8, .l (Ty.int IntKind.u8) l9, .n n10, .b b11, .n (IntKind.wrap .i64 (n12 + (1 : Int))), .n n13, .b b14]))))
  | _ => .bad 0
def op_35a : List Dat → Option (Nat × List Dat) := fun env => (fn_35a env).sel
def B35a : FBox := (mkF [.ptr 0 0] [rlA 0] [0] [(.tup [], [rlA 0]), (.tup [], [rlB 0])] op_35a)
theorem fn_35a_eq (n0 : Int) (n1 : Int) (n2 : Int) (n3 : Int) (n4 : Int) (n5 : Int) (n6 : Int) (n7 : Int) (n8 : Int) (l9 : List (Ty.den (Ty.int IntKind.u8))) (n10 : Int) (b11 : Bool) (n12 : Int) (n13 : Int) (b14 : Bool) : (boxC false Try.prog cs_34b 35 ls0 (mkF [.ptr 0 0] [rlA 0] [0] [(.tup [], [rlA 0]), (.tup [], [rlB 0])] fun _ => none) [.n n0, .n n1, .n n2, .n n3, .n n4, .n n5, .n n6, .n n7, .n n8, .l (Ty.int IntKind.u8) l9, .n n10, .b b11, .n n12, .n n13, .b b14]).sel = (fn_35a [.n n0, .n n1, .n n2, .n n3, .n n4, .n n5, .n n6, .n n7, .n n8, .l (Ty.int IntKind.u8) l9, .n n10, .b b11, .n n12, .n n13, .b b14]).sel := by kernel_rfl
theorem fn_35a_ok (env : List Dat) (y : Nat × List Dat) (h : (fn_35a env).sel = some y) : (boxC false Try.prog cs_34b 35 ls0 (mkF [.ptr 0 0] [rlA 0] [0] [(.tup [], [rlA 0]), (.tup [], [rlB 0])] fun _ => none) env).sel = some y := by
  unfold fn_35a at h
  split at h
  · rw [fn_35a_eq]; exact h
  · cases h
theorem B35a_ok : RunOk Try.prog 35 (boxRun B35a) := mkF_ok (op := op_35a) cs_34b_ok hmix false (LsOk.none _ _ _) fn_35a_ok

def fn_35b : List Dat → Tree (Nat × List Dat)
  | [.n n0, .n n1, .n n2, .n n3, .n n4, .n n5, .n n6, .n n7, .n n8, .n n9, .l (Ty.int IntKind.u8) l10, .n n11, .b b12, .n n13, .n n14, .b b15] =>
    (.node (decide (IntKind.wrap .i64 (n13 + (1 : Int)) > n14))
     (.leaf ((1, [.n n0, .n n1, .n n2, .n (0 : Int), .n n4, .n n5, .n n6, .n n7, .n n8, .n n9, .l (Ty.int IntKind.u8) l10, .n n11, .b b12, .n (IntKind.wrap .i64 (n13 + (1 : Int))), .n n14, .b true])))
     (.leaf ((1, [.n n0, .n n1, .n n2, .n n3, .n n4, .n n5, .n n6, .n n7, .n n8, .n n9, .l (Ty.int IntKind.u8) l10, .n n11, .b b12, .n (IntKind.wrap .i64 (n13 + (1 : Int))), .n n14, .b b15]))))
  | _ => .bad 0
def op_35b : List Dat → Option (Nat × List Dat) := fun env => (fn_35b env).sel
def B35b : FBox := (mkF [.ptr 0 0] [rlB 0] [0] [(.tup [], [rlA 0]), (.tup [], [rlB 0])] op_35b)
def cs_35b : FuncId → Option CSpec := csAdd 35 [B35a, B35b] cs_34b
theorem fn_35b_eq (n0 : Int) (n1 : Int) (n2 : Int) (n3 : Int) (n4 : Int) (n5 : Int) (n6 : Int) (n7 : Int) (n8 : Int) (n9 : Int) (l10 : List (Ty.den (Ty.int IntKind.u8))) (n11 : Int) (b12 : Bool) (n13 : Int) (n14 : Int) (b15 : Bool) : (boxC false Try.prog cs_34b 35 ls0 (mkF [.ptr 0 0] [rlB 0] [0] [(.tup [], [rlA 0]), (.tup [], [rlB 0])] fun _ => none) [.n n0, .n n1, .n n2, .n n3, .n n4, .n n5, .n n6, .n n7, .n n8, .n n9, .l (Ty.int IntKind.u8) l10, .n n11, .b b12, .n n13, .n n14, .b b15]).sel = (fn_35b [.n n0, .n n1, .n n2, .n n3, .n n4, .n n5, .n n6, .n n7, .n n8, .n n9, .l (Ty.int IntKind.u8) l10, .n n11, .b b12, .n n13, .n n14, .b b15]).sel := by kernel_rfl
theorem fn_35b_ok (env : List Dat) (y : Nat × List Dat) (h : (fn_35b env).sel = some y) : (boxC false Try.prog cs_34b 35 ls0 (mkF [.ptr 0 0] [rlB 0] [0] [(.tup [], [rlA 0]), (.tup [], [rlB 0])] fun _ => none) env).sel = some y := by
  unfold fn_35b at h
  split at h
  · rw [fn_35b_eq]; exact h
  · cases h
theorem B35b_ok : RunOk Try.prog 35 (boxRun B35b) := mkF_ok (op := op_35b) cs_34b_ok hmix false (LsOk.none _ _ _) fn_35b_ok
theorem cs_35b_ok : CsOk Try.prog cs_35b := csAdd_ok cs_34b_ok fun B hB => by
  simp only [List.mem_cons, List.not_mem_nil, or_false] at hB
  rcases hB with rfl | rfl
  · exact B35a_ok
  · exact B35b_ok

def fn_36a : List Dat → Tree (Nat × List Dat)
  | [.n n0, .n n1, .n n2, .n n3, .n n4, .n n5, .n n6, .n n7, .n n8, .l (Ty.int IntKind.u8) l9, .n n10, .b b11, .n n12, .n n13, .b b14] =>
    (.node (!b14)
     (.leaf ((0, [.n (4 : Int), .n n0, .n n1, .n n2, .n n3, .n n4, .n n5, .n n6, .n n7, .n n8, .l (Ty.int IntKind.u8) l9, .n n10, .b b11, .n n12, .n n13, .b b14])))
     (.leaf ((0, [.n (0 : Int), .n n0, .n n1, .n n2, .n n3, .n n4, .n n5, .n n6, .n n7, .n n8, .l (Ty.int IntKind.u8) l9, .n n10, .b b11, .n (0 : Int), .n n13, .b false]))))
  | _ => .bad 0
def op_36a : List Dat → Option (Nat × List Dat) := fun env => (fn_36a env).sel
def B36a : FBox := (mkF [.ptr 0 0] [rlA 0] [0] [(.int .i64 0, [rlA 1]), (.int .i64 0, [rlB 1])] op_36a)
theorem fn_36a_eq (n0 : Int) (n1 : Int) (n2 : Int) (n3 : Int) (n4 : Int) (n5 : Int) (n6 : Int) (n7 : Int) (n8 : Int) (l9 : List (Ty.den (Ty.int IntKind.u8))) (n10 : Int) (b11 : Bool) (n12 : Int) (n13 : Int) (b14 : Bool) : (boxC false Try.prog cs_35b 36 ls0 (mkF [.ptr 0 0] [rlA 0] [0] [(.int .i64 0, [rlA 1]), (.int .i64 0, [rlB 1])] fun _ => none) [.n n0, .n n1, .n n2, .n n3, .n n4, .n n5, .n n6, .n n7, .n n8, .l (Ty.int IntKind.u8) l9, .n n10, .b b11, .n n12, .n n13, .b b14]).sel = (fn_36a [.n n0, .n n1, .n n2, .n n3, .n n4, .n n5, .n n6, .n n7, .n n8, .l (Ty.int IntKind.u8) l9, .n n10, .b b11, .n n12, .n n13, .b b14]).sel := by kernel_rfl
theorem fn_36a_ok (env : List Dat) (y : Nat × List Dat) (h : (fn_36a env).sel = some y) : (boxC false Try.prog cs_35b 36 ls0 (mkF [.ptr 0 0] [rlA 0] [0] [(.int .i64 0, [rlA 1]), (.int .i64 0, [rlB 1])] fun _ => none) env).sel = some y := by
  unfold fn_36a at h
  split at h
  · rw [fn_36a_eq]; exact h
  · cases h
theorem B36a_ok : RunOk Try.prog 36 (boxRun B36a) := mkF_ok (op := op_36a) cs_35b_ok hmix false (LsOk.none _ _ _) fn_36a_ok

def fn_36b : List Dat → Tree (Nat × List Dat)
  | [.n n0, .n n1, .n n2, .n n3, .n n4, .n n5, .n n6, .n n7, .n n8, .n n9, .l (Ty.int IntKind.u8) l10, .n n11, .b b12, .n n13, .n n14, .b b15] =>
    (.node (!b15)
     (.leaf ((1, [.n (4 : Int), .n n0, .n n1, .n n2, .n n3, .n n4, .n n5, .n n6, .n n7, .n n8, .n n9, .l (Ty.int IntKind.u8) l10, .n n11, .b b12, .n n13, .n n14, .b b15])))
     (.leaf ((1, [.n (0 : Int), .n n0, .n n1, .n n2, .n n3, .n n4, .n n5, .n n6, .n n7, .n n8, .n n9, .l (Ty.int IntKind.u8) l10, .n n11, .b b12, .n (0 : Int), .n n14, .b false]))))
  | _ => .bad 0
def op_36b : List Dat → Option (Nat × List Dat) := fun env => (fn_36b env).sel
def B36b : FBox := (mkF [.ptr 0 0] [rlB 0] [0] [(.int .i64 0, [rlA 1]), (.int .i64 0, [rlB 1])] op_36b)
def cs_36b : FuncId → Option CSpec := csAdd 36 [B36a, B36b] cs_35b
theorem fn_36b_eq (n0 : Int) (n1 : Int) (n2 : Int) (n3 : Int) (n4 : Int) (n5 : Int) (n6 : Int) (n7 : Int) (n8 : Int) (n9 : Int) (l10 : List (Ty.den (Ty.int IntKind.u8))) (n11 : Int) (b12 : Bool) (n13 : Int) (n14 : Int) (b15 : Bool) : (boxC false Try.prog cs_35b 36 ls0 (mkF [.ptr 0 0] [rlB 0] [0] [(.int .i64 0, [rlA 1]), (.int .i64 0, [rlB 1])] fun _ => none) [.n n0, .n n1, .n n2, .n n3, .n n4, .n n5, .n n6, .n n7, .n n8, .n n9, .l (Ty.int IntKind.u8) l10, .n n11, .b b12, .n n13, .n n14, .b b15]).sel = (fn_36b [.n n0, .n n1, .n n2, .n n3, .n n4, .n n5, .n n6, .n n7, .n n8, .n n9, .l (Ty.int IntKind.u8) l10, .n n11, .b b12, .n n13, .n n14, .b b15]).sel := by kernel_rfl
theorem fn_36b_ok (env : List Dat) (y : Nat × List Dat) (h : (fn_36b env).sel = some y) : (boxC false Try.prog cs_35b 36 ls0 (mkF [.ptr 0 0] [rlB 0] [0] [(.int .i64 0, [rlA 1]), (.int .i64 0, [rlB 1])] fun _ => none) env).sel = some y := by
  unfold fn_36b at h
  split at h
  · rw [fn_36b_eq]; exact h
  · cases h
theorem B36b_ok : RunOk Try.prog 36 (boxRun B36b) := mkF_ok (op := op_36b) cs_35b_ok hmix false (LsOk.none _ _ _) fn_36b_ok
theorem cs_36b_ok : CsOk Try.prog cs_36b := csAdd_ok cs_35b_ok fun B hB => by
  simp only [List.mem_cons, List.not_mem_nil, or_false] at hB
  rcases hB with rfl | rfl
  · exact B36a_ok
  · exact B36b_ok

def fn_37a : List Dat → Tree (Nat × List Dat)
  | [.n n0, .n n1, .n n2, .n n3, .n n4, .n n5, .n n6, .n n7, .n n8, .l (Ty.int IntKind.u8) l9, .n n10, .n n11, .n n12, .n n13, .n n14, .n n15, .n n16, .n n17, .n n18, .n n19, .l (Ty.int IntKind.u8) l20, .n n21, .b b22, .n n23, .n n24, .b b25] =>
    (.node (decide (n0 < (0 : Int)))
     (.leaf ((0, [.n (2 : Int), .n n11, .n n12, .n n13, .n n14, .n n15, .n n16, .n n17, .n n18, .n n19, .l (Ty.int IntKind.u8) l20, .n n21, .b b22, .n n23, .n n24, .b b25])))
     (.node (decide (n0 > (1 : Int)))
      (.leaf ((0, [.n (2 : Int), .n n11, .n n12, .n n13, .n n14, .n n15, .n n16, .n n17, .n n18, .n n19, .l (Ty.int IntKind.u8) l20, .n n21, .b b22, .n n23, .n n24, .b b25])))
      (.node (decide (n3 < (1 : Int)))
       (.leaf ((0, [.n (2 : Int), .n n11, .n n12, .n n13, .n n14, .n n15, .n n16, .n n17, .n n18, .n n19, .l (Ty.int IntKind.u8) l20, .n n21, .b b22, .n n23, .n n24, .b b25])))
       (.node (decide (n3 > (1099511627776 : Int)))
        (.leaf ((0, [.n (2 : Int), .n n11, .n n12, .n n13, .n n14, .n n15, .n n16, .n n17, .n n18, .n n19, .l (Ty.int IntKind.u8) l20, .n n21, .b b22, .n n23, .n n24, .b b25])))
        (.node (decide (n3 < n11))
         (.leaf ((0, [.n (230 : Int), .n n11, .n n12, .n n13, .n n14, .n n15, .n n16, .n n17, .n n18, .n n19, .l (Ty.int IntKind.u8) l20, .n n21, .b b22, .n n23, .n n24, .b b25])))
         (.node (n3 == n11)
          (.node (n0 != n12)
           (.leaf ((0, [.n (230 : Int), .n n11, .n n12, .n n13, .n n14, .n n15, .n n16, .n n17, .n n18, .n n19, .l (Ty.int IntKind.u8) l20, .n n21, .b b22, .n n23, .n n24, .b b25])))
           (.node (decide (n2 < (0 : Int)))
            (.leaf ((0, [.n (2 : Int), .n n11, .n n12, .n n13, .n n14, .n n15, .n n16, .n n17, .n n18, .n n19, .l (Ty.int IntKind.u8) l20, .n n21, .b b22, .n n23, .n n24, .b b25])))
            (.node (decide (n2 > (1099511627776 : Int)))
             (.leaf ((0, [.n (2 : Int), .n n11, .n n12, .n n13, .n n14, .n n15, .n n16, .n n17, .n n18, .n n19, .l (Ty.int IntKind.u8) l20, .n n21, .b b22, .n n23, .n n24, .b b25])))
             (.node (iandnot IntKind.u64 n4 n6 != (0 : Int))
              (.leaf ((0, [.n (2 : Int), .n n11, .n n12, .n n13, .n n14, .n n15, .n n16, .n n17, .n n18, .n n19, .l (Ty.int IntKind.u8) l20, .n n21, .b b22, .n n23, .n n24, .b b25])))
              (.node (decide (n3 > n11))
               (.node (b25)
                (.leaf ((0, [.n (220 : Int), .n n3, .n n0, .n n13, .n n14, .n n15, .n n16, .n n17, .n n18, .n n19, .l (Ty.int IntKind.u8) l20, .n n21, .b b22, .n n23, .n n24, .b b25])))
                (.leaf ((1, [.n (0 : Int), .n n3, .n n0, .n n2, .n n4, .n n5, .n n3, .n n2, .n n6, .n n7, .n n8, .l (Ty.int IntKind.u8) l9, .n n10, .b true, .n (0 : Int), .n n24, .b b25]))))
               (.node (b25)
                (.leaf ((0, [.n (220 : Int), .n n11, .n n12, .n n13, .n n14, .n n15, .n n16, .n n17, .n n18, .n n19, .l (Ty.int IntKind.u8) l20, .n n21, .b b22, .n n23, .n n24, .b b25])))
                (.leaf ((1, [.n (0 : Int), .n n11, .n n12, .n n2, .n n4, .n n5, .n n3, .n n2, .n n6, .n n7, .n n8, .l (Ty.int IntKind.u8) l9, .n n10, .b true, .n (0 : Int), .n n24, .b b25])))))))))
          (.node (decide (n2 < (0 : Int)))
           (.leaf ((0, [.n (2 : Int), .n n11, .n n12, .n n13, .n n14, .n n15, .n n16, .n n17, .n n18, .n n19, .l (Ty.int IntKind.u8) l20, .n n21, .b b22, .n n23, .n n24, .b b25])))
           (.node (decide (n2 > (1099511627776 : Int)))
            (.leaf ((0, [.n (2 : Int), .n n11, .n n12, .n n13, .n n14, .n n15, .n n16, .n n17, .n n18, .n n19, .l (Ty.int IntKind.u8) l20, .n n21, .b b22, .n n23, .n n24, .b b25])))
            (.node (iandnot IntKind.u64 n4 n6 != (0 : Int))
             (.leaf ((0, [.n (2 : Int), .n n11, .n n12, .n n13, .n n14, .n n15, .n n16, .n n17, .n n18, .n n19, .l (Ty.int IntKind.u8) l20, .n n21, .b b22, .n n23, .n n24, .b b25])))
             (.node (decide (n3 > n11))
              (.node (b25)
               (.leaf ((0, [.n (220 : Int), .n n3, .n n0, .n n13, .n n14, .n n15, .n n16, .n n17, .n n18, .n n19, .l (Ty.int IntKind.u8) l20, .n n21, .b b22, .n n23, .n n24, .b b25])))
               (.leaf ((1, [.n (0 : Int), .n n3, .n n0, .n n2, .n n4, .n n5, .n n3, .n n2, .n n6, .n n7, .n n8, .l (Ty.int IntKind.u8) l9, .n n10, .b true, .n (0 : Int), .n n24, .b b25]))))
              (.node (b25)
               (.leaf ((0, [.n (220 : Int), .n n11, .n n12, .n n13, .n n14, .n n15, .n n16, .n n17, .n n18, .n n19, .l (Ty.int IntKind.u8) l20, .n n21, .b b22, .n n23, .n n24, .b b25])))
               (.leaf ((1, [.n (0 : Int), .n n11, .n n12, .n n2, .n n4, .n n5, .n n3, .n n2, .n n6, .n n7, .n n8, .l (Ty.int IntKind.u8) l9, .n n10, .b true, .n (0 : Int), .n n24, .b b25]))))))))))))))
  | _ => .bad 0
def op_37a : List Dat → Option (Nat × List Dat) := fun env => (fn_37a env).sel
def B37a : FBox := (mkF [.ptr 0 0, .int .i64 0, foV 1, stV 6] [rlA 11] [0] [(.int .i64 0, [rlA 1]), (.int .i64 0, [rlB 1])] op_37a)
theorem fn_37a_eq (n0 : Int) (n1 : Int) (n2 : Int) (n3 : Int) (n4 : Int) (n5 : Int) (n6 : Int) (n7 : Int) (n8 : Int) (l9 : List (Ty.den (Ty.int IntKind.u8))) (n10 : Int) (n11 : Int) (n12 : Int) (n13 : Int) (n14 : Int) (n15 : Int) (n16 : Int) (n17 : Int) (n18 : Int) (n19 : Int) (l20 : List (Ty.den (Ty.int IntKind.u8))) (n21 : Int) (b22 : Bool) (n23 : Int) (n24 : Int) (b25 : Bool) : (boxC false Try.prog cs_36b 37 ls0 (mkF [.ptr 0 0, .int .i64 0, foV 1, stV 6] [rlA 11] [0] [(.int .i64 0, [rlA 1]), (.int .i64 0, [rlB 1])] fun _ => none) [.n n0, .n n1, .n n2, .n n3, .n n4, .n n5, .n n6, .n n7, .n n8, .l (Ty.int IntKind.u8) l9, .n n10, .n n11, .n n12, .n n13, .n n14, .n n15, .n n16, .n n17, .n n18, .n n19, .l (Ty.int IntKind.u8) l20, .n n21, .b b22, .n n23, .n n24, .b b25]).sel = (fn_37a [.n n0, .n n1, .n n2, .n n3, .n n4, .n n5, .n n6, .n n7, .n n8, .l (Ty.int IntKind.u8) l9, .n n10, .n n11, .n n12, .n n13, .n n14, .n n15, .n n16, .n n17, .n n18, .n n19, .l (Ty.int IntKind.u8) l20, .n n21, .b b22, .n n23, .n n24, .b b25]).sel := by kernel_rfl
theorem fn_37a_ok (env : List Dat) (y : Nat × List Dat) (h : (fn_37a env).sel = some y) : (boxC false Try.prog cs_36b 37 ls0 (mkF [.ptr 0 0, .int .i64 0, foV 1, stV 6] [rlA 11] [0] [(.int .i64 0, [rlA 1]), (.int .i64 0, [rlB 1])] fun _ => none) env).sel = some y := by
  unfold fn_37a at h
  split at h
  · rw [fn_37a_eq]; exact h
  · cases h
theorem B37a_ok : RunOk Try.prog 37 (boxRun B37a) := mkF_ok (op := op_37a) cs_36b_ok hmix false (LsOk.none _ _ _) fn_37a_ok

def fn_37b : List Dat → Tree (Nat × List Dat)
  | [.n n0, .n n1, .n n2, .n n3, .n n4, .n n5, .n n6, .n n7, .n n8, .l (Ty.int IntKind.u8) l9, .n n10, .n n11, .n n12, .n n13, .n n14, .n n15, .n n16, .n n17, .n n18, .n n19, .n n20, .l (Ty.int IntKind.u8) l21, .n n22, .b b23, .n n24, .n n25, .b b26] =>
    (.node (decide (n0 < (0 : Int)))
     (.leaf ((1, [.n (2 : Int), .n n11, .n n12, .n n13, .n n14, .n n15, .n n16, .n n17, .n n18, .n n19, .n n20, .l (Ty.int IntKind.u8) l21, .n n22, .b b23, .n n24, .n n25, .b b26])))
     (.node (decide (n0 > (1 : Int)))
      (.leaf ((1, [.n (2 : Int), .n n11, .n n12, .n n13, .n n14, .n n15, .n n16, .n n17, .n n18, .n n19, .n n20, .l (Ty.int IntKind.u8) l21, .n n22, .b b23, .n n24, .n n25, .b b26])))
      (.node (decide (n3 < (1 : Int)))
       (.leaf ((1, [.n (2 : Int), .n n11, .n n12, .n n13, .n n14, .n n15, .n n16, .n n17, .n n18, .n n19, .n n20, .l (Ty.int IntKind.u8) l21, .n n22, .b b23, .n n24, .n n25, .b b26])))
       (.node (decide (n3 > (1099511627776 : Int)))
        (.leaf ((1, [.n (2 : Int), .n n11, .n n12, .n n13, .n n14, .n n15, .n n16, .n n17, .n n18, .n n19, .n n20, .l (Ty.int IntKind.u8) l21, .n n22, .b b23, .n n24, .n n25, .b b26])))
        (.node (decide (n3 < n11))
         (.leaf ((1, [.n (230 : Int), .n n11, .n n12, .n n13, .n n14, .n n15, .n n16, .n n17, .n n18, .n n19, .n n20, .l (Ty.int IntKind.u8) l21, .n n22, .b b23, .n n24, .n n25, .b b26])))
         (.node (n3 == n11)
          (.node (n0 != n12)
           (.leaf ((1, [.n (230 : Int), .n n11, .n n12, .n n13, .n n14, .n n15, .n n16, .n n17, .n n18, .n n19, .n n20, .l (Ty.int IntKind.u8) l21, .n n22, .b b23, .n n24, .n n25, .b b26])))
           (.node (decide (n2 < (0 : Int)))
            (.leaf ((1, [.n (2 : Int), .n n11, .n n12, .n n13, .n n14, .n n15, .n n16, .n n17, .n n18, .n n19, .n n20, .l (Ty.int IntKind.u8) l21, .n n22, .b b23, .n n24, .n n25, .b b26])))
            (.node (decide (n2 > (1099511627776 : Int)))
             (.leaf ((1, [.n (2 : Int), .n n11, .n n12, .n n13, .n n14, .n n15, .n n16, .n n17, .n n18, .n n19, .n n20, .l (Ty.int IntKind.u8) l21, .n n22, .b b23, .n n24, .n n25, .b b26])))
             (.node (iandnot IntKind.u64 n4 n6 != (0 : Int))
              (.leaf ((1, [.n (2 : Int), .n n11, .n n12, .n n13, .n n14, .n n15, .n n16, .n n17, .n n18, .n n19, .n n20, .l (Ty.int IntKind.u8) l21, .n n22, .b b23, .n n24, .n n25, .b b26])))
              (.node (decide (n3 > n11))
               (.node (b26)
                (.leaf ((0, [.n (220 : Int), .n n3, .n n0, .n n14, .n n15, .n n16, .n n17, .n n18, .n n19, .n n20, .l (Ty.int IntKind.u8) l21, .n n22, .b b23, .n n24, .n n25, .b b26])))
                (.leaf ((1, [.n (0 : Int), .n n3, .n n0, .n n2, .n n4, .n n5, .n n3, .n n2, .n n6, .n n7, .n n8, .l (Ty.int IntKind.u8) l9, .n n10, .b true, .n (0 : Int), .n n25, .b b26]))))
               (.node (b26)
                (.leaf ((1, [.n (220 : Int), .n n11, .n n12, .n n13, .n n14, .n n15, .n n16, .n n17, .n n18, .n n19, .n n20, .l (Ty.int IntKind.u8) l21, .n n22, .b b23, .n n24, .n n25, .b b26])))
                (.node (decide (n2 ≤ n13))
                 (.leaf ((1, [.n (4 : Int), .n n11, .n n12, .n n13, .n n14, .n n15, .n n16, .n n17, .n n18, .n n19, .n n20, .l (Ty.int IntKind.u8) l21, .n n22, .b b23, .n n24, .n n25, .b b26])))
                 (.leaf ((1, [.n (0 : Int), .n n11, .n n12, .n n2, .n n4, .n n5, .n n3, .n n2, .n n6, .n n7, .n n8, .l (Ty.int IntKind.u8) l9, .n n10, .b true, .n (0 : Int), .n n25, .b b26]))))))))))
          (.node (decide (n2 < (0 : Int)))
           (.leaf ((1, [.n (2 : Int), .n n11, .n n12, .n n13, .n n14, .n n15, .n n16, .n n17, .n n18, .n n19, .n n20, .l (Ty.int IntKind.u8) l21, .n n22, .b b23, .n n24, .n n25, .b b26])))
           (.node (decide (n2 > (1099511627776 : Int)))
            (.leaf ((1, [.n (2 : Int), .n n11, .n n12, .n n13, .n n14, .n n15, .n n16, .n n17, .n n18, .n n19, .n n20, .l (Ty.int IntKind.u8) l21, .n n22, .b b23, .n n24, .n n25, .b b26])))
            (.node (iandnot IntKind.u64 n4 n6 != (0 : Int))
             (.leaf ((1, [.n (2 : Int), .n n11, .n n12, .n n13, .n n14, .n n15, .n n16, .n n17, .n n18, .n n19, .n n20, .l (Ty.int IntKind.u8) l21, .n n22, .b b23, .n n24, .n n25, .b b26])))
             (.node (decide (n3 > n11))
              (.node (b26)
               (.leaf ((0, [.n (220 : Int), .n n3, .n n0, .n n14, .n n15, .n n16, .n n17, .n n18, .n n19, .n n20, .l (Ty.int IntKind.u8) l21, .n n22, .b b23, .n n24, .n n25, .b b26])))
               (.leaf ((1, [.n (0 : Int), .n n3, .n n0, .n n2, .n n4, .n n5, .n n3, .n n2, .n n6, .n n7, .n n8, .l (Ty.int IntKind.u8) l9, .n n10, .b true, .n (0 : Int), .n n25, .b b26]))))
              (.node (b26)
               (.leaf ((1, [.n (220 : Int), .n n11, .n n12, .n n13, .n n14, .n n15, .n n16, .n n17, .n n18, .n n19, .n n20, .l (Ty.int IntKind.u8) l21, .n n22, .b b23, .n n24, .n n25, .b b26])))
               (.node (decide (n2 ≤ n13))
                (.leaf ((1, [.n (4 : Int), .n n11, .n n12, .n n13, .n n14, .n n15, .n n16, .n n17, .n n18, .n n19, .n n20, .l (Ty.int IntKind.u8) l21, .n n22, .b b23, .n n24, .n n25, .b b26])))
                (.leaf ((1, [.n (0 : Int), .n n11, .n n12, .n n2, .n n4, .n n5, .n n3, .n n2, .n n6, .n n7, .n n8, .l (Ty.int IntKind.u8) l9, .n n10, .b true, .n (0 : Int), .n n25, .b b26])))))))))))))))
  | _ => .bad 0
def op_37b : List Dat → Option (Nat × List Dat) := fun env => (fn_37b env).sel
def B37b : FBox := (mkF [.ptr 0 0, .int .i64 0, foV 1, stV 6] [rlB 11] [0] [(.int .i64 0, [rlA 1]), (.int .i64 0, [rlB 1])] op_37b)
def cs_37b : FuncId → Option CSpec := csAdd 37 [B37a, B37b] cs_36b
theorem fn_37b_eq (n0 : Int) (n1 : Int) (n2 : Int) (n3 : Int) (n4 : Int) (n5 : Int) (n6 : Int) (n7 : Int) (n8 : Int) (l9 : List (Ty.den (Ty.int IntKind.u8))) (n10 : Int) (n11 : Int) (n12 : Int) (n13 : Int) (n14 : Int) (n15 : Int) (n16 : Int) (n17 : Int) (n18 : Int) (n19 : Int) (n20 : Int) (l21 : List (Ty.den (Ty.int IntKind.u8))) (n22 : Int) (b23 : Bool) (n24 : Int) (n25 : Int) (b26 : Bool) : (boxC false Try.prog cs_36b 37 ls0 (mkF [.ptr 0 0, .int .i64 0, foV 1, stV 6] [rlB 11] [0] [(.int .i64 0, [rlA 1]), (.int .i64 0, [rlB 1])] fun _ => none) [.n n0, .n n1, .n n2, .n n3, .n n4, .n n5, .n n6, .n n7, .n n8, .l (Ty.int IntKind.u8) l9, .n n10, .n n11, .n n12, .n n13, .n n14, .n n15, .n n16, .n n17, .n n18, .n n19, .n n20, .l (Ty.int IntKind.u8) l21, .n n22, .b b23, .n n24, .n n25, .b b26]).sel = (fn_37b [.n n0, .n n1, .n n2, .n n3, .n n4, .n n5, .n n6, .n n7, .n n8, .l (Ty.int IntKind.u8) l9, .n n10, .n n11, .n n12, .n n13, .n n14, .n n15, .n n16, .n n17, .n n18, .n n19, .n n20, .l (Ty.int IntKind.u8) l21, .n n22, .b b23, .n n24, .n n25, .b b26]).sel := by kernel_rfl
theorem fn_37b_ok (env : List Dat) (y : Nat × List Dat) (h : (fn_37b env).sel = some y) : (boxC false Try.prog cs_36b 37 ls0 (mkF [.ptr 0 0, .int .i64 0, foV 1, stV 6] [rlB 11] [0] [(.int .i64 0, [rlA 1]), (.int .i64 0, [rlB 1])] fun _ => none) env).sel = some y := by
  unfold fn_37b at h
  split at h
  · rw [fn_37b_eq]; exact h
  · cases h
theorem B37b_ok : RunOk Try.prog 37 (boxRun B37b) := mkF_ok (op := op_37b) cs_36b_ok hmix false (LsOk.none _ _ _) fn_37b_ok
theorem cs_37b_ok : CsOk Try.prog cs_37b := csAdd_ok cs_36b_ok fun B hB => by
  simp only [List.mem_cons, List.not_mem_nil, or_false] at hB
  rcases hB with rfl | rfl
  · exact B37a_ok
  · exact B37b_ok

def fn_97 : List Dat → Tree (Nat × List Dat)
  | [.n n0, .n n1, .n n2, .n n3, .b b4, .n n5, .n n6, .n n7, .n n8, .n n9, .b b10, .n n11, .n n12, .n n13, .l (Ty.int IntKind.u8) l14, .n n15, .n n16, .n n17] =>
    (.node (n0 != (0 : Int))
     (.node (n0 != (1 : Int))
      (.leaf ((0, [.n (2 : Int), .n n2, .n n3, .b b4, .n n5, .n n6, .n n7, .n n8, .n n9, .b b10, .n n11, .n n12, .n n13, .l (Ty.int IntKind.u8) l14, .n n15, .n n16, .n n17])))
      (.node (decide (n1 < (1 : Int)))
       (.leaf ((0, [.n (2 : Int), .n n2, .n n3, .b b4, .n n5, .n n6, .n n7, .n n8, .n n9, .b b10, .n n11, .n n12, .n n13, .l (Ty.int IntKind.u8) l14, .n n15, .n n16, .n n17])))
       (.node (decide (n1 > (1099511627776 : Int)))
        (.leaf ((0, [.n (2 : Int), .n n2, .n n3, .b b4, .n n5, .n n6, .n n7, .n n8, .n n9, .b b10, .n n11, .n n12, .n n13, .l (Ty.int IntKind.u8) l14, .n n15, .n n16, .n n17])))
        (.node (decide (n1 < n5))
         (.leaf ((0, [.n (230 : Int), .n n2, .n n3, .b b4, .n n5, .n n6, .n n7, .n n8, .n n9, .b b10, .n n11, .n n12, .n n13, .l (Ty.int IntKind.u8) l14, .n n15, .n n16, .n n17])))
         (.node (n1 == n5)
          (.node (n0 != n6)
           (.leaf ((0, [.n (230 : Int), .n n2, .n n3, .b b4, .n n5, .n n6, .n n7, .n n8, .n n9, .b b10, .n n11, .n n12, .n n13, .l (Ty.int IntKind.u8) l14, .n n15, .n n16, .n n17])))
           (.node (decide (n1 > n5))
            (.leaf ((0, [.n (0 : Int), .n n2, .n n3, .b b4, .n n1, .n n0, .n (-1 : Int), .n n8, .n n9, .b b10, .n n11, .n n12, .n n13, .l (Ty.int IntKind.u8) l14, .n n15, .n n16, .n n17])))
            (.leaf ((0, [.n (0 : Int), .n n2, .n n3, .b b4, .n n5, .n n6, .n n7, .n n8, .n n9, .b b10, .n n11, .n n12, .n n13, .l (Ty.int IntKind.u8) l14, .n n15, .n n16, .n n17])))))
          (.node (decide (n1 > n5))
           (.leaf ((0, [.n (0 : Int), .n n2, .n n3, .b b4, .n n1, .n n0, .n (-1 : Int), .n n8, .n n9, .b b10, .n n11, .n n12, .n n13, .l (Ty.int IntKind.u8) l14, .n n15, .n n16, .n n17])))
           (.leaf ((0, [.n (0 : Int), .n n2, .n n3, .b b4, .n n5, .n n6, .n n7, .n n8, .n n9, .b b10, .n n11, .n n12, .n n13, .l (Ty.int IntKind.u8) l14, .n n15, .n n16, .n n17])))))))))
     (.node (decide (n1 < (1 : Int)))
      (.leaf ((0, [.n (2 : Int), .n n2, .n n3, .b b4, .n n5, .n n6, .n n7, .n n8, .n n9, .b b10, .n n11, .n n12, .n n13, .l (Ty.int IntKind.u8) l14, .n n15, .n n16, .n n17])))
      (.node (decide (n1 > (1099511627776 : Int)))
       (.leaf ((0, [.n (2 : Int), .n n2, .n n3, .b b4, .n n5, .n n6, .n n7, .n n8, .n n9, .b b10, .n n11, .n n12, .n n13, .l (Ty.int IntKind.u8) l14, .n n15, .n n16, .n n17])))
       (.node (decide (n1 < n5))
        (.leaf ((0, [.n (230 : Int), .n n2, .n n3, .b b4, .n n5, .n n6, .n n7, .n n8, .n n9, .b b10, .n n11, .n n12, .n n13, .l (Ty.int IntKind.u8) l14, .n n15, .n n16, .n n17])))
        (.node (n1 == n5)
         (.node (n0 != n6)
          (.leaf ((0, [.n (230 : Int), .n n2, .n n3, .b b4, .n n5, .n n6, .n n7, .n n8, .n n9, .b b10, .n n11, .n n12, .n n13, .l (Ty.int IntKind.u8) l14, .n n15, .n n16, .n n17])))
          (.node (decide (n1 > n5))
           (.leaf ((0, [.n (0 : Int), .n n2, .n n3, .b b4, .n n1, .n n0, .n (-1 : Int), .n n8, .n n9, .b b10, .n n11, .n n12, .n n13, .l (Ty.int IntKind.u8) l14, .n n15, .n n16, .n n17])))
           (.leaf ((0, [.n (0 : Int), .n n2, .n n3, .b b4, .n n5, .n n6, .n n7, .n n8, .n n9, .b b10, .n n11, .n n12, .n n13, .l (Ty.int IntKind.u8) l14, .n n15, .n n16, .n n17])))))
         (.node (decide (n1 > n5))
          (.leaf ((0, [.n (0 : Int), .n n2, .n n3, .b b4, .n n1, .n n0, .n (-1 : Int), .n n8, .n n9, .b b10, .n n11, .n n12, .n n13, .l (Ty.int IntKind.u8) l14, .n n15, .n n16, .n n17])))
          (.leaf ((0, [.n (0 : Int), .n n2, .n n3, .b b4, .n n5, .n n6, .n n7, .n n8, .n n9, .b b10, .n n11, .n n12, .n n13, .l (Ty.int IntKind.u8) l14, .n n15, .n n16, .n n17])))))))))
  | _ => .bad 0
def op_97 : List Dat → Option (Nat × List Dat) := fun env => (fn_97 env).sel
def B97 : FBox := (mkF [.ptr 0 0, .int .i64 0, .int .i64 1] [rmB 2] [0] [(.int .i64 0, [rmB 1])] op_97)
def cs_97 : FuncId → Option CSpec := csAdd 97 [B97] cs_37b
theorem fn_97_eq (n0 : Int) (n1 : Int) (n2 : Int) (n3 : Int) (b4 : Bool) (n5 : Int) (n6 : Int) (n7 : Int) (n8 : Int) (n9 : Int) (b10 : Bool) (n11 : Int) (n12 : Int) (n13 : Int) (l14 : List (Ty.den (Ty.int IntKind.u8))) (n15 : Int) (n16 : Int) (n17 : Int) : (boxC false Try.prog cs_37b 97 ls0 (mkF [.ptr 0 0, .int .i64 0, .int .i64 1] [rmB 2] [0] [(.int .i64 0, [rmB 1])] fun _ => none) [.n n0, .n n1, .n n2, .n n3, .b b4, .n n5, .n n6, .n n7, .n n8, .n n9, .b b10, .n n11, .n n12, .n n13, .l (Ty.int IntKind.u8) l14, .n n15, .n n16, .n n17]).sel = (fn_97 [.n n0, .n n1, .n n2, .n n3, .b b4, .n n5, .n n6, .n n7, .n n8, .n n9, .b b10, .n n11, .n n12, .n n13, .l (Ty.int IntKind.u8) l14, .n n15, .n n16, .n n17]).sel := by kernel_rfl
theorem fn_97_ok (env : List Dat) (y : Nat × List Dat) (h : (fn_97 env).sel = some y) : (boxC false Try.prog cs_37b 97 ls0 (mkF [.ptr 0 0, .int .i64 0, .int .i64 1] [rmB 2] [0] [(.int .i64 0, [rmB 1])] fun _ => none) env).sel = some y := by
  unfold fn_97 at h
  split at h
  · rw [fn_97_eq]; exact h
  · cases h
theorem B97_ok : RunOk Try.prog 97 (boxRun B97) := mkF_ok (op := op_97) cs_37b_ok hmix false (LsOk.none _ _ _) fn_97_ok
theorem cs_97_ok : CsOk Try.prog cs_97 := csAdd_ok cs_37b_ok fun B hB => by
  cases List.mem_singleton.1 hB
  exact B97_ok

def fn_98 : List Dat → Tree (Nat × List Dat)
  | [.n n0, .n n1, .n n2, .n n3, .b b4, .n n5, .n n6, .n n7, .n n8, .n n9, .b b10, .n n11, .n n12, .n n13, .l (Ty.int IntKind.u8) l14, .n n15, .n n16, .n n17] =>
    (let r1 : Option (Nat × List Dat) := (op_97 [.n n0, .n n1, .n n2, .n n3, .b b4, .n n5, .n n6, .n n7, .n n8, .n n9, .b b10, .n n11, .n n12, .n n13, .l (Ty.int IntKind.u8) l14, .n n15, .n n16, .n n17]);
     (.node (isK 0 [HK.n, HK.n, HK.n, HK.b, HK.n, HK.n, HK.n, HK.n, HK.n, HK.b, HK.n, HK.n, HK.n, HK.l (Ty.int IntKind.u8), HK.n, HK.n, HK.n] r1)
      (.node (gn (dOf r1) 0 == (0 : Int))
       (.leaf ((0, [.n (gn (dOf r1) 0), .n (gn (dOf r1) 1), .n (gn (dOf r1) 2), .b true, .n (gn (dOf r1) 4), .n (gn (dOf r1) 5), .n (gn (dOf r1) 6), .n (0 : Int), .n (gn (dOf r1) 8), .b (gb (dOf r1) 9), .n (gn (dOf r1) 10), .n (gn (dOf r1) 11), .n (gn (dOf r1) 12), .l (Ty.int IntKind.u8) (gl (Ty.int IntKind.u8) (dOf r1) 13), .n (gn (dOf r1) 14), .n (gn (dOf r1) 15), .n (gn (dOf r1) 16)])))
       (.leaf ((0, [.n (gn (dOf r1) 0), .n (gn (dOf r1) 1), .n (gn (dOf r1) 2), .b (gb (dOf r1) 3), .n (gn (dOf r1) 4), .n (gn (dOf r1) 5), .n (gn (dOf r1) 6), .n (gn (dOf r1) 7), .n (gn (dOf r1) 8), .b (gb (dOf r1) 9), .n (gn (dOf r1) 10), .n (gn (dOf r1) 11), .n (gn (dOf r1) 12), .l (Ty.int IntKind.u8) (gl (Ty.int IntKind.u8) (dOf r1) 13), .n (gn (dOf r1) 14), .n (gn (dOf r1) 15), .n (gn (dOf r1) 16)]))))
      (.bad 351)))
  | _ => .bad 0
def op_98 : List Dat → Option (Nat × List Dat) := fun env => (fn_98 env).sel
def B98 : FBox := (mkF [.ptr 0 0, .int .i64 0, .int .i64 1] [rmB 2] [0] [(.int .i64 0, [rmB 1])] op_98)
def cs_98 : FuncId → Option CSpec := csAdd 98 [B98] cs_97
theorem fn_98_eq (n0 : Int) (n1 : Int) (n2 : Int) (n3 : Int) (b4 : Bool) (n5 : Int) (n6 : Int) (n7 : Int) (n8 : Int) (n9 : Int) (b10 : Bool) (n11 : Int) (n12 : Int) (n13 : Int) (l14 : List (Ty.den (Ty.int IntKind.u8))) (n15 : Int) (n16 : Int) (n17 : Int) : (boxC false Try.prog cs_97 98 ls0 (mkF [.ptr 0 0, .int .i64 0, .int .i64 1] [rmB 2] [0] [(.int .i64 0, [rmB 1])] fun _ => none) [.n n0, .n n1, .n n2, .n n3, .b b4, .n n5, .n n6, .n n7, .n n8, .n n9, .b b10, .n n11, .n n12, .n n13, .l (Ty.int IntKind.u8) l14, .n n15, .n n16, .n n17]).sel = (fn_98 [.n n0, .n n1, .n n2, .n n3, .b b4, .n n5, .n n6, .n n7, .n n8, .n n9, .b b10, .n n11, .n n12, .n n13, .l (Ty.int IntKind.u8) l14, .n n15, .n n16, .n n17]).sel := by kernel_rfl
theorem fn_98_ok (env : List Dat) (y : Nat × List Dat) (h : (fn_98 env).sel = some y) : (boxC false Try.prog cs_97 98 ls0 (mkF [.ptr 0 0, .int .i64 0, .int .i64 1] [rmB 2] [0] [(.int .i64 0, [rmB 1])] fun _ => none) env).sel = some y := by
  unfold fn_98 at h
  split at h
  · rw [fn_98_eq]; exact h
  · cases h
theorem B98_ok : RunOk Try.prog 98 (boxRun B98) := mkF_ok (op := op_98) cs_97_ok hmix false (LsOk.none _ _ _) fn_98_ok
theorem cs_98_ok : CsOk Try.prog cs_98 := csAdd_ok cs_97_ok fun B hB => by
  cases List.mem_singleton.1 hB
  exact B98_ok

def fn_99 : List Dat → Tree (Nat × List Dat)
  | [.n n0, .n n1, .b b2, .n n3, .n n4, .n n5, .n n6, .n n7, .b b8, .n n9, .n n10, .n n11, .l (Ty.int IntKind.u8) l12, .n n13, .n n14, .n n15] =>
    (.node (decide (IntKind.wrap .i64 (n1 + (1 : Int)) > n0))
     (.leaf ((0, [.n n0, .n (IntKind.wrap .i64 (n0 + (1 : Int))), .b true, .n n3, .n n4, .n n5, .n (0 : Int), .n n7, .b b8, .n n9, .n n10, .n n11, .l (Ty.int IntKind.u8) l12, .n n13, .n n14, .n n15])))
     (.leaf ((0, [.n n0, .n (IntKind.wrap .i64 (n1 + (1 : Int))), .b b2, .n n3, .n n4, .n n5, .n n6, .n n7, .b b8, .n n9, .n n10, .n n11, .l (Ty.int IntKind.u8) l12, .n n13, .n n14, .n n15]))))
  | _ => .bad 0
def op_99 : List Dat → Option (Nat × List Dat) := fun env => (fn_99 env).sel
def B99 : FBox := (mkF [.ptr 0 0] [rmB 0] [0] [(.tup [], [rmB 0])] op_99)
def cs_99 : FuncId → Option CSpec := csAdd 99 [B99] cs_98
theorem fn_99_eq (n0 : Int) (n1 : Int) (b2 : Bool) (n3 : Int) (n4 : Int) (n5 : Int) (n6 : Int) (n7 : Int) (b8 : Bool) (n9 : Int) (n10 : Int) (n11 : Int) (l12 : List (Ty.den (Ty.int IntKind.u8))) (n13 : Int) (n14 : Int) (n15 : Int) : (boxC false Try.prog cs_98 99 ls0 (mkF [.ptr 0 0] [rmB 0] [0] [(.tup [], [rmB 0])] fun _ => none) [.n n0, .n n1, .b b2, .n n3, .n n4, .n n5, .n n6, .n n7, .b b8, .n n9, .n n10, .n n11, .l (Ty.int IntKind.u8) l12, .n n13, .n n14, .n n15]).sel = (fn_99 [.n n0, .n n1, .b b2, .n n3, .n n4, .n n5, .n n6, .n n7, .b b8, .n n9, .n n10, .n n11, .l (Ty.int IntKind.u8) l12, .n n13, .n n14, .n n15]).sel := by kernel_rfl
theorem fn_99_ok (env : List Dat) (y : Nat × List Dat) (h : (fn_99 env).sel = some y) : (boxC false Try.prog cs_98 99 ls0 (mkF [.ptr 0 0] [rmB 0] [0] [(.tup [], [rmB 0])] fun _ => none) env).sel = some y := by
  unfold fn_99 at h
  split at h
  · rw [fn_99_eq]; exact h
  · cases h
theorem B99_ok : RunOk Try.prog 99 (boxRun B99) := mkF_ok (op := op_99) cs_98_ok hmix false (LsOk.none _ _ _) fn_99_ok
theorem cs_99_ok : CsOk Try.prog cs_99 := csAdd_ok cs_98_ok fun B hB => by
  cases List.mem_singleton.1 hB
  exact B99_ok

def fn_100 : List Dat → Tree (Nat × List Dat)
  | [.n n0, .n n1, .b b2, .n n3, .n n4, .n n5, .n n6, .n n7, .b b8, .n n9, .n n10, .n n11, .l (Ty.int IntKind.u8) l12, .n n13, .n n14, .n n15] =>
    (.node (!b2)
     (.leaf ((0, [.n (4 : Int), .n n0, .n n1, .b b2, .n n3, .n n4, .n n5, .n n6, .n n7, .b b8, .n n9, .n n10, .n n11, .l (Ty.int IntKind.u8) l12, .n n13, .n n14, .n n15])))
     (.leaf ((0, [.n (0 : Int), .n n0, .n (0 : Int), .b false, .n n3, .n n4, .n n5, .n n6, .n n7, .b b8, .n n9, .n n10, .n n11, .l (Ty.int IntKind.u8) l12, .n n13, .n n14, .n n15]))))
  | _ => .bad 0
def op_100 : List Dat → Option (Nat × List Dat) := fun env => (fn_100 env).sel
def B100 : FBox := (mkF [.ptr 0 0] [rmB 0] [0] [(.int .i64 0, [rmB 1])] op_100)
def cs_100 : FuncId → Option CSpec := csAdd 100 [B100] cs_99
theorem fn_100_eq (n0 : Int) (n1 : Int) (b2 : Bool) (n3 : Int) (n4 : Int) (n5 : Int) (n6 : Int) (n7 : Int) (b8 : Bool) (n9 : Int) (n10 : Int) (n11 : Int) (l12 : List (Ty.den (Ty.int IntKind.u8))) (n13 : Int) (n14 : Int) (n15 : Int) : (boxC false Try.prog cs_99 100 ls0 (mkF [.ptr 0 0] [rmB 0] [0] [(.int .i64 0, [rmB 1])] fun _ => none) [.n n0, .n n1, .b b2, .n n3, .n n4, .n n5, .n n6, .n n7, .b b8, .n n9, .n n10, .n n11, .l (Ty.int IntKind.u8) l12, .n n13, .n n14, .n n15]).sel = (fn_100 [.n n0, .n n1, .b b2, .n n3, .n n4, .n n5, .n n6, .n n7, .b b8, .n n9, .n n10, .n n11, .l (Ty.int IntKind.u8) l12, .n n13, .n n14, .n n15]).sel := by kernel_rfl
theorem fn_100_ok (env : List Dat) (y : Nat × List Dat) (h : (fn_100 env).sel = some y) : (boxC false Try.prog cs_99 100 ls0 (mkF [.ptr 0 0] [rmB 0] [0] [(.int .i64 0, [rmB 1])] fun _ => none) env).sel = some y := by
  unfold fn_100 at h
  split at h
  · rw [fn_100_eq]; exact h
  · cases h
theorem B100_ok : RunOk Try.prog 100 (boxRun B100) := mkF_ok (op := op_100) cs_99_ok hmix false (LsOk.none _ _ _) fn_100_ok
theorem cs_100_ok : CsOk Try.prog cs_100 := csAdd_ok cs_99_ok fun B hB => by
  cases List.mem_singleton.1 hB
  exact B100_ok

def fn_101 : List Dat → Tree (Nat × List Dat)
  | [.n n0, .n n1, .n n2, .n n3, .n n4, .n n5, .n n6, .n n7, .l (Ty.int IntKind.u8) l8, .n n9, .n n10, .n n11, .b b12, .n n13, .n n14, .n n15, .n n16, .n n17, .b b18, .n n19, .n n20, .n n21, .l (Ty.int IntKind.u8) l22, .n n23, .n n24, .n n25] =>
    (let r1 : Option (Nat × List Dat) := (op_97 [.n n0, .n n1, .n n10, .n n11, .b b12, .n n13, .n n14, .n n15, .n n16, .n n17, .b b18, .n n19, .n n20, .n n21, .l (Ty.int IntKind.u8) l22, .n n23, .n n24, .n n25]);
     (.node (isK 0 [HK.n, HK.n, HK.n, HK.b, HK.n, HK.n, HK.n, HK.n, HK.n, HK.b, HK.n, HK.n, HK.n, HK.l (Ty.int IntKind.u8), HK.n, HK.n, HK.n] r1)
      (.node (gn (dOf r1) 0 != (0 : Int))
       (.leaf ((0, [.n (gn (dOf r1) 0), .n (gn (dOf r1) 1), .n (gn (dOf r1) 2), .b (gb (dOf r1) 3), .n (gn (dOf r1) 4), .n (gn (dOf r1) 5), .n (gn (dOf r1) 6), .n (gn (dOf r1) 7), .n (gn (dOf r1) 8), .b (gb (dOf r1) 9), .n (gn (dOf r1) 10), .n (gn (dOf r1) 11), .n (gn (dOf r1) 12), .l (Ty.int IntKind.u8) (gl (Ty.int IntKind.u8) (dOf r1) 13), .n (gn (dOf r1) 14), .n (gn (dOf r1) 15), .n (gn (dOf r1) 16)])))
       (.node (decide (n2 < (0 : Int)))
        (.leaf ((0, [.n (2 : Int), .n n10, .n n11, .b b12, .n n13, .n n14, .n n15, .n n16, .n n17, .b b18, .n n19, .n n20, .n n21, .l (Ty.int IntKind.u8) l22, .n n23, .n n24, .n n25])))
        (.node (decide (n2 > (1099511627776 : Int)))
         (.leaf ((0, [.n (2 : Int), .n n10, .n n11, .b b12, .n n13, .n n14, .n n15, .n n16, .n n17, .b b18, .n n19, .n n20, .n n21, .l (Ty.int IntKind.u8) l22, .n n23, .n n24, .n n25])))
         (.node (iandnot IntKind.u64 n3 n5 != (0 : Int))
          (.leaf ((0, [.n (2 : Int), .n n10, .n n11, .b b12, .n n13, .n n14, .n n15, .n n16, .n n17, .b b18, .n n19, .n n20, .n n21, .l (Ty.int IntKind.u8) l22, .n n23, .n n24, .n n25])))
          (.node (gb (dOf r1) 3)
           (.leaf ((0, [.n (220 : Int), .n (gn (dOf r1) 1), .n (gn (dOf r1) 2), .b (gb (dOf r1) 3), .n (gn (dOf r1) 4), .n (gn (dOf r1) 5), .n (gn (dOf r1) 6), .n (gn (dOf r1) 7), .n (gn (dOf r1) 8), .b (gb (dOf r1) 9), .n (gn (dOf r1) 10), .n (gn (dOf r1) 11), .n (gn (dOf r1) 12), .l (Ty.int IntKind.u8) (gl (Ty.int IntKind.u8) (dOf r1) 13), .n (gn (dOf r1) 14), .n (gn (dOf r1) 15), .n (gn (dOf r1) 16)])))
           (.node (decide (n2 ≤ gn (dOf r1) 6))
            (.leaf ((0, [.n (4 : Int), .n (gn (dOf r1) 1), .n (gn (dOf r1) 2), .b (gb (dOf r1) 3), .n (gn (dOf r1) 4), .n (gn (dOf r1) 5), .n (gn (dOf r1) 6), .n (gn (dOf r1) 7), .n (gn (dOf r1) 8), .b (gb (dOf r1) 9), .n (gn (dOf r1) 10), .n (gn (dOf r1) 11), .n (gn (dOf r1) 12), .l (Ty.int IntKind.u8) (gl (Ty.int IntKind.u8) (dOf r1) 13), .n (gn (dOf r1) 14), .n (gn (dOf r1) 15), .n (gn (dOf r1) 16)])))
            (.leaf ((0, [.n (0 : Int), .n (gn (dOf r1) 1), .n (0 : Int), .b (gb (dOf r1) 3), .n (gn (dOf r1) 4), .n (gn (dOf r1) 5), .n n2, .n n3, .n n4, .b true, .n n5, .n n6, .n n7, .l (Ty.int IntKind.u8) l8, .n n9, .n n2, .n n1])))))))))
      (.bad 351)))
  | _ => .bad 0
def op_101 : List Dat → Option (Nat × List Dat) := fun env => (fn_101 env).sel
def B101 : FBox := (mkF [.ptr 0 0, .int .i64 0, .int .i64 1, .int .i64 2, ouV 3, stV 5] [rmB 10] [0] [(.int .i64 0, [rmB 1])] op_101)
def cs_101 : FuncId → Option CSpec := csAdd 101 [B101] cs_100
theorem fn_101_eq (n0 : Int) (n1 : Int) (n2 : Int) (n3 : Int) (n4 : Int) (n5 : Int) (n6 : Int) (n7 : Int) (l8 : List (Ty.den (Ty.int IntKind.u8))) (n9 : Int) (n10 : Int) (n11 : Int) (b12 : Bool) (n13 : Int) (n14 : Int) (n15 : Int) (n16 : Int) (n17 : Int) (b18 : Bool) (n19 : Int) (n20 : Int) (n21 : Int) (l22 : List (Ty.den (Ty.int IntKind.u8))) (n23 : Int) (n24 : Int) (n25 : Int) : (boxC false Try.prog cs_100 101 ls0 (mkF [.ptr 0 0, .int .i64 0, .int .i64 1, .int .i64 2, ouV 3, stV 5] [rmB 10] [0] [(.int .i64 0, [rmB 1])] fun _ => none) [.n n0, .n n1, .n n2, .n n3, .n n4, .n n5, .n n6, .n n7, .l (Ty.int IntKind.u8) l8, .n n9, .n n10, .n n11, .b b12, .n n13, .n n14, .n n15, .n n16, .n n17, .b b18, .n n19, .n n20, .n n21, .l (Ty.int IntKind.u8) l22, .n n23, .n n24, .n n25]).sel = (fn_101 [.n n0, .n n1, .n n2, .n n3, .n n4, .n n5, .n n6, .n n7, .l (Ty.int IntKind.u8) l8, .n n9, .n n10, .n n11, .b b12, .n n13, .n n14, .n n15, .n n16, .n n17, .b b18, .n n19, .n n20, .n n21, .l (Ty.int IntKind.u8) l22, .n n23, .n n24, .n n25]).sel := by kernel_rfl
theorem fn_101_ok (env : List Dat) (y : Nat × List Dat) (h : (fn_101 env).sel = some y) : (boxC false Try.prog cs_100 101 ls0 (mkF [.ptr 0 0, .int .i64 0, .int .i64 1, .int .i64 2, ouV 3, stV 5] [rmB 10] [0] [(.int .i64 0, [rmB 1])] fun _ => none) env).sel = some y := by
  unfold fn_101 at h
  split at h
  · rw [fn_101_eq]; exact h
  · cases h
theorem B101_ok : RunOk Try.prog 101 (boxRun B101) := mkF_ok (op := op_101) cs_100_ok hmix false (LsOk.none _ _ _) fn_101_ok
theorem cs_101_ok : CsOk Try.prog cs_101 := csAdd_ok cs_100_ok fun B hB => by
  cases List.mem_singleton.1 hB
  exact B101_ok

def fn_31a : List Dat → Tree (Nat × List Dat)
  | [.n n0, .n n1, .n n2, .n n3, .n n4, .n n5, .n n6, .n n7, .n n8, .l (Ty.int IntKind.u8) l9, .n n10, .b b11, .n n12, .n n13, .b b14, .n n15, .n n16, .b b17, .n n18, .n n19, .n n20, .n n21, .n n22, .b b23, .n n24, .n n25, .n n26, .l (Ty.int IntKind.u8) l27, .n n28, .n n29, .n n30] =>
    (.node (!b11 == b23)
     (.leaf ((0, [.b false])))
     (.node (!(n6 == n24 && (n7 == n25 && (n8 == n26 && (eqL (Ty.int IntKind.u8) l9 l27 && (n10 == n28 && true))))))
      (.leaf ((0, [.b false])))
      (.node (n5 != n29)
       (.leaf ((0, [.b false])))
       (.node (n4 != n30)
        (.leaf ((0, [.b false])))
        (.node (n2 == n21 && (n3 == n22 && true))
         (.node (b14 == b17)
          (.node (n0 == n18)
           (.node (n1 == n19)
            (.leaf ((0, [.b ((-1 : Int) == n20)])))
            (.leaf ((0, [.b false]))))
           (.leaf ((0, [.b false]))))
          (.leaf ((0, [.b false]))))
         (.leaf ((0, [.b false]))))))))
  | _ => .bad 0
def op_31a : List Dat → Option (Nat × List Dat) := fun env => (fn_31a env).sel
def B31a : FBox := (mkF [.ptr 0 0, .ptr 1 0] [rlA 0, rmB 15] [] [(.bool 0, [.gone, .gone])] op_31a)
theorem fn_31a_eq (n0 : Int) (n1 : Int) (n2 : Int) (n3 : Int) (n4 : Int) (n5 : Int) (n6 : Int) (n7 : Int) (n8 : Int) (l9 : List (Ty.den (Ty.int IntKind.u8))) (n10 : Int) (b11 : Bool) (n12 : Int) (n13 : Int) (b14 : Bool) (n15 : Int) (n16 : Int) (b17 : Bool) (n18 : Int) (n19 : Int) (n20 : Int) (n21 : Int) (n22 : Int) (b23 : Bool) (n24 : Int) (n25 : Int) (n26 : Int) (l27 : List (Ty.den (Ty.int IntKind.u8))) (n28 : Int) (n29 : Int) (n30 : Int) : (boxC false Try.prog cs_101 31 ls0 (mkF [.ptr 0 0, .ptr 1 0] [rlA 0, rmB 15] [] [(.bool 0, [.gone, .gone])] fun _ => none) [.n n0, .n n1, .n n2, .n n3, .n n4, .n n5, .n n6, .n n7, .n n8, .l (Ty.int IntKind.u8) l9, .n n10, .b b11, .n n12, .n n13, .b b14, .n n15, .n n16, .b b17, .n n18, .n n19, .n n20, .n n21, .n n22, .b b23, .n n24, .n n25, .n n26, .l (Ty.int IntKind.u8) l27, .n n28, .n n29, .n n30]).sel = (fn_31a [.n n0, .n n1, .n n2, .n n3, .n n4, .n n5, .n n6, .n n7, .n n8, .l (Ty.int IntKind.u8) l9, .n n10, .b b11, .n n12, .n n13, .b b14, .n n15, .n n16, .b b17, .n n18, .n n19, .n n20, .n n21, .n n22, .b b23, .n n24, .n n25, .n n26, .l (Ty.int IntKind.u8) l27, .n n28, .n n29, .n n30]).sel := by kernel_rfl
theorem fn_31a_ok (env : List Dat) (y : Nat × List Dat) (h : (fn_31a env).sel = some y) : (boxC false Try.prog cs_101 31 ls0 (mkF [.ptr 0 0, .ptr 1 0] [rlA 0, rmB 15] [] [(.bool 0, [.gone, .gone])] fun _ => none) env).sel = some y := by
  unfold fn_31a at h
  split at h
  · rw [fn_31a_eq]; exact h
  · cases h
theorem B31a_ok : RunOk Try.prog 31 (boxRun B31a) := mkF_ok (op := op_31a) cs_101_ok hmix false (LsOk.none _ _ _) fn_31a_ok

def fn_31b : List Dat → Tree (Nat × List Dat)
  | [.n n0, .n n1, .n n2, .n n3, .n n4, .n n5, .n n6, .n n7, .n n8, .n n9, .l (Ty.int IntKind.u8) l10, .n n11, .b b12, .n n13, .n n14, .b b15, .n n16, .n n17, .b b18, .n n19, .n n20, .n n21, .n n22, .n n23, .b b24, .n n25, .n n26, .n n27, .l (Ty.int IntKind.u8) l28, .n n29, .n n30, .n n31] =>
    (.node (!b12 == b24)
     (.leaf ((0, [.b false])))
     (.node (!(n7 == n25 && (n8 == n26 && (n9 == n27 && (eqL (Ty.int IntKind.u8) l10 l28 && (n11 == n29 && true))))))
      (.leaf ((0, [.b false])))
      (.node (n6 != n30)
       (.leaf ((0, [.b false])))
       (.node (n5 != n31)
        (.leaf ((0, [.b false])))
        (.node (n3 == n22 && (n4 == n23 && true))
         (.node (b15 == b18)
          (.node (n0 == n19)
           (.node (n1 == n20)
            (.leaf ((0, [.b (n2 == n21)])))
            (.leaf ((0, [.b false]))))
           (.leaf ((0, [.b false]))))
          (.leaf ((0, [.b false]))))
         (.leaf ((0, [.b false]))))))))
  | _ => .bad 0
def op_31b : List Dat → Option (Nat × List Dat) := fun env => (fn_31b env).sel
def B31b : FBox := (mkF [.ptr 0 0, .ptr 1 0] [rlB 0, rmB 16] [] [(.bool 0, [.gone, .gone])] op_31b)
def cs_31b : FuncId → Option CSpec := csAdd 31 [B31a, B31b] cs_101
theorem fn_31b_eq (n0 : Int) (n1 : Int) (n2 : Int) (n3 : Int) (n4 : Int) (n5 : Int) (n6 : Int) (n7 : Int) (n8 : Int) (n9 : Int) (l10 : List (Ty.den (Ty.int IntKind.u8))) (n11 : Int) (b12 : Bool) (n13 : Int) (n14 : Int) (b15 : Bool) (n16 : Int) (n17 : Int) (b18 : Bool) (n19 : Int) (n20 : Int) (n21 : Int) (n22 : Int) (n23 : Int) (b24 : Bool) (n25 : Int) (n26 : Int) (n27 : Int) (l28 : List (Ty.den (Ty.int IntKind.u8))) (n29 : Int) (n30 : Int) (n31 : Int) : (boxC false Try.prog cs_101 31 ls0 (mkF [.ptr 0 0, .ptr 1 0] [rlB 0, rmB 16] [] [(.bool 0, [.gone, .gone])] fun _ => none) [.n n0, .n n1, .n n2, .n n3, .n n4, .n n5, .n n6, .n n7, .n n8, .n n9, .l (Ty.int IntKind.u8) l10, .n n11, .b b12, .n n13, .n n14, .b b15, .n n16, .n n17, .b b18, .n n19, .n n20, .n n21, .n n22, .n n23, .b b24, .n n25, .n n26, .n n27, .l (Ty.int IntKind.u8) l28, .n n29, .n n30, .n n31]).sel = (fn_31b [.n n0, .n n1, .n n2, .n n3, .n n4, .n n5, .n n6, .n n7, .n n8, .n n9, .l (Ty.int IntKind.u8) l10, .n n11, .b b12, .n n13, .n n14, .b b15, .n n16, .n n17, .b b18, .n n19, .n n20, .n n21, .n n22, .n n23, .b b24, .n n25, .n n26, .n n27, .l (Ty.int IntKind.u8) l28, .n n29, .n n30, .n n31]).sel := by kernel_rfl
theorem fn_31b_ok (env : List Dat) (y : Nat × List Dat) (h : (fn_31b env).sel = some y) : (boxC false Try.prog cs_101 31 ls0 (mkF [.ptr 0 0, .ptr 1 0] [rlB 0, rmB 16] [] [(.bool 0, [.gone, .gone])] fun _ => none) env).sel = some y := by
  unfold fn_31b at h
  split at h
  · rw [fn_31b_eq]; exact h
  · cases h
theorem B31b_ok : RunOk Try.prog 31 (boxRun B31b) := mkF_ok (op := op_31b) cs_101_ok hmix false (LsOk.none _ _ _) fn_31b_ok
theorem cs_31b_ok : CsOk Try.prog cs_31b := csAdd_ok cs_101_ok fun B hB => by
  simp only [List.mem_cons, List.not_mem_nil, or_false] at hB
  rcases hB with rfl | rfl
  · exact B31a_ok
  · exact B31b_ok
end Go.Proofs.Ytkclmlcfdijbmaa.Vx.Pl
namespace Go.Proofs.Ytkclmlcfdijbmaa.Vx.Pl
open Go Go.RowKit
set_option linter.unusedVariables false
set_option maxRecDepth 100000
set_option maxHeartbeats 0

def caV (h : Nat) : PV := .agg [.int .u8 h, .int .i64 (h+1), .int .u8 (h+2), .int .i64 (h+3), .int .i64 (h+4), .int .u64 (h+5), .int .u32 (h+6), .int .u64 (h+7), .int .u64 (h+8), .int .u64 (h+9), .arrd (.int .u8) 64 (h+10), .int .u32 (h+11)]

def fn_32a : List Dat → Tree (Nat × List Dat)
  | (.n n0 :: .n n1 :: .n n2 :: .n n3 :: .n n4 :: .n n5 :: .n n6 :: .n n7 :: .n n8 :: .n n9 :: .l (Ty.int IntKind.u8) l10 :: .n n11 :: .n n12 :: .n n13 :: .n n14 :: .n n15 :: .n n16 :: .n n17 :: .n n18 :: .n n19 :: .n n20 :: .l (Ty.int IntKind.u8) l21 :: .n n22 :: .b b23 :: .n n24 :: .n n25 :: .b b26 :: .n n27 :: .n n28 :: .b b29 :: .n n30 :: .n n31 :: .n n32 :: .n n33 :: .n n34 :: .b b35 :: .n n36 :: .n n37 :: .n n38 :: .l (Ty.int IntKind.u8) l39 :: .n n40 :: .n n41 :: .n n42 :: []) =>
    (.node (Int.tmod n0 (8 : Int) == (3 : Int))
     (let r1 : Option (Nat × List Dat) := (op_33a [.n n1, .n n4, .n n12, .n n13, .n n14, .n n15, .n n16, .n n17, .n n18, .n n19, .n n20, .l (Ty.int IntKind.u8) l21, .n n22, .b b23, .n n24, .n n25, .b b26]);
      (.node (isK 0 [HK.n, HK.n, HK.n, HK.n, HK.n, HK.n, HK.n, HK.n, HK.n, HK.n, HK.l (Ty.int IntKind.u8), HK.n, HK.b, HK.n, HK.n, HK.b] r1)
       (let r2 : Option (Nat × List Dat) := (op_97 [.n n1, .n n4, .n n27, .n n28, .b b29, .n n30, .n n31, .n n32, .n n33, .n n34, .b b35, .n n36, .n n37, .n n38, .l (Ty.int IntKind.u8) l39, .n n40, .n n41, .n n42]);
        (.node (isK 0 [HK.n, HK.n, HK.n, HK.b, HK.n, HK.n, HK.n, HK.n, HK.n, HK.b, HK.n, HK.n, HK.n, HK.l (Ty.int IntKind.u8), HK.n, HK.n, HK.n] r2)
         (.leaf ((0, (.b (gn (dOf r1) 0 == gn (dOf r2) 0) :: .n (gn (dOf r1) 1) :: .n (gn (dOf r1) 2) :: .n (gn (dOf r1) 3) :: .n (gn (dOf r1) 4) :: .n (gn (dOf r1) 5) :: .n (gn (dOf r1) 6) :: .n (gn (dOf r1) 7) :: .n (gn (dOf r1) 8) :: .n (gn (dOf r1) 9) :: .l (Ty.int IntKind.u8) (gl (Ty.int IntKind.u8) (dOf r1) 10) :: .n (gn (dOf r1) 11) :: .b (gb (dOf r1) 12) :: .n (gn (dOf r1) 13) :: .n (gn (dOf r1) 14) :: .b (gb (dOf r1) 15) :: .n (gn (dOf r2) 1) :: .n (gn (dOf r2) 2) :: .b (gb (dOf r2) 3) :: .n (gn (dOf r2) 4) :: .n (gn (dOf r2) 5) :: .n (gn (dOf r2) 6) :: .n (gn (dOf r2) 7) :: .n (gn (dOf r2) 8) :: .b (gb (dOf r2) 9) :: .n (gn (dOf r2) 10) :: .n (gn (dOf r2) 11) :: .n (gn (dOf r2) 12) :: .l (Ty.int IntKind.u8) (gl (Ty.int IntKind.u8) (dOf r2) 13) :: .n (gn (dOf r2) 14) :: .n (gn (dOf r2) 15) :: .n (gn (dOf r2) 16) :: []))))
         (.bad 351)))
       (.node (isK 1 [HK.n, HK.n, HK.n, HK.n, HK.n, HK.n, HK.n, HK.n, HK.n, HK.n, HK.n, HK.l (Ty.int IntKind.u8), HK.n, HK.b, HK.n, HK.n, HK.b] r1)
        (let r2 : Option (Nat × List Dat) := (op_97 [.n n1, .n n4, .n n27, .n n28, .b b29, .n n30, .n n31, .n n32, .n n33, .n n34, .b b35, .n n36, .n n37, .n n38, .l (Ty.int IntKind.u8) l39, .n n40, .n n41, .n n42]);
         (.node (isK 0 [HK.n, HK.n, HK.n, HK.b, HK.n, HK.n, HK.n, HK.n, HK.n, HK.b, HK.n, HK.n, HK.n, HK.l (Ty.int IntKind.u8), HK.n, HK.n, HK.n] r2)
          (.leaf ((1, (.b (gn (dOf r1) 0 == gn (dOf r2) 0) :: .n (gn (dOf r1) 1) :: .n (gn (dOf r1) 2) :: .n (gn (dOf r1) 3) :: .n (gn (dOf r1) 4) :: .n (gn (dOf r1) 5) :: .n (gn (dOf r1) 6) :: .n (gn (dOf r1) 7) :: .n (gn (dOf r1) 8) :: .n (gn (dOf r1) 9) :: .n (gn (dOf r1) 10) :: .l (Ty.int IntKind.u8) (gl (Ty.int IntKind.u8) (dOf r1) 11) :: .n (gn (dOf r1) 12) :: .b (gb (dOf r1) 13) :: .n (gn (dOf r1) 14) :: .n (gn (dOf r1) 15) :: .b (gb (dOf r1) 16) :: .n (gn (dOf r2) 1) :: .n (gn (dOf r2) 2) :: .b (gb (dOf r2) 3) :: .n (gn (dOf r2) 4) :: .n (gn (dOf r2) 5) :: .n (gn (dOf r2) 6) :: .n (gn (dOf r2) 7) :: .n (gn (dOf r2) 8) :: .b (gb (dOf r2) 9) :: .n (gn (dOf r2) 10) :: .n (gn (dOf r2) 11) :: .n (gn (dOf r2) 12) :: .l (Ty.int IntKind.u8) (gl (Ty.int IntKind.u8) (dOf r2) 13) :: .n (gn (dOf r2) 14) :: .n (gn (dOf r2) 15) :: .n (gn (dOf r2) 16) :: []))))
          (.bad 351)))
        (.bad 351))))
     (.node (Int.tmod n0 (8 : Int) == (4 : Int))
      (let r1 : Option (Nat × List Dat) := (op_34a [.n n1, .n n4, .n n12, .n n13, .n n14, .n n15, .n n16, .n n17, .n n18, .n n19, .n n20, .l (Ty.int IntKind.u8) l21, .n n22, .b b23, .n n24, .n n25, .b b26]);
       (.node (isK 0 [HK.n, HK.n, HK.n, HK.n, HK.n, HK.n, HK.n, HK.n, HK.n, HK.n, HK.l (Ty.int IntKind.u8), HK.n, HK.b, HK.n, HK.n, HK.b] r1)
        (let r2 : Option (Nat × List Dat) := (op_98 [.n n1, .n n4, .n n27, .n n28, .b b29, .n n30, .n n31, .n n32, .n n33, .n n34, .b b35, .n n36, .n n37, .n n38, .l (Ty.int IntKind.u8) l39, .n n40, .n n41, .n n42]);
         (.node (isK 0 [HK.n, HK.n, HK.n, HK.b, HK.n, HK.n, HK.n, HK.n, HK.n, HK.b, HK.n, HK.n, HK.n, HK.l (Ty.int IntKind.u8), HK.n, HK.n, HK.n] r2)
          (.leaf ((0, (.b (gn (dOf r1) 0 == gn (dOf r2) 0) :: .n (gn (dOf r1) 1) :: .n (gn (dOf r1) 2) :: .n (gn (dOf r1) 3) :: .n (gn (dOf r1) 4) :: .n (gn (dOf r1) 5) :: .n (gn (dOf r1) 6) :: .n (gn (dOf r1) 7) :: .n (gn (dOf r1) 8) :: .n (gn (dOf r1) 9) :: .l (Ty.int IntKind.u8) (gl (Ty.int IntKind.u8) (dOf r1) 10) :: .n (gn (dOf r1) 11) :: .b (gb (dOf r1) 12) :: .n (gn (dOf r1) 13) :: .n (gn (dOf r1) 14) :: .b (gb (dOf r1) 15) :: .n (gn (dOf r2) 1) :: .n (gn (dOf r2) 2) :: .b (gb (dOf r2) 3) :: .n (gn (dOf r2) 4) :: .n (gn (dOf r2) 5) :: .n (gn (dOf r2) 6) :: .n (gn (dOf r2) 7) :: .n (gn (dOf r2) 8) :: .b (gb (dOf r2) 9) :: .n (gn (dOf r2) 10) :: .n (gn (dOf r2) 11) :: .n (gn (dOf r2) 12) :: .l (Ty.int IntKind.u8) (gl (Ty.int IntKind.u8) (dOf r2) 13) :: .n (gn (dOf r2) 14) :: .n (gn (dOf r2) 15) :: .n (gn (dOf r2) 16) :: []))))
          (.bad 351)))
        (.node (isK 1 [HK.n, HK.n, HK.n, HK.n, HK.n, HK.n, HK.n, HK.n, HK.n, HK.n, HK.n, HK.l (Ty.int IntKind.u8), HK.n, HK.b, HK.n, HK.n, HK.b] r1)
         (let r2 : Option (Nat × List Dat) := (op_98 [.n n1, .n n4, .n n27, .n n28, .b b29, .n n30, .n n31, .n n32, .n n33, .n n34, .b b35, .n n36, .n n37, .n n38, .l (Ty.int IntKind.u8) l39, .n n40, .n n41, .n n42]);
          (.node (isK 0 [HK.n, HK.n, HK.n, HK.b, HK.n, HK.n, HK.n, HK.n, HK.n, HK.b, HK.n, HK.n, HK.n, HK.l (Ty.int IntKind.u8), HK.n, HK.n, HK.n] r2)
           (.leaf ((1, (.b (gn (dOf r1) 0 == gn (dOf r2) 0) :: .n (gn (dOf r1) 1) :: .n (gn (dOf r1) 2) :: .n (gn (dOf r1) 3) :: .n (gn (dOf r1) 4) :: .n (gn (dOf r1) 5) :: .n (gn (dOf r1) 6) :: .n (gn (dOf r1) 7) :: .n (gn (dOf r1) 8) :: .n (gn (dOf r1) 9) :: .n (gn (dOf r1) 10) :: .l (Ty.int IntKind.u8) (gl (Ty.int IntKind.u8) (dOf r1) 11) :: .n (gn (dOf r1) 12) :: .b (gb (dOf r1) 13) :: .n (gn (dOf r1) 14) :: .n (gn (dOf r1) 15) :: .b (gb (dOf r1) 16) :: .n (gn (dOf r2) 1) :: .n (gn (dOf r2) 2) :: .b (gb (dOf r2) 3) :: .n (gn (dOf r2) 4) :: .n (gn (dOf r2) 5) :: .n (gn (dOf r2) 6) :: .n (gn (dOf r2) 7) :: .n (gn (dOf r2) 8) :: .b (gb (dOf r2) 9) :: .n (gn (dOf r2) 10) :: .n (gn (dOf r2) 11) :: .n (gn (dOf r2) 12) :: .l (Ty.int IntKind.u8) (gl (Ty.int IntKind.u8) (dOf r2) 13) :: .n (gn (dOf r2) 14) :: .n (gn (dOf r2) 15) :: .n (gn (dOf r2) 16) :: []))))
           (.bad 351)))
         (.bad 351))))
      (.node (Int.tmod n0 (8 : Int) == (5 : Int))
       (let r1 : Option (Nat × List Dat) := (op_35a [.n n12, .n n13, .n n14, .n n15, .n n16, .n n17, .n n18, .n n19, .n n20, .l (Ty.int IntKind.u8) l21, .n n22, .b b23, .n n24, .n n25, .b b26]);
        (.node (isK 0 [HK.n, HK.n, HK.n, HK.n, HK.n, HK.n, HK.n, HK.n, HK.n, HK.l (Ty.int IntKind.u8), HK.n, HK.b, HK.n, HK.n, HK.b] r1)
         (let r2 : Option (Nat × List Dat) := (op_99 [.n n27, .n n28, .b b29, .n n30, .n n31, .n n32, .n n33, .n n34, .b b35, .n n36, .n n37, .n n38, .l (Ty.int IntKind.u8) l39, .n n40, .n n41, .n n42]);
          (.node (isK 0 [HK.n, HK.n, HK.b, HK.n, HK.n, HK.n, HK.n, HK.n, HK.b, HK.n, HK.n, HK.n, HK.l (Ty.int IntKind.u8), HK.n, HK.n, HK.n] r2)
           (.leaf ((0, (.b true :: .n (gn (dOf r1) 0) :: .n (gn (dOf r1) 1) :: .n (gn (dOf r1) 2) :: .n (gn (dOf r1) 3) :: .n (gn (dOf r1) 4) :: .n (gn (dOf r1) 5) :: .n (gn (dOf r1) 6) :: .n (gn (dOf r1) 7) :: .n (gn (dOf r1) 8) :: .l (Ty.int IntKind.u8) (gl (Ty.int IntKind.u8) (dOf r1) 9) :: .n (gn (dOf r1) 10) :: .b (gb (dOf r1) 11) :: .n (gn (dOf r1) 12) :: .n (gn (dOf r1) 13) :: .b (gb (dOf r1) 14) :: .n (gn (dOf r2) 0) :: .n (gn (dOf r2) 1) :: .b (gb (dOf r2) 2) :: .n (gn (dOf r2) 3) :: .n (gn (dOf r2) 4) :: .n (gn (dOf r2) 5) :: .n (gn (dOf r2) 6) :: .n (gn (dOf r2) 7) :: .b (gb (dOf r2) 8) :: .n (gn (dOf r2) 9) :: .n (gn (dOf r2) 10) :: .n (gn (dOf r2) 11) :: .l (Ty.int IntKind.u8) (gl (Ty.int IntKind.u8) (dOf r2) 12) :: .n (gn (dOf r2) 13) :: .n (gn (dOf r2) 14) :: .n (gn (dOf r2) 15) :: []))))
           (.bad 351)))
         (.node (isK 1 [HK.n, HK.n, HK.n, HK.n, HK.n, HK.n, HK.n, HK.n, HK.n, HK.n, HK.l (Ty.int IntKind.u8), HK.n, HK.b, HK.n, HK.n, HK.b] r1)
          (let r2 : Option (Nat × List Dat) := (op_99 [.n n27, .n n28, .b b29, .n n30, .n n31, .n n32, .n n33, .n n34, .b b35, .n n36, .n n37, .n n38, .l (Ty.int IntKind.u8) l39, .n n40, .n n41, .n n42]);
           (.node (isK 0 [HK.n, HK.n, HK.b, HK.n, HK.n, HK.n, HK.n, HK.n, HK.b, HK.n, HK.n, HK.n, HK.l (Ty.int IntKind.u8), HK.n, HK.n, HK.n] r2)
            (.leaf ((1, (.b true :: .n (gn (dOf r1) 0) :: .n (gn (dOf r1) 1) :: .n (gn (dOf r1) 2) :: .n (gn (dOf r1) 3) :: .n (gn (dOf r1) 4) :: .n (gn (dOf r1) 5) :: .n (gn (dOf r1) 6) :: .n (gn (dOf r1) 7) :: .n (gn (dOf r1) 8) :: .n (gn (dOf r1) 9) :: .l (Ty.int IntKind.u8) (gl (Ty.int IntKind.u8) (dOf r1) 10) :: .n (gn (dOf r1) 11) :: .b (gb (dOf r1) 12) :: .n (gn (dOf r1) 13) :: .n (gn (dOf r1) 14) :: .b (gb (dOf r1) 15) :: .n (gn (dOf r2) 0) :: .n (gn (dOf r2) 1) :: .b (gb (dOf r2) 2) :: .n (gn (dOf r2) 3) :: .n (gn (dOf r2) 4) :: .n (gn (dOf r2) 5) :: .n (gn (dOf r2) 6) :: .n (gn (dOf r2) 7) :: .b (gb (dOf r2) 8) :: .n (gn (dOf r2) 9) :: .n (gn (dOf r2) 10) :: .n (gn (dOf r2) 11) :: .l (Ty.int IntKind.u8) (gl (Ty.int IntKind.u8) (dOf r2) 12) :: .n (gn (dOf r2) 13) :: .n (gn (dOf r2) 14) :: .n (gn (dOf r2) 15) :: []))))
            (.bad 351)))
          (.bad 351))))
       (.node (Int.tmod n0 (8 : Int) == (6 : Int))
        (let r1 : Option (Nat × List Dat) := (op_35a [.n n12, .n n13, .n n14, .n n15, .n n16, .n n17, .n n18, .n n19, .n n20, .l (Ty.int IntKind.u8) l21, .n n22, .b b23, .n n24, .n n25, .b b26]);
         (.node (isK 0 [HK.n, HK.n, HK.n, HK.n, HK.n, HK.n, HK.n, HK.n, HK.n, HK.l (Ty.int IntKind.u8), HK.n, HK.b, HK.n, HK.n, HK.b] r1)
          (let r2 : Option (Nat × List Dat) := (op_99 [.n n27, .n n28, .b b29, .n n30, .n n31, .n n32, .n n33, .n n34, .b b35, .n n36, .n n37, .n n38, .l (Ty.int IntKind.u8) l39, .n n40, .n n41, .n n42]);
           (.node (isK 0 [HK.n, HK.n, HK.b, HK.n, HK.n, HK.n, HK.n, HK.n, HK.b, HK.n, HK.n, HK.n, HK.l (Ty.int IntKind.u8), HK.n, HK.n, HK.n] r2)
            (.leaf ((0, (.b true :: .n (gn (dOf r1) 0) :: .n (gn (dOf r1) 1) :: .n (gn (dOf r1) 2) :: .n (gn (dOf r1) 3) :: .n (gn (dOf r1) 4) :: .n (gn (dOf r1) 5) :: .n (gn (dOf r1) 6) :: .n (gn (dOf r1) 7) :: .n (gn (dOf r1) 8) :: .l (Ty.int IntKind.u8) (gl (Ty.int IntKind.u8) (dOf r1) 9) :: .n (gn (dOf r1) 10) :: .b (gb (dOf r1) 11) :: .n (gn (dOf r1) 12) :: .n (gn (dOf r1) 13) :: .b (gb (dOf r1) 14) :: .n (gn (dOf r2) 0) :: .n (gn (dOf r2) 1) :: .b (gb (dOf r2) 2) :: .n (gn (dOf r2) 3) :: .n (gn (dOf r2) 4) :: .n (gn (dOf r2) 5) :: .n (gn (dOf r2) 6) :: .n (gn (dOf r2) 7) :: .b (gb (dOf r2) 8) :: .n (gn (dOf r2) 9) :: .n (gn (dOf r2) 10) :: .n (gn (dOf r2) 11) :: .l (Ty.int IntKind.u8) (gl (Ty.int IntKind.u8) (dOf r2) 12) :: .n (gn (dOf r2) 13) :: .n (gn (dOf r2) 14) :: .n (gn (dOf r2) 15) :: []))))
            (.bad 351)))
          (.node (isK 1 [HK.n, HK.n, HK.n, HK.n, HK.n, HK.n, HK.n, HK.n, HK.n, HK.n, HK.l (Ty.int IntKind.u8), HK.n, HK.b, HK.n, HK.n, HK.b] r1)
           (let r2 : Option (Nat × List Dat) := (op_99 [.n n27, .n n28, .b b29, .n n30, .n n31, .n n32, .n n33, .n n34, .b b35, .n n36, .n n37, .n n38, .l (Ty.int IntKind.u8) l39, .n n40, .n n41, .n n42]);
            (.node (isK 0 [HK.n, HK.n, HK.b, HK.n, HK.n, HK.n, HK.n, HK.n, HK.b, HK.n, HK.n, HK.n, HK.l (Ty.int IntKind.u8), HK.n, HK.n, HK.n] r2)
             (.leaf ((1, (.b true :: .n (gn (dOf r1) 0) :: .n (gn (dOf r1) 1) :: .n (gn (dOf r1) 2) :: .n (gn (dOf r1) 3) :: .n (gn (dOf r1) 4) :: .n (gn (dOf r1) 5) :: .n (gn (dOf r1) 6) :: .n (gn (dOf r1) 7) :: .n (gn (dOf r1) 8) :: .n (gn (dOf r1) 9) :: .l (Ty.int IntKind.u8) (gl (Ty.int IntKind.u8) (dOf r1) 10) :: .n (gn (dOf r1) 11) :: .b (gb (dOf r1) 12) :: .n (gn (dOf r1) 13) :: .n (gn (dOf r1) 14) :: .b (gb (dOf r1) 15) :: .n (gn (dOf r2) 0) :: .n (gn (dOf r2) 1) :: .b (gb (dOf r2) 2) :: .n (gn (dOf r2) 3) :: .n (gn (dOf r2) 4) :: .n (gn (dOf r2) 5) :: .n (gn (dOf r2) 6) :: .n (gn (dOf r2) 7) :: .b (gb (dOf r2) 8) :: .n (gn (dOf r2) 9) :: .n (gn (dOf r2) 10) :: .n (gn (dOf r2) 11) :: .l (Ty.int IntKind.u8) (gl (Ty.int IntKind.u8) (dOf r2) 12) :: .n (gn (dOf r2) 13) :: .n (gn (dOf r2) 14) :: .n (gn (dOf r2) 15) :: []))))
             (.bad 351)))
           (.bad 351))))
        (.node (Int.tmod n0 (8 : Int) == (7 : Int))
         (let r1 : Option (Nat × List Dat) := (op_36a [.n n12, .n n13, .n n14, .n n15, .n n16, .n n17, .n n18, .n n19, .n n20, .l (Ty.int IntKind.u8) l21, .n n22, .b b23, .n n24, .n n25, .b b26]);
          (.node (isK 0 [HK.n, HK.n, HK.n, HK.n, HK.n, HK.n, HK.n, HK.n, HK.n, HK.n, HK.l (Ty.int IntKind.u8), HK.n, HK.b, HK.n, HK.n, HK.b] r1)
           (let r2 : Option (Nat × List Dat) := (op_100 [.n n27, .n n28, .b b29, .n n30, .n n31, .n n32, .n n33, .n n34, .b b35, .n n36, .n n37, .n n38, .l (Ty.int IntKind.u8) l39, .n n40, .n n41, .n n42]);
            (.node (isK 0 [HK.n, HK.n, HK.n, HK.b, HK.n, HK.n, HK.n, HK.n, HK.n, HK.b, HK.n, HK.n, HK.n, HK.l (Ty.int IntKind.u8), HK.n, HK.n, HK.n] r2)
             (.leaf ((0, (.b (gn (dOf r1) 0 == gn (dOf r2) 0) :: .n (gn (dOf r1) 1) :: .n (gn (dOf r1) 2) :: .n (gn (dOf r1) 3) :: .n (gn (dOf r1) 4) :: .n (gn (dOf r1) 5) :: .n (gn (dOf r1) 6) :: .n (gn (dOf r1) 7) :: .n (gn (dOf r1) 8) :: .n (gn (dOf r1) 9) :: .l (Ty.int IntKind.u8) (gl (Ty.int IntKind.u8) (dOf r1) 10) :: .n (gn (dOf r1) 11) :: .b (gb (dOf r1) 12) :: .n (gn (dOf r1) 13) :: .n (gn (dOf r1) 14) :: .b (gb (dOf r1) 15) :: .n (gn (dOf r2) 1) :: .n (gn (dOf r2) 2) :: .b (gb (dOf r2) 3) :: .n (gn (dOf r2) 4) :: .n (gn (dOf r2) 5) :: .n (gn (dOf r2) 6) :: .n (gn (dOf r2) 7) :: .n (gn (dOf r2) 8) :: .b (gb (dOf r2) 9) :: .n (gn (dOf r2) 10) :: .n (gn (dOf r2) 11) :: .n (gn (dOf r2) 12) :: .l (Ty.int IntKind.u8) (gl (Ty.int IntKind.u8) (dOf r2) 13) :: .n (gn (dOf r2) 14) :: .n (gn (dOf r2) 15) :: .n (gn (dOf r2) 16) :: []))))
             (.bad 351)))
           (.node (isK 1 [HK.n, HK.n, HK.n, HK.n, HK.n, HK.n, HK.n, HK.n, HK.n, HK.n, HK.n, HK.l (Ty.int IntKind.u8), HK.n, HK.b, HK.n, HK.n, HK.b] r1)
            (let r2 : Option (Nat × List Dat) := (op_100 [.n n27, .n n28, .b b29, .n n30, .n n31, .n n32, .n n33, .n n34, .b b35, .n n36, .n n37, .n n38, .l (Ty.int IntKind.u8) l39, .n n40, .n n41, .n n42]);
             (.node (isK 0 [HK.n, HK.n, HK.n, HK.b, HK.n, HK.n, HK.n, HK.n, HK.n, HK.b, HK.n, HK.n, HK.n, HK.l (Ty.int IntKind.u8), HK.n, HK.n, HK.n] r2)
              (.leaf ((1, (.b (gn (dOf r1) 0 == gn (dOf r2) 0) :: .n (gn (dOf r1) 1) :: .n (gn (dOf r1) 2) :: .n (gn (dOf r1) 3) :: .n (gn (dOf r1) 4) :: .n (gn (dOf r1) 5) :: .n (gn (dOf r1) 6) :: .n (gn (dOf r1) 7) :: .n (gn (dOf r1) 8) :: .n (gn (dOf r1) 9) :: .n (gn (dOf r1) 10) :: .l (Ty.int IntKind.u8) (gl (Ty.int IntKind.u8) (dOf r1) 11) :: .n (gn (dOf r1) 12) :: .b (gb (dOf r1) 13) :: .n (gn (dOf r1) 14) :: .n (gn (dOf r1) 15) :: .b (gb (dOf r1) 16) :: .n (gn (dOf r2) 1) :: .n (gn (dOf r2) 2) :: .b (gb (dOf r2) 3) :: .n (gn (dOf r2) 4) :: .n (gn (dOf r2) 5) :: .n (gn (dOf r2) 6) :: .n (gn (dOf r2) 7) :: .n (gn (dOf r2) 8) :: .b (gb (dOf r2) 9) :: .n (gn (dOf r2) 10) :: .n (gn (dOf r2) 11) :: .n (gn (dOf r2) 12) :: .l (Ty.int IntKind.u8) (gl (Ty.int IntKind.u8) (dOf r2) 13) :: .n (gn (dOf r2) 14) :: .n (gn (dOf r2) 15) :: .n (gn (dOf r2) 16) :: []))))
              (.bad 351)))
            (.bad 351))))
         (let r1 : Option (Nat × List Dat) := (op_37a [.n n1, .n n2, .n n3, .n n4, .n n5, .n n6, .n n7, .n n8, .n n9, .l (Ty.int IntKind.u8) l10, .n n11, .n n12, .n n13, .n n14, .n n15, .n n16, .n n17, .n n18, .n n19, .n n20, .l (Ty.int IntKind.u8) l21, .n n22, .b b23, .n n24, .n n25, .b b26]);
          (.node (isK 0 [HK.n, HK.n, HK.n, HK.n, HK.n, HK.n, HK.n, HK.n, HK.n, HK.n, HK.l (Ty.int IntKind.u8), HK.n, HK.b, HK.n, HK.n, HK.b] r1)
           (let r2 : Option (Nat × List Dat) := (op_101 [.n n1, .n n4, .n n3, .n n5, .n n6, .n n7, .n n8, .n n9, .l (Ty.int IntKind.u8) l10, .n n11, .n n27, .n n28, .b b29, .n n30, .n n31, .n n32, .n n33, .n n34, .b b35, .n n36, .n n37, .n n38, .l (Ty.int IntKind.u8) l39, .n n40, .n n41, .n n42]);
            (.node (isK 0 [HK.n, HK.n, HK.n, HK.b, HK.n, HK.n, HK.n, HK.n, HK.n, HK.b, HK.n, HK.n, HK.n, HK.l (Ty.int IntKind.u8), HK.n, HK.n, HK.n] r2)
             (.leaf ((0, (.b (gn (dOf r1) 0 == gn (dOf r2) 0) :: .n (gn (dOf r1) 1) :: .n (gn (dOf r1) 2) :: .n (gn (dOf r1) 3) :: .n (gn (dOf r1) 4) :: .n (gn (dOf r1) 5) :: .n (gn (dOf r1) 6) :: .n (gn (dOf r1) 7) :: .n (gn (dOf r1) 8) :: .n (gn (dOf r1) 9) :: .l (Ty.int IntKind.u8) (gl (Ty.int IntKind.u8) (dOf r1) 10) :: .n (gn (dOf r1) 11) :: .b (gb (dOf r1) 12) :: .n (gn (dOf r1) 13) :: .n (gn (dOf r1) 14) :: .b (gb (dOf r1) 15) :: .n (gn (dOf r2) 1) :: .n (gn (dOf r2) 2) :: .b (gb (dOf r2) 3) :: .n (gn (dOf r2) 4) :: .n (gn (dOf r2) 5) :: .n (gn (dOf r2) 6) :: .n (gn (dOf r2) 7) :: .n (gn (dOf r2) 8) :: .b (gb (dOf r2) 9) :: .n (gn (dOf r2) 10) :: .n (gn (dOf r2) 11) :: .n (gn (dOf r2) 12) :: .l (Ty.int IntKind.u8) (gl (Ty.int IntKind.u8) (dOf r2) 13) :: .n (gn (dOf r2) 14) :: .n (gn (dOf r2) 15) :: .n (gn (dOf r2) 16) :: []))))
             (.bad 351)))
           (.node (isK 1 [HK.n, HK.n, HK.n, HK.n, HK.n, HK.n, HK.n, HK.n, HK.n, HK.n, HK.n, HK.l (Ty.int IntKind.u8), HK.n, HK.b, HK.n, HK.n, HK.b] r1)
            (let r2 : Option (Nat × List Dat) := (op_101 [.n n1, .n n4, .n n3, .n n5, .n n6, .n n7, .n n8, .n n9, .l (Ty.int IntKind.u8) l10, .n n11, .n n27, .n n28, .b b29, .n n30, .n n31, .n n32, .n n33, .n n34, .b b35, .n n36, .n n37, .n n38, .l (Ty.int IntKind.u8) l39, .n n40, .n n41, .n n42]);
             (.node (isK 0 [HK.n, HK.n, HK.n, HK.b, HK.n, HK.n, HK.n, HK.n, HK.n, HK.b, HK.n, HK.n, HK.n, HK.l (Ty.int IntKind.u8), HK.n, HK.n, HK.n] r2)
              (.leaf ((1, (.b (gn (dOf r1) 0 == gn (dOf r2) 0) :: .n (gn (dOf r1) 1) :: .n (gn (dOf r1) 2) :: .n (gn (dOf r1) 3) :: .n (gn (dOf r1) 4) :: .n (gn (dOf r1) 5) :: .n (gn (dOf r1) 6) :: .n (gn (dOf r1) 7) :: .n (gn (dOf r1) 8) :: .n (gn (dOf r1) 9) :: .n (gn (dOf r1) 10) :: .l (Ty.int IntKind.u8) (gl (Ty.int IntKind.u8) (dOf r1) 11) :: .n (gn (dOf r1) 12) :: .b (gb (dOf r1) 13) :: .n (gn (dOf r1) 14) :: .n (gn (dOf r1) 15) :: .b (gb (dOf r1) 16) :: .n (gn (dOf r2) 1) :: .n (gn (dOf r2) 2) :: .b (gb (dOf r2) 3) :: .n (gn (dOf r2) 4) :: .n (gn (dOf r2) 5) :: .n (gn (dOf r2) 6) :: .n (gn (dOf r2) 7) :: .n (gn (dOf r2) 8) :: .b (gb (dOf r2) 9) :: .n (gn (dOf r2) 10) :: .n (gn (dOf r2) 11) :: .n (gn (dOf r2) 12) :: .l (Ty.int IntKind.u8) (gl (Ty.int IntKind.u8) (dOf r2) 13) :: .n (gn (dOf r2) 14) :: .n (gn (dOf r2) 15) :: .n (gn (dOf r2) 16) :: []))))
              (.bad 351)))
            (.bad 351)))))))))
  | _ => .bad 0
def op_32a : List Dat → Option (Nat × List Dat) := fun env => (fn_32a env).sel
def B32a : FBox := (mkF [.ptr 0 0, .ptr 1 0, caV 0] [rlA 12, rmB 27] [0, 1] [(.bool 0, [rlA 1, rmB 16]), (.bool 0, [rlB 1, rmB 17])] op_32a)
def fr_32a : List Dat → Tree (Nat × List Dat)
  | (.n n0 :: .n n1 :: .n n2 :: .n n3 :: .n n4 :: .n n5 :: .n n6 :: .n n7 :: .n n8 :: .n n9 :: .l (Ty.int IntKind.u8) l10 :: .n n11 :: .n n12 :: .n n13 :: .n n14 :: .n n15 :: .n n16 :: .n n17 :: .n n18 :: .n n19 :: .n n20 :: .l (Ty.int IntKind.u8) l21 :: .n n22 :: .b b23 :: .n n24 :: .n n25 :: .b b26 :: .n n27 :: .n n28 :: .b b29 :: .n n30 :: .n n31 :: .n n32 :: .n n33 :: .n n34 :: .b b35 :: .n n36 :: .n n37 :: .n n38 :: .l (Ty.int IntKind.u8) l39 :: .n n40 :: .n n41 :: .n n42 :: []) =>
    (.node (Int.tmod n0 (8 : Int) == (3 : Int))
     (let r1 : Option (Nat × List Dat) := (op_33a [.n n1, .n n4, .n n12, .n n13, .n n14, .n n15, .n n16, .n n17, .n n18, .n n19, .n n20, .l (Ty.int IntKind.u8) l21, .n n22, .b b23, .n n24, .n n25, .b b26]);
      (.node (isK 0 [HK.n, HK.n, HK.n, HK.n, HK.n, HK.n, HK.n, HK.n, HK.n, HK.n, HK.l (Ty.int IntKind.u8), HK.n, HK.b, HK.n, HK.n, HK.b] r1)
       (let r2 : Option (Nat × List Dat) := (op_97 [.n n1, .n n4, .n n27, .n n28, .b b29, .n n30, .n n31, .n n32, .n n33, .n n34, .b b35, .n n36, .n n37, .n n38, .l (Ty.int IntKind.u8) l39, .n n40, .n n41, .n n42]);
        (.node (isK 0 [HK.n, HK.n, HK.n, HK.b, HK.n, HK.n, HK.n, HK.n, HK.n, HK.b, HK.n, HK.n, HK.n, HK.l (Ty.int IntKind.u8), HK.n, HK.n, HK.n] r2)
         (.leaf ((0, (.b (gn (dOf r1) 0 == gn (dOf r2) 0) :: .n (gn (dOf r1) 1) :: .n (gn (dOf r1) 2) :: .n (gn (dOf r1) 3) :: .n (gn (dOf r1) 4) :: .n (gn (dOf r1) 5) :: .n (gn (dOf r1) 6) :: .n (gn (dOf r1) 7) :: .n (gn (dOf r1) 8) :: .n (gn (dOf r1) 9) :: .l (Ty.int IntKind.u8) (gl (Ty.int IntKind.u8) (dOf r1) 10) :: .n (gn (dOf r1) 11) :: .b (gb (dOf r1) 12) :: .n (gn (dOf r1) 13) :: .n (gn (dOf r1) 14) :: .b (gb (dOf r1) 15) :: .n (gn (dOf r2) 1) :: .n (gn (dOf r2) 2) :: .b (gb (dOf r2) 3) :: .n (gn (dOf r2) 4) :: .n (gn (dOf r2) 5) :: .n (gn (dOf r2) 6) :: .n (gn (dOf r2) 7) :: .n (gn (dOf r2) 8) :: .b (gb (dOf r2) 9) :: .n (gn (dOf r2) 10) :: .n (gn (dOf r2) 11) :: .n (gn (dOf r2) 12) :: .l (Ty.int IntKind.u8) (gl (Ty.int IntKind.u8) (dOf r2) 13) :: .n (gn (dOf r2) 14) :: .n (gn (dOf r2) 15) :: .n (gn (dOf r2) 16) :: []))))
         (.bad 351)))
       (.node (isK 1 [HK.n, HK.n, HK.n, HK.n, HK.n, HK.n, HK.n, HK.n, HK.n, HK.n, HK.n, HK.l (Ty.int IntKind.u8), HK.n, HK.b, HK.n, HK.n, HK.b] r1)
        (let r2 : Option (Nat × List Dat) := (op_97 [.n n1, .n n4, .n n27, .n n28, .b b29, .n n30, .n n31, .n n32, .n n33, .n n34, .b b35, .n n36, .n n37, .n n38, .l (Ty.int IntKind.u8) l39, .n n40, .n n41, .n n42]);
         (.node (isK 0 [HK.n, HK.n, HK.n, HK.b, HK.n, HK.n, HK.n, HK.n, HK.n, HK.b, HK.n, HK.n, HK.n, HK.l (Ty.int IntKind.u8), HK.n, HK.n, HK.n] r2)
          (.leaf ((1, (.b (gn (dOf r1) 0 == gn (dOf r2) 0) :: .n (gn (dOf r1) 1) :: .n (gn (dOf r1) 2) :: .n (gn (dOf r1) 3) :: .n (gn (dOf r1) 4) :: .n (gn (dOf r1) 5) :: .n (gn (dOf r1) 6) :: .n (gn (dOf r1) 7) :: .n (gn (dOf r1) 8) :: .n (gn (dOf r1) 9) :: .n (gn (dOf r1) 10) :: .l (Ty.int IntKind.u8) (gl (Ty.int IntKind.u8) (dOf r1) 11) :: .n (gn (dOf r1) 12) :: .b (gb (dOf r1) 13) :: .n (gn (dOf r1) 14) :: .n (gn (dOf r1) 15) :: .b (gb (dOf r1) 16) :: .n (gn (dOf r2) 1) :: .n (gn (dOf r2) 2) :: .b (gb (dOf r2) 3) :: .n (gn (dOf r2) 4) :: .n (gn (dOf r2) 5) :: .n (gn (dOf r2) 6) :: .n (gn (dOf r2) 7) :: .n (gn (dOf r2) 8) :: .b (gb (dOf r2) 9) :: .n (gn (dOf r2) 10) :: .n (gn (dOf r2) 11) :: .n (gn (dOf r2) 12) :: .l (Ty.int IntKind.u8) (gl (Ty.int IntKind.u8) (dOf r2) 13) :: .n (gn (dOf r2) 14) :: .n (gn (dOf r2) 15) :: .n (gn (dOf r2) 16) :: []))))
          (.bad 351)))
        (.bad 351))))
     (.node (Int.tmod n0 (8 : Int) == (4 : Int))
      (let r1 : Option (Nat × List Dat) := (op_34a [.n n1, .n n4, .n n12, .n n13, .n n14, .n n15, .n n16, .n n17, .n n18, .n n19, .n n20, .l (Ty.int IntKind.u8) l21, .n n22, .b b23, .n n24, .n n25, .b b26]);
       (.node (isK 0 [HK.n, HK.n, HK.n, HK.n, HK.n, HK.n, HK.n, HK.n, HK.n, HK.n, HK.l (Ty.int IntKind.u8), HK.n, HK.b, HK.n, HK.n, HK.b] r1)
        (let r2 : Option (Nat × List Dat) := (op_98 [.n n1, .n n4, .n n27, .n n28, .b b29, .n n30, .n n31, .n n32, .n n33, .n n34, .b b35, .n n36, .n n37, .n n38, .l (Ty.int IntKind.u8) l39, .n n40, .n n41, .n n42]);
         (.node (isK 0 [HK.n, HK.n, HK.n, HK.b, HK.n, HK.n, HK.n, HK.n, HK.n, HK.b, HK.n, HK.n, HK.n, HK.l (Ty.int IntKind.u8), HK.n, HK.n, HK.n] r2)
          (.leaf ((0, (.b (gn (dOf r1) 0 == gn (dOf r2) 0) :: .n (gn (dOf r1) 1) :: .n (gn (dOf r1) 2) :: .n (gn (dOf r1) 3) :: .n (gn (dOf r1) 4) :: .n (gn (dOf r1) 5) :: .n (gn (dOf r1) 6) :: .n (gn (dOf r1) 7) :: .n (gn (dOf r1) 8) :: .n (gn (dOf r1) 9) :: .l (Ty.int IntKind.u8) (gl (Ty.int IntKind.u8) (dOf r1) 10) :: .n (gn (dOf r1) 11) :: .b (gb (dOf r1) 12) :: .n (gn (dOf r1) 13) :: .n (gn (dOf r1) 14) :: .b (gb (dOf r1) 15) :: .n (gn (dOf r2) 1) :: .n (gn (dOf r2) 2) :: .b (gb (dOf r2) 3) :: .n (gn (dOf r2) 4) :: .n (gn (dOf r2) 5) :: .n (gn (dOf r2) 6) :: .n (gn (dOf r2) 7) :: .n (gn (dOf r2) 8) :: .b (gb (dOf r2) 9) :: .n (gn (dOf r2) 10) :: .n (gn (dOf r2) 11) :: .n (gn (dOf r2) 12) :: .l (Ty.int IntKind.u8) (gl (Ty.int IntKind.u8) (dOf r2) 13) :: .n (gn (dOf r2) 14) :: .n (gn (dOf r2) 15) :: .n (gn (dOf r2) 16) :: []))))
          (.bad 351)))
        (.node (isK 1 [HK.n, HK.n, HK.n, HK.n, HK.n, HK.n, HK.n, HK.n, HK.n, HK.n, HK.n, HK.l (Ty.int IntKind.u8), HK.n, HK.b, HK.n, HK.n, HK.b] r1)
         (let r2 : Option (Nat × List Dat) := (op_98 [.n n1, .n n4, .n n27, .n n28, .b b29, .n n30, .n n31, .n n32, .n n33, .n n34, .b b35, .n n36, .n n37, .n n38, .l (Ty.int IntKind.u8) l39, .n n40, .n n41, .n n42]);
          (.node (isK 0 [HK.n, HK.n, HK.n, HK.b, HK.n, HK.n, HK.n, HK.n, HK.n, HK.b, HK.n, HK.n, HK.n, HK.l (Ty.int IntKind.u8), HK.n, HK.n, HK.n] r2)
           (.leaf ((1, (.b (gn (dOf r1) 0 == gn (dOf r2) 0) :: .n (gn (dOf r1) 1) :: .n (gn (dOf r1) 2) :: .n (gn (dOf r1) 3) :: .n (gn (dOf r1) 4) :: .n (gn (dOf r1) 5) :: .n (gn (dOf r1) 6) :: .n (gn (dOf r1) 7) :: .n (gn (dOf r1) 8) :: .n (gn (dOf r1) 9) :: .n (gn (dOf r1) 10) :: .l (Ty.int IntKind.u8) (gl (Ty.int IntKind.u8) (dOf r1) 11) :: .n (gn (dOf r1) 12) :: .b (gb (dOf r1) 13) :: .n (gn (dOf r1) 14) :: .n (gn (dOf r1) 15) :: .b (gb (dOf r1) 16) :: .n (gn (dOf r2) 1) :: .n (gn (dOf r2) 2) :: .b (gb (dOf r2) 3) :: .n (gn (dOf r2) 4) :: .n (gn (dOf r2) 5) :: .n (gn (dOf r2) 6) :: .n (gn (dOf r2) 7) :: .n (gn (dOf r2) 8) :: .b (gb (dOf r2) 9) :: .n (gn (dOf r2) 10) :: .n (gn (dOf r2) 11) :: .n (gn (dOf r2) 12) :: .l (Ty.int IntKind.u8) (gl (Ty.int IntKind.u8) (dOf r2) 13) :: .n (gn (dOf r2) 14) :: .n (gn (dOf r2) 15) :: .n (gn (dOf r2) 16) :: []))))
           (.bad 351)))
         (.bad 351))))
      (.node (Int.tmod n0 (8 : Int) == (5 : Int))
       (.node (Int.tmod n0 (8 : Int) == (5 : Int))
        (let r1 : Option (Nat × List Dat) := (op_35a [.n n12, .n n13, .n n14, .n n15, .n n16, .n n17, .n n18, .n n19, .n n20, .l (Ty.int IntKind.u8) l21, .n n22, .b b23, .n n24, .n n25, .b b26]);
         (.node (isK 0 [HK.n, HK.n, HK.n, HK.n, HK.n, HK.n, HK.n, HK.n, HK.n, HK.l (Ty.int IntKind.u8), HK.n, HK.b, HK.n, HK.n, HK.b] r1)
          (let r2 : Option (Nat × List Dat) := (op_99 [.n n27, .n n28, .b b29, .n n30, .n n31, .n n32, .n n33, .n n34, .b b35, .n n36, .n n37, .n n38, .l (Ty.int IntKind.u8) l39, .n n40, .n n41, .n n42]);
           (.node (isK 0 [HK.n, HK.n, HK.b, HK.n, HK.n, HK.n, HK.n, HK.n, HK.b, HK.n, HK.n, HK.n, HK.l (Ty.int IntKind.u8), HK.n, HK.n, HK.n] r2)
            (.leaf ((0, (.b true :: .n (gn (dOf r1) 0) :: .n (gn (dOf r1) 1) :: .n (gn (dOf r1) 2) :: .n (gn (dOf r1) 3) :: .n (gn (dOf r1) 4) :: .n (gn (dOf r1) 5) :: .n (gn (dOf r1) 6) :: .n (gn (dOf r1) 7) :: .n (gn (dOf r1) 8) :: .l (Ty.int IntKind.u8) (gl (Ty.int IntKind.u8) (dOf r1) 9) :: .n (gn (dOf r1) 10) :: .b (gb (dOf r1) 11) :: .n (gn (dOf r1) 12) :: .n (gn (dOf r1) 13) :: .b (gb (dOf r1) 14) :: .n (gn (dOf r2) 0) :: .n (gn (dOf r2) 1) :: .b (gb (dOf r2) 2) :: .n (gn (dOf r2) 3) :: .n (gn (dOf r2) 4) :: .n (gn (dOf r2) 5) :: .n (gn (dOf r2) 6) :: .n (gn (dOf r2) 7) :: .b (gb (dOf r2) 8) :: .n (gn (dOf r2) 9) :: .n (gn (dOf r2) 10) :: .n (gn (dOf r2) 11) :: .l (Ty.int IntKind.u8) (gl (Ty.int IntKind.u8) (dOf r2) 12) :: .n (gn (dOf r2) 13) :: .n (gn (dOf r2) 14) :: .n (gn (dOf r2) 15) :: []))))
            (.bad 351)))
          (.node (isK 1 [HK.n, HK.n, HK.n, HK.n, HK.n, HK.n, HK.n, HK.n, HK.n, HK.n, HK.l (Ty.int IntKind.u8), HK.n, HK.b, HK.n, HK.n, HK.b] r1)
           (let r2 : Option (Nat × List Dat) := (op_99 [.n n27, .n n28, .b b29, .n n30, .n n31, .n n32, .n n33, .n n34, .b b35, .n n36, .n n37, .n n38, .l (Ty.int IntKind.u8) l39, .n n40, .n n41, .n n42]);
            (.node (isK 0 [HK.n, HK.n, HK.b, HK.n, HK.n, HK.n, HK.n, HK.n, HK.b, HK.n, HK.n, HK.n, HK.l (Ty.int IntKind.u8), HK.n, HK.n, HK.n] r2)
             (.leaf ((1, (.b true :: .n (gn (dOf r1) 0) :: .n (gn (dOf r1) 1) :: .n (gn (dOf r1) 2) :: .n (gn (dOf r1) 3) :: .n (gn (dOf r1) 4) :: .n (gn (dOf r1) 5) :: .n (gn (dOf r1) 6) :: .n (gn (dOf r1) 7) :: .n (gn (dOf r1) 8) :: .n (gn (dOf r1) 9) :: .l (Ty.int IntKind.u8) (gl (Ty.int IntKind.u8) (dOf r1) 10) :: .n (gn (dOf r1) 11) :: .b (gb (dOf r1) 12) :: .n (gn (dOf r1) 13) :: .n (gn (dOf r1) 14) :: .b (gb (dOf r1) 15) :: .n (gn (dOf r2) 0) :: .n (gn (dOf r2) 1) :: .b (gb (dOf r2) 2) :: .n (gn (dOf r2) 3) :: .n (gn (dOf r2) 4) :: .n (gn (dOf r2) 5) :: .n (gn (dOf r2) 6) :: .n (gn (dOf r2) 7) :: .b (gb (dOf r2) 8) :: .n (gn (dOf r2) 9) :: .n (gn (dOf r2) 10) :: .n (gn (dOf r2) 11) :: .l (Ty.int IntKind.u8) (gl (Ty.int IntKind.u8) (dOf r2) 12) :: .n (gn (dOf r2) 13) :: .n (gn (dOf r2) 14) :: .n (gn (dOf r2) 15) :: []))))
             (.bad 351)))
           (.bad 351))))
        (.node (Int.tmod n0 (8 : Int) == (7 : Int))
         (let r1 : Option (Nat × List Dat) := (op_36a [.n n12, .n n13, .n n14, .n n15, .n n16, .n n17, .n n18, .n n19, .n n20, .l (Ty.int IntKind.u8) l21, .n n22, .b b23, .n n24, .n n25, .b b26]);
          (.node (isK 0 [HK.n, HK.n, HK.n, HK.n, HK.n, HK.n, HK.n, HK.n, HK.n, HK.n, HK.l (Ty.int IntKind.u8), HK.n, HK.b, HK.n, HK.n, HK.b] r1)
           (let r2 : Option (Nat × List Dat) := (op_100 [.n n27, .n n28, .b b29, .n n30, .n n31, .n n32, .n n33, .n n34, .b b35, .n n36, .n n37, .n n38, .l (Ty.int IntKind.u8) l39, .n n40, .n n41, .n n42]);
            (.node (isK 0 [HK.n, HK.n, HK.n, HK.b, HK.n, HK.n, HK.n, HK.n, HK.n, HK.b, HK.n, HK.n, HK.n, HK.l (Ty.int IntKind.u8), HK.n, HK.n, HK.n] r2)
             (.leaf ((0, (.b (gn (dOf r1) 0 == gn (dOf r2) 0) :: .n (gn (dOf r1) 1) :: .n (gn (dOf r1) 2) :: .n (gn (dOf r1) 3) :: .n (gn (dOf r1) 4) :: .n (gn (dOf r1) 5) :: .n (gn (dOf r1) 6) :: .n (gn (dOf r1) 7) :: .n (gn (dOf r1) 8) :: .n (gn (dOf r1) 9) :: .l (Ty.int IntKind.u8) (gl (Ty.int IntKind.u8) (dOf r1) 10) :: .n (gn (dOf r1) 11) :: .b (gb (dOf r1) 12) :: .n (gn (dOf r1) 13) :: .n (gn (dOf r1) 14) :: .b (gb (dOf r1) 15) :: .n (gn (dOf r2) 1) :: .n (gn (dOf r2) 2) :: .b (gb (dOf r2) 3) :: .n (gn (dOf r2) 4) :: .n (gn (dOf r2) 5) :: .n (gn (dOf r2) 6) :: .n (gn (dOf r2) 7) :: .n (gn (dOf r2) 8) :: .b (gb (dOf r2) 9) :: .n (gn (dOf r2) 10) :: .n (gn (dOf r2) 11) :: .n (gn (dOf r2) 12) :: .l (Ty.int IntKind.u8) (gl (Ty.int IntKind.u8) (dOf r2) 13) :: .n (gn (dOf r2) 14) :: .n (gn (dOf r2) 15) :: .n (gn (dOf r2) 16) :: []))))
             (.bad 351)))
           (.node (isK 1 [HK.n, HK.n, HK.n, HK.n, HK.n, HK.n, HK.n, HK.n, HK.n, HK.n, HK.n, HK.l (Ty.int IntKind.u8), HK.n, HK.b, HK.n, HK.n, HK.b] r1)
            (let r2 : Option (Nat × List Dat) := (op_100 [.n n27, .n n28, .b b29, .n n30, .n n31, .n n32, .n n33, .n n34, .b b35, .n n36, .n n37, .n n38, .l (Ty.int IntKind.u8) l39, .n n40, .n n41, .n n42]);
             (.node (isK 0 [HK.n, HK.n, HK.n, HK.b, HK.n, HK.n, HK.n, HK.n, HK.n, HK.b, HK.n, HK.n, HK.n, HK.l (Ty.int IntKind.u8), HK.n, HK.n, HK.n] r2)
              (.leaf ((1, (.b (gn (dOf r1) 0 == gn (dOf r2) 0) :: .n (gn (dOf r1) 1) :: .n (gn (dOf r1) 2) :: .n (gn (dOf r1) 3) :: .n (gn (dOf r1) 4) :: .n (gn (dOf r1) 5) :: .n (gn (dOf r1) 6) :: .n (gn (dOf r1) 7) :: .n (gn (dOf r1) 8) :: .n (gn (dOf r1) 9) :: .n (gn (dOf r1) 10) :: .l (Ty.int IntKind.u8) (gl (Ty.int IntKind.u8) (dOf r1) 11) :: .n (gn (dOf r1) 12) :: .b (gb (dOf r1) 13) :: .n (gn (dOf r1) 14) :: .n (gn (dOf r1) 15) :: .b (gb (dOf r1) 16) :: .n (gn (dOf r2) 1) :: .n (gn (dOf r2) 2) :: .b (gb (dOf r2) 3) :: .n (gn (dOf r2) 4) :: .n (gn (dOf r2) 5) :: .n (gn (dOf r2) 6) :: .n (gn (dOf r2) 7) :: .n (gn (dOf r2) 8) :: .b (gb (dOf r2) 9) :: .n (gn (dOf r2) 10) :: .n (gn (dOf r2) 11) :: .n (gn (dOf r2) 12) :: .l (Ty.int IntKind.u8) (gl (Ty.int IntKind.u8) (dOf r2) 13) :: .n (gn (dOf r2) 14) :: .n (gn (dOf r2) 15) :: .n (gn (dOf r2) 16) :: []))))
              (.bad 351)))
            (.bad 351))))
         (let r1 : Option (Nat × List Dat) := (op_37a [.n n1, .n n2, .n n3, .n n4, .n n5, .n n6, .n n7, .n n8, .n n9, .l (Ty.int IntKind.u8) l10, .n n11, .n n12, .n n13, .n n14, .n n15, .n n16, .n n17, .n n18, .n n19, .n n20, .l (Ty.int IntKind.u8) l21, .n n22, .b b23, .n n24, .n n25, .b b26]);
          (.node (isK 0 [HK.n, HK.n, HK.n, HK.n, HK.n, HK.n, HK.n, HK.n, HK.n, HK.n, HK.l (Ty.int IntKind.u8), HK.n, HK.b, HK.n, HK.n, HK.b] r1)
           (let r2 : Option (Nat × List Dat) := (op_101 [.n n1, .n n4, .n n3, .n n5, .n n6, .n n7, .n n8, .n n9, .l (Ty.int IntKind.u8) l10, .n n11, .n n27, .n n28, .b b29, .n n30, .n n31, .n n32, .n n33, .n n34, .b b35, .n n36, .n n37, .n n38, .l (Ty.int IntKind.u8) l39, .n n40, .n n41, .n n42]);
            (.node (isK 0 [HK.n, HK.n, HK.n, HK.b, HK.n, HK.n, HK.n, HK.n, HK.n, HK.b, HK.n, HK.n, HK.n, HK.l (Ty.int IntKind.u8), HK.n, HK.n, HK.n] r2)
             (.leaf ((0, (.b (gn (dOf r1) 0 == gn (dOf r2) 0) :: .n (gn (dOf r1) 1) :: .n (gn (dOf r1) 2) :: .n (gn (dOf r1) 3) :: .n (gn (dOf r1) 4) :: .n (gn (dOf r1) 5) :: .n (gn (dOf r1) 6) :: .n (gn (dOf r1) 7) :: .n (gn (dOf r1) 8) :: .n (gn (dOf r1) 9) :: .l (Ty.int IntKind.u8) (gl (Ty.int IntKind.u8) (dOf r1) 10) :: .n (gn (dOf r1) 11) :: .b (gb (dOf r1) 12) :: .n (gn (dOf r1) 13) :: .n (gn (dOf r1) 14) :: .b (gb (dOf r1) 15) :: .n (gn (dOf r2) 1) :: .n (gn (dOf r2) 2) :: .b (gb (dOf r2) 3) :: .n (gn (dOf r2) 4) :: .n (gn (dOf r2) 5) :: .n (gn (dOf r2) 6) :: .n (gn (dOf r2) 7) :: .n (gn (dOf r2) 8) :: .b (gb (dOf r2) 9) :: .n (gn (dOf r2) 10) :: .n (gn (dOf r2) 11) :: .n (gn (dOf r2) 12) :: .l (Ty.int IntKind.u8) (gl (Ty.int IntKind.u8) (dOf r2) 13) :: .n (gn (dOf r2) 14) :: .n (gn (dOf r2) 15) :: .n (gn (dOf r2) 16) :: []))))
             (.bad 351)))
           (.node (isK 1 [HK.n, HK.n, HK.n, HK.n, HK.n, HK.n, HK.n, HK.n, HK.n, HK.n, HK.n, HK.l (Ty.int IntKind.u8), HK.n, HK.b, HK.n, HK.n, HK.b] r1)
            (let r2 : Option (Nat × List Dat) := (op_101 [.n n1, .n n4, .n n3, .n n5, .n n6, .n n7, .n n8, .n n9, .l (Ty.int IntKind.u8) l10, .n n11, .n n27, .n n28, .b b29, .n n30, .n n31, .n n32, .n n33, .n n34, .b b35, .n n36, .n n37, .n n38, .l (Ty.int IntKind.u8) l39, .n n40, .n n41, .n n42]);
             (.node (isK 0 [HK.n, HK.n, HK.n, HK.b, HK.n, HK.n, HK.n, HK.n, HK.n, HK.b, HK.n, HK.n, HK.n, HK.l (Ty.int IntKind.u8), HK.n, HK.n, HK.n] r2)
              (.leaf ((1, (.b (gn (dOf r1) 0 == gn (dOf r2) 0) :: .n (gn (dOf r1) 1) :: .n (gn (dOf r1) 2) :: .n (gn (dOf r1) 3) :: .n (gn (dOf r1) 4) :: .n (gn (dOf r1) 5) :: .n (gn (dOf r1) 6) :: .n (gn (dOf r1) 7) :: .n (gn (dOf r1) 8) :: .n (gn (dOf r1) 9) :: .n (gn (dOf r1) 10) :: .l (Ty.int IntKind.u8) (gl (Ty.int IntKind.u8) (dOf r1) 11) :: .n (gn (dOf r1) 12) :: .b (gb (dOf r1) 13) :: .n (gn (dOf r1) 14) :: .n (gn (dOf r1) 15) :: .b (gb (dOf r1) 16) :: .n (gn (dOf r2) 1) :: .n (gn (dOf r2) 2) :: .b (gb (dOf r2) 3) :: .n (gn (dOf r2) 4) :: .n (gn (dOf r2) 5) :: .n (gn (dOf r2) 6) :: .n (gn (dOf r2) 7) :: .n (gn (dOf r2) 8) :: .b (gb (dOf r2) 9) :: .n (gn (dOf r2) 10) :: .n (gn (dOf r2) 11) :: .n (gn (dOf r2) 12) :: .l (Ty.int IntKind.u8) (gl (Ty.int IntKind.u8) (dOf r2) 13) :: .n (gn (dOf r2) 14) :: .n (gn (dOf r2) 15) :: .n (gn (dOf r2) 16) :: []))))
              (.bad 351)))
            (.bad 351))))))
       (.node (Int.tmod n0 (8 : Int) == (6 : Int))
        (let r1 : Option (Nat × List Dat) := (op_35a [.n n12, .n n13, .n n14, .n n15, .n n16, .n n17, .n n18, .n n19, .n n20, .l (Ty.int IntKind.u8) l21, .n n22, .b b23, .n n24, .n n25, .b b26]);
         (.node (isK 0 [HK.n, HK.n, HK.n, HK.n, HK.n, HK.n, HK.n, HK.n, HK.n, HK.l (Ty.int IntKind.u8), HK.n, HK.b, HK.n, HK.n, HK.b] r1)
          (let r2 : Option (Nat × List Dat) := (op_99 [.n n27, .n n28, .b b29, .n n30, .n n31, .n n32, .n n33, .n n34, .b b35, .n n36, .n n37, .n n38, .l (Ty.int IntKind.u8) l39, .n n40, .n n41, .n n42]);
           (.node (isK 0 [HK.n, HK.n, HK.b, HK.n, HK.n, HK.n, HK.n, HK.n, HK.b, HK.n, HK.n, HK.n, HK.l (Ty.int IntKind.u8), HK.n, HK.n, HK.n] r2)
            (.leaf ((0, (.b true :: .n (gn (dOf r1) 0) :: .n (gn (dOf r1) 1) :: .n (gn (dOf r1) 2) :: .n (gn (dOf r1) 3) :: .n (gn (dOf r1) 4) :: .n (gn (dOf r1) 5) :: .n (gn (dOf r1) 6) :: .n (gn (dOf r1) 7) :: .n (gn (dOf r1) 8) :: .l (Ty.int IntKind.u8) (gl (Ty.int IntKind.u8) (dOf r1) 9) :: .n (gn (dOf r1) 10) :: .b (gb (dOf r1) 11) :: .n (gn (dOf r1) 12) :: .n (gn (dOf r1) 13) :: .b (gb (dOf r1) 14) :: .n (gn (dOf r2) 0) :: .n (gn (dOf r2) 1) :: .b (gb (dOf r2) 2) :: .n (gn (dOf r2) 3) :: .n (gn (dOf r2) 4) :: .n (gn (dOf r2) 5) :: .n (gn (dOf r2) 6) :: .n (gn (dOf r2) 7) :: .b (gb (dOf r2) 8) :: .n (gn (dOf r2) 9) :: .n (gn (dOf r2) 10) :: .n (gn (dOf r2) 11) :: .l (Ty.int IntKind.u8) (gl (Ty.int IntKind.u8) (dOf r2) 12) :: .n (gn (dOf r2) 13) :: .n (gn (dOf r2) 14) :: .n (gn (dOf r2) 15) :: []))))
            (.bad 351)))
          (.node (isK 1 [HK.n, HK.n, HK.n, HK.n, HK.n, HK.n, HK.n, HK.n, HK.n, HK.n, HK.l (Ty.int IntKind.u8), HK.n, HK.b, HK.n, HK.n, HK.b] r1)
           (let r2 : Option (Nat × List Dat) := (op_99 [.n n27, .n n28, .b b29, .n n30, .n n31, .n n32, .n n33, .n n34, .b b35, .n n36, .n n37, .n n38, .l (Ty.int IntKind.u8) l39, .n n40, .n n41, .n n42]);
            (.node (isK 0 [HK.n, HK.n, HK.b, HK.n, HK.n, HK.n, HK.n, HK.n, HK.b, HK.n, HK.n, HK.n, HK.l (Ty.int IntKind.u8), HK.n, HK.n, HK.n] r2)
             (.leaf ((1, (.b true :: .n (gn (dOf r1) 0) :: .n (gn (dOf r1) 1) :: .n (gn (dOf r1) 2) :: .n (gn (dOf r1) 3) :: .n (gn (dOf r1) 4) :: .n (gn (dOf r1) 5) :: .n (gn (dOf r1) 6) :: .n (gn (dOf r1) 7) :: .n (gn (dOf r1) 8) :: .n (gn (dOf r1) 9) :: .l (Ty.int IntKind.u8) (gl (Ty.int IntKind.u8) (dOf r1) 10) :: .n (gn (dOf r1) 11) :: .b (gb (dOf r1) 12) :: .n (gn (dOf r1) 13) :: .n (gn (dOf r1) 14) :: .b (gb (dOf r1) 15) :: .n (gn (dOf r2) 0) :: .n (gn (dOf r2) 1) :: .b (gb (dOf r2) 2) :: .n (gn (dOf r2) 3) :: .n (gn (dOf r2) 4) :: .n (gn (dOf r2) 5) :: .n (gn (dOf r2) 6) :: .n (gn (dOf r2) 7) :: .b (gb (dOf r2) 8) :: .n (gn (dOf r2) 9) :: .n (gn (dOf r2) 10) :: .n (gn (dOf r2) 11) :: .l (Ty.int IntKind.u8) (gl (Ty.int IntKind.u8) (dOf r2) 12) :: .n (gn (dOf r2) 13) :: .n (gn (dOf r2) 14) :: .n (gn (dOf r2) 15) :: []))))
             (.bad 351)))
           (.bad 351))))
        (.node (Int.tmod n0 (8 : Int) == (7 : Int))
         (let r1 : Option (Nat × List Dat) := (op_36a [.n n12, .n n13, .n n14, .n n15, .n n16, .n n17, .n n18, .n n19, .n n20, .l (Ty.int IntKind.u8) l21, .n n22, .b b23, .n n24, .n n25, .b b26]);
          (.node (isK 0 [HK.n, HK.n, HK.n, HK.n, HK.n, HK.n, HK.n, HK.n, HK.n, HK.n, HK.l (Ty.int IntKind.u8), HK.n, HK.b, HK.n, HK.n, HK.b] r1)
           (let r2 : Option (Nat × List Dat) := (op_100 [.n n27, .n n28, .b b29, .n n30, .n n31, .n n32, .n n33, .n n34, .b b35, .n n36, .n n37, .n n38, .l (Ty.int IntKind.u8) l39, .n n40, .n n41, .n n42]);
            (.node (isK 0 [HK.n, HK.n, HK.n, HK.b, HK.n, HK.n, HK.n, HK.n, HK.n, HK.b, HK.n, HK.n, HK.n, HK.l (Ty.int IntKind.u8), HK.n, HK.n, HK.n] r2)
             (.leaf ((0, (.b (gn (dOf r1) 0 == gn (dOf r2) 0) :: .n (gn (dOf r1) 1) :: .n (gn (dOf r1) 2) :: .n (gn (dOf r1) 3) :: .n (gn (dOf r1) 4) :: .n (gn (dOf r1) 5) :: .n (gn (dOf r1) 6) :: .n (gn (dOf r1) 7) :: .n (gn (dOf r1) 8) :: .n (gn (dOf r1) 9) :: .l (Ty.int IntKind.u8) (gl (Ty.int IntKind.u8) (dOf r1) 10) :: .n (gn (dOf r1) 11) :: .b (gb (dOf r1) 12) :: .n (gn (dOf r1) 13) :: .n (gn (dOf r1) 14) :: .b (gb (dOf r1) 15) :: .n (gn (dOf r2) 1) :: .n (gn (dOf r2) 2) :: .b (gb (dOf r2) 3) :: .n (gn (dOf r2) 4) :: .n (gn (dOf r2) 5) :: .n (gn (dOf r2) 6) :: .n (gn (dOf r2) 7) :: .n (gn (dOf r2) 8) :: .b (gb (dOf r2) 9) :: .n (gn (dOf r2) 10) :: .n (gn (dOf r2) 11) :: .n (gn (dOf r2) 12) :: .l (Ty.int IntKind.u8) (gl (Ty.int IntKind.u8) (dOf r2) 13) :: .n (gn (dOf r2) 14) :: .n (gn (dOf r2) 15) :: .n (gn (dOf r2) 16) :: []))))
             (.bad 351)))
           (.node (isK 1 [HK.n, HK.n, HK.n, HK.n, HK.n, HK.n, HK.n, HK.n, HK.n, HK.n, HK.n, HK.l (Ty.int IntKind.u8), HK.n, HK.b, HK.n, HK.n, HK.b] r1)
            (let r2 : Option (Nat × List Dat) := (op_100 [.n n27, .n n28, .b b29, .n n30, .n n31, .n n32, .n n33, .n n34, .b b35, .n n36, .n n37, .n n38, .l (Ty.int IntKind.u8) l39, .n n40, .n n41, .n n42]);
             (.node (isK 0 [HK.n, HK.n, HK.n, HK.b, HK.n, HK.n, HK.n, HK.n, HK.n, HK.b, HK.n, HK.n, HK.n, HK.l (Ty.int IntKind.u8), HK.n, HK.n, HK.n] r2)
              (.leaf ((1, (.b (gn (dOf r1) 0 == gn (dOf r2) 0) :: .n (gn (dOf r1) 1) :: .n (gn (dOf r1) 2) :: .n (gn (dOf r1) 3) :: .n (gn (dOf r1) 4) :: .n (gn (dOf r1) 5) :: .n (gn (dOf r1) 6) :: .n (gn (dOf r1) 7) :: .n (gn (dOf r1) 8) :: .n (gn (dOf r1) 9) :: .n (gn (dOf r1) 10) :: .l (Ty.int IntKind.u8) (gl (Ty.int IntKind.u8) (dOf r1) 11) :: .n (gn (dOf r1) 12) :: .b (gb (dOf r1) 13) :: .n (gn (dOf r1) 14) :: .n (gn (dOf r1) 15) :: .b (gb (dOf r1) 16) :: .n (gn (dOf r2) 1) :: .n (gn (dOf r2) 2) :: .b (gb (dOf r2) 3) :: .n (gn (dOf r2) 4) :: .n (gn (dOf r2) 5) :: .n (gn (dOf r2) 6) :: .n (gn (dOf r2) 7) :: .n (gn (dOf r2) 8) :: .b (gb (dOf r2) 9) :: .n (gn (dOf r2) 10) :: .n (gn (dOf r2) 11) :: .n (gn (dOf r2) 12) :: .l (Ty.int IntKind.u8) (gl (Ty.int IntKind.u8) (dOf r2) 13) :: .n (gn (dOf r2) 14) :: .n (gn (dOf r2) 15) :: .n (gn (dOf r2) 16) :: []))))
              (.bad 351)))
            (.bad 351))))
         (let r1 : Option (Nat × List Dat) := (op_37a [.n n1, .n n2, .n n3, .n n4, .n n5, .n n6, .n n7, .n n8, .n n9, .l (Ty.int IntKind.u8) l10, .n n11, .n n12, .n n13, .n n14, .n n15, .n n16, .n n17, .n n18, .n n19, .n n20, .l (Ty.int IntKind.u8) l21, .n n22, .b b23, .n n24, .n n25, .b b26]);
          (.node (isK 0 [HK.n, HK.n, HK.n, HK.n, HK.n, HK.n, HK.n, HK.n, HK.n, HK.n, HK.l (Ty.int IntKind.u8), HK.n, HK.b, HK.n, HK.n, HK.b] r1)
           (let r2 : Option (Nat × List Dat) := (op_101 [.n n1, .n n4, .n n3, .n n5, .n n6, .n n7, .n n8, .n n9, .l (Ty.int IntKind.u8) l10, .n n11, .n n27, .n n28, .b b29, .n n30, .n n31, .n n32, .n n33, .n n34, .b b35, .n n36, .n n37, .n n38, .l (Ty.int IntKind.u8) l39, .n n40, .n n41, .n n42]);
            (.node (isK 0 [HK.n, HK.n, HK.n, HK.b, HK.n, HK.n, HK.n, HK.n, HK.n, HK.b, HK.n, HK.n, HK.n, HK.l (Ty.int IntKind.u8), HK.n, HK.n, HK.n] r2)
             (.leaf ((0, (.b (gn (dOf r1) 0 == gn (dOf r2) 0) :: .n (gn (dOf r1) 1) :: .n (gn (dOf r1) 2) :: .n (gn (dOf r1) 3) :: .n (gn (dOf r1) 4) :: .n (gn (dOf r1) 5) :: .n (gn (dOf r1) 6) :: .n (gn (dOf r1) 7) :: .n (gn (dOf r1) 8) :: .n (gn (dOf r1) 9) :: .l (Ty.int IntKind.u8) (gl (Ty.int IntKind.u8) (dOf r1) 10) :: .n (gn (dOf r1) 11) :: .b (gb (dOf r1) 12) :: .n (gn (dOf r1) 13) :: .n (gn (dOf r1) 14) :: .b (gb (dOf r1) 15) :: .n (gn (dOf r2) 1) :: .n (gn (dOf r2) 2) :: .b (gb (dOf r2) 3) :: .n (gn (dOf r2) 4) :: .n (gn (dOf r2) 5) :: .n (gn (dOf r2) 6) :: .n (gn (dOf r2) 7) :: .n (gn (dOf r2) 8) :: .b (gb (dOf r2) 9) :: .n (gn (dOf r2) 10) :: .n (gn (dOf r2) 11) :: .n (gn (dOf r2) 12) :: .l (Ty.int IntKind.u8) (gl (Ty.int IntKind.u8) (dOf r2) 13) :: .n (gn (dOf r2) 14) :: .n (gn (dOf r2) 15) :: .n (gn (dOf r2) 16) :: []))))
             (.bad 351)))
           (.node (isK 1 [HK.n, HK.n, HK.n, HK.n, HK.n, HK.n, HK.n, HK.n, HK.n, HK.n, HK.n, HK.l (Ty.int IntKind.u8), HK.n, HK.b, HK.n, HK.n, HK.b] r1)
            (let r2 : Option (Nat × List Dat) := (op_101 [.n n1, .n n4, .n n3, .n n5, .n n6, .n n7, .n n8, .n n9, .l (Ty.int IntKind.u8) l10, .n n11, .n n27, .n n28, .b b29, .n n30, .n n31, .n n32, .n n33, .n n34, .b b35, .n n36, .n n37, .n n38, .l (Ty.int IntKind.u8) l39, .n n40, .n n41, .n n42]);
             (.node (isK 0 [HK.n, HK.n, HK.n, HK.b, HK.n, HK.n, HK.n, HK.n, HK.n, HK.b, HK.n, HK.n, HK.n, HK.l (Ty.int IntKind.u8), HK.n, HK.n, HK.n] r2)
              (.leaf ((1, (.b (gn (dOf r1) 0 == gn (dOf r2) 0) :: .n (gn (dOf r1) 1) :: .n (gn (dOf r1) 2) :: .n (gn (dOf r1) 3) :: .n (gn (dOf r1) 4) :: .n (gn (dOf r1) 5) :: .n (gn (dOf r1) 6) :: .n (gn (dOf r1) 7) :: .n (gn (dOf r1) 8) :: .n (gn (dOf r1) 9) :: .n (gn (dOf r1) 10) :: .l (Ty.int IntKind.u8) (gl (Ty.int IntKind.u8) (dOf r1) 11) :: .n (gn (dOf r1) 12) :: .b (gb (dOf r1) 13) :: .n (gn (dOf r1) 14) :: .n (gn (dOf r1) 15) :: .b (gb (dOf r1) 16) :: .n (gn (dOf r2) 1) :: .n (gn (dOf r2) 2) :: .b (gb (dOf r2) 3) :: .n (gn (dOf r2) 4) :: .n (gn (dOf r2) 5) :: .n (gn (dOf r2) 6) :: .n (gn (dOf r2) 7) :: .n (gn (dOf r2) 8) :: .b (gb (dOf r2) 9) :: .n (gn (dOf r2) 10) :: .n (gn (dOf r2) 11) :: .n (gn (dOf r2) 12) :: .l (Ty.int IntKind.u8) (gl (Ty.int IntKind.u8) (dOf r2) 13) :: .n (gn (dOf r2) 14) :: .n (gn (dOf r2) 15) :: .n (gn (dOf r2) 16) :: []))))
              (.bad 351)))
            (.bad 351)))))))))
  | _ => .bad 0
theorem fr_32a_eq (n0 : Int) (n1 : Int) (n2 : Int) (n3 : Int) (n4 : Int) (n5 : Int) (n6 : Int) (n7 : Int) (n8 : Int) (n9 : Int) (l10 : List (Ty.den (Ty.int IntKind.u8))) (n11 : Int) (n12 : Int) (n13 : Int) (n14 : Int) (n15 : Int) (n16 : Int) (n17 : Int) (n18 : Int) (n19 : Int) (n20 : Int) (l21 : List (Ty.den (Ty.int IntKind.u8))) (n22 : Int) (b23 : Bool) (n24 : Int) (n25 : Int) (b26 : Bool) (n27 : Int) (n28 : Int) (b29 : Bool) (n30 : Int) (n31 : Int) (n32 : Int) (n33 : Int) (n34 : Int) (b35 : Bool) (n36 : Int) (n37 : Int) (n38 : Int) (l39 : List (Ty.den (Ty.int IntKind.u8))) (n40 : Int) (n41 : Int) (n42 : Int) : (boxC false Try.prog cs_31b 32 ls0 (mkF [.ptr 0 0, .ptr 1 0, caV 0] [rlA 12, rmB 27] [0, 1] [(.bool 0, [rlA 1, rmB 16]), (.bool 0, [rlB 1, rmB 17])] fun _ => none) (.n n0 :: .n n1 :: .n n2 :: .n n3 :: .n n4 :: .n n5 :: .n n6 :: .n n7 :: .n n8 :: .n n9 :: .l (Ty.int IntKind.u8) l10 :: .n n11 :: .n n12 :: .n n13 :: .n n14 :: .n n15 :: .n n16 :: .n n17 :: .n n18 :: .n n19 :: .n n20 :: .l (Ty.int IntKind.u8) l21 :: .n n22 :: .b b23 :: .n n24 :: .n n25 :: .b b26 :: .n n27 :: .n n28 :: .b b29 :: .n n30 :: .n n31 :: .n n32 :: .n n33 :: .n n34 :: .b b35 :: .n n36 :: .n n37 :: .n n38 :: .l (Ty.int IntKind.u8) l39 :: .n n40 :: .n n41 :: .n n42 :: [])).sel = (fr_32a (.n n0 :: .n n1 :: .n n2 :: .n n3 :: .n n4 :: .n n5 :: .n n6 :: .n n7 :: .n n8 :: .n n9 :: .l (Ty.int IntKind.u8) l10 :: .n n11 :: .n n12 :: .n n13 :: .n n14 :: .n n15 :: .n n16 :: .n n17 :: .n n18 :: .n n19 :: .n n20 :: .l (Ty.int IntKind.u8) l21 :: .n n22 :: .b b23 :: .n n24 :: .n n25 :: .b b26 :: .n n27 :: .n n28 :: .b b29 :: .n n30 :: .n n31 :: .n n32 :: .n n33 :: .n n34 :: .b b35 :: .n n36 :: .n n37 :: .n n38 :: .l (Ty.int IntKind.u8) l39 :: .n n40 :: .n n41 :: .n n42 :: [])).sel := by kernel_rfl
theorem fr_32a_pr (n0 : Int) (n1 : Int) (n2 : Int) (n3 : Int) (n4 : Int) (n5 : Int) (n6 : Int) (n7 : Int) (n8 : Int) (n9 : Int) (l10 : List (Ty.den (Ty.int IntKind.u8))) (n11 : Int) (n12 : Int) (n13 : Int) (n14 : Int) (n15 : Int) (n16 : Int) (n17 : Int) (n18 : Int) (n19 : Int) (n20 : Int) (l21 : List (Ty.den (Ty.int IntKind.u8))) (n22 : Int) (b23 : Bool) (n24 : Int) (n25 : Int) (b26 : Bool) (n27 : Int) (n28 : Int) (b29 : Bool) (n30 : Int) (n31 : Int) (n32 : Int) (n33 : Int) (n34 : Int) (b35 : Bool) (n36 : Int) (n37 : Int) (n38 : Int) (l39 : List (Ty.den (Ty.int IntKind.u8))) (n40 : Int) (n41 : Int) (n42 : Int) : (fr_32a (.n n0 :: .n n1 :: .n n2 :: .n n3 :: .n n4 :: .n n5 :: .n n6 :: .n n7 :: .n n8 :: .n n9 :: .l (Ty.int IntKind.u8) l10 :: .n n11 :: .n n12 :: .n n13 :: .n n14 :: .n n15 :: .n n16 :: .n n17 :: .n n18 :: .n n19 :: .n n20 :: .l (Ty.int IntKind.u8) l21 :: .n n22 :: .b b23 :: .n n24 :: .n n25 :: .b b26 :: .n n27 :: .n n28 :: .b b29 :: .n n30 :: .n n31 :: .n n32 :: .n n33 :: .n n34 :: .b b35 :: .n n36 :: .n n37 :: .n n38 :: .l (Ty.int IntKind.u8) l39 :: .n n40 :: .n n41 :: .n n42 :: [])).sel = (fn_32a (.n n0 :: .n n1 :: .n n2 :: .n n3 :: .n n4 :: .n n5 :: .n n6 :: .n n7 :: .n n8 :: .n n9 :: .l (Ty.int IntKind.u8) l10 :: .n n11 :: .n n12 :: .n n13 :: .n n14 :: .n n15 :: .n n16 :: .n n17 :: .n n18 :: .n n19 :: .n n20 :: .l (Ty.int IntKind.u8) l21 :: .n n22 :: .b b23 :: .n n24 :: .n n25 :: .b b26 :: .n n27 :: .n n28 :: .b b29 :: .n n30 :: .n n31 :: .n n32 :: .n n33 :: .n n34 :: .b b35 :: .n n36 :: .n n37 :: .n n38 :: .l (Ty.int IntKind.u8) l39 :: .n n40 :: .n n41 :: .n n42 :: [])).sel := (sel_c (fun _ => rfl) (fun h0 => (sel_c (fun _ => rfl) (fun h1 => (sel_c (fun h2 => (sel_t h2 rfl)) (fun _ => rfl))))))
theorem fn_32a_eq (n0 : Int) (n1 : Int) (n2 : Int) (n3 : Int) (n4 : Int) (n5 : Int) (n6 : Int) (n7 : Int) (n8 : Int) (n9 : Int) (l10 : List (Ty.den (Ty.int IntKind.u8))) (n11 : Int) (n12 : Int) (n13 : Int) (n14 : Int) (n15 : Int) (n16 : Int) (n17 : Int) (n18 : Int) (n19 : Int) (n20 : Int) (l21 : List (Ty.den (Ty.int IntKind.u8))) (n22 : Int) (b23 : Bool) (n24 : Int) (n25 : Int) (b26 : Bool) (n27 : Int) (n28 : Int) (b29 : Bool) (n30 : Int) (n31 : Int) (n32 : Int) (n33 : Int) (n34 : Int) (b35 : Bool) (n36 : Int) (n37 : Int) (n38 : Int) (l39 : List (Ty.den (Ty.int IntKind.u8))) (n40 : Int) (n41 : Int) (n42 : Int) : (boxC false Try.prog cs_31b 32 ls0 (mkF [.ptr 0 0, .ptr 1 0, caV 0] [rlA 12, rmB 27] [0, 1] [(.bool 0, [rlA 1, rmB 16]), (.bool 0, [rlB 1, rmB 17])] fun _ => none) (.n n0 :: .n n1 :: .n n2 :: .n n3 :: .n n4 :: .n n5 :: .n n6 :: .n n7 :: .n n8 :: .n n9 :: .l (Ty.int IntKind.u8) l10 :: .n n11 :: .n n12 :: .n n13 :: .n n14 :: .n n15 :: .n n16 :: .n n17 :: .n n18 :: .n n19 :: .n n20 :: .l (Ty.int IntKind.u8) l21 :: .n n22 :: .b b23 :: .n n24 :: .n n25 :: .b b26 :: .n n27 :: .n n28 :: .b b29 :: .n n30 :: .n n31 :: .n n32 :: .n n33 :: .n n34 :: .b b35 :: .n n36 :: .n n37 :: .n n38 :: .l (Ty.int IntKind.u8) l39 :: .n n40 :: .n n41 :: .n n42 :: [])).sel = (fn_32a (.n n0 :: .n n1 :: .n n2 :: .n n3 :: .n n4 :: .n n5 :: .n n6 :: .n n7 :: .n n8 :: .n n9 :: .l (Ty.int IntKind.u8) l10 :: .n n11 :: .n n12 :: .n n13 :: .n n14 :: .n n15 :: .n n16 :: .n n17 :: .n n18 :: .n n19 :: .n n20 :: .l (Ty.int IntKind.u8) l21 :: .n n22 :: .b b23 :: .n n24 :: .n n25 :: .b b26 :: .n n27 :: .n n28 :: .b b29 :: .n n30 :: .n n31 :: .n n32 :: .n n33 :: .n n34 :: .b b35 :: .n n36 :: .n n37 :: .n n38 :: .l (Ty.int IntKind.u8) l39 :: .n n40 :: .n n41 :: .n n42 :: [])).sel := (fr_32a_eq n0 n1 n2 n3 n4 n5 n6 n7 n8 n9 l10 n11 n12 n13 n14 n15 n16 n17 n18 n19 n20 l21 n22 b23 n24 n25 b26 n27 n28 b29 n30 n31 n32 n33 n34 b35 n36 n37 n38 l39 n40 n41 n42).trans (fr_32a_pr n0 n1 n2 n3 n4 n5 n6 n7 n8 n9 l10 n11 n12 n13 n14 n15 n16 n17 n18 n19 n20 l21 n22 b23 n24 n25 b26 n27 n28 b29 n30 n31 n32 n33 n34 b35 n36 n37 n38 l39 n40 n41 n42)
theorem fn_32a_ok (env : List Dat) (y : Nat × List Dat) (h : (fn_32a env).sel = some y) : (boxC false Try.prog cs_31b 32 ls0 (mkF [.ptr 0 0, .ptr 1 0, caV 0] [rlA 12, rmB 27] [0, 1] [(.bool 0, [rlA 1, rmB 16]), (.bool 0, [rlB 1, rmB 17])] fun _ => none) env).sel = some y := by
  unfold fn_32a at h
  split at h
  · rw [fn_32a_eq]; exact h
  · cases h
theorem B32a_ok : RunOk Try.prog 32 (boxRun B32a) := mkF_ok (op := op_32a) cs_31b_ok hmix false (LsOk.none _ _ _) fn_32a_ok

def fn_32b : List Dat → Tree (Nat × List Dat)
  | (.n n0 :: .n n1 :: .n n2 :: .n n3 :: .n n4 :: .n n5 :: .n n6 :: .n n7 :: .n n8 :: .n n9 :: .l (Ty.int IntKind.u8) l10 :: .n n11 :: .n n12 :: .n n13 :: .n n14 :: .n n15 :: .n n16 :: .n n17 :: .n n18 :: .n n19 :: .n n20 :: .n n21 :: .l (Ty.int IntKind.u8) l22 :: .n n23 :: .b b24 :: .n n25 :: .n n26 :: .b b27 :: .n n28 :: .n n29 :: .b b30 :: .n n31 :: .n n32 :: .n n33 :: .n n34 :: .n n35 :: .b b36 :: .n n37 :: .n n38 :: .n n39 :: .l (Ty.int IntKind.u8) l40 :: .n n41 :: .n n42 :: .n n43 :: []) =>
    (.node (Int.tmod n0 (8 : Int) == (3 : Int))
     (let r1 : Option (Nat × List Dat) := (op_33b [.n n1, .n n4, .n n12, .n n13, .n n14, .n n15, .n n16, .n n17, .n n18, .n n19, .n n20, .n n21, .l (Ty.int IntKind.u8) l22, .n n23, .b b24, .n n25, .n n26, .b b27]);
      (.node (isK 0 [HK.n, HK.n, HK.n, HK.n, HK.n, HK.n, HK.n, HK.n, HK.n, HK.n, HK.l (Ty.int IntKind.u8), HK.n, HK.b, HK.n, HK.n, HK.b] r1)
       (let r2 : Option (Nat × List Dat) := (op_97 [.n n1, .n n4, .n n28, .n n29, .b b30, .n n31, .n n32, .n n33, .n n34, .n n35, .b b36, .n n37, .n n38, .n n39, .l (Ty.int IntKind.u8) l40, .n n41, .n n42, .n n43]);
        (.node (isK 0 [HK.n, HK.n, HK.n, HK.b, HK.n, HK.n, HK.n, HK.n, HK.n, HK.b, HK.n, HK.n, HK.n, HK.l (Ty.int IntKind.u8), HK.n, HK.n, HK.n] r2)
         (.leaf ((0, (.b (gn (dOf r1) 0 == gn (dOf r2) 0) :: .n (gn (dOf r1) 1) :: .n (gn (dOf r1) 2) :: .n (gn (dOf r1) 3) :: .n (gn (dOf r1) 4) :: .n (gn (dOf r1) 5) :: .n (gn (dOf r1) 6) :: .n (gn (dOf r1) 7) :: .n (gn (dOf r1) 8) :: .n (gn (dOf r1) 9) :: .l (Ty.int IntKind.u8) (gl (Ty.int IntKind.u8) (dOf r1) 10) :: .n (gn (dOf r1) 11) :: .b (gb (dOf r1) 12) :: .n (gn (dOf r1) 13) :: .n (gn (dOf r1) 14) :: .b (gb (dOf r1) 15) :: .n (gn (dOf r2) 1) :: .n (gn (dOf r2) 2) :: .b (gb (dOf r2) 3) :: .n (gn (dOf r2) 4) :: .n (gn (dOf r2) 5) :: .n (gn (dOf r2) 6) :: .n (gn (dOf r2) 7) :: .n (gn (dOf r2) 8) :: .b (gb (dOf r2) 9) :: .n (gn (dOf r2) 10) :: .n (gn (dOf r2) 11) :: .n (gn (dOf r2) 12) :: .l (Ty.int IntKind.u8) (gl (Ty.int IntKind.u8) (dOf r2) 13) :: .n (gn (dOf r2) 14) :: .n (gn (dOf r2) 15) :: .n (gn (dOf r2) 16) :: []))))
         (.bad 351)))
       (.node (isK 1 [HK.n, HK.n, HK.n, HK.n, HK.n, HK.n, HK.n, HK.n, HK.n, HK.n, HK.n, HK.l (Ty.int IntKind.u8), HK.n, HK.b, HK.n, HK.n, HK.b] r1)
        (let r2 : Option (Nat × List Dat) := (op_97 [.n n1, .n n4, .n n28, .n n29, .b b30, .n n31, .n n32, .n n33, .n n34, .n n35, .b b36, .n n37, .n n38, .n n39, .l (Ty.int IntKind.u8) l40, .n n41, .n n42, .n n43]);
         (.node (isK 0 [HK.n, HK.n, HK.n, HK.b, HK.n, HK.n, HK.n, HK.n, HK.n, HK.b, HK.n, HK.n, HK.n, HK.l (Ty.int IntKind.u8), HK.n, HK.n, HK.n] r2)
          (.leaf ((1, (.b (gn (dOf r1) 0 == gn (dOf r2) 0) :: .n (gn (dOf r1) 1) :: .n (gn (dOf r1) 2) :: .n (gn (dOf r1) 3) :: .n (gn (dOf r1) 4) :: .n (gn (dOf r1) 5) :: .n (gn (dOf r1) 6) :: .n (gn (dOf r1) 7) :: .n (gn (dOf r1) 8) :: .n (gn (dOf r1) 9) :: .n (gn (dOf r1) 10) :: .l (Ty.int IntKind.u8) (gl (Ty.int IntKind.u8) (dOf r1) 11) :: .n (gn (dOf r1) 12) :: .b (gb (dOf r1) 13) :: .n (gn (dOf r1) 14) :: .n (gn (dOf r1) 15) :: .b (gb (dOf r1) 16) :: .n (gn (dOf r2) 1) :: .n (gn (dOf r2) 2) :: .b (gb (dOf r2) 3) :: .n (gn (dOf r2) 4) :: .n (gn (dOf r2) 5) :: .n (gn (dOf r2) 6) :: .n (gn (dOf r2) 7) :: .n (gn (dOf r2) 8) :: .b (gb (dOf r2) 9) :: .n (gn (dOf r2) 10) :: .n (gn (dOf r2) 11) :: .n (gn (dOf r2) 12) :: .l (Ty.int IntKind.u8) (gl (Ty.int IntKind.u8) (dOf r2) 13) :: .n (gn (dOf r2) 14) :: .n (gn (dOf r2) 15) :: .n (gn (dOf r2) 16) :: []))))
          (.bad 351)))
        (.bad 351))))
     (.node (Int.tmod n0 (8 : Int) == (4 : Int))
      (let r1 : Option (Nat × List Dat) := (op_34b [.n n1, .n n4, .n n12, .n n13, .n n14, .n n15, .n n16, .n n17, .n n18, .n n19, .n n20, .n n21, .l (Ty.int IntKind.u8) l22, .n n23, .b b24, .n n25, .n n26, .b b27]);
       (.node (isK 0 [HK.n, HK.n, HK.n, HK.n, HK.n, HK.n, HK.n, HK.n, HK.n, HK.n, HK.l (Ty.int IntKind.u8), HK.n, HK.b, HK.n, HK.n, HK.b] r1)
        (let r2 : Option (Nat × List Dat) := (op_98 [.n n1, .n n4, .n n28, .n n29, .b b30, .n n31, .n n32, .n n33, .n n34, .n n35, .b b36, .n n37, .n n38, .n n39, .l (Ty.int IntKind.u8) l40, .n n41, .n n42, .n n43]);
         (.node (isK 0 [HK.n, HK.n, HK.n, HK.b, HK.n, HK.n, HK.n, HK.n, HK.n, HK.b, HK.n, HK.n, HK.n, HK.l (Ty.int IntKind.u8), HK.n, HK.n, HK.n] r2)
          (.leaf ((0, (.b (gn (dOf r1) 0 == gn (dOf r2) 0) :: .n (gn (dOf r1) 1) :: .n (gn (dOf r1) 2) :: .n (gn (dOf r1) 3) :: .n (gn (dOf r1) 4) :: .n (gn (dOf r1) 5) :: .n (gn (dOf r1) 6) :: .n (gn (dOf r1) 7) :: .n (gn (dOf r1) 8) :: .n (gn (dOf r1) 9) :: .l (Ty.int IntKind.u8) (gl (Ty.int IntKind.u8) (dOf r1) 10) :: .n (gn (dOf r1) 11) :: .b (gb (dOf r1) 12) :: .n (gn (dOf r1) 13) :: .n (gn (dOf r1) 14) :: .b (gb (dOf r1) 15) :: .n (gn (dOf r2) 1) :: .n (gn (dOf r2) 2) :: .b (gb (dOf r2) 3) :: .n (gn (dOf r2) 4) :: .n (gn (dOf r2) 5) :: .n (gn (dOf r2) 6) :: .n (gn (dOf r2) 7) :: .n (gn (dOf r2) 8) :: .b (gb (dOf r2) 9) :: .n (gn (dOf r2) 10) :: .n (gn (dOf r2) 11) :: .n (gn (dOf r2) 12) :: .l (Ty.int IntKind.u8) (gl (Ty.int IntKind.u8) (dOf r2) 13) :: .n (gn (dOf r2) 14) :: .n (gn (dOf r2) 15) :: .n (gn (dOf r2) 16) :: []))))
          (.bad 351)))
        (.node (isK 1 [HK.n, HK.n, HK.n, HK.n, HK.n, HK.n, HK.n, HK.n, HK.n, HK.n, HK.n, HK.l (Ty.int IntKind.u8), HK.n, HK.b, HK.n, HK.n, HK.b] r1)
         (let r2 : Option (Nat × List Dat) := (op_98 [.n n1, .n n4, .n n28, .n n29, .b b30, .n n31, .n n32, .n n33, .n n34, .n n35, .b b36, .n n37, .n n38, .n n39, .l (Ty.int IntKind.u8) l40, .n n41, .n n42, .n n43]);
          (.node (isK 0 [HK.n, HK.n, HK.n, HK.b, HK.n, HK.n, HK.n, HK.n, HK.n, HK.b, HK.n, HK.n, HK.n, HK.l (Ty.int IntKind.u8), HK.n, HK.n, HK.n] r2)
           (.leaf ((1, (.b (gn (dOf r1) 0 == gn (dOf r2) 0) :: .n (gn (dOf r1) 1) :: .n (gn (dOf r1) 2) :: .n (gn (dOf r1) 3) :: .n (gn (dOf r1) 4) :: .n (gn (dOf r1) 5) :: .n (gn (dOf r1) 6) :: .n (gn (dOf r1) 7) :: .n (gn (dOf r1) 8) :: .n (gn (dOf r1) 9) :: .n (gn (dOf r1) 10) :: .l (Ty.int IntKind.u8) (gl (Ty.int IntKind.u8) (dOf r1) 11) :: .n (gn (dOf r1) 12) :: .b (gb (dOf r1) 13) :: .n (gn (dOf r1) 14) :: .n (gn (dOf r1) 15) :: .b (gb (dOf r1) 16) :: .n (gn (dOf r2) 1) :: .n (gn (dOf r2) 2) :: .b (gb (dOf r2) 3) :: .n (gn (dOf r2) 4) :: .n (gn (dOf r2) 5) :: .n (gn (dOf r2) 6) :: .n (gn (dOf r2) 7) :: .n (gn (dOf r2) 8) :: .b (gb (dOf r2) 9) :: .n (gn (dOf r2) 10) :: .n (gn (dOf r2) 11) :: .n (gn (dOf r2) 12) :: .l (Ty.int IntKind.u8) (gl (Ty.int IntKind.u8) (dOf r2) 13) :: .n (gn (dOf r2) 14) :: .n (gn (dOf r2) 15) :: .n (gn (dOf r2) 16) :: []))))
           (.bad 351)))
         (.bad 351))))
      (.node (Int.tmod n0 (8 : Int) == (5 : Int))
       (let r1 : Option (Nat × List Dat) := (op_35b [.n n12, .n n13, .n n14, .n n15, .n n16, .n n17, .n n18, .n n19, .n n20, .n n21, .l (Ty.int IntKind.u8) l22, .n n23, .b b24, .n n25, .n n26, .b b27]);
        (.node (isK 0 [HK.n, HK.n, HK.n, HK.n, HK.n, HK.n, HK.n, HK.n, HK.n, HK.l (Ty.int IntKind.u8), HK.n, HK.b, HK.n, HK.n, HK.b] r1)
         (let r2 : Option (Nat × List Dat) := (op_99 [.n n28, .n n29, .b b30, .n n31, .n n32, .n n33, .n n34, .n n35, .b b36, .n n37, .n n38, .n n39, .l (Ty.int IntKind.u8) l40, .n n41, .n n42, .n n43]);
          (.node (isK 0 [HK.n, HK.n, HK.b, HK.n, HK.n, HK.n, HK.n, HK.n, HK.b, HK.n, HK.n, HK.n, HK.l (Ty.int IntKind.u8), HK.n, HK.n, HK.n] r2)
           (.leaf ((0, (.b true :: .n (gn (dOf r1) 0) :: .n (gn (dOf r1) 1) :: .n (gn (dOf r1) 2) :: .n (gn (dOf r1) 3) :: .n (gn (dOf r1) 4) :: .n (gn (dOf r1) 5) :: .n (gn (dOf r1) 6) :: .n (gn (dOf r1) 7) :: .n (gn (dOf r1) 8) :: .l (Ty.int IntKind.u8) (gl (Ty.int IntKind.u8) (dOf r1) 9) :: .n (gn (dOf r1) 10) :: .b (gb (dOf r1) 11) :: .n (gn (dOf r1) 12) :: .n (gn (dOf r1) 13) :: .b (gb (dOf r1) 14) :: .n (gn (dOf r2) 0) :: .n (gn (dOf r2) 1) :: .b (gb (dOf r2) 2) :: .n (gn (dOf r2) 3) :: .n (gn (dOf r2) 4) :: .n (gn (dOf r2) 5) :: .n (gn (dOf r2) 6) :: .n (gn (dOf r2) 7) :: .b (gb (dOf r2) 8) :: .n (gn (dOf r2) 9) :: .n (gn (dOf r2) 10) :: .n (gn (dOf r2) 11) :: .l (Ty.int IntKind.u8) (gl (Ty.int IntKind.u8) (dOf r2) 12) :: .n (gn (dOf r2) 13) :: .n (gn (dOf r2) 14) :: .n (gn (dOf r2) 15) :: []))))
           (.bad 351)))
         (.node (isK 1 [HK.n, HK.n, HK.n, HK.n, HK.n, HK.n, HK.n, HK.n, HK.n, HK.n, HK.l (Ty.int IntKind.u8), HK.n, HK.b, HK.n, HK.n, HK.b] r1)
          (let r2 : Option (Nat × List Dat) := (op_99 [.n n28, .n n29, .b b30, .n n31, .n n32, .n n33, .n n34, .n n35, .b b36, .n n37, .n n38, .n n39, .l (Ty.int IntKind.u8) l40, .n n41, .n n42, .n n43]);
           (.node (isK 0 [HK.n, HK.n, HK.b, HK.n, HK.n, HK.n, HK.n, HK.n, HK.b, HK.n, HK.n, HK.n, HK.l (Ty.int IntKind.u8), HK.n, HK.n, HK.n] r2)
            (.leaf ((1, (.b true :: .n (gn (dOf r1) 0) :: .n (gn (dOf r1) 1) :: .n (gn (dOf r1) 2) :: .n (gn (dOf r1) 3) :: .n (gn (dOf r1) 4) :: .n (gn (dOf r1) 5) :: .n (gn (dOf r1) 6) :: .n (gn (dOf r1) 7) :: .n (gn (dOf r1) 8) :: .n (gn (dOf r1) 9) :: .l (Ty.int IntKind.u8) (gl (Ty.int IntKind.u8) (dOf r1) 10) :: .n (gn (dOf r1) 11) :: .b (gb (dOf r1) 12) :: .n (gn (dOf r1) 13) :: .n (gn (dOf r1) 14) :: .b (gb (dOf r1) 15) :: .n (gn (dOf r2) 0) :: .n (gn (dOf r2) 1) :: .b (gb (dOf r2) 2) :: .n (gn (dOf r2) 3) :: .n (gn (dOf r2) 4) :: .n (gn (dOf r2) 5) :: .n (gn (dOf r2) 6) :: .n (gn (dOf r2) 7) :: .b (gb (dOf r2) 8) :: .n (gn (dOf r2) 9) :: .n (gn (dOf r2) 10) :: .n (gn (dOf r2) 11) :: .l (Ty.int IntKind.u8) (gl (Ty.int IntKind.u8) (dOf r2) 12) :: .n (gn (dOf r2) 13) :: .n (gn (dOf r2) 14) :: .n (gn (dOf r2) 15) :: []))))
            (.bad 351)))
          (.bad 351))))
       (.node (Int.tmod n0 (8 : Int) == (6 : Int))
        (let r1 : Option (Nat × List Dat) := (op_35b [.n n12, .n n13, .n n14, .n n15, .n n16, .n n17, .n n18, .n n19, .n n20, .n n21, .l (Ty.int IntKind.u8) l22, .n n23, .b b24, .n n25, .n n26, .b b27]);
         (.node (isK 0 [HK.n, HK.n, HK.n, HK.n, HK.n, HK.n, HK.n, HK.n, HK.n, HK.l (Ty.int IntKind.u8), HK.n, HK.b, HK.n, HK.n, HK.b] r1)
          (let r2 : Option (Nat × List Dat) := (op_99 [.n n28, .n n29, .b b30, .n n31, .n n32, .n n33, .n n34, .n n35, .b b36, .n n37, .n n38, .n n39, .l (Ty.int IntKind.u8) l40, .n n41, .n n42, .n n43]);
           (.node (isK 0 [HK.n, HK.n, HK.b, HK.n, HK.n, HK.n, HK.n, HK.n, HK.b, HK.n, HK.n, HK.n, HK.l (Ty.int IntKind.u8), HK.n, HK.n, HK.n] r2)
            (.leaf ((0, (.b true :: .n (gn (dOf r1) 0) :: .n (gn (dOf r1) 1) :: .n (gn (dOf r1) 2) :: .n (gn (dOf r1) 3) :: .n (gn (dOf r1) 4) :: .n (gn (dOf r1) 5) :: .n (gn (dOf r1) 6) :: .n (gn (dOf r1) 7) :: .n (gn (dOf r1) 8) :: .l (Ty.int IntKind.u8) (gl (Ty.int IntKind.u8) (dOf r1) 9) :: .n (gn (dOf r1) 10) :: .b (gb (dOf r1) 11) :: .n (gn (dOf r1) 12) :: .n (gn (dOf r1) 13) :: .b (gb (dOf r1) 14) :: .n (gn (dOf r2) 0) :: .n (gn (dOf r2) 1) :: .b (gb (dOf r2) 2) :: .n (gn (dOf r2) 3) :: .n (gn (dOf r2) 4) :: .n (gn (dOf r2) 5) :: .n (gn (dOf r2) 6) :: .n (gn (dOf r2) 7) :: .b (gb (dOf r2) 8) :: .n (gn (dOf r2) 9) :: .n (gn (dOf r2) 10) :: .n (gn (dOf r2) 11) :: .l (Ty.int IntKind.u8) (gl (Ty.int IntKind.u8) (dOf r2) 12) :: .n (gn (dOf r2) 13) :: .n (gn (dOf r2) 14) :: .n (gn (dOf r2) 15) :: []))))
            (.bad 351)))
          (.node (isK 1 [HK.n, HK.n, HK.n, HK.n, HK.n, HK.n, HK.n, HK.n, HK.n, HK.n, HK.l (Ty.int IntKind.u8), HK.n, HK.b, HK.n, HK.n, HK.b] r1)
           (let r2 : Option (Nat × List Dat) := (op_99 [.n n28, .n n29, .b b30, .n n31, .n n32, .n n33, .n n34, .n n35, .b b36, .n n37, .n n38, .n n39, .l (Ty.int IntKind.u8) l40, .n n41, .n n42, .n n43]);
            (.node (isK 0 [HK.n, HK.n, HK.b, HK.n, HK.n, HK.n, HK.n, HK.n, HK.b, HK.n, HK.n, HK.n, HK.l (Ty.int IntKind.u8), HK.n, HK.n, HK.n] r2)
             (.leaf ((1, (.b true :: .n (gn (dOf r1) 0) :: .n (gn (dOf r1) 1) :: .n (gn (dOf r1) 2) :: .n (gn (dOf r1) 3) :: .n (gn (dOf r1) 4) :: .n (gn (dOf r1) 5) :: .n (gn (dOf r1) 6) :: .n (gn (dOf r1) 7) :: .n (gn (dOf r1) 8) :: .n (gn (dOf r1) 9) :: .l (Ty.int IntKind.u8) (gl (Ty.int IntKind.u8) (dOf r1) 10) :: .n (gn (dOf r1) 11) :: .b (gb (dOf r1) 12) :: .n (gn (dOf r1) 13) :: .n (gn (dOf r1) 14) :: .b (gb (dOf r1) 15) :: .n (gn (dOf r2) 0) :: .n (gn (dOf r2) 1) :: .b (gb (dOf r2) 2) :: .n (gn (dOf r2) 3) :: .n (gn (dOf r2) 4) :: .n (gn (dOf r2) 5) :: .n (gn (dOf r2) 6) :: .n (gn (dOf r2) 7) :: .b (gb (dOf r2) 8) :: .n (gn (dOf r2) 9) :: .n (gn (dOf r2) 10) :: .n (gn (dOf r2) 11) :: .l (Ty.int IntKind.u8) (gl (Ty.int IntKind.u8) (dOf r2) 12) :: .n (gn (dOf r2) 13) :: .n (gn (dOf r2) 14) :: .n (gn (dOf r2) 15) :: []))))
             (.bad 351)))
           (.bad 351))))
        (.node (Int.tmod n0 (8 : Int) == (7 : Int))
         (let r1 : Option (Nat × List Dat) := (op_36b [.n n12, .n n13, .n n14, .n n15, .n n16, .n n17, .n n18, .n n19, .n n20, .n n21, .l (Ty.int IntKind.u8) l22, .n n23, .b b24, .n n25, .n n26, .b b27]);
          (.node (isK 0 [HK.n, HK.n, HK.n, HK.n, HK.n, HK.n, HK.n, HK.n, HK.n, HK.n, HK.l (Ty.int IntKind.u8), HK.n, HK.b, HK.n, HK.n, HK.b] r1)
           (let r2 : Option (Nat × List Dat) := (op_100 [.n n28, .n n29, .b b30, .n n31, .n n32, .n n33, .n n34, .n n35, .b b36, .n n37, .n n38, .n n39, .l (Ty.int IntKind.u8) l40, .n n41, .n n42, .n n43]);
            (.node (isK 0 [HK.n, HK.n, HK.n, HK.b, HK.n, HK.n, HK.n, HK.n, HK.n, HK.b, HK.n, HK.n, HK.n, HK.l (Ty.int IntKind.u8), HK.n, HK.n, HK.n] r2)
             (.leaf ((0, (.b (gn (dOf r1) 0 == gn (dOf r2) 0) :: .n (gn (dOf r1) 1) :: .n (gn (dOf r1) 2) :: .n (gn (dOf r1) 3) :: .n (gn (dOf r1) 4) :: .n (gn (dOf r1) 5) :: .n (gn (dOf r1) 6) :: .n (gn (dOf r1) 7) :: .n (gn (dOf r1) 8) :: .n (gn (dOf r1) 9) :: .l (Ty.int IntKind.u8) (gl (Ty.int IntKind.u8) (dOf r1) 10) :: .n (gn (dOf r1) 11) :: .b (gb (dOf r1) 12) :: .n (gn (dOf r1) 13) :: .n (gn (dOf r1) 14) :: .b (gb (dOf r1) 15) :: .n (gn (dOf r2) 1) :: .n (gn (dOf r2) 2) :: .b (gb (dOf r2) 3) :: .n (gn (dOf r2) 4) :: .n (gn (dOf r2) 5) :: .n (gn (dOf r2) 6) :: .n (gn (dOf r2) 7) :: .n (gn (dOf r2) 8) :: .b (gb (dOf r2) 9) :: .n (gn (dOf r2) 10) :: .n (gn (dOf r2) 11) :: .n (gn (dOf r2) 12) :: .l (Ty.int IntKind.u8) (gl (Ty.int IntKind.u8) (dOf r2) 13) :: .n (gn (dOf r2) 14) :: .n (gn (dOf r2) 15) :: .n (gn (dOf r2) 16) :: []))))
             (.bad 351)))
           (.node (isK 1 [HK.n, HK.n, HK.n, HK.n, HK.n, HK.n, HK.n, HK.n, HK.n, HK.n, HK.n, HK.l (Ty.int IntKind.u8), HK.n, HK.b, HK.n, HK.n, HK.b] r1)
            (let r2 : Option (Nat × List Dat) := (op_100 [.n n28, .n n29, .b b30, .n n31, .n n32, .n n33, .n n34, .n n35, .b b36, .n n37, .n n38, .n n39, .l (Ty.int IntKind.u8) l40, .n n41, .n n42, .n n43]);
             (.node (isK 0 [HK.n, HK.n, HK.n, HK.b, HK.n, HK.n, HK.n, HK.n, HK.n, HK.b, HK.n, HK.n, HK.n, HK.l (Ty.int IntKind.u8), HK.n, HK.n, HK.n] r2)
              (.leaf ((1, (.b (gn (dOf r1) 0 == gn (dOf r2) 0) :: .n (gn (dOf r1) 1) :: .n (gn (dOf r1) 2) :: .n (gn (dOf r1) 3) :: .n (gn (dOf r1) 4) :: .n (gn (dOf r1) 5) :: .n (gn (dOf r1) 6) :: .n (gn (dOf r1) 7) :: .n (gn (dOf r1) 8) :: .n (gn (dOf r1) 9) :: .n (gn (dOf r1) 10) :: .l (Ty.int IntKind.u8) (gl (Ty.int IntKind.u8) (dOf r1) 11) :: .n (gn (dOf r1) 12) :: .b (gb (dOf r1) 13) :: .n (gn (dOf r1) 14) :: .n (gn (dOf r1) 15) :: .b (gb (dOf r1) 16) :: .n (gn (dOf r2) 1) :: .n (gn (dOf r2) 2) :: .b (gb (dOf r2) 3) :: .n (gn (dOf r2) 4) :: .n (gn (dOf r2) 5) :: .n (gn (dOf r2) 6) :: .n (gn (dOf r2) 7) :: .n (gn (dOf r2) 8) :: .b (gb (dOf r2) 9) :: .n (gn (dOf r2) 10) :: .n (gn (dOf r2) 11) :: .n (gn (dOf r2) 12) :: .l (Ty.int IntKind.u8) (gl (Ty.int IntKind.u8) (dOf r2) 13) :: .n (gn (dOf r2) 14) :: .n (gn (dOf r2) 15) :: .n (gn (dOf r2) 16) :: []))))
              (.bad 351)))
            (.bad 351))))
         (let r1 : Option (Nat × List Dat) := (op_37b [.n n1, .n n2, .n n3, .n n4, .n n5, .n n6, .n n7, .n n8, .n n9, .l (Ty.int IntKind.u8) l10, .n n11, .n n12, .n n13, .n n14, .n n15, .n n16, .n n17, .n n18, .n n19, .n n20, .n n21, .l (Ty.int IntKind.u8) l22, .n n23, .b b24, .n n25, .n n26, .b b27]);
          (.node (isK 0 [HK.n, HK.n, HK.n, HK.n, HK.n, HK.n, HK.n, HK.n, HK.n, HK.n, HK.l (Ty.int IntKind.u8), HK.n, HK.b, HK.n, HK.n, HK.b] r1)
           (let r2 : Option (Nat × List Dat) := (op_101 [.n n1, .n n4, .n n3, .n n5, .n n6, .n n7, .n n8, .n n9, .l (Ty.int IntKind.u8) l10, .n n11, .n n28, .n n29, .b b30, .n n31, .n n32, .n n33, .n n34, .n n35, .b b36, .n n37, .n n38, .n n39, .l (Ty.int IntKind.u8) l40, .n n41, .n n42, .n n43]);
            (.node (isK 0 [HK.n, HK.n, HK.n, HK.b, HK.n, HK.n, HK.n, HK.n, HK.n, HK.b, HK.n, HK.n, HK.n, HK.l (Ty.int IntKind.u8), HK.n, HK.n, HK.n] r2)
             (.leaf ((0, (.b (gn (dOf r1) 0 == gn (dOf r2) 0) :: .n (gn (dOf r1) 1) :: .n (gn (dOf r1) 2) :: .n (gn (dOf r1) 3) :: .n (gn (dOf r1) 4) :: .n (gn (dOf r1) 5) :: .n (gn (dOf r1) 6) :: .n (gn (dOf r1) 7) :: .n (gn (dOf r1) 8) :: .n (gn (dOf r1) 9) :: .l (Ty.int IntKind.u8) (gl (Ty.int IntKind.u8) (dOf r1) 10) :: .n (gn (dOf r1) 11) :: .b (gb (dOf r1) 12) :: .n (gn (dOf r1) 13) :: .n (gn (dOf r1) 14) :: .b (gb (dOf r1) 15) :: .n (gn (dOf r2) 1) :: .n (gn (dOf r2) 2) :: .b (gb (dOf r2) 3) :: .n (gn (dOf r2) 4) :: .n (gn (dOf r2) 5) :: .n (gn (dOf r2) 6) :: .n (gn (dOf r2) 7) :: .n (gn (dOf r2) 8) :: .b (gb (dOf r2) 9) :: .n (gn (dOf r2) 10) :: .n (gn (dOf r2) 11) :: .n (gn (dOf r2) 12) :: .l (Ty.int IntKind.u8) (gl (Ty.int IntKind.u8) (dOf r2) 13) :: .n (gn (dOf r2) 14) :: .n (gn (dOf r2) 15) :: .n (gn (dOf r2) 16) :: []))))
             (.bad 351)))
           (.node (isK 1 [HK.n, HK.n, HK.n, HK.n, HK.n, HK.n, HK.n, HK.n, HK.n, HK.n, HK.n, HK.l (Ty.int IntKind.u8), HK.n, HK.b, HK.n, HK.n, HK.b] r1)
            (let r2 : Option (Nat × List Dat) := (op_101 [.n n1, .n n4, .n n3, .n n5, .n n6, .n n7, .n n8, .n n9, .l (Ty.int IntKind.u8) l10, .n n11, .n n28, .n n29, .b b30, .n n31, .n n32, .n n33, .n n34, .n n35, .b b36, .n n37, .n n38, .n n39, .l (Ty.int IntKind.u8) l40, .n n41, .n n42, .n n43]);
             (.node (isK 0 [HK.n, HK.n, HK.n, HK.b, HK.n, HK.n, HK.n, HK.n, HK.n, HK.b, HK.n, HK.n, HK.n, HK.l (Ty.int IntKind.u8), HK.n, HK.n, HK.n] r2)
              (.leaf ((1, (.b (gn (dOf r1) 0 == gn (dOf r2) 0) :: .n (gn (dOf r1) 1) :: .n (gn (dOf r1) 2) :: .n (gn (dOf r1) 3) :: .n (gn (dOf r1) 4) :: .n (gn (dOf r1) 5) :: .n (gn (dOf r1) 6) :: .n (gn (dOf r1) 7) :: .n (gn (dOf r1) 8) :: .n (gn (dOf r1) 9) :: .n (gn (dOf r1) 10) :: .l (Ty.int IntKind.u8) (gl (Ty.int IntKind.u8) (dOf r1) 11) :: .n (gn (dOf r1) 12) :: .b (gb (dOf r1) 13) :: .n (gn (dOf r1) 14) :: .n (gn (dOf r1) 15) :: .b (gb (dOf r1) 16) :: .n (gn (dOf r2) 1) :: .n (gn (dOf r2) 2) :: .b (gb (dOf r2) 3) :: .n (gn (dOf r2) 4) :: .n (gn (dOf r2) 5) :: .n (gn (dOf r2) 6) :: .n (gn (dOf r2) 7) :: .n (gn (dOf r2) 8) :: .b (gb (dOf r2) 9) :: .n (gn (dOf r2) 10) :: .n (gn (dOf r2) 11) :: .n (gn (dOf r2) 12) :: .l (Ty.int IntKind.u8) (gl (Ty.int IntKind.u8) (dOf r2) 13) :: .n (gn (dOf r2) 14) :: .n (gn (dOf r2) 15) :: .n (gn (dOf r2) 16) :: []))))
              (.bad 351)))
            (.bad 351)))))))))
  | _ => .bad 0
def op_32b : List Dat → Option (Nat × List Dat) := fun env => (fn_32b env).sel
def B32b : FBox := (mkF [.ptr 0 0, .ptr 1 0, caV 0] [rlB 12, rmB 28] [0, 1] [(.bool 0, [rlA 1, rmB 16]), (.bool 0, [rlB 1, rmB 17])] op_32b)
def cs_32b : FuncId → Option CSpec := csAdd 32 [B32a, B32b] cs_31b
def fr_32b : List Dat → Tree (Nat × List Dat)
  | (.n n0 :: .n n1 :: .n n2 :: .n n3 :: .n n4 :: .n n5 :: .n n6 :: .n n7 :: .n n8 :: .n n9 :: .l (Ty.int IntKind.u8) l10 :: .n n11 :: .n n12 :: .n n13 :: .n n14 :: .n n15 :: .n n16 :: .n n17 :: .n n18 :: .n n19 :: .n n20 :: .n n21 :: .l (Ty.int IntKind.u8) l22 :: .n n23 :: .b b24 :: .n n25 :: .n n26 :: .b b27 :: .n n28 :: .n n29 :: .b b30 :: .n n31 :: .n n32 :: .n n33 :: .n n34 :: .n n35 :: .b b36 :: .n n37 :: .n n38 :: .n n39 :: .l (Ty.int IntKind.u8) l40 :: .n n41 :: .n n42 :: .n n43 :: []) =>
    (.node (Int.tmod n0 (8 : Int) == (3 : Int))
     (let r1 : Option (Nat × List Dat) := (op_33b [.n n1, .n n4, .n n12, .n n13, .n n14, .n n15, .n n16, .n n17, .n n18, .n n19, .n n20, .n n21, .l (Ty.int IntKind.u8) l22, .n n23, .b b24, .n n25, .n n26, .b b27]);
      (.node (isK 0 [HK.n, HK.n, HK.n, HK.n, HK.n, HK.n, HK.n, HK.n, HK.n, HK.n, HK.l (Ty.int IntKind.u8), HK.n, HK.b, HK.n, HK.n, HK.b] r1)
       (let r2 : Option (Nat × List Dat) := (op_97 [.n n1, .n n4, .n n28, .n n29, .b b30, .n n31, .n n32, .n n33, .n n34, .n n35, .b b36, .n n37, .n n38, .n n39, .l (Ty.int IntKind.u8) l40, .n n41, .n n42, .n n43]);
        (.node (isK 0 [HK.n, HK.n, HK.n, HK.b, HK.n, HK.n, HK.n, HK.n, HK.n, HK.b, HK.n, HK.n, HK.n, HK.l (Ty.int IntKind.u8), HK.n, HK.n, HK.n] r2)
         (.leaf ((0, (.b (gn (dOf r1) 0 == gn (dOf r2) 0) :: .n (gn (dOf r1) 1) :: .n (gn (dOf r1) 2) :: .n (gn (dOf r1) 3) :: .n (gn (dOf r1) 4) :: .n (gn (dOf r1) 5) :: .n (gn (dOf r1) 6) :: .n (gn (dOf r1) 7) :: .n (gn (dOf r1) 8) :: .n (gn (dOf r1) 9) :: .l (Ty.int IntKind.u8) (gl (Ty.int IntKind.u8) (dOf r1) 10) :: .n (gn (dOf r1) 11) :: .b (gb (dOf r1) 12) :: .n (gn (dOf r1) 13) :: .n (gn (dOf r1) 14) :: .b (gb (dOf r1) 15) :: .n (gn (dOf r2) 1) :: .n (gn (dOf r2) 2) :: .b (gb (dOf r2) 3) :: .n (gn (dOf r2) 4) :: .n (gn (dOf r2) 5) :: .n (gn (dOf r2) 6) :: .n (gn (dOf r2) 7) :: .n (gn (dOf r2) 8) :: .b (gb (dOf r2) 9) :: .n (gn (dOf r2) 10) :: .n (gn (dOf r2) 11) :: .n (gn (dOf r2) 12) :: .l (Ty.int IntKind.u8) (gl (Ty.int IntKind.u8) (dOf r2) 13) :: .n (gn (dOf r2) 14) :: .n (gn (dOf r2) 15) :: .n (gn (dOf r2) 16) :: []))))
         (.bad 351)))
       (.node (isK 1 [HK.n, HK.n, HK.n, HK.n, HK.n, HK.n, HK.n, HK.n, HK.n, HK.n, HK.n, HK.l (Ty.int IntKind.u8), HK.n, HK.b, HK.n, HK.n, HK.b] r1)
        (let r2 : Option (Nat × List Dat) := (op_97 [.n n1, .n n4, .n n28, .n n29, .b b30, .n n31, .n n32, .n n33, .n n34, .n n35, .b b36, .n n37, .n n38, .n n39, .l (Ty.int IntKind.u8) l40, .n n41, .n n42, .n n43]);
         (.node (isK 0 [HK.n, HK.n, HK.n, HK.b, HK.n, HK.n, HK.n, HK.n, HK.n, HK.b, HK.n, HK.n, HK.n, HK.l (Ty.int IntKind.u8), HK.n, HK.n, HK.n] r2)
          (.leaf ((1, (.b (gn (dOf r1) 0 == gn (dOf r2) 0) :: .n (gn (dOf r1) 1) :: .n (gn (dOf r1) 2) :: .n (gn (dOf r1) 3) :: .n (gn (dOf r1) 4) :: .n (gn (dOf r1) 5) :: .n (gn (dOf r1) 6) :: .n (gn (dOf r1) 7) :: .n (gn (dOf r1) 8) :: .n (gn (dOf r1) 9) :: .n (gn (dOf r1) 10) :: .l (Ty.int IntKind.u8) (gl (Ty.int IntKind.u8) (dOf r1) 11) :: .n (gn (dOf r1) 12) :: .b (gb (dOf r1) 13) :: .n (gn (dOf r1) 14) :: .n (gn (dOf r1) 15) :: .b (gb (dOf r1) 16) :: .n (gn (dOf r2) 1) :: .n (gn (dOf r2) 2) :: .b (gb (dOf r2) 3) :: .n (gn (dOf r2) 4) :: .n (gn (dOf r2) 5) :: .n (gn (dOf r2) 6) :: .n (gn (dOf r2) 7) :: .n (gn (dOf r2) 8) :: .b (gb (dOf r2) 9) :: .n (gn (dOf r2) 10) :: .n (gn (dOf r2) 11) :: .n (gn (dOf r2) 12) :: .l (Ty.int IntKind.u8) (gl (Ty.int IntKind.u8) (dOf r2) 13) :: .n (gn (dOf r2) 14) :: .n (gn (dOf r2) 15) :: .n (gn (dOf r2) 16) :: []))))
          (.bad 351)))
        (.bad 351))))
     (.node (Int.tmod n0 (8 : Int) == (4 : Int))
      (let r1 : Option (Nat × List Dat) := (op_34b [.n n1, .n n4, .n n12, .n n13, .n n14, .n n15, .n n16, .n n17, .n n18, .n n19, .n n20, .n n21, .l (Ty.int IntKind.u8) l22, .n n23, .b b24, .n n25, .n n26, .b b27]);
       (.node (isK 0 [HK.n, HK.n, HK.n, HK.n, HK.n, HK.n, HK.n, HK.n, HK.n, HK.n, HK.l (Ty.int IntKind.u8), HK.n, HK.b, HK.n, HK.n, HK.b] r1)
        (let r2 : Option (Nat × List Dat) := (op_98 [.n n1, .n n4, .n n28, .n n29, .b b30, .n n31, .n n32, .n n33, .n n34, .n n35, .b b36, .n n37, .n n38, .n n39, .l (Ty.int IntKind.u8) l40, .n n41, .n n42, .n n43]);
         (.node (isK 0 [HK.n, HK.n, HK.n, HK.b, HK.n, HK.n, HK.n, HK.n, HK.n, HK.b, HK.n, HK.n, HK.n, HK.l (Ty.int IntKind.u8), HK.n, HK.n, HK.n] r2)
          (.leaf ((0, (.b (gn (dOf r1) 0 == gn (dOf r2) 0) :: .n (gn (dOf r1) 1) :: .n (gn (dOf r1) 2) :: .n (gn (dOf r1) 3) :: .n (gn (dOf r1) 4) :: .n (gn (dOf r1) 5) :: .n (gn (dOf r1) 6) :: .n (gn (dOf r1) 7) :: .n (gn (dOf r1) 8) :: .n (gn (dOf r1) 9) :: .l (Ty.int IntKind.u8) (gl (Ty.int IntKind.u8) (dOf r1) 10) :: .n (gn (dOf r1) 11) :: .b (gb (dOf r1) 12) :: .n (gn (dOf r1) 13) :: .n (gn (dOf r1) 14) :: .b (gb (dOf r1) 15) :: .n (gn (dOf r2) 1) :: .n (gn (dOf r2) 2) :: .b (gb (dOf r2) 3) :: .n (gn (dOf r2) 4) :: .n (gn (dOf r2) 5) :: .n (gn (dOf r2) 6) :: .n (gn (dOf r2) 7) :: .n (gn (dOf r2) 8) :: .b (gb (dOf r2) 9) :: .n (gn (dOf r2) 10) :: .n (gn (dOf r2) 11) :: .n (gn (dOf r2) 12) :: .l (Ty.int IntKind.u8) (gl (Ty.int IntKind.u8) (dOf r2) 13) :: .n (gn (dOf r2) 14) :: .n (gn (dOf r2) 15) :: .n (gn (dOf r2) 16) :: []))))
          (.bad 351)))
        (.node (isK 1 [HK.n, HK.n, HK.n, HK.n, HK.n, HK.n, HK.n, HK.n, HK.n, HK.n, HK.n, HK.l (Ty.int IntKind.u8), HK.n, HK.b, HK.n, HK.n, HK.b] r1)
         (let r2 : Option (Nat × List Dat) := (op_98 [.n n1, .n n4, .n n28, .n n29, .b b30, .n n31, .n n32, .n n33, .n n34, .n n35, .b b36, .n n37, .n n38, .n n39, .l (Ty.int IntKind.u8) l40, .n n41, .n n42, .n n43]);
          (.node (isK 0 [HK.n, HK.n, HK.n, HK.b, HK.n, HK.n, HK.n, HK.n, HK.n, HK.b, HK.n, HK.n, HK.n, HK.l (Ty.int IntKind.u8), HK.n, HK.n, HK.n] r2)
           (.leaf ((1, (.b (gn (dOf r1) 0 == gn (dOf r2) 0) :: .n (gn (dOf r1) 1) :: .n (gn (dOf r1) 2) :: .n (gn (dOf r1) 3) :: .n (gn (dOf r1) 4) :: .n (gn (dOf r1) 5) :: .n (gn (dOf r1) 6) :: .n (gn (dOf r1) 7) :: .n (gn (dOf r1) 8) :: .n (gn (dOf r1) 9) :: .n (gn (dOf r1) 10) :: .l (Ty.int IntKind.u8) (gl (Ty.int IntKind.u8) (dOf r1) 11) :: .n (gn (dOf r1) 12) :: .b (gb (dOf r1) 13) :: .n (gn (dOf r1) 14) :: .n (gn (dOf r1) 15) :: .b (gb (dOf r1) 16) :: .n (gn (dOf r2) 1) :: .n (gn (dOf r2) 2) :: .b (gb (dOf r2) 3) :: .n (gn (dOf r2) 4) :: .n (gn (dOf r2) 5) :: .n (gn (dOf r2) 6) :: .n (gn (dOf r2) 7) :: .n (gn (dOf r2) 8) :: .b (gb (dOf r2) 9) :: .n (gn (dOf r2) 10) :: .n (gn (dOf r2) 11) :: .n (gn (dOf r2) 12) :: .l (Ty.int IntKind.u8) (gl (Ty.int IntKind.u8) (dOf r2) 13) :: .n (gn (dOf r2) 14) :: .n (gn (dOf r2) 15) :: .n (gn (dOf r2) 16) :: []))))
           (.bad 351)))
         (.bad 351))))
      (.node (Int.tmod n0 (8 : Int) == (5 : Int))
       (.node (Int.tmod n0 (8 : Int) == (5 : Int))
        (let r1 : Option (Nat × List Dat) := (op_35b [.n n12, .n n13, .n n14, .n n15, .n n16, .n n17, .n n18, .n n19, .n n20, .n n21, .l (Ty.int IntKind.u8) l22, .n n23, .b b24, .n n25, .n n26, .b b27]);
         (.node (isK 0 [HK.n, HK.n, HK.n, HK.n, HK.n, HK.n, HK.n, HK.n, HK.n, HK.l (Ty.int IntKind.u8), HK.n, HK.b, HK.n, HK.n, HK.b] r1)
          (let r2 : Option (Nat × List Dat) := (op_99 [.n n28, .n n29, .b b30, .n n31, .n n32, .n n33, .n n34, .n n35, .b b36, .n n37, .n n38, .n n39, .l (Ty.int IntKind.u8) l40, .n n41, .n n42, .n n43]);
           (.node (isK 0 [HK.n, HK.n, HK.b, HK.n, HK.n, HK.n, HK.n, HK.n, HK.b, HK.n, HK.n, HK.n, HK.l (Ty.int IntKind.u8), HK.n, HK.n, HK.n] r2)
            (.leaf ((0, (.b true :: .n (gn (dOf r1) 0) :: .n (gn (dOf r1) 1) :: .n (gn (dOf r1) 2) :: .n (gn (dOf r1) 3) :: .n (gn (dOf r1) 4) :: .n (gn (dOf r1) 5) :: .n (gn (dOf r1) 6) :: .n (gn (dOf r1) 7) :: .n (gn (dOf r1) 8) :: .l (Ty.int IntKind.u8) (gl (Ty.int IntKind.u8) (dOf r1) 9) :: .n (gn (dOf r1) 10) :: .b (gb (dOf r1) 11) :: .n (gn (dOf r1) 12) :: .n (gn (dOf r1) 13) :: .b (gb (dOf r1) 14) :: .n (gn (dOf r2) 0) :: .n (gn (dOf r2) 1) :: .b (gb (dOf r2) 2) :: .n (gn (dOf r2) 3) :: .n (gn (dOf r2) 4) :: .n (gn (dOf r2) 5) :: .n (gn (dOf r2) 6) :: .n (gn (dOf r2) 7) :: .b (gb (dOf r2) 8) :: .n (gn (dOf r2) 9) :: .n (gn (dOf r2) 10) :: .n (gn (dOf r2) 11) :: .l (Ty.int IntKind.u8) (gl (Ty.int IntKind.u8) (dOf r2) 12) :: .n (gn (dOf r2) 13) :: .n (gn (dOf r2) 14) :: .n (gn (dOf r2) 15) :: []))))
            (.bad 351)))
          (.node (isK 1 [HK.n, HK.n, HK.n, HK.n, HK.n, HK.n, HK.n, HK.n, HK.n, HK.n, HK.l (Ty.int IntKind.u8), HK.n, HK.b, HK.n, HK.n, HK.b] r1)
           (let r2 : Option (Nat × List Dat) := (op_99 [.n n28, .n n29, .b b30, .n n31, .n n32, .n n33, .n n34, .n n35, .b b36, .n n37, .n n38, .n n39, .l (Ty.int IntKind.u8) l40, .n n41, .n n42, .n n43]);
            (.node (isK 0 [HK.n, HK.n, HK.b, HK.n, HK.n, HK.n, HK.n, HK.n, HK.b, HK.n, HK.n, HK.n, HK.l (Ty.int IntKind.u8), HK.n, HK.n, HK.n] r2)
             (.leaf ((1, (.b true :: .n (gn (dOf r1) 0) :: .n (gn (dOf r1) 1) :: .n (gn (dOf r1) 2) :: .n (gn (dOf r1) 3) :: .n (gn (dOf r1) 4) :: .n (gn (dOf r1) 5) :: .n (gn (dOf r1) 6) :: .n (gn (dOf r1) 7) :: .n (gn (dOf r1) 8) :: .n (gn (dOf r1) 9) :: .l (Ty.int IntKind.u8) (gl (Ty.int IntKind.u8) (dOf r1) 10) :: .n (gn (dOf r1) 11) :: .b (gb (dOf r1) 12) :: .n (gn (dOf r1) 13) :: .n (gn (dOf r1) 14) :: .b (gb (dOf r1) 15) :: .n (gn (dOf r2) 0) :: .n (gn (dOf r2) 1) :: .b (gb (dOf r2) 2) :: .n (gn (dOf r2) 3) :: .n (gn (dOf r2) 4) :: .n (gn (dOf r2) 5) :: .n (gn (dOf r2) 6) :: .n (gn (dOf r2) 7) :: .b (gb (dOf r2) 8) :: .n (gn (dOf r2) 9) :: .n (gn (dOf r2) 10) :: .n (gn (dOf r2) 11) :: .l (Ty.int IntKind.u8) (gl (Ty.int IntKind.u8) (dOf r2) 12) :: .n (gn (dOf r2) 13) :: .n (gn (dOf r2) 14) :: .n (gn (dOf r2) 15) :: []))))
             (.bad 351)))
           (.bad 351))))
        (.node (Int.tmod n0 (8 : Int) == (7 : Int))
         (let r1 : Option (Nat × List Dat) := (op_36b [.n n12, .n n13, .n n14, .n n15, .n n16, .n n17, .n n18, .n n19, .n n20, .n n21, .l (Ty.int IntKind.u8) l22, .n n23, .b b24, .n n25, .n n26, .b b27]);
          (.node (isK 0 [HK.n, HK.n, HK.n, HK.n, HK.n, HK.n, HK.n, HK.n, HK.n, HK.n, HK.l (Ty.int IntKind.u8), HK.n, HK.b, HK.n, HK.n, HK.b] r1)
           (let r2 : Option (Nat × List Dat) := (op_100 [.n n28, .n n29, .b b30, .n n31, .n n32, .n n33, .n n34, .n n35, .b b36, .n n37, .n n38, .n n39, .l (Ty.int IntKind.u8) l40, .n n41, .n n42, .n n43]);
            (.node (isK 0 [HK.n, HK.n, HK.n, HK.b, HK.n, HK.n, HK.n, HK.n, HK.n, HK.b, HK.n, HK.n, HK.n, HK.l (Ty.int IntKind.u8), HK.n, HK.n, HK.n] r2)
             (.leaf ((0, (.b (gn (dOf r1) 0 == gn (dOf r2) 0) :: .n (gn (dOf r1) 1) :: .n (gn (dOf r1) 2) :: .n (gn (dOf r1) 3) :: .n (gn (dOf r1) 4) :: .n (gn (dOf r1) 5) :: .n (gn (dOf r1) 6) :: .n (gn (dOf r1) 7) :: .n (gn (dOf r1) 8) :: .n (gn (dOf r1) 9) :: .l (Ty.int IntKind.u8) (gl (Ty.int IntKind.u8) (dOf r1) 10) :: .n (gn (dOf r1) 11) :: .b (gb (dOf r1) 12) :: .n (gn (dOf r1) 13) :: .n (gn (dOf r1) 14) :: .b (gb (dOf r1) 15) :: .n (gn (dOf r2) 1) :: .n (gn (dOf r2) 2) :: .b (gb (dOf r2) 3) :: .n (gn (dOf r2) 4) :: .n (gn (dOf r2) 5) :: .n (gn (dOf r2) 6) :: .n (gn (dOf r2) 7) :: .n (gn (dOf r2) 8) :: .b (gb (dOf r2) 9) :: .n (gn (dOf r2) 10) :: .n (gn (dOf r2) 11) :: .n (gn (dOf r2) 12) :: .l (Ty.int IntKind.u8) (gl (Ty.int IntKind.u8) (dOf r2) 13) :: .n (gn (dOf r2) 14) :: .n (gn (dOf r2) 15) :: .n (gn (dOf r2) 16) :: []))))
             (.bad 351)))
           (.node (isK 1 [HK.n, HK.n, HK.n, HK.n, HK.n, HK.n, HK.n, HK.n, HK.n, HK.n, HK.n, HK.l (Ty.int IntKind.u8), HK.n, HK.b, HK.n, HK.n, HK.b] r1)
            (let r2 : Option (Nat × List Dat) := (op_100 [.n n28, .n n29, .b b30, .n n31, .n n32, .n n33, .n n34, .n n35, .b b36, .n n37, .n n38, .n n39, .l (Ty.int IntKind.u8) l40, .n n41, .n n42, .n n43]);
             (.node (isK 0 [HK.n, HK.n, HK.n, HK.b, HK.n, HK.n, HK.n, HK.n, HK.n, HK.b, HK.n, HK.n, HK.n, HK.l (Ty.int IntKind.u8), HK.n, HK.n, HK.n] r2)
              (.leaf ((1, (.b (gn (dOf r1) 0 == gn (dOf r2) 0) :: .n (gn (dOf r1) 1) :: .n (gn (dOf r1) 2) :: .n (gn (dOf r1) 3) :: .n (gn (dOf r1) 4) :: .n (gn (dOf r1) 5) :: .n (gn (dOf r1) 6) :: .n (gn (dOf r1) 7) :: .n (gn (dOf r1) 8) :: .n (gn (dOf r1) 9) :: .n (gn (dOf r1) 10) :: .l (Ty.int IntKind.u8) (gl (Ty.int IntKind.u8) (dOf r1) 11) :: .n (gn (dOf r1) 12) :: .b (gb (dOf r1) 13) :: .n (gn (dOf r1) 14) :: .n (gn (dOf r1) 15) :: .b (gb (dOf r1) 16) :: .n (gn (dOf r2) 1) :: .n (gn (dOf r2) 2) :: .b (gb (dOf r2) 3) :: .n (gn (dOf r2) 4) :: .n (gn (dOf r2) 5) :: .n (gn (dOf r2) 6) :: .n (gn (dOf r2) 7) :: .n (gn (dOf r2) 8) :: .b (gb (dOf r2) 9) :: .n (gn (dOf r2) 10) :: .n (gn (dOf r2) 11) :: .n (gn (dOf r2) 12) :: .l (Ty.int IntKind.u8) (gl (Ty.int IntKind.u8) (dOf r2) 13) :: .n (gn (dOf r2) 14) :: .n (gn (dOf r2) 15) :: .n (gn (dOf r2) 16) :: []))))
              (.bad 351)))
            (.bad 351))))
         (let r1 : Option (Nat × List Dat) := (op_37b [.n n1, .n n2, .n n3, .n n4, .n n5, .n n6, .n n7, .n n8, .n n9, .l (Ty.int IntKind.u8) l10, .n n11, .n n12, .n n13, .n n14, .n n15, .n n16, .n n17, .n n18, .n n19, .n n20, .n n21, .l (Ty.int IntKind.u8) l22, .n n23, .b b24, .n n25, .n n26, .b b27]);
          (.node (isK 0 [HK.n, HK.n, HK.n, HK.n, HK.n, HK.n, HK.n, HK.n, HK.n, HK.n, HK.l (Ty.int IntKind.u8), HK.n, HK.b, HK.n, HK.n, HK.b] r1)
           (let r2 : Option (Nat × List Dat) := (op_101 [.n n1, .n n4, .n n3, .n n5, .n n6, .n n7, .n n8, .n n9, .l (Ty.int IntKind.u8) l10, .n n11, .n n28, .n n29, .b b30, .n n31, .n n32, .n n33, .n n34, .n n35, .b b36, .n n37, .n n38, .n n39, .l (Ty.int IntKind.u8) l40, .n n41, .n n42, .n n43]);
            (.node (isK 0 [HK.n, HK.n, HK.n, HK.b, HK.n, HK.n, HK.n, HK.n, HK.n, HK.b, HK.n, HK.n, HK.n, HK.l (Ty.int IntKind.u8), HK.n, HK.n, HK.n] r2)
             (.leaf ((0, (.b (gn (dOf r1) 0 == gn (dOf r2) 0) :: .n (gn (dOf r1) 1) :: .n (gn (dOf r1) 2) :: .n (gn (dOf r1) 3) :: .n (gn (dOf r1) 4) :: .n (gn (dOf r1) 5) :: .n (gn (dOf r1) 6) :: .n (gn (dOf r1) 7) :: .n (gn (dOf r1) 8) :: .n (gn (dOf r1) 9) :: .l (Ty.int IntKind.u8) (gl (Ty.int IntKind.u8) (dOf r1) 10) :: .n (gn (dOf r1) 11) :: .b (gb (dOf r1) 12) :: .n (gn (dOf r1) 13) :: .n (gn (dOf r1) 14) :: .b (gb (dOf r1) 15) :: .n (gn (dOf r2) 1) :: .n (gn (dOf r2) 2) :: .b (gb (dOf r2) 3) :: .n (gn (dOf r2) 4) :: .n (gn (dOf r2) 5) :: .n (gn (dOf r2) 6) :: .n (gn (dOf r2) 7) :: .n (gn (dOf r2) 8) :: .b (gb (dOf r2) 9) :: .n (gn (dOf r2) 10) :: .n (gn (dOf r2) 11) :: .n (gn (dOf r2) 12) :: .l (Ty.int IntKind.u8) (gl (Ty.int IntKind.u8) (dOf r2) 13) :: .n (gn (dOf r2) 14) :: .n (gn (dOf r2) 15) :: .n (gn (dOf r2) 16) :: []))))
             (.bad 351)))
           (.node (isK 1 [HK.n, HK.n, HK.n, HK.n, HK.n, HK.n, HK.n, HK.n, HK.n, HK.n, HK.n, HK.l (Ty.int IntKind.u8), HK.n, HK.b, HK.n, HK.n, HK.b] r1)
            (let r2 : Option (Nat × List Dat) := (op_101 [.n n1, .n n4, .n n3, .n n5, .n n6, .n n7, .n n8, .n n9, .l (Ty.int IntKind.u8) l10, .n n11, .n n28, .n n29, .b b30, .n n31, .n n32, .n n33, .n n34, .n n35, .b b36, .n n37, .n n38, .n n39, .l (Ty.int IntKind.u8) l40, .n n41, .n n42, .n n43]);
             (.node (isK 0 [HK.n, HK.n, HK.n, HK.b, HK.n, HK.n, HK.n, HK.n, HK.n, HK.b, HK.n, HK.n, HK.n, HK.l (Ty.int IntKind.u8), HK.n, HK.n, HK.n] r2)
              (.leaf ((1, (.b (gn (dOf r1) 0 == gn (dOf r2) 0) :: .n (gn (dOf r1) 1) :: .n (gn (dOf r1) 2) :: .n (gn (dOf r1) 3) :: .n (gn (dOf r1) 4) :: .n (gn (dOf r1) 5) :: .n (gn (dOf r1) 6) :: .n (gn (dOf r1) 7) :: .n (gn (dOf r1) 8) :: .n (gn (dOf r1) 9) :: .n (gn (dOf r1) 10) :: .l (Ty.int IntKind.u8) (gl (Ty.int IntKind.u8) (dOf r1) 11) :: .n (gn (dOf r1) 12) :: .b (gb (dOf r1) 13) :: .n (gn (dOf r1) 14) :: .n (gn (dOf r1) 15) :: .b (gb (dOf r1) 16) :: .n (gn (dOf r2) 1) :: .n (gn (dOf r2) 2) :: .b (gb (dOf r2) 3) :: .n (gn (dOf r2) 4) :: .n (gn (dOf r2) 5) :: .n (gn (dOf r2) 6) :: .n (gn (dOf r2) 7) :: .n (gn (dOf r2) 8) :: .b (gb (dOf r2) 9) :: .n (gn (dOf r2) 10) :: .n (gn (dOf r2) 11) :: .n (gn (dOf r2) 12) :: .l (Ty.int IntKind.u8) (gl (Ty.int IntKind.u8) (dOf r2) 13) :: .n (gn (dOf r2) 14) :: .n (gn (dOf r2) 15) :: .n (gn (dOf r2) 16) :: []))))
              (.bad 351)))
            (.bad 351))))))
       (.node (Int.tmod n0 (8 : Int) == (6 : Int))
        (let r1 : Option (Nat × List Dat) := (op_35b [.n n12, .n n13, .n n14, .n n15, .n n16, .n n17, .n n18, .n n19, .n n20, .n n21, .l (Ty.int IntKind.u8) l22, .n n23, .b b24, .n n25, .n n26, .b b27]);
         (.node (isK 0 [HK.n, HK.n, HK.n, HK.n, HK.n, HK.n, HK.n, HK.n, HK.n, HK.l (Ty.int IntKind.u8), HK.n, HK.b, HK.n, HK.n, HK.b] r1)
          (let r2 : Option (Nat × List Dat) := (op_99 [.n n28, .n n29, .b b30, .n n31, .n n32, .n n33, .n n34, .n n35, .b b36, .n n37, .n n38, .n n39, .l (Ty.int IntKind.u8) l40, .n n41, .n n42, .n n43]);
           (.node (isK 0 [HK.n, HK.n, HK.b, HK.n, HK.n, HK.n, HK.n, HK.n, HK.b, HK.n, HK.n, HK.n, HK.l (Ty.int IntKind.u8), HK.n, HK.n, HK.n] r2)
            (.leaf ((0, (.b true :: .n (gn (dOf r1) 0) :: .n (gn (dOf r1) 1) :: .n (gn (dOf r1) 2) :: .n (gn (dOf r1) 3) :: .n (gn (dOf r1) 4) :: .n (gn (dOf r1) 5) :: .n (gn (dOf r1) 6) :: .n (gn (dOf r1) 7) :: .n (gn (dOf r1) 8) :: .l (Ty.int IntKind.u8) (gl (Ty.int IntKind.u8) (dOf r1) 9) :: .n (gn (dOf r1) 10) :: .b (gb (dOf r1) 11) :: .n (gn (dOf r1) 12) :: .n (gn (dOf r1) 13) :: .b (gb (dOf r1) 14) :: .n (gn (dOf r2) 0) :: .n (gn (dOf r2) 1) :: .b (gb (dOf r2) 2) :: .n (gn (dOf r2) 3) :: .n (gn (dOf r2) 4) :: .n (gn (dOf r2) 5) :: .n (gn (dOf r2) 6) :: .n (gn (dOf r2) 7) :: .b (gb (dOf r2) 8) :: .n (gn (dOf r2) 9) :: .n (gn (dOf r2) 10) :: .n (gn (dOf r2) 11) :: .l (Ty.int IntKind.u8) (gl (Ty.int IntKind.u8) (dOf r2) 12) :: .n (gn (dOf r2) 13) :: .n (gn (dOf r2) 14) :: .n (gn (dOf r2) 15) :: []))))
            (.bad 351)))
          (.node (isK 1 [HK.n, HK.n, HK.n, HK.n, HK.n, HK.n, HK.n, HK.n, HK.n, HK.n, HK.l (Ty.int IntKind.u8), HK.n, HK.b, HK.n, HK.n, HK.b] r1)
           (let r2 : Option (Nat × List Dat) := (op_99 [.n n28, .n n29, .b b30, .n n31, .n n32, .n n33, .n n34, .n n35, .b b36, .n n37, .n n38, .n n39, .l (Ty.int IntKind.u8) l40, .n n41, .n n42, .n n43]);
            (.node (isK 0 [HK.n, HK.n, HK.b, HK.n, HK.n, HK.n, HK.n, HK.n, HK.b, HK.n, HK.n, HK.n, HK.l (Ty.int IntKind.u8), HK.n, HK.n, HK.n] r2)
             (.leaf ((1, (.b true :: .n (gn (dOf r1) 0) :: .n (gn (dOf r1) 1) :: .n (gn (dOf r1) 2) :: .n (gn (dOf r1) 3) :: .n (gn (dOf r1) 4) :: .n (gn (dOf r1) 5) :: .n (gn (dOf r1) 6) :: .n (gn (dOf r1) 7) :: .n (gn (dOf r1) 8) :: .n (gn (dOf r1) 9) :: .l (Ty.int IntKind.u8) (gl (Ty.int IntKind.u8) (dOf r1) 10) :: .n (gn (dOf r1) 11) :: .b (gb (dOf r1) 12) :: .n (gn (dOf r1) 13) :: .n (gn (dOf r1) 14) :: .b (gb (dOf r1) 15) :: .n (gn (dOf r2) 0) :: .n (gn (dOf r2) 1) :: .b (gb (dOf r2) 2) :: .n (gn (dOf r2) 3) :: .n (gn (dOf r2) 4) :: .n (gn (dOf r2) 5) :: .n (gn (dOf r2) 6) :: .n (gn (dOf r2) 7) :: .b (gb (dOf r2) 8) :: .n (gn (dOf r2) 9) :: .n (gn (dOf r2) 10) :: .n (gn (dOf r2) 11) :: .l (Ty.int IntKind.u8) (gl (Ty.int IntKind.u8) (dOf r2) 12) :: .n (gn (dOf r2) 13) :: .n (gn (dOf r2) 14) :: .n (gn (dOf r2) 15) :: []))))
             (.bad 351)))
           (.bad 351))))
        (.node (Int.tmod n0 (8 : Int) == (7 : Int))
         (let r1 : Option (Nat × List Dat) := (op_36b [.n n12, .n n13, .n n14, .n n15, .n n16, .n n17, .n n18, .n n19, .n n20, .n n21, .l (Ty.int IntKind.u8) l22, .n n23, .b b24, .n n25, .n n26, .b b27]);
          (.node (isK 0 [HK.n, HK.n, HK.n, HK.n, HK.n, HK.n, HK.n, HK.n, HK.n, HK.n, HK.l (Ty.int IntKind.u8), HK.n, HK.b, HK.n, HK.n, HK.b] r1)
           (let r2 : Option (Nat × List Dat) := (op_100 [.n n28, .n n29, .b b30, .n n31, .n n32, .n n33, .n n34, .n n35, .b b36, .n n37, .n n38, .n n39, .l (Ty.int IntKind.u8) l40, .n n41, .n n42, .n n43]);
            (.node (isK 0 [HK.n, HK.n, HK.n, HK.b, HK.n, HK.n, HK.n, HK.n, HK.n, HK.b, HK.n, HK.n, HK.n, HK.l (Ty.int IntKind.u8), HK.n, HK.n, HK.n] r2)
             (.leaf ((0, (.b (gn (dOf r1) 0 == gn (dOf r2) 0) :: .n (gn (dOf r1) 1) :: .n (gn (dOf r1) 2) :: .n (gn (dOf r1) 3) :: .n (gn (dOf r1) 4) :: .n (gn (dOf r1) 5) :: .n (gn (dOf r1) 6) :: .n (gn (dOf r1) 7) :: .n (gn (dOf r1) 8) :: .n (gn (dOf r1) 9) :: .l (Ty.int IntKind.u8) (gl (Ty.int IntKind.u8) (dOf r1) 10) :: .n (gn (dOf r1) 11) :: .b (gb (dOf r1) 12) :: .n (gn (dOf r1) 13) :: .n (gn (dOf r1) 14) :: .b (gb (dOf r1) 15) :: .n (gn (dOf r2) 1) :: .n (gn (dOf r2) 2) :: .b (gb (dOf r2) 3) :: .n (gn (dOf r2) 4) :: .n (gn (dOf r2) 5) :: .n (gn (dOf r2) 6) :: .n (gn (dOf r2) 7) :: .n (gn (dOf r2) 8) :: .b (gb (dOf r2) 9) :: .n (gn (dOf r2) 10) :: .n (gn (dOf r2) 11) :: .n (gn (dOf r2) 12) :: .l (Ty.int IntKind.u8) (gl (Ty.int IntKind.u8) (dOf r2) 13) :: .n (gn (dOf r2) 14) :: .n (gn (dOf r2) 15) :: .n (gn (dOf r2) 16) :: []))))
             (.bad 351)))
           (.node (isK 1 [HK.n, HK.n, HK.n, HK.n, HK.n, HK.n, HK.n, HK.n, HK.n, HK.n, HK.n, HK.l (Ty.int IntKind.u8), HK.n, HK.b, HK.n, HK.n, HK.b] r1)
            (let r2 : Option (Nat × List Dat) := (op_100 [.n n28, .n n29, .b b30, .n n31, .n n32, .n n33, .n n34, .n n35, .b b36, .n n37, .n n38, .n n39, .l (Ty.int IntKind.u8) l40, .n n41, .n n42, .n n43]);
             (.node (isK 0 [HK.n, HK.n, HK.n, HK.b, HK.n, HK.n, HK.n, HK.n, HK.n, HK.b, HK.n, HK.n, HK.n, HK.l (Ty.int IntKind.u8), HK.n, HK.n, HK.n] r2)
              (.leaf ((1, (.b (gn (dOf r1) 0 == gn (dOf r2) 0) :: .n (gn (dOf r1) 1) :: .n (gn (dOf r1) 2) :: .n (gn (dOf r1) 3) :: .n (gn (dOf r1) 4) :: .n (gn (dOf r1) 5) :: .n (gn (dOf r1) 6) :: .n (gn (dOf r1) 7) :: .n (gn (dOf r1) 8) :: .n (gn (dOf r1) 9) :: .n (gn (dOf r1) 10) :: .l (Ty.int IntKind.u8) (gl (Ty.int IntKind.u8) (dOf r1) 11) :: .n (gn (dOf r1) 12) :: .b (gb (dOf r1) 13) :: .n (gn (dOf r1) 14) :: .n (gn (dOf r1) 15) :: .b (gb (dOf r1) 16) :: .n (gn (dOf r2) 1) :: .n (gn (dOf r2) 2) :: .b (gb (dOf r2) 3) :: .n (gn (dOf r2) 4) :: .n (gn (dOf r2) 5) :: .n (gn (dOf r2) 6) :: .n (gn (dOf r2) 7) :: .n (gn (dOf r2) 8) :: .b (gb (dOf r2) 9) :: .n (gn (dOf r2) 10) :: .n (gn (dOf r2) 11) :: .n (gn (dOf r2) 12) :: .l (Ty.int IntKind.u8) (gl (Ty.int IntKind.u8) (dOf r2) 13) :: .n (gn (dOf r2) 14) :: .n (gn (dOf r2) 15) :: .n (gn (dOf r2) 16) :: []))))
              (.bad 351)))
            (.bad 351))))
         (let r1 : Option (Nat × List Dat) := (op_37b [.n n1, .n n2, .n n3, .n n4, .n n5, .n n6, .n n7, .n n8, .n n9, .l (Ty.int IntKind.u8) l10, .n n11, .n n12, .n n13, .n n14, .n n15, .n n16, .n n17, .n n18, .n n19, .n n20, .n n21, .l (Ty.int IntKind.u8) l22, .n n23, .b b24, .n n25, .n n26, .b b27]);
          (.node (isK 0 [HK.n, HK.n, HK.n, HK.n, HK.n, HK.n, HK.n, HK.n, HK.n, HK.n, HK.l (Ty.int IntKind.u8), HK.n, HK.b, HK.n, HK.n, HK.b] r1)
           (let r2 : Option (Nat × List Dat) := (op_101 [.n n1, .n n4, .n n3, .n n5, .n n6, .n n7, .n n8, .n n9, .l (Ty.int IntKind.u8) l10, .n n11, .n n28, .n n29, .b b30, .n n31, .n n32, .n n33, .n n34, .n n35, .b b36, .n n37, .n n38, .n n39, .l (Ty.int IntKind.u8) l40, .n n41, .n n42, .n n43]);
            (.node (isK 0 [HK.n, HK.n, HK.n, HK.b, HK.n, HK.n, HK.n, HK.n, HK.n, HK.b, HK.n, HK.n, HK.n, HK.l (Ty.int IntKind.u8), HK.n, HK.n, HK.n] r2)
             (.leaf ((0, (.b (gn (dOf r1) 0 == gn (dOf r2) 0) :: .n (gn (dOf r1) 1) :: .n (gn (dOf r1) 2) :: .n (gn (dOf r1) 3) :: .n (gn (dOf r1) 4) :: .n (gn (dOf r1) 5) :: .n (gn (dOf r1) 6) :: .n (gn (dOf r1) 7) :: .n (gn (dOf r1) 8) :: .n (gn (dOf r1) 9) :: .l (Ty.int IntKind.u8) (gl (Ty.int IntKind.u8) (dOf r1) 10) :: .n (gn (dOf r1) 11) :: .b (gb (dOf r1) 12) :: .n (gn (dOf r1) 13) :: .n (gn (dOf r1) 14) :: .b (gb (dOf r1) 15) :: .n (gn (dOf r2) 1) :: .n (gn (dOf r2) 2) :: .b (gb (dOf r2) 3) :: .n (gn (dOf r2) 4) :: .n (gn (dOf r2) 5) :: .n (gn (dOf r2) 6) :: .n (gn (dOf r2) 7) :: .n (gn (dOf r2) 8) :: .b (gb (dOf r2) 9) :: .n (gn (dOf r2) 10) :: .n (gn (dOf r2) 11) :: .n (gn (dOf r2) 12) :: .l (Ty.int IntKind.u8) (gl (Ty.int IntKind.u8) (dOf r2) 13) :: .n (gn (dOf r2) 14) :: .n (gn (dOf r2) 15) :: .n (gn (dOf r2) 16) :: []))))
             (.bad 351)))
           (.node (isK 1 [HK.n, HK.n, HK.n, HK.n, HK.n, HK.n, HK.n, HK.n, HK.n, HK.n, HK.n, HK.l (Ty.int IntKind.u8), HK.n, HK.b, HK.n, HK.n, HK.b] r1)
            (let r2 : Option (Nat × List Dat) := (op_101 [.n n1, .n n4, .n n3, .n n5, .n n6, .n n7, .n n8, .n n9, .l (Ty.int IntKind.u8) l10, .n n11, .n n28, .n n29, .b b30, .n n31, .n n32, .n n33, .n n34, .n n35, .b b36, .n n37, .n n38, .n n39, .l (Ty.int IntKind.u8) l40, .n n41, .n n42, .n n43]);
             (.node (isK 0 [HK.n, HK.n, HK.n, HK.b, HK.n, HK.n, HK.n, HK.n, HK.n, HK.b, HK.n, HK.n, HK.n, HK.l (Ty.int IntKind.u8), HK.n, HK.n, HK.n] r2)
              (.leaf ((1, (.b (gn (dOf r1) 0 == gn (dOf r2) 0) :: .n (gn (dOf r1) 1) :: .n (gn (dOf r1) 2) :: .n (gn (dOf r1) 3) :: .n (gn (dOf r1) 4) :: .n (gn (dOf r1) 5) :: .n (gn (dOf r1) 6) :: .n (gn (dOf r1) 7) :: .n (gn (dOf r1) 8) :: .n (gn (dOf r1) 9) :: .n (gn (dOf r1) 10) :: .l (Ty.int IntKind.u8) (gl (Ty.int IntKind.u8) (dOf r1) 11) :: .n (gn (dOf r1) 12) :: .b (gb (dOf r1) 13) :: .n (gn (dOf r1) 14) :: .n (gn (dOf r1) 15) :: .b (gb (dOf r1) 16) :: .n (gn (dOf r2) 1) :: .n (gn (dOf r2) 2) :: .b (gb (dOf r2) 3) :: .n (gn (dOf r2) 4) :: .n (gn (dOf r2) 5) :: .n (gn (dOf r2) 6) :: .n (gn (dOf r2) 7) :: .n (gn (dOf r2) 8) :: .b (gb (dOf r2) 9) :: .n (gn (dOf r2) 10) :: .n (gn (dOf r2) 11) :: .n (gn (dOf r2) 12) :: .l (Ty.int IntKind.u8) (gl (Ty.int IntKind.u8) (dOf r2) 13) :: .n (gn (dOf r2) 14) :: .n (gn (dOf r2) 15) :: .n (gn (dOf r2) 16) :: []))))
              (.bad 351)))
            (.bad 351)))))))))
  | _ => .bad 0
theorem fr_32b_eq (n0 : Int) (n1 : Int) (n2 : Int) (n3 : Int) (n4 : Int) (n5 : Int) (n6 : Int) (n7 : Int) (n8 : Int) (n9 : Int) (l10 : List (Ty.den (Ty.int IntKind.u8))) (n11 : Int) (n12 : Int) (n13 : Int) (n14 : Int) (n15 : Int) (n16 : Int) (n17 : Int) (n18 : Int) (n19 : Int) (n20 : Int) (n21 : Int) (l22 : List (Ty.den (Ty.int IntKind.u8))) (n23 : Int) (b24 : Bool) (n25 : Int) (n26 : Int) (b27 : Bool) (n28 : Int) (n29 : Int) (b30 : Bool) (n31 : Int) (n32 : Int) (n33 : Int) (n34 : Int) (n35 : Int) (b36 : Bool) (n37 : Int) (n38 : Int) (n39 : Int) (l40 : List (Ty.den (Ty.int IntKind.u8))) (n41 : Int) (n42 : Int) (n43 : Int) : (boxC false Try.prog cs_31b 32 ls0 (mkF [.ptr 0 0, .ptr 1 0, caV 0] [rlB 12, rmB 28] [0, 1] [(.bool 0, [rlA 1, rmB 16]), (.bool 0, [rlB 1, rmB 17])] fun _ => none) (.n n0 :: .n n1 :: .n n2 :: .n n3 :: .n n4 :: .n n5 :: .n n6 :: .n n7 :: .n n8 :: .n n9 :: .l (Ty.int IntKind.u8) l10 :: .n n11 :: .n n12 :: .n n13 :: .n n14 :: .n n15 :: .n n16 :: .n n17 :: .n n18 :: .n n19 :: .n n20 :: .n n21 :: .l (Ty.int IntKind.u8) l22 :: .n n23 :: .b b24 :: .n n25 :: .n n26 :: .b b27 :: .n n28 :: .n n29 :: .b b30 :: .n n31 :: .n n32 :: .n n33 :: .n n34 :: .n n35 :: .b b36 :: .n n37 :: .n n38 :: .n n39 :: .l (Ty.int IntKind.u8) l40 :: .n n41 :: .n n42 :: .n n43 :: [])).sel = (fr_32b (.n n0 :: .n n1 :: .n n2 :: .n n3 :: .n n4 :: .n n5 :: .n n6 :: .n n7 :: .n n8 :: .n n9 :: .l (Ty.int IntKind.u8) l10 :: .n n11 :: .n n12 :: .n n13 :: .n n14 :: .n n15 :: .n n16 :: .n n17 :: .n n18 :: .n n19 :: .n n20 :: .n n21 :: .l (Ty.int IntKind.u8) l22 :: .n n23 :: .b b24 :: .n n25 :: .n n26 :: .b b27 :: .n n28 :: .n n29 :: .b b30 :: .n n31 :: .n n32 :: .n n33 :: .n n34 :: .n n35 :: .b b36 :: .n n37 :: .n n38 :: .n n39 :: .l (Ty.int IntKind.u8) l40 :: .n n41 :: .n n42 :: .n n43 :: [])).sel := by kernel_rfl
theorem fr_32b_pr (n0 : Int) (n1 : Int) (n2 : Int) (n3 : Int) (n4 : Int) (n5 : Int) (n6 : Int) (n7 : Int) (n8 : Int) (n9 : Int) (l10 : List (Ty.den (Ty.int IntKind.u8))) (n11 : Int) (n12 : Int) (n13 : Int) (n14 : Int) (n15 : Int) (n16 : Int) (n17 : Int) (n18 : Int) (n19 : Int) (n20 : Int) (n21 : Int) (l22 : List (Ty.den (Ty.int IntKind.u8))) (n23 : Int) (b24 : Bool) (n25 : Int) (n26 : Int) (b27 : Bool) (n28 : Int) (n29 : Int) (b30 : Bool) (n31 : Int) (n32 : Int) (n33 : Int) (n34 : Int) (n35 : Int) (b36 : Bool) (n37 : Int) (n38 : Int) (n39 : Int) (l40 : List (Ty.den (Ty.int IntKind.u8))) (n41 : Int) (n42 : Int) (n43 : Int) : (fr_32b (.n n0 :: .n n1 :: .n n2 :: .n n3 :: .n n4 :: .n n5 :: .n n6 :: .n n7 :: .n n8 :: .n n9 :: .l (Ty.int IntKind.u8) l10 :: .n n11 :: .n n12 :: .n n13 :: .n n14 :: .n n15 :: .n n16 :: .n n17 :: .n n18 :: .n n19 :: .n n20 :: .n n21 :: .l (Ty.int IntKind.u8) l22 :: .n n23 :: .b b24 :: .n n25 :: .n n26 :: .b b27 :: .n n28 :: .n n29 :: .b b30 :: .n n31 :: .n n32 :: .n n33 :: .n n34 :: .n n35 :: .b b36 :: .n n37 :: .n n38 :: .n n39 :: .l (Ty.int IntKind.u8) l40 :: .n n41 :: .n n42 :: .n n43 :: [])).sel = (fn_32b (.n n0 :: .n n1 :: .n n2 :: .n n3 :: .n n4 :: .n n5 :: .n n6 :: .n n7 :: .n n8 :: .n n9 :: .l (Ty.int IntKind.u8) l10 :: .n n11 :: .n n12 :: .n n13 :: .n n14 :: .n n15 :: .n n16 :: .n n17 :: .n n18 :: .n n19 :: .n n20 :: .n n21 :: .l (Ty.int IntKind.u8) l22 :: .n n23 :: .b b24 :: .n n25 :: .n n26 :: .b b27 :: .n n28 :: .n n29 :: .b b30 :: .n n31 :: .n n32 :: .n n33 :: .n n34 :: .n n35 :: .b b36 :: .n n37 :: .n n38 :: .n n39 :: .l (Ty.int IntKind.u8) l40 :: .n n41 :: .n n42 :: .n n43 :: [])).sel := (sel_c (fun _ => rfl) (fun h0 => (sel_c (fun _ => rfl) (fun h1 => (sel_c (fun h2 => (sel_t h2 rfl)) (fun _ => rfl))))))
theorem fn_32b_eq (n0 : Int) (n1 : Int) (n2 : Int) (n3 : Int) (n4 : Int) (n5 : Int) (n6 : Int) (n7 : Int) (n8 : Int) (n9 : Int) (l10 : List (Ty.den (Ty.int IntKind.u8))) (n11 : Int) (n12 : Int) (n13 : Int) (n14 : Int) (n15 : Int) (n16 : Int) (n17 : Int) (n18 : Int) (n19 : Int) (n20 : Int) (n21 : Int) (l22 : List (Ty.den (Ty.int IntKind.u8))) (n23 : Int) (b24 : Bool) (n25 : Int) (n26 : Int) (b27 : Bool) (n28 : Int) (n29 : Int) (b30 : Bool) (n31 : Int) (n32 : Int) (n33 : Int) (n34 : Int) (n35 : Int) (b36 : Bool) (n37 : Int) (n38 : Int) (n39 : Int) (l40 : List (Ty.den (Ty.int IntKind.u8))) (n41 : Int) (n42 : Int) (n43 : Int) : (boxC false Try.prog cs_31b 32 ls0 (mkF [.ptr 0 0, .ptr 1 0, caV 0] [rlB 12, rmB 28] [0, 1] [(.bool 0, [rlA 1, rmB 16]), (.bool 0, [rlB 1, rmB 17])] fun _ => none) (.n n0 :: .n n1 :: .n n2 :: .n n3 :: .n n4 :: .n n5 :: .n n6 :: .n n7 :: .n n8 :: .n n9 :: .l (Ty.int IntKind.u8) l10 :: .n n11 :: .n n12 :: .n n13 :: .n n14 :: .n n15 :: .n n16 :: .n n17 :: .n n18 :: .n n19 :: .n n20 :: .n n21 :: .l (Ty.int IntKind.u8) l22 :: .n n23 :: .b b24 :: .n n25 :: .n n26 :: .b b27 :: .n n28 :: .n n29 :: .b b30 :: .n n31 :: .n n32 :: .n n33 :: .n n34 :: .n n35 :: .b b36 :: .n n37 :: .n n38 :: .n n39 :: .l (Ty.int IntKind.u8) l40 :: .n n41 :: .n n42 :: .n n43 :: [])).sel = (fn_32b (.n n0 :: .n n1 :: .n n2 :: .n n3 :: .n n4 :: .n n5 :: .n n6 :: .n n7 :: .n n8 :: .n n9 :: .l (Ty.int IntKind.u8) l10 :: .n n11 :: .n n12 :: .n n13 :: .n n14 :: .n n15 :: .n n16 :: .n n17 :: .n n18 :: .n n19 :: .n n20 :: .n n21 :: .l (Ty.int IntKind.u8) l22 :: .n n23 :: .b b24 :: .n n25 :: .n n26 :: .b b27 :: .n n28 :: .n n29 :: .b b30 :: .n n31 :: .n n32 :: .n n33 :: .n n34 :: .n n35 :: .b b36 :: .n n37 :: .n n38 :: .n n39 :: .l (Ty.int IntKind.u8) l40 :: .n n41 :: .n n42 :: .n n43 :: [])).sel := (fr_32b_eq n0 n1 n2 n3 n4 n5 n6 n7 n8 n9 l10 n11 n12 n13 n14 n15 n16 n17 n18 n19 n20 n21 l22 n23 b24 n25 n26 b27 n28 n29 b30 n31 n32 n33 n34 n35 b36 n37 n38 n39 l40 n41 n42 n43).trans (fr_32b_pr n0 n1 n2 n3 n4 n5 n6 n7 n8 n9 l10 n11 n12 n13 n14 n15 n16 n17 n18 n19 n20 n21 l22 n23 b24 n25 n26 b27 n28 n29 b30 n31 n32 n33 n34 n35 b36 n37 n38 n39 l40 n41 n42 n43)
theorem fn_32b_ok (env : List Dat) (y : Nat × List Dat) (h : (fn_32b env).sel = some y) : (boxC false Try.prog cs_31b 32 ls0 (mkF [.ptr 0 0, .ptr 1 0, caV 0] [rlB 12, rmB 28] [0, 1] [(.bool 0, [rlA 1, rmB 16]), (.bool 0, [rlB 1, rmB 17])] fun _ => none) env).sel = some y := by
  unfold fn_32b at h
  split at h
  · rw [fn_32b_eq]; exact h
  · cases h
theorem B32b_ok : RunOk Try.prog 32 (boxRun B32b) := mkF_ok (op := op_32b) cs_31b_ok hmix false (LsOk.none _ _ _) fn_32b_ok
theorem cs_32b_ok : CsOk Try.prog cs_32b := csAdd_ok cs_31b_ok fun B hB => by
  simp only [List.mem_cons, List.not_mem_nil, or_false] at hB
  rcases hB with rfl | rfl
  · exact B32a_ok
  · exact B32b_ok

def fn_L5_10_0 : List Dat → Tree Step
  | (.l (Ty.pair (Ty.int IntKind.u8) (Ty.pair (Ty.int IntKind.i64) (Ty.pair (Ty.int IntKind.u8) (Ty.pair (Ty.int IntKind.i64) (Ty.pair (Ty.int IntKind.i64) (Ty.pair (Ty.int IntKind.u64) (Ty.pair (Ty.int IntKind.u32) (Ty.pair (Ty.int IntKind.u64) (Ty.pair (Ty.int IntKind.u64) (Ty.pair (Ty.int IntKind.u64) (Ty.pair (Ty.arr 64 (Ty.int IntKind.u8)) (Ty.int IntKind.u32)))))))))))) l0 :: .n n1 :: .n n2 :: .n n3 :: .n n4 :: .n n5 :: .n n6 :: .n n7 :: .n n8 :: .n n9 :: .n n10 :: .l (Ty.int IntKind.u8) l11 :: .n n12 :: .b b13 :: .n n14 :: .n n15 :: .b b16 :: .n n17 :: .n n18 :: .b b19 :: .n n20 :: .n n21 :: .n n22 :: .n n23 :: .n n24 :: .b b25 :: .n n26 :: .n n27 :: .n n28 :: .l (Ty.int IntKind.u8) l29 :: .n n30 :: .n n31 :: .n n32 :: []) =>
    (.node (decide (n1 < (↑(List.length l0) : Int)))
     (.node (inR n1 (List.length l0))
      (let r1 : Option (Nat × List Dat) := (op_32a (.n (Prod.fst (List.getD l0 (Int.toNat n1) (Ty.dflt (Ty.pair (Ty.int IntKind.u8) (Ty.pair (Ty.int IntKind.i64) (Ty.pair (Ty.int IntKind.u8) (Ty.pair (Ty.int IntKind.i64) (Ty.pair (Ty.int IntKind.i64) (Ty.pair (Ty.int IntKind.u64) (Ty.pair (Ty.int IntKind.u32) (Ty.pair (Ty.int IntKind.u64) (Ty.pair (Ty.int IntKind.u64) (Ty.pair (Ty.int IntKind.u64) (Ty.pair (Ty.arr 64 (Ty.int IntKind.u8)) (Ty.int IntKind.u32))))))))))))))) :: .n (Prod.fst (Prod.snd (List.getD l0 (Int.toNat n1) (Ty.dflt (Ty.pair (Ty.int IntKind.u8) (Ty.pair (Ty.int IntKind.i64) (Ty.pair (Ty.int IntKind.u8) (Ty.pair (Ty.int IntKind.i64) (Ty.pair (Ty.int IntKind.i64) (Ty.pair (Ty.int IntKind.u64) (Ty.pair (Ty.int IntKind.u32) (Ty.pair (Ty.int IntKind.u64) (Ty.pair (Ty.int IntKind.u64) (Ty.pair (Ty.int IntKind.u64) (Ty.pair (Ty.arr 64 (Ty.int IntKind.u8)) (Ty.int IntKind.u32)))))))))))))))) :: .n (Prod.fst (Prod.snd (Prod.snd (List.getD l0 (Int.toNat n1) (Ty.dflt (Ty.pair (Ty.int IntKind.u8) (Ty.pair (Ty.int IntKind.i64) (Ty.pair (Ty.int IntKind.u8) (Ty.pair (Ty.int IntKind.i64) (Ty.pair (Ty.int IntKind.i64) (Ty.pair (Ty.int IntKind.u64) (Ty.pair (Ty.int IntKind.u32) (Ty.pair (Ty.int IntKind.u64) (Ty.pair (Ty.int IntKind.u64) (Ty.pair (Ty.int IntKind.u64) (Ty.pair (Ty.arr 64 (Ty.int IntKind.u8)) (Ty.int IntKind.u32))))))))))))))))) :: .n (Prod.fst (Prod.snd (Prod.snd (Prod.snd (List.getD l0 (Int.toNat n1) (Ty.dflt (Ty.pair (Ty.int IntKind.u8) (Ty.pair (Ty.int IntKind.i64) (Ty.pair (Ty.int IntKind.u8) (Ty.pair (Ty.int IntKind.i64) (Ty.pair (Ty.int IntKind.i64) (Ty.pair (Ty.int IntKind.u64) (Ty.pair (Ty.int IntKind.u32) (Ty.pair (Ty.int IntKind.u64) (Ty.pair (Ty.int IntKind.u64) (Ty.pair (Ty.int IntKind.u64) (Ty.pair (Ty.arr 64 (Ty.int IntKind.u8)) (Ty.int IntKind.u32)))))))))))))))))) :: .n (Prod.fst (Prod.snd (Prod.snd (Prod.snd (Prod.snd (List.getD l0 (Int.toNat n1) (Ty.dflt (Ty.pair (Ty.int IntKind.u8) (Ty.pair (Ty.int IntKind.i64) (Ty.pair (Ty.int IntKind.u8) (Ty.pair (Ty.int IntKind.i64) (Ty.pair (Ty.int IntKind.i64) (Ty.pair (Ty.int IntKind.u64) (Ty.pair (Ty.int IntKind.u32) (Ty.pair (Ty.int IntKind.u64) (Ty.pair (Ty.int IntKind.u64) (Ty.pair (Ty.int IntKind.u64) (Ty.pair (Ty.arr 64 (Ty.int IntKind.u8)) (Ty.int IntKind.u32))))))))))))))))))) :: .n (Prod.fst (Prod.snd (Prod.snd (Prod.snd (Prod.snd (Prod.snd (List.getD l0 (Int.toNat n1) (Ty.dflt (Ty.pair (Ty.int IntKind.u8) (Ty.pair (Ty.int IntKind.i64) (Ty.pair (Ty.int IntKind.u8) (Ty.pair (Ty.int IntKind.i64) (Ty.pair (Ty.int IntKind.i64) (Ty.pair (Ty.int IntKind.u64) (Ty.pair (Ty.int IntKind.u32) (Ty.pair (Ty.int IntKind.u64) (Ty.pair (Ty.int IntKind.u64) (Ty.pair (Ty.int IntKind.u64) (Ty.pair (Ty.arr 64 (Ty.int IntKind.u8)) (Ty.int IntKind.u32)))))))))))))))))))) :: .n (Prod.fst (Prod.snd (Prod.snd (Prod.snd (Prod.snd (Prod.snd (Prod.snd (List.getD l0 (Int.toNat n1) (Ty.dflt (Ty.pair (Ty.int IntKind.u8) (Ty.pair (Ty.int IntKind.i64) (Ty.pair (Ty.int IntKind.u8) (Ty.pair (Ty.int IntKind.i64) (Ty.pair (Ty.int IntKind.i64) (Ty.pair (Ty.int IntKind.u64) (Ty.pair (Ty.int IntKind.u32) (Ty.pair (Ty.int IntKind.u64) (Ty.pair (Ty.int IntKind.u64) (Ty.pair (Ty.int IntKind.u64) (Ty.pair (Ty.arr 64 (Ty.int IntKind.u8)) (Ty.int IntKind.u32))))))))))))))))))))) :: .n (Prod.fst (Prod.snd (Prod.snd (Prod.snd (Prod.snd (Prod.snd (Prod.snd (Prod.snd (List.getD l0 (Int.toNat n1) (Ty.dflt (Ty.pair (Ty.int IntKind.u8) (Ty.pair (Ty.int IntKind.i64) (Ty.pair (Ty.int IntKind.u8) (Ty.pair (Ty.int IntKind.i64) (Ty.pair (Ty.int IntKind.i64) (Ty.pair (Ty.int IntKind.u64) (Ty.pair (Ty.int IntKind.u32) (Ty.pair (Ty.int IntKind.u64) (Ty.pair (Ty.int IntKind.u64) (Ty.pair (Ty.int IntKind.u64) (Ty.pair (Ty.arr 64 (Ty.int IntKind.u8)) (Ty.int IntKind.u32)))))))))))))))))))))) :: .n (Prod.fst (Prod.snd (Prod.snd (Prod.snd (Prod.snd (Prod.snd (Prod.snd (Prod.snd (Prod.snd (List.getD l0 (Int.toNat n1) (Ty.dflt (Ty.pair (Ty.int IntKind.u8) (Ty.pair (Ty.int IntKind.i64) (Ty.pair (Ty.int IntKind.u8) (Ty.pair (Ty.int IntKind.i64) (Ty.pair (Ty.int IntKind.i64) (Ty.pair (Ty.int IntKind.u64) (Ty.pair (Ty.int IntKind.u32) (Ty.pair (Ty.int IntKind.u64) (Ty.pair (Ty.int IntKind.u64) (Ty.pair (Ty.int IntKind.u64) (Ty.pair (Ty.arr 64 (Ty.int IntKind.u8)) (Ty.int IntKind.u32))))))))))))))))))))))) :: .n (Prod.fst (Prod.snd (Prod.snd (Prod.snd (Prod.snd (Prod.snd (Prod.snd (Prod.snd (Prod.snd (Prod.snd (List.getD l0 (Int.toNat n1) (Ty.dflt (Ty.pair (Ty.int IntKind.u8) (Ty.pair (Ty.int IntKind.i64) (Ty.pair (Ty.int IntKind.u8) (Ty.pair (Ty.int IntKind.i64) (Ty.pair (Ty.int IntKind.i64) (Ty.pair (Ty.int IntKind.u64) (Ty.pair (Ty.int IntKind.u32) (Ty.pair (Ty.int IntKind.u64) (Ty.pair (Ty.int IntKind.u64) (Ty.pair (Ty.int IntKind.u64) (Ty.pair (Ty.arr 64 (Ty.int IntKind.u8)) (Ty.int IntKind.u32)))))))))))))))))))))))) :: .l (Ty.int IntKind.u8) (Prod.fst (Prod.snd (Prod.snd (Prod.snd (Prod.snd (Prod.snd (Prod.snd (Prod.snd (Prod.snd (Prod.snd (Prod.snd (List.getD l0 (Int.toNat n1) (Ty.dflt (Ty.pair (Ty.int IntKind.u8) (Ty.pair (Ty.int IntKind.i64) (Ty.pair (Ty.int IntKind.u8) (Ty.pair (Ty.int IntKind.i64) (Ty.pair (Ty.int IntKind.i64) (Ty.pair (Ty.int IntKind.u64) (Ty.pair (Ty.int IntKind.u32) (Ty.pair (Ty.int IntKind.u64) (Ty.pair (Ty.int IntKind.u64) (Ty.pair (Ty.int IntKind.u64) (Ty.pair (Ty.arr 64 (Ty.int IntKind.u8)) (Ty.int IntKind.u32))))))))))))))))))))))))) :: .n (Prod.snd (Prod.snd (Prod.snd (Prod.snd (Prod.snd (Prod.snd (Prod.snd (Prod.snd (Prod.snd (Prod.snd (Prod.snd (List.getD l0 (Int.toNat n1) (Ty.dflt (Ty.pair (Ty.int IntKind.u8) (Ty.pair (Ty.int IntKind.i64) (Ty.pair (Ty.int IntKind.u8) (Ty.pair (Ty.int IntKind.i64) (Ty.pair (Ty.int IntKind.i64) (Ty.pair (Ty.int IntKind.u64) (Ty.pair (Ty.int IntKind.u32) (Ty.pair (Ty.int IntKind.u64) (Ty.pair (Ty.int IntKind.u64) (Ty.pair (Ty.int IntKind.u64) (Ty.pair (Ty.arr 64 (Ty.int IntKind.u8)) (Ty.int IntKind.u32))))))))))))))))))))))))) :: .n n2 :: .n n3 :: .n n4 :: .n n5 :: .n n6 :: .n n7 :: .n n8 :: .n n9 :: .n n10 :: .l (Ty.int IntKind.u8) l11 :: .n n12 :: .b b13 :: .n n14 :: .n n15 :: .b b16 :: .n n17 :: .n n18 :: .b b19 :: .n n20 :: .n n21 :: .n n22 :: .n n23 :: .n n24 :: .b b25 :: .n n26 :: .n n27 :: .n n28 :: .l (Ty.int IntKind.u8) l29 :: .n n30 :: .n n31 :: .n n32 :: []));
       (.node (isK 0 (HK.b :: HK.n :: HK.n :: HK.n :: HK.n :: HK.n :: HK.n :: HK.n :: HK.n :: HK.n :: HK.l (Ty.int IntKind.u8) :: HK.n :: HK.b :: HK.n :: HK.n :: HK.b :: HK.n :: HK.n :: HK.b :: HK.n :: HK.n :: HK.n :: HK.n :: HK.n :: HK.b :: HK.n :: HK.n :: HK.n :: HK.l (Ty.int IntKind.u8) :: HK.n :: HK.n :: HK.n :: []) r1)
        (.node (!gb (dOf r1) 0)
         (.leaf (Step.stop 1 [.b false]))
         (let r2 : Option (Nat × List Dat) := (op_31a (.n (gn (dOf r1) 1) :: .n (gn (dOf r1) 2) :: .n (gn (dOf r1) 3) :: .n (gn (dOf r1) 4) :: .n (gn (dOf r1) 5) :: .n (gn (dOf r1) 6) :: .n (gn (dOf r1) 7) :: .n (gn (dOf r1) 8) :: .n (gn (dOf r1) 9) :: .l (Ty.int IntKind.u8) (gl (Ty.int IntKind.u8) (dOf r1) 10) :: .n (gn (dOf r1) 11) :: .b (gb (dOf r1) 12) :: .n (gn (dOf r1) 13) :: .n (gn (dOf r1) 14) :: .b (gb (dOf r1) 15) :: .n (gn (dOf r1) 16) :: .n (gn (dOf r1) 17) :: .b (gb (dOf r1) 18) :: .n (gn (dOf r1) 19) :: .n (gn (dOf r1) 20) :: .n (gn (dOf r1) 21) :: .n (gn (dOf r1) 22) :: .n (gn (dOf r1) 23) :: .b (gb (dOf r1) 24) :: .n (gn (dOf r1) 25) :: .n (gn (dOf r1) 26) :: .n (gn (dOf r1) 27) :: .l (Ty.int IntKind.u8) (gl (Ty.int IntKind.u8) (dOf r1) 28) :: .n (gn (dOf r1) 29) :: .n (gn (dOf r1) 30) :: .n (gn (dOf r1) 31) :: []));
          (.node (isK 0 [HK.b] r2)
           (.node (!gb (dOf r2) 0)
            (.leaf (Step.stop 1 [.b false]))
            (.leaf (Step.go (.k 0 :: .l (Ty.pair (Ty.int IntKind.u8) (Ty.pair (Ty.int IntKind.i64) (Ty.pair (Ty.int IntKind.u8) (Ty.pair (Ty.int IntKind.i64) (Ty.pair (Ty.int IntKind.i64) (Ty.pair (Ty.int IntKind.u64) (Ty.pair (Ty.int IntKind.u32) (Ty.pair (Ty.int IntKind.u64) (Ty.pair (Ty.int IntKind.u64) (Ty.pair (Ty.int IntKind.u64) (Ty.pair (Ty.arr 64 (Ty.int IntKind.u8)) (Ty.int IntKind.u32)))))))))))) l0 :: .n (IntKind.wrap .i64 (n1 + (1 : Int))) :: .n (gn (dOf r1) 1) :: .n (gn (dOf r1) 2) :: .n (gn (dOf r1) 3) :: .n (gn (dOf r1) 4) :: .n (gn (dOf r1) 5) :: .n (gn (dOf r1) 6) :: .n (gn (dOf r1) 7) :: .n (gn (dOf r1) 8) :: .n (gn (dOf r1) 9) :: .l (Ty.int IntKind.u8) (gl (Ty.int IntKind.u8) (dOf r1) 10) :: .n (gn (dOf r1) 11) :: .b (gb (dOf r1) 12) :: .n (gn (dOf r1) 13) :: .n (gn (dOf r1) 14) :: .b (gb (dOf r1) 15) :: .n (gn (dOf r1) 16) :: .n (gn (dOf r1) 17) :: .b (gb (dOf r1) 18) :: .n (gn (dOf r1) 19) :: .n (gn (dOf r1) 20) :: .n (gn (dOf r1) 21) :: .n (gn (dOf r1) 22) :: .n (gn (dOf r1) 23) :: .b (gb (dOf r1) 24) :: .n (gn (dOf r1) 25) :: .n (gn (dOf r1) 26) :: .n (gn (dOf r1) 27) :: .l (Ty.int IntKind.u8) (gl (Ty.int IntKind.u8) (dOf r1) 28) :: .n (gn (dOf r1) 29) :: .n (gn (dOf r1) 30) :: .n (gn (dOf r1) 31) :: []))))
           (.bad 351))))
        (.node (isK 1 (HK.b :: HK.n :: HK.n :: HK.n :: HK.n :: HK.n :: HK.n :: HK.n :: HK.n :: HK.n :: HK.n :: HK.l (Ty.int IntKind.u8) :: HK.n :: HK.b :: HK.n :: HK.n :: HK.b :: HK.n :: HK.n :: HK.b :: HK.n :: HK.n :: HK.n :: HK.n :: HK.n :: HK.b :: HK.n :: HK.n :: HK.n :: HK.l (Ty.int IntKind.u8) :: HK.n :: HK.n :: HK.n :: []) r1)
         (.node (!gb (dOf r1) 0)
          (.leaf (Step.stop 1 [.b false]))
          (let r2 : Option (Nat × List Dat) := (op_31b (.n (gn (dOf r1) 1) :: .n (gn (dOf r1) 2) :: .n (gn (dOf r1) 3) :: .n (gn (dOf r1) 4) :: .n (gn (dOf r1) 5) :: .n (gn (dOf r1) 6) :: .n (gn (dOf r1) 7) :: .n (gn (dOf r1) 8) :: .n (gn (dOf r1) 9) :: .n (gn (dOf r1) 10) :: .l (Ty.int IntKind.u8) (gl (Ty.int IntKind.u8) (dOf r1) 11) :: .n (gn (dOf r1) 12) :: .b (gb (dOf r1) 13) :: .n (gn (dOf r1) 14) :: .n (gn (dOf r1) 15) :: .b (gb (dOf r1) 16) :: .n (gn (dOf r1) 17) :: .n (gn (dOf r1) 18) :: .b (gb (dOf r1) 19) :: .n (gn (dOf r1) 20) :: .n (gn (dOf r1) 21) :: .n (gn (dOf r1) 22) :: .n (gn (dOf r1) 23) :: .n (gn (dOf r1) 24) :: .b (gb (dOf r1) 25) :: .n (gn (dOf r1) 26) :: .n (gn (dOf r1) 27) :: .n (gn (dOf r1) 28) :: .l (Ty.int IntKind.u8) (gl (Ty.int IntKind.u8) (dOf r1) 29) :: .n (gn (dOf r1) 30) :: .n (gn (dOf r1) 31) :: .n (gn (dOf r1) 32) :: []));
           (.node (isK 0 [HK.b] r2)
            (.node (!gb (dOf r2) 0)
             (.leaf (Step.stop 1 [.b false]))
             (.leaf (Step.go (.k 1 :: .l (Ty.pair (Ty.int IntKind.u8) (Ty.pair (Ty.int IntKind.i64) (Ty.pair (Ty.int IntKind.u8) (Ty.pair (Ty.int IntKind.i64) (Ty.pair (Ty.int IntKind.i64) (Ty.pair (Ty.int IntKind.u64) (Ty.pair (Ty.int IntKind.u32) (Ty.pair (Ty.int IntKind.u64) (Ty.pair (Ty.int IntKind.u64) (Ty.pair (Ty.int IntKind.u64) (Ty.pair (Ty.arr 64 (Ty.int IntKind.u8)) (Ty.int IntKind.u32)))))))))))) l0 :: .n (IntKind.wrap .i64 (n1 + (1 : Int))) :: .n (gn (dOf r1) 1) :: .n (gn (dOf r1) 2) :: .n (gn (dOf r1) 3) :: .n (gn (dOf r1) 4) :: .n (gn (dOf r1) 5) :: .n (gn (dOf r1) 6) :: .n (gn (dOf r1) 7) :: .n (gn (dOf r1) 8) :: .n (gn (dOf r1) 9) :: .n (gn (dOf r1) 10) :: .l (Ty.int IntKind.u8) (gl (Ty.int IntKind.u8) (dOf r1) 11) :: .n (gn (dOf r1) 12) :: .b (gb (dOf r1) 13) :: .n (gn (dOf r1) 14) :: .n (gn (dOf r1) 15) :: .b (gb (dOf r1) 16) :: .n (gn (dOf r1) 17) :: .n (gn (dOf r1) 18) :: .b (gb (dOf r1) 19) :: .n (gn (dOf r1) 20) :: .n (gn (dOf r1) 21) :: .n (gn (dOf r1) 22) :: .n (gn (dOf r1) 23) :: .n (gn (dOf r1) 24) :: .b (gb (dOf r1) 25) :: .n (gn (dOf r1) 26) :: .n (gn (dOf r1) 27) :: .n (gn (dOf r1) 28) :: .l (Ty.int IntKind.u8) (gl (Ty.int IntKind.u8) (dOf r1) 29) :: .n (gn (dOf r1) 30) :: .n (gn (dOf r1) 31) :: .n (gn (dOf r1) 32) :: []))))
            (.bad 351))))
         (.bad 351))))
      (.bad 10))
     (.leaf (Step.stop 0 [])))
  | _ => .bad 0
def fn_L5_10_1 : List Dat → Tree Step
  | (.l (Ty.pair (Ty.int IntKind.u8) (Ty.pair (Ty.int IntKind.i64) (Ty.pair (Ty.int IntKind.u8) (Ty.pair (Ty.int IntKind.i64) (Ty.pair (Ty.int IntKind.i64) (Ty.pair (Ty.int IntKind.u64) (Ty.pair (Ty.int IntKind.u32) (Ty.pair (Ty.int IntKind.u64) (Ty.pair (Ty.int IntKind.u64) (Ty.pair (Ty.int IntKind.u64) (Ty.pair (Ty.arr 64 (Ty.int IntKind.u8)) (Ty.int IntKind.u32)))))))))))) l0 :: .n n1 :: .n n2 :: .n n3 :: .n n4 :: .n n5 :: .n n6 :: .n n7 :: .n n8 :: .n n9 :: .n n10 :: .n n11 :: .l (Ty.int IntKind.u8) l12 :: .n n13 :: .b b14 :: .n n15 :: .n n16 :: .b b17 :: .n n18 :: .n n19 :: .b b20 :: .n n21 :: .n n22 :: .n n23 :: .n n24 :: .n n25 :: .b b26 :: .n n27 :: .n n28 :: .n n29 :: .l (Ty.int IntKind.u8) l30 :: .n n31 :: .n n32 :: .n n33 :: []) =>
    (.node (decide (n1 < (↑(List.length l0) : Int)))
     (.node (inR n1 (List.length l0))
      (let r1 : Option (Nat × List Dat) := (op_32b (.n (Prod.fst (List.getD l0 (Int.toNat n1) (Ty.dflt (Ty.pair (Ty.int IntKind.u8) (Ty.pair (Ty.int IntKind.i64) (Ty.pair (Ty.int IntKind.u8) (Ty.pair (Ty.int IntKind.i64) (Ty.pair (Ty.int IntKind.i64) (Ty.pair (Ty.int IntKind.u64) (Ty.pair (Ty.int IntKind.u32) (Ty.pair (Ty.int IntKind.u64) (Ty.pair (Ty.int IntKind.u64) (Ty.pair (Ty.int IntKind.u64) (Ty.pair (Ty.arr 64 (Ty.int IntKind.u8)) (Ty.int IntKind.u32))))))))))))))) :: .n (Prod.fst (Prod.snd (List.getD l0 (Int.toNat n1) (Ty.dflt (Ty.pair (Ty.int IntKind.u8) (Ty.pair (Ty.int IntKind.i64) (Ty.pair (Ty.int IntKind.u8) (Ty.pair (Ty.int IntKind.i64) (Ty.pair (Ty.int IntKind.i64) (Ty.pair (Ty.int IntKind.u64) (Ty.pair (Ty.int IntKind.u32) (Ty.pair (Ty.int IntKind.u64) (Ty.pair (Ty.int IntKind.u64) (Ty.pair (Ty.int IntKind.u64) (Ty.pair (Ty.arr 64 (Ty.int IntKind.u8)) (Ty.int IntKind.u32)))))))))))))))) :: .n (Prod.fst (Prod.snd (Prod.snd (List.getD l0 (Int.toNat n1) (Ty.dflt (Ty.pair (Ty.int IntKind.u8) (Ty.pair (Ty.int IntKind.i64) (Ty.pair (Ty.int IntKind.u8) (Ty.pair (Ty.int IntKind.i64) (Ty.pair (Ty.int IntKind.i64) (Ty.pair (Ty.int IntKind.u64) (Ty.pair (Ty.int IntKind.u32) (Ty.pair (Ty.int IntKind.u64) (Ty.pair (Ty.int IntKind.u64) (Ty.pair (Ty.int IntKind.u64) (Ty.pair (Ty.arr 64 (Ty.int IntKind.u8)) (Ty.int IntKind.u32))))))))))))))))) :: .n (Prod.fst (Prod.snd (Prod.snd (Prod.snd (List.getD l0 (Int.toNat n1) (Ty.dflt (Ty.pair (Ty.int IntKind.u8) (Ty.pair (Ty.int IntKind.i64) (Ty.pair (Ty.int IntKind.u8) (Ty.pair (Ty.int IntKind.i64) (Ty.pair (Ty.int IntKind.i64) (Ty.pair (Ty.int IntKind.u64) (Ty.pair (Ty.int IntKind.u32) (Ty.pair (Ty.int IntKind.u64) (Ty.pair (Ty.int IntKind.u64) (Ty.pair (Ty.int IntKind.u64) (Ty.pair (Ty.arr 64 (Ty.int IntKind.u8)) (Ty.int IntKind.u32)))))))))))))))))) :: .n (Prod.fst (Prod.snd (Prod.snd (Prod.snd (Prod.snd (List.getD l0 (Int.toNat n1) (Ty.dflt (Ty.pair (Ty.int IntKind.u8) (Ty.pair (Ty.int IntKind.i64) (Ty.pair (Ty.int IntKind.u8) (Ty.pair (Ty.int IntKind.i64) (Ty.pair (Ty.int IntKind.i64) (Ty.pair (Ty.int IntKind.u64) (Ty.pair (Ty.int IntKind.u32) (Ty.pair (Ty.int IntKind.u64) (Ty.pair (Ty.int IntKind.u64) (Ty.pair (Ty.int IntKind.u64) (Ty.pair (Ty.arr 64 (Ty.int IntKind.u8)) (Ty.int IntKind.u32))))))))))))))))))) :: .n (Prod.fst (Prod.snd (Prod.snd (Prod.snd (Prod.snd (Prod.snd (List.getD l0 (Int.toNat n1) (Ty.dflt (Ty.pair (Ty.int IntKind.u8) (Ty.pair (Ty.int IntKind.i64) (Ty.pair (Ty.int IntKind.u8) (Ty.pair (Ty.int IntKind.i64) (Ty.pair (Ty.int IntKind.i64) (Ty.pair (Ty.int IntKind.u64) (Ty.pair (Ty.int IntKind.u32) (Ty.pair (Ty.int IntKind.u64) (Ty.pair (Ty.int IntKind.u64) (Ty.pair (Ty.int IntKind.u64) (Ty.pair (Ty.arr 64 (Ty.int IntKind.u8)) (Ty.int IntKind.u32)))))))))))))))))))) :: .n (Prod.fst (Prod.snd (Prod.snd (Prod.snd (Prod.snd (Prod.snd (Prod.snd (List.getD l0 (Int.toNat n1) (Ty.dflt (Ty.pair (Ty.int IntKind.u8) (Ty.pair (Ty.int IntKind.i64) (Ty.pair (Ty.int IntKind.u8) (Ty.pair (Ty.int IntKind.i64) (Ty.pair (Ty.int IntKind.i64) (Ty.pair (Ty.int IntKind.u64) (Ty.pair (Ty.int IntKind.u32) (Ty.pair (Ty.int IntKind.u64) (Ty.pair (Ty.int IntKind.u64) (Ty.pair (Ty.int IntKind.u64) (Ty.pair (Ty.arr 64 (Ty.int IntKind.u8)) (Ty.int IntKind.u32))))))))))))))))))))) :: .n (Prod.fst (Prod.snd (Prod.snd (Prod.snd (Prod.snd (Prod.snd (Prod.snd (Prod.snd (List.getD l0 (Int.toNat n1) (Ty.dflt (Ty.pair (Ty.int IntKind.u8) (Ty.pair (Ty.int IntKind.i64) (Ty.pair (Ty.int IntKind.u8) (Ty.pair (Ty.int IntKind.i64) (Ty.pair (Ty.int IntKind.i64) (Ty.pair (Ty.int IntKind.u64) (Ty.pair (Ty.int IntKind.u32) (Ty.pair (Ty.int IntKind.u64) (Ty.pair (Ty.int IntKind.u64) (Ty.pair (Ty.int IntKind.u64) (Ty.pair (Ty.arr 64 (Ty.int IntKind.u8)) (Ty.int IntKind.u32)))))))))))))))))))))) :: .n (Prod.fst (Prod.snd (Prod.snd (Prod.snd (Prod.snd (Prod.snd (Prod.snd (Prod.snd (Prod.snd (List.getD l0 (Int.toNat n1) (Ty.dflt (Ty.pair (Ty.int IntKind.u8) (Ty.pair (Ty.int IntKind.i64) (Ty.pair (Ty.int IntKind.u8) (Ty.pair (Ty.int IntKind.i64) (Ty.pair (Ty.int IntKind.i64) (Ty.pair (Ty.int IntKind.u64) (Ty.pair (Ty.int IntKind.u32) (Ty.pair (Ty.int IntKind.u64) (Ty.pair (Ty.int IntKind.u64) (Ty.pair (Ty.int IntKind.u64) (Ty.pair (Ty.arr 64 (Ty.int IntKind.u8)) (Ty.int IntKind.u32))))))))))))))))))))))) :: .n (Prod.fst (Prod.snd (Prod.snd (Prod.snd (Prod.snd (Prod.snd (Prod.snd (Prod.snd (Prod.snd (Prod.snd (List.getD l0 (Int.toNat n1) (Ty.dflt (Ty.pair (Ty.int IntKind.u8) (Ty.pair (Ty.int IntKind.i64) (Ty.pair (Ty.int IntKind.u8) (Ty.pair (Ty.int IntKind.i64) (Ty.pair (Ty.int IntKind.i64) (Ty.pair (Ty.int IntKind.u64) (Ty.pair (Ty.int IntKind.u32) (Ty.pair (Ty.int IntKind.u64) (Ty.pair (Ty.int IntKind.u64) (Ty.pair (Ty.int IntKind.u64) (Ty.pair (Ty.arr 64 (Ty.int IntKind.u8)) (Ty.int IntKind.u32)))))))))))))))))))))))) :: .l (Ty.int IntKind.u8) (Prod.fst (Prod.snd (Prod.snd (Prod.snd (Prod.snd (Prod.snd (Prod.snd (Prod.snd (Prod.snd (Prod.snd (Prod.snd (List.getD l0 (Int.toNat n1) (Ty.dflt (Ty.pair (Ty.int IntKind.u8) (Ty.pair (Ty.int IntKind.i64) (Ty.pair (Ty.int IntKind.u8) (Ty.pair (Ty.int IntKind.i64) (Ty.pair (Ty.int IntKind.i64) (Ty.pair (Ty.int IntKind.u64) (Ty.pair (Ty.int IntKind.u32) (Ty.pair (Ty.int IntKind.u64) (Ty.pair (Ty.int IntKind.u64) (Ty.pair (Ty.int IntKind.u64) (Ty.pair (Ty.arr 64 (Ty.int IntKind.u8)) (Ty.int IntKind.u32))))))))))))))))))))))))) :: .n (Prod.snd (Prod.snd (Prod.snd (Prod.snd (Prod.snd (Prod.snd (Prod.snd (Prod.snd (Prod.snd (Prod.snd (Prod.snd (List.getD l0 (Int.toNat n1) (Ty.dflt (Ty.pair (Ty.int IntKind.u8) (Ty.pair (Ty.int IntKind.i64) (Ty.pair (Ty.int IntKind.u8) (Ty.pair (Ty.int IntKind.i64) (Ty.pair (Ty.int IntKind.i64) (Ty.pair (Ty.int IntKind.u64) (Ty.pair (Ty.int IntKind.u32) (Ty.pair (Ty.int IntKind.u64) (Ty.pair (Ty.int IntKind.u64) (Ty.pair (Ty.int IntKind.u64) (Ty.pair (Ty.arr 64 (Ty.int IntKind.u8)) (Ty.int IntKind.u32))))))))))))))))))))))))) :: .n n2 :: .n n3 :: .n n4 :: .n n5 :: .n n6 :: .n n7 :: .n n8 :: .n n9 :: .n n10 :: .n n11 :: .l (Ty.int IntKind.u8) l12 :: .n n13 :: .b b14 :: .n n15 :: .n n16 :: .b b17 :: .n n18 :: .n n19 :: .b b20 :: .n n21 :: .n n22 :: .n n23 :: .n n24 :: .n n25 :: .b b26 :: .n n27 :: .n n28 :: .n n29 :: .l (Ty.int IntKind.u8) l30 :: .n n31 :: .n n32 :: .n n33 :: []));
       (.node (isK 0 (HK.b :: HK.n :: HK.n :: HK.n :: HK.n :: HK.n :: HK.n :: HK.n :: HK.n :: HK.n :: HK.l (Ty.int IntKind.u8) :: HK.n :: HK.b :: HK.n :: HK.n :: HK.b :: HK.n :: HK.n :: HK.b :: HK.n :: HK.n :: HK.n :: HK.n :: HK.n :: HK.b :: HK.n :: HK.n :: HK.n :: HK.l (Ty.int IntKind.u8) :: HK.n :: HK.n :: HK.n :: []) r1)
        (.node (!gb (dOf r1) 0)
         (.leaf (Step.stop 1 [.b false]))
         (let r2 : Option (Nat × List Dat) := (op_31a (.n (gn (dOf r1) 1) :: .n (gn (dOf r1) 2) :: .n (gn (dOf r1) 3) :: .n (gn (dOf r1) 4) :: .n (gn (dOf r1) 5) :: .n (gn (dOf r1) 6) :: .n (gn (dOf r1) 7) :: .n (gn (dOf r1) 8) :: .n (gn (dOf r1) 9) :: .l (Ty.int IntKind.u8) (gl (Ty.int IntKind.u8) (dOf r1) 10) :: .n (gn (dOf r1) 11) :: .b (gb (dOf r1) 12) :: .n (gn (dOf r1) 13) :: .n (gn (dOf r1) 14) :: .b (gb (dOf r1) 15) :: .n (gn (dOf r1) 16) :: .n (gn (dOf r1) 17) :: .b (gb (dOf r1) 18) :: .n (gn (dOf r1) 19) :: .n (gn (dOf r1) 20) :: .n (gn (dOf r1) 21) :: .n (gn (dOf r1) 22) :: .n (gn (dOf r1) 23) :: .b (gb (dOf r1) 24) :: .n (gn (dOf r1) 25) :: .n (gn (dOf r1) 26) :: .n (gn (dOf r1) 27) :: .l (Ty.int IntKind.u8) (gl (Ty.int IntKind.u8) (dOf r1) 28) :: .n (gn (dOf r1) 29) :: .n (gn (dOf r1) 30) :: .n (gn (dOf r1) 31) :: []));
          (.node (isK 0 [HK.b] r2)
           (.node (!gb (dOf r2) 0)
            (.leaf (Step.stop 1 [.b false]))
            (.leaf (Step.go (.k 0 :: .l (Ty.pair (Ty.int IntKind.u8) (Ty.pair (Ty.int IntKind.i64) (Ty.pair (Ty.int IntKind.u8) (Ty.pair (Ty.int IntKind.i64) (Ty.pair (Ty.int IntKind.i64) (Ty.pair (Ty.int IntKind.u64) (Ty.pair (Ty.int IntKind.u32) (Ty.pair (Ty.int IntKind.u64) (Ty.pair (Ty.int IntKind.u64) (Ty.pair (Ty.int IntKind.u64) (Ty.pair (Ty.arr 64 (Ty.int IntKind.u8)) (Ty.int IntKind.u32)))))))))))) l0 :: .n (IntKind.wrap .i64 (n1 + (1 : Int))) :: .n (gn (dOf r1) 1) :: .n (gn (dOf r1) 2) :: .n (gn (dOf r1) 3) :: .n (gn (dOf r1) 4) :: .n (gn (dOf r1) 5) :: .n (gn (dOf r1) 6) :: .n (gn (dOf r1) 7) :: .n (gn (dOf r1) 8) :: .n (gn (dOf r1) 9) :: .l (Ty.int IntKind.u8) (gl (Ty.int IntKind.u8) (dOf r1) 10) :: .n (gn (dOf r1) 11) :: .b (gb (dOf r1) 12) :: .n (gn (dOf r1) 13) :: .n (gn (dOf r1) 14) :: .b (gb (dOf r1) 15) :: .n (gn (dOf r1) 16) :: .n (gn (dOf r1) 17) :: .b (gb (dOf r1) 18) :: .n (gn (dOf r1) 19) :: .n (gn (dOf r1) 20) :: .n (gn (dOf r1) 21) :: .n (gn (dOf r1) 22) :: .n (gn (dOf r1) 23) :: .b (gb (dOf r1) 24) :: .n (gn (dOf r1) 25) :: .n (gn (dOf r1) 26) :: .n (gn (dOf r1) 27) :: .l (Ty.int IntKind.u8) (gl (Ty.int IntKind.u8) (dOf r1) 28) :: .n (gn (dOf r1) 29) :: .n (gn (dOf r1) 30) :: .n (gn (dOf r1) 31) :: []))))
           (.bad 351))))
        (.node (isK 1 (HK.b :: HK.n :: HK.n :: HK.n :: HK.n :: HK.n :: HK.n :: HK.n :: HK.n :: HK.n :: HK.n :: HK.l (Ty.int IntKind.u8) :: HK.n :: HK.b :: HK.n :: HK.n :: HK.b :: HK.n :: HK.n :: HK.b :: HK.n :: HK.n :: HK.n :: HK.n :: HK.n :: HK.b :: HK.n :: HK.n :: HK.n :: HK.l (Ty.int IntKind.u8) :: HK.n :: HK.n :: HK.n :: []) r1)
         (.node (!gb (dOf r1) 0)
          (.leaf (Step.stop 1 [.b false]))
          (let r2 : Option (Nat × List Dat) := (op_31b (.n (gn (dOf r1) 1) :: .n (gn (dOf r1) 2) :: .n (gn (dOf r1) 3) :: .n (gn (dOf r1) 4) :: .n (gn (dOf r1) 5) :: .n (gn (dOf r1) 6) :: .n (gn (dOf r1) 7) :: .n (gn (dOf r1) 8) :: .n (gn (dOf r1) 9) :: .n (gn (dOf r1) 10) :: .l (Ty.int IntKind.u8) (gl (Ty.int IntKind.u8) (dOf r1) 11) :: .n (gn (dOf r1) 12) :: .b (gb (dOf r1) 13) :: .n (gn (dOf r1) 14) :: .n (gn (dOf r1) 15) :: .b (gb (dOf r1) 16) :: .n (gn (dOf r1) 17) :: .n (gn (dOf r1) 18) :: .b (gb (dOf r1) 19) :: .n (gn (dOf r1) 20) :: .n (gn (dOf r1) 21) :: .n (gn (dOf r1) 22) :: .n (gn (dOf r1) 23) :: .n (gn (dOf r1) 24) :: .b (gb (dOf r1) 25) :: .n (gn (dOf r1) 26) :: .n (gn (dOf r1) 27) :: .n (gn (dOf r1) 28) :: .l (Ty.int IntKind.u8) (gl (Ty.int IntKind.u8) (dOf r1) 29) :: .n (gn (dOf r1) 30) :: .n (gn (dOf r1) 31) :: .n (gn (dOf r1) 32) :: []));
           (.node (isK 0 [HK.b] r2)
            (.node (!gb (dOf r2) 0)
             (.leaf (Step.stop 1 [.b false]))
             (.leaf (Step.go (.k 1 :: .l (Ty.pair (Ty.int IntKind.u8) (Ty.pair (Ty.int IntKind.i64) (Ty.pair (Ty.int IntKind.u8) (Ty.pair (Ty.int IntKind.i64) (Ty.pair (Ty.int IntKind.i64) (Ty.pair (Ty.int IntKind.u64) (Ty.pair (Ty.int IntKind.u32) (Ty.pair (Ty.int IntKind.u64) (Ty.pair (Ty.int IntKind.u64) (Ty.pair (Ty.int IntKind.u64) (Ty.pair (Ty.arr 64 (Ty.int IntKind.u8)) (Ty.int IntKind.u32)))))))))))) l0 :: .n (IntKind.wrap .i64 (n1 + (1 : Int))) :: .n (gn (dOf r1) 1) :: .n (gn (dOf r1) 2) :: .n (gn (dOf r1) 3) :: .n (gn (dOf r1) 4) :: .n (gn (dOf r1) 5) :: .n (gn (dOf r1) 6) :: .n (gn (dOf r1) 7) :: .n (gn (dOf r1) 8) :: .n (gn (dOf r1) 9) :: .n (gn (dOf r1) 10) :: .l (Ty.int IntKind.u8) (gl (Ty.int IntKind.u8) (dOf r1) 11) :: .n (gn (dOf r1) 12) :: .b (gb (dOf r1) 13) :: .n (gn (dOf r1) 14) :: .n (gn (dOf r1) 15) :: .b (gb (dOf r1) 16) :: .n (gn (dOf r1) 17) :: .n (gn (dOf r1) 18) :: .b (gb (dOf r1) 19) :: .n (gn (dOf r1) 20) :: .n (gn (dOf r1) 21) :: .n (gn (dOf r1) 22) :: .n (gn (dOf r1) 23) :: .n (gn (dOf r1) 24) :: .b (gb (dOf r1) 25) :: .n (gn (dOf r1) 26) :: .n (gn (dOf r1) 27) :: .n (gn (dOf r1) 28) :: .l (Ty.int IntKind.u8) (gl (Ty.int IntKind.u8) (dOf r1) 29) :: .n (gn (dOf r1) 30) :: .n (gn (dOf r1) 31) :: .n (gn (dOf r1) 32) :: []))))
            (.bad 351))))
         (.bad 351))))
      (.bad 10))
     (.leaf (Step.stop 0 [])))
  | _ => .bad 0
def fn_L5_10 : List Dat → Tree Step
  | .k 0 :: d => fn_L5_10_0 d
  | .k 1 :: d => fn_L5_10_1 d
  | _ => .bad 0
def op_L5_10 : List Dat → Option (Nat × List Dat) := iterS fn_L5_10 FU
def L5_10 : MBox := (mkM 0 [] [(sh 60 [(1, .imm TCall24 0), (5, .ptr 0 0), (7, .ptr 1 0), (8, .int .i64 1)], [rlA 2, rmB 17]), (sh 60 [(1, .imm TCall24 0), (5, .ptr 0 0), (7, .ptr 1 0), (8, .int .i64 1)], [rlB 2, rmB 18])] [] [(.exit 0, sh 60 [], []), (.ret, sh 60 [(4, .bool 0)], [])] op_L5_10)
theorem fn_L5_10_0_eq (l0 : List (Ty.den (Ty.pair (Ty.int IntKind.u8) (Ty.pair (Ty.int IntKind.i64) (Ty.pair (Ty.int IntKind.u8) (Ty.pair (Ty.int IntKind.i64) (Ty.pair (Ty.int IntKind.i64) (Ty.pair (Ty.int IntKind.u64) (Ty.pair (Ty.int IntKind.u32) (Ty.pair (Ty.int IntKind.u64) (Ty.pair (Ty.int IntKind.u64) (Ty.pair (Ty.int IntKind.u64) (Ty.pair (Ty.arr 64 (Ty.int IntKind.u8)) (Ty.int IntKind.u32)))))))))))))) (n1 : Int) (n2 : Int) (n3 : Int) (n4 : Int) (n5 : Int) (n6 : Int) (n7 : Int) (n8 : Int) (n9 : Int) (n10 : Int) (l11 : List (Ty.den (Ty.int IntKind.u8))) (n12 : Int) (b13 : Bool) (n14 : Int) (n15 : Int) (b16 : Bool) (n17 : Int) (n18 : Int) (b19 : Bool) (n20 : Int) (n21 : Int) (n22 : Int) (n23 : Int) (n24 : Int) (b25 : Bool) (n26 : Int) (n27 : Int) (n28 : Int) (l29 : List (Ty.den (Ty.int IntKind.u8))) (n30 : Int) (n31 : Int) (n32 : Int) : ((fun (d : List Dat) => stepMC false Try.prog cs_32b 5 10 ls0 (mkM 0 [] [(sh 60 [(1, .imm TCall24 0), (5, .ptr 0 0), (7, .ptr 1 0), (8, .int .i64 1)], [rlA 2, rmB 17]), (sh 60 [(1, .imm TCall24 0), (5, .ptr 0 0), (7, .ptr 1 0), (8, .int .i64 1)], [rlB 2, rmB 18])] [] [(.exit 0, sh 60 [], []), (.ret, sh 60 [(4, .bool 0)], [])] fun _ => none) (.k 0 :: d)) (.l (Ty.pair (Ty.int IntKind.u8) (Ty.pair (Ty.int IntKind.i64) (Ty.pair (Ty.int IntKind.u8) (Ty.pair (Ty.int IntKind.i64) (Ty.pair (Ty.int IntKind.i64) (Ty.pair (Ty.int IntKind.u64) (Ty.pair (Ty.int IntKind.u32) (Ty.pair (Ty.int IntKind.u64) (Ty.pair (Ty.int IntKind.u64) (Ty.pair (Ty.int IntKind.u64) (Ty.pair (Ty.arr 64 (Ty.int IntKind.u8)) (Ty.int IntKind.u32)))))))))))) l0 :: .n n1 :: .n n2 :: .n n3 :: .n n4 :: .n n5 :: .n n6 :: .n n7 :: .n n8 :: .n n9 :: .n n10 :: .l (Ty.int IntKind.u8) l11 :: .n n12 :: .b b13 :: .n n14 :: .n n15 :: .b b16 :: .n n17 :: .n n18 :: .b b19 :: .n n20 :: .n n21 :: .n n22 :: .n n23 :: .n n24 :: .b b25 :: .n n26 :: .n n27 :: .n n28 :: .l (Ty.int IntKind.u8) l29 :: .n n30 :: .n n31 :: .n n32 :: [])).sel = (fn_L5_10_0 (.l (Ty.pair (Ty.int IntKind.u8) (Ty.pair (Ty.int IntKind.i64) (Ty.pair (Ty.int IntKind.u8) (Ty.pair (Ty.int IntKind.i64) (Ty.pair (Ty.int IntKind.i64) (Ty.pair (Ty.int IntKind.u64) (Ty.pair (Ty.int IntKind.u32) (Ty.pair (Ty.int IntKind.u64) (Ty.pair (Ty.int IntKind.u64) (Ty.pair (Ty.int IntKind.u64) (Ty.pair (Ty.arr 64 (Ty.int IntKind.u8)) (Ty.int IntKind.u32)))))))))))) l0 :: .n n1 :: .n n2 :: .n n3 :: .n n4 :: .n n5 :: .n n6 :: .n n7 :: .n n8 :: .n n9 :: .n n10 :: .l (Ty.int IntKind.u8) l11 :: .n n12 :: .b b13 :: .n n14 :: .n n15 :: .b b16 :: .n n17 :: .n n18 :: .b b19 :: .n n20 :: .n n21 :: .n n22 :: .n n23 :: .n n24 :: .b b25 :: .n n26 :: .n n27 :: .n n28 :: .l (Ty.int IntKind.u8) l29 :: .n n30 :: .n n31 :: .n n32 :: [])).sel := by kernel_rfl
theorem fn_L5_10_0_ok (env : List Dat) (y : Step) (h : (fn_L5_10_0 env).sel = some y) : ((fun (d : List Dat) => stepMC false Try.prog cs_32b 5 10 ls0 (mkM 0 [] [(sh 60 [(1, .imm TCall24 0), (5, .ptr 0 0), (7, .ptr 1 0), (8, .int .i64 1)], [rlA 2, rmB 17]), (sh 60 [(1, .imm TCall24 0), (5, .ptr 0 0), (7, .ptr 1 0), (8, .int .i64 1)], [rlB 2, rmB 18])] [] [(.exit 0, sh 60 [], []), (.ret, sh 60 [(4, .bool 0)], [])] fun _ => none) (.k 0 :: d)) env).sel = some y := by
  unfold fn_L5_10_0 at h
  split at h
  · rw [fn_L5_10_0_eq]; exact h
  · cases h
theorem fn_L5_10_1_eq (l0 : List (Ty.den (Ty.pair (Ty.int IntKind.u8) (Ty.pair (Ty.int IntKind.i64) (Ty.pair (Ty.int IntKind.u8) (Ty.pair (Ty.int IntKind.i64) (Ty.pair (Ty.int IntKind.i64) (Ty.pair (Ty.int IntKind.u64) (Ty.pair (Ty.int IntKind.u32) (Ty.pair (Ty.int IntKind.u64) (Ty.pair (Ty.int IntKind.u64) (Ty.pair (Ty.int IntKind.u64) (Ty.pair (Ty.arr 64 (Ty.int IntKind.u8)) (Ty.int IntKind.u32)))))))))))))) (n1 : Int) (n2 : Int) (n3 : Int) (n4 : Int) (n5 : Int) (n6 : Int) (n7 : Int) (n8 : Int) (n9 : Int) (n10 : Int) (n11 : Int) (l12 : List (Ty.den (Ty.int IntKind.u8))) (n13 : Int) (b14 : Bool) (n15 : Int) (n16 : Int) (b17 : Bool) (n18 : Int) (n19 : Int) (b20 : Bool) (n21 : Int) (n22 : Int) (n23 : Int) (n24 : Int) (n25 : Int) (b26 : Bool) (n27 : Int) (n28 : Int) (n29 : Int) (l30 : List (Ty.den (Ty.int IntKind.u8))) (n31 : Int) (n32 : Int) (n33 : Int) : ((fun (d : List Dat) => stepMC false Try.prog cs_32b 5 10 ls0 (mkM 0 [] [(sh 60 [(1, .imm TCall24 0), (5, .ptr 0 0), (7, .ptr 1 0), (8, .int .i64 1)], [rlA 2, rmB 17]), (sh 60 [(1, .imm TCall24 0), (5, .ptr 0 0), (7, .ptr 1 0), (8, .int .i64 1)], [rlB 2, rmB 18])] [] [(.exit 0, sh 60 [], []), (.ret, sh 60 [(4, .bool 0)], [])] fun _ => none) (.k 1 :: d)) (.l (Ty.pair (Ty.int IntKind.u8) (Ty.pair (Ty.int IntKind.i64) (Ty.pair (Ty.int IntKind.u8) (Ty.pair (Ty.int IntKind.i64) (Ty.pair (Ty.int IntKind.i64) (Ty.pair (Ty.int IntKind.u64) (Ty.pair (Ty.int IntKind.u32) (Ty.pair (Ty.int IntKind.u64) (Ty.pair (Ty.int IntKind.u64) (Ty.pair (Ty.int IntKind.u64) (Ty.pair (Ty.arr 64 (Ty.int IntKind.u8)) (Ty.int IntKind.u32)))))))))))) l0 :: .n n1 :: .n n2 :: .n n3 :: .n n4 :: .n n5 :: .n n6 :: .n n7 :: .n n8 :: .n n9 :: .n n10 :: .n n11 :: .l (Ty.int IntKind.u8) l12 :: .n n13 :: .b b14 :: .n n15 :: .n n16 :: .b b17 :: .n n18 :: .n n19 :: .b b20 :: .n n21 :: .n n22 :: .n n23 :: .n n24 :: .n n25 :: .b b26 :: .n n27 :: .n n28 :: .n n29 :: .l (Ty.int IntKind.u8) l30 :: .n n31 :: .n n32 :: .n n33 :: [])).sel = (fn_L5_10_1 (.l (Ty.pair (Ty.int IntKind.u8) (Ty.pair (Ty.int IntKind.i64) (Ty.pair (Ty.int IntKind.u8) (Ty.pair (Ty.int IntKind.i64) (Ty.pair (Ty.int IntKind.i64) (Ty.pair (Ty.int IntKind.u64) (Ty.pair (Ty.int IntKind.u32) (Ty.pair (Ty.int IntKind.u64) (Ty.pair (Ty.int IntKind.u64) (Ty.pair (Ty.int IntKind.u64) (Ty.pair (Ty.arr 64 (Ty.int IntKind.u8)) (Ty.int IntKind.u32)))))))))))) l0 :: .n n1 :: .n n2 :: .n n3 :: .n n4 :: .n n5 :: .n n6 :: .n n7 :: .n n8 :: .n n9 :: .n n10 :: .n n11 :: .l (Ty.int IntKind.u8) l12 :: .n n13 :: .b b14 :: .n n15 :: .n n16 :: .b b17 :: .n n18 :: .n n19 :: .b b20 :: .n n21 :: .n n22 :: .n n23 :: .n n24 :: .n n25 :: .b b26 :: .n n27 :: .n n28 :: .n n29 :: .l (Ty.int IntKind.u8) l30 :: .n n31 :: .n n32 :: .n n33 :: [])).sel := by kernel_rfl
theorem fn_L5_10_1_ok (env : List Dat) (y : Step) (h : (fn_L5_10_1 env).sel = some y) : ((fun (d : List Dat) => stepMC false Try.prog cs_32b 5 10 ls0 (mkM 0 [] [(sh 60 [(1, .imm TCall24 0), (5, .ptr 0 0), (7, .ptr 1 0), (8, .int .i64 1)], [rlA 2, rmB 17]), (sh 60 [(1, .imm TCall24 0), (5, .ptr 0 0), (7, .ptr 1 0), (8, .int .i64 1)], [rlB 2, rmB 18])] [] [(.exit 0, sh 60 [], []), (.ret, sh 60 [(4, .bool 0)], [])] fun _ => none) (.k 1 :: d)) env).sel = some y := by
  unfold fn_L5_10_1 at h
  split at h
  · rw [fn_L5_10_1_eq]; exact h
  · cases h
theorem fn_L5_10_ok (env : List Dat) (y : Step) (h : (fn_L5_10 env).sel = some y) : (stepMC false Try.prog cs_32b 5 10 ls0 (mkM 0 [] [(sh 60 [(1, .imm TCall24 0), (5, .ptr 0 0), (7, .ptr 1 0), (8, .int .i64 1)], [rlA 2, rmB 17]), (sh 60 [(1, .imm TCall24 0), (5, .ptr 0 0), (7, .ptr 1 0), (8, .int .i64 1)], [rlB 2, rmB 18])] [] [(.exit 0, sh 60 [], []), (.ret, sh 60 [(4, .bool 0)], [])] fun _ => none) env).sel = some y := by
  unfold fn_L5_10 at h
  split at h
  · exact fn_L5_10_0_ok _ _ h
  · exact fn_L5_10_1_ok _ _ h
  · cases h
theorem L5_10_run : ∀ t s x, (manyRun L5_10 t s).sel = some x → CodeOk Try.prog 0 (.loop (cAt Try.prog 5 10)) t s x := mkM_ok (st := fn_L5_10) (m := FU) cs_32b_ok hmix false (LsOk.none _ _ _) (by kernel_rfl) fn_L5_10_ok

theorem ls_5_ok : LsOk Try.prog (0) (lsM [(10, L5_10)] (0)) (bodyOf Try.prog 5) := LsOk.many fun j B hB hk c hc hi => by
  simp only [lookM] at hB
  split at hB
  · rename_i e; have := Nat.eq_of_beq_eq_true e; subst this; cases hB
    have e1 : loopAt Try.prog 5 10 = [cAt Try.prog 5 10] := loopAt_one (by kernel_rfl)
    have e2 : c ∈ loopAt Try.prog 5 10 := loopsAt_mem hc hi
    rw [e1] at e2; cases List.mem_singleton.1 e2; exact L5_10_run
  cases hB

def fn_W5 : List Dat → Tree Bool
  | [.n n0, .l (Ty.pair (Ty.int IntKind.u8) (Ty.pair (Ty.int IntKind.i64) (Ty.pair (Ty.int IntKind.u8) (Ty.pair (Ty.int IntKind.i64) (Ty.pair (Ty.int IntKind.i64) (Ty.pair (Ty.int IntKind.u64) (Ty.pair (Ty.int IntKind.u32) (Ty.pair (Ty.int IntKind.u64) (Ty.pair (Ty.int IntKind.u64) (Ty.pair (Ty.int IntKind.u64) (Ty.pair (Ty.arr 64 (Ty.int IntKind.u8)) (Ty.int IntKind.u32)))))))))))) l1] =>
    (.node (decide ((↑(List.length l1) : Int) > (300 : Int)))
     (.leaf (true))
     (.node (decide (n0 < (1 : Int)))
      (.leaf (true))
      (.node (decide (n0 > (1000 : Int)))
       (.leaf (true))
       (let r1 : Option (Nat × List Dat) := (op_L5_10 (.k 0 :: .l (Ty.pair (Ty.int IntKind.u8) (Ty.pair (Ty.int IntKind.i64) (Ty.pair (Ty.int IntKind.u8) (Ty.pair (Ty.int IntKind.i64) (Ty.pair (Ty.int IntKind.i64) (Ty.pair (Ty.int IntKind.u64) (Ty.pair (Ty.int IntKind.u32) (Ty.pair (Ty.int IntKind.u64) (Ty.pair (Ty.int IntKind.u64) (Ty.pair (Ty.int IntKind.u64) (Ty.pair (Ty.arr 64 (Ty.int IntKind.u8)) (Ty.int IntKind.u32)))))))))))) l1 :: .n (0 : Int) :: .n (0 : Int) :: .n (-1 : Int) :: .n (0 : Int) :: .n (0 : Int) :: .n (0 : Int) :: .n (0 : Int) :: .n (0 : Int) :: .n (0 : Int) :: .n (0 : Int) :: .l (Ty.int IntKind.u8) (List.replicate 64 (0 : Int)) :: .n (0 : Int) :: .b false :: .n (0 : Int) :: .n n0 :: .b true :: .n n0 :: .n (0 : Int) :: .b true :: .n (0 : Int) :: .n (-1 : Int) :: .n (-1 : Int) :: .n (0 : Int) :: .n (0 : Int) :: .b false :: .n (0 : Int) :: .n (0 : Int) :: .n (0 : Int) :: .l (Ty.int IntKind.u8) (List.replicate 64 (0 : Int)) :: .n (0 : Int) :: .n (0 : Int) :: .n (0 : Int) :: []));
        (.node (isK 0 [] r1)
         (.leaf (true))
         (.node (isK 1 [HK.b] r1)
          (.leaf (gb (dOf r1) 0))
          (.bad 351)))))))
  | _ => .bad 0
def fr_W5 : List Dat → Tree Bool
  | [.n n0, .l (Ty.pair (Ty.int IntKind.u8) (Ty.pair (Ty.int IntKind.i64) (Ty.pair (Ty.int IntKind.u8) (Ty.pair (Ty.int IntKind.i64) (Ty.pair (Ty.int IntKind.i64) (Ty.pair (Ty.int IntKind.u64) (Ty.pair (Ty.int IntKind.u32) (Ty.pair (Ty.int IntKind.u64) (Ty.pair (Ty.int IntKind.u64) (Ty.pair (Ty.int IntKind.u64) (Ty.pair (Ty.arr 64 (Ty.int IntKind.u8)) (Ty.int IntKind.u32)))))))))))) l1] =>
    (.node (decide ((↑(List.length l1) : Int) > (300 : Int)))
     (.leaf (true))
     (.node (decide (n0 < (1 : Int)))
      (.node (decide (n0 < (1 : Int)))
       (.leaf (true))
       (.node (decide (n0 > (1000 : Int)))
        (.leaf (true))
        (.leaf (false))))
      (.node (decide (n0 > (1000 : Int)))
       (.node (decide (n0 < (1 : Int)))
        (.leaf (true))
        (.node (decide (n0 > (1000 : Int)))
         (.leaf (true))
         (.leaf (false))))
       (.node (decide (n0 < (1 : Int)))
        (.leaf (false))
        (.node (decide (n0 > (1000 : Int)))
         (.leaf (false))
         (let r1 : Option (Nat × List Dat) := (op_L5_10 (.k 0 :: .l (Ty.pair (Ty.int IntKind.u8) (Ty.pair (Ty.int IntKind.i64) (Ty.pair (Ty.int IntKind.u8) (Ty.pair (Ty.int IntKind.i64) (Ty.pair (Ty.int IntKind.i64) (Ty.pair (Ty.int IntKind.u64) (Ty.pair (Ty.int IntKind.u32) (Ty.pair (Ty.int IntKind.u64) (Ty.pair (Ty.int IntKind.u64) (Ty.pair (Ty.int IntKind.u64) (Ty.pair (Ty.arr 64 (Ty.int IntKind.u8)) (Ty.int IntKind.u32)))))))))))) l1 :: .n (0 : Int) :: .n (0 : Int) :: .n (-1 : Int) :: .n (0 : Int) :: .n (0 : Int) :: .n (0 : Int) :: .n (0 : Int) :: .n (0 : Int) :: .n (0 : Int) :: .n (0 : Int) :: .l (Ty.int IntKind.u8) (List.replicate 64 (0 : Int)) :: .n (0 : Int) :: .b false :: .n (0 : Int) :: .n n0 :: .b true :: .n n0 :: .n (0 : Int) :: .b true :: .n (0 : Int) :: .n (-1 : Int) :: .n (-1 : Int) :: .n (0 : Int) :: .n (0 : Int) :: .b false :: .n (0 : Int) :: .n (0 : Int) :: .n (0 : Int) :: .l (Ty.int IntKind.u8) (List.replicate 64 (0 : Int)) :: .n (0 : Int) :: .n (0 : Int) :: .n (0 : Int) :: []));
          (.node (isK 0 [] r1)
           (.leaf (true))
           (.node (isK 1 [HK.b] r1)
            (.leaf (gb (dOf r1) 0))
            (.bad 351)))))))))
  | _ => .bad 0
theorem fr_W5_eq (n0 : Int) (l1 : List (Ty.den (Ty.pair (Ty.int IntKind.u8) (Ty.pair (Ty.int IntKind.i64) (Ty.pair (Ty.int IntKind.u8) (Ty.pair (Ty.int IntKind.i64) (Ty.pair (Ty.int IntKind.i64) (Ty.pair (Ty.int IntKind.u64) (Ty.pair (Ty.int IntKind.u32) (Ty.pair (Ty.int IntKind.u64) (Ty.pair (Ty.int IntKind.u64) (Ty.pair (Ty.int IntKind.u64) (Ty.pair (Ty.arr 64 (Ty.int IntKind.u8)) (Ty.int IntKind.u32)))))))))))))) : ((fun (d : List Dat) => lawB false Try.prog cs_32b 5 (lsM [(10, L5_10)] (0)) (instL [.int .i64 0, .imm TCall24 1] d)) [.n n0, .l (Ty.pair (Ty.int IntKind.u8) (Ty.pair (Ty.int IntKind.i64) (Ty.pair (Ty.int IntKind.u8) (Ty.pair (Ty.int IntKind.i64) (Ty.pair (Ty.int IntKind.i64) (Ty.pair (Ty.int IntKind.u64) (Ty.pair (Ty.int IntKind.u32) (Ty.pair (Ty.int IntKind.u64) (Ty.pair (Ty.int IntKind.u64) (Ty.pair (Ty.int IntKind.u64) (Ty.pair (Ty.arr 64 (Ty.int IntKind.u8)) (Ty.int IntKind.u32)))))))))))) l1]).sel = (fr_W5 [.n n0, .l (Ty.pair (Ty.int IntKind.u8) (Ty.pair (Ty.int IntKind.i64) (Ty.pair (Ty.int IntKind.u8) (Ty.pair (Ty.int IntKind.i64) (Ty.pair (Ty.int IntKind.i64) (Ty.pair (Ty.int IntKind.u64) (Ty.pair (Ty.int IntKind.u32) (Ty.pair (Ty.int IntKind.u64) (Ty.pair (Ty.int IntKind.u64) (Ty.pair (Ty.int IntKind.u64) (Ty.pair (Ty.arr 64 (Ty.int IntKind.u8)) (Ty.int IntKind.u32)))))))))))) l1]).sel := by kernel_rfl
theorem fr_W5_pr (n0 : Int) (l1 : List (Ty.den (Ty.pair (Ty.int IntKind.u8) (Ty.pair (Ty.int IntKind.i64) (Ty.pair (Ty.int IntKind.u8) (Ty.pair (Ty.int IntKind.i64) (Ty.pair (Ty.int IntKind.i64) (Ty.pair (Ty.int IntKind.u64) (Ty.pair (Ty.int IntKind.u32) (Ty.pair (Ty.int IntKind.u64) (Ty.pair (Ty.int IntKind.u64) (Ty.pair (Ty.int IntKind.u64) (Ty.pair (Ty.arr 64 (Ty.int IntKind.u8)) (Ty.int IntKind.u32)))))))))))))) : (fr_W5 [.n n0, .l (Ty.pair (Ty.int IntKind.u8) (Ty.pair (Ty.int IntKind.i64) (Ty.pair (Ty.int IntKind.u8) (Ty.pair (Ty.int IntKind.i64) (Ty.pair (Ty.int IntKind.i64) (Ty.pair (Ty.int IntKind.u64) (Ty.pair (Ty.int IntKind.u32) (Ty.pair (Ty.int IntKind.u64) (Ty.pair (Ty.int IntKind.u64) (Ty.pair (Ty.int IntKind.u64) (Ty.pair (Ty.arr 64 (Ty.int IntKind.u8)) (Ty.int IntKind.u32)))))))))))) l1]).sel = (fn_W5 [.n n0, .l (Ty.pair (Ty.int IntKind.u8) (Ty.pair (Ty.int IntKind.i64) (Ty.pair (Ty.int IntKind.u8) (Ty.pair (Ty.int IntKind.i64) (Ty.pair (Ty.int IntKind.i64) (Ty.pair (Ty.int IntKind.u64) (Ty.pair (Ty.int IntKind.u32) (Ty.pair (Ty.int IntKind.u64) (Ty.pair (Ty.int IntKind.u64) (Ty.pair (Ty.int IntKind.u64) (Ty.pair (Ty.arr 64 (Ty.int IntKind.u8)) (Ty.int IntKind.u32)))))))))))) l1]).sel := (sel_c (fun _ => rfl) (fun h0 => (sel_c (fun h1 => (sel_t h1 rfl)) (fun h1 => (sel_c (fun h2 => (sel_f h1 (sel_t h2 rfl))) (fun h2 => (sel_f h1 (sel_f h2 rfl))))))))
theorem fn_W5_eq (n0 : Int) (l1 : List (Ty.den (Ty.pair (Ty.int IntKind.u8) (Ty.pair (Ty.int IntKind.i64) (Ty.pair (Ty.int IntKind.u8) (Ty.pair (Ty.int IntKind.i64) (Ty.pair (Ty.int IntKind.i64) (Ty.pair (Ty.int IntKind.u64) (Ty.pair (Ty.int IntKind.u32) (Ty.pair (Ty.int IntKind.u64) (Ty.pair (Ty.int IntKind.u64) (Ty.pair (Ty.int IntKind.u64) (Ty.pair (Ty.arr 64 (Ty.int IntKind.u8)) (Ty.int IntKind.u32)))))))))))))) : ((fun (d : List Dat) => lawB false Try.prog cs_32b 5 (lsM [(10, L5_10)] (0)) (instL [.int .i64 0, .imm TCall24 1] d)) [.n n0, .l (Ty.pair (Ty.int IntKind.u8) (Ty.pair (Ty.int IntKind.i64) (Ty.pair (Ty.int IntKind.u8) (Ty.pair (Ty.int IntKind.i64) (Ty.pair (Ty.int IntKind.i64) (Ty.pair (Ty.int IntKind.u64) (Ty.pair (Ty.int IntKind.u32) (Ty.pair (Ty.int IntKind.u64) (Ty.pair (Ty.int IntKind.u64) (Ty.pair (Ty.int IntKind.u64) (Ty.pair (Ty.arr 64 (Ty.int IntKind.u8)) (Ty.int IntKind.u32)))))))))))) l1]).sel = (fn_W5 [.n n0, .l (Ty.pair (Ty.int IntKind.u8) (Ty.pair (Ty.int IntKind.i64) (Ty.pair (Ty.int IntKind.u8) (Ty.pair (Ty.int IntKind.i64) (Ty.pair (Ty.int IntKind.i64) (Ty.pair (Ty.int IntKind.u64) (Ty.pair (Ty.int IntKind.u32) (Ty.pair (Ty.int IntKind.u64) (Ty.pair (Ty.int IntKind.u64) (Ty.pair (Ty.int IntKind.u64) (Ty.pair (Ty.arr 64 (Ty.int IntKind.u8)) (Ty.int IntKind.u32)))))))))))) l1]).sel := (fr_W5_eq n0 l1).trans (fr_W5_pr n0 l1)
theorem W5_law (env : List Dat) (h : (fn_W5 env).sel = some true) {w : World} {args : Array Value} (ha : LRel R0 (snapOf w) (instL [.int .i64 0, .imm TCall24 1] env) args) :
    Calls Try.prog 5 args w fun e w' => e = .returned (.bool true) ∧ Below w.heap.size w w' := by
  refine lawB_ok cs_32b_ok hmix false (ls := (lsM [(10, L5_10)] (0))) (ls_5_ok) ?_ ha
  unfold fn_W5 at h
  split at h
  · exact (fn_W5_eq _ _).trans h
  · cases h
end Go.Proofs.Ytkclmlcfdijbmaa.Vx.Pl
