import Derived.Test.YtgjnolljacicfaaVxLend
import Derived.Test.YtgjnolljacicfaaProg
import Derived.KernelRfl
namespace Go.Proofs.Ytgjnolljacicfaa.Vx
open Go Go.RowKit
set_option linter.unusedVariables false
set_option maxRecDepth 100000
set_option maxHeartbeats 0

abbrev TB : Ty := .int .u8
abbrev TN : Ty := .int .u32
theorem hmix : Try.prog.follows .mixedOrders = true := by kernel_rfl
theorem csNone_ok0 : CsOk Try.prog csNone := csNone_ok _

def op_11 : List Dat → Option (Nat × List Dat) := fun _ => some (0, [.b true])
def B11 : FBox := (mkF [] [] [] [(.bool 0, [])] op_11)
def cs_11 : FuncId → Option CSpec := csAdd 11 [B11] csNone
theorem fn_11_ok (env : List Dat) (y : Nat × List Dat) (h : op_11 env = some y) : (boxC true Try.prog csNone 11 ls0 (mkF [] [] [] [(.bool 0, [])] fun _ => none) env).sel = some y := by
  cases h
  kernel_rfl
theorem B11_ok : RunOk Try.prog 11 (boxRun B11) := mkF_ok (op := op_11) csNone_ok0 hmix true (LsOk.none _ _ _) fn_11_ok
theorem cs_11_ok : CsOk Try.prog cs_11 := csAdd_ok csNone_ok0 fun B hB => by
  cases List.mem_singleton.1 hB
  exact B11_ok

def fn_19 : List Dat → Tree (Nat × List Dat)
  | [.n n0] =>
    (.node (iand IntKind.u32 n0 (1 : Int) == (0 : Int))
     (.leaf ((0, [.n (ishr IntKind.u32 n0 (1 : Int))])))
     (.leaf ((0, [.n (ixor IntKind.u32 (ishr IntKind.u32 n0 (1 : Int)) (3988292384 : Int))]))))
  | _ => .bad 0
def op_19 : List Dat → Option (Nat × List Dat) := fun env => (fn_19 env).sel
def B19 : FBox := (mkF [.int .u32 0] [] [] [(.int .u32 0, [])] op_19)
def cs_19 : FuncId → Option CSpec := csLend 19 B19 cs_11
theorem fn_19_eq (n0 : Int) : (boxC false Try.prog cs_11 19 ls0 (mkF [.int .u32 0] [] [] [(.int .u32 0, [])] fun _ => none) [.n n0]).sel = (fn_19 [.n n0]).sel := by kernel_rfl
theorem fn_19_ok (env : List Dat) (y : Nat × List Dat) (h : (fn_19 env).sel = some y) : (boxC false Try.prog cs_11 19 ls0 (mkF [.int .u32 0] [] [] [(.int .u32 0, [])] fun _ => none) env).sel = some y := by
  unfold fn_19 at h
  split at h
  · rw [fn_19_eq]; exact h
  · cases h
theorem B19_ok : RunOk Try.prog 19 (boxRun B19) := mkF_ok (op := op_19) cs_11_ok hmix false (LsOk.none _ _ _) fn_19_ok
theorem cs_19_ok : CsOk Try.prog cs_19 := csLend_ok cs_11_ok B19_ok

def fn_21 : List Dat → Tree (Nat × List Dat)
  | [.n n0] =>
    (.node (decide (n0 < (2147483648 : Int)))
     (.leaf ((0, [.n (ishl IntKind.u32 n0 (1 : Int))])))
     (.leaf ((0, [.n (ior IntKind.u32 (ishl IntKind.u32 (ixor IntKind.u32 n0 (3988292384 : Int)) (1 : Int)) (1 : Int))]))))
  | _ => .bad 0
def op_21 : List Dat → Option (Nat × List Dat) := fun env => (fn_21 env).sel
def B21 : FBox := (mkF [.int .u32 0] [] [] [(.int .u32 0, [])] op_21)
def cs_21 : FuncId → Option CSpec := csLend 21 B21 cs_19
theorem fn_21_eq (n0 : Int) : (boxC false Try.prog cs_19 21 ls0 (mkF [.int .u32 0] [] [] [(.int .u32 0, [])] fun _ => none) [.n n0]).sel = (fn_21 [.n n0]).sel := by kernel_rfl
theorem fn_21_ok (env : List Dat) (y : Nat × List Dat) (h : (fn_21 env).sel = some y) : (boxC false Try.prog cs_19 21 ls0 (mkF [.int .u32 0] [] [] [(.int .u32 0, [])] fun _ => none) env).sel = some y := by
  unfold fn_21 at h
  split at h
  · rw [fn_21_eq]; exact h
  · cases h
theorem B21_ok : RunOk Try.prog 21 (boxRun B21) := mkF_ok (op := op_21) cs_19_ok hmix false (LsOk.none _ _ _) fn_21_ok
theorem cs_21_ok : CsOk Try.prog cs_21 := csLend_ok cs_19_ok B21_ok

def fn_L12_3 : List Dat → Tree Step
  | [.n n0, .l (Ty.int IntKind.u8) l1, .n n2, .n n3] =>
    (.node (decide (n3 < n2))
     (.node (inR n3 (List.length l1))
      (.node (isK 0 [HK.n] (op_19 [.n (ixor IntKind.u32 n0 (IntKind.wrap .u32 (List.getD l1 (Int.toNat n3) (0 : Int))))]))
       (.node (isK 0 [HK.n] (op_19 [.n (gn (dOf (op_19 [.n (ixor IntKind.u32 n0 (IntKind.wrap .u32 (List.getD l1 (Int.toNat n3) (0 : Int))))])) 0)]))
        (.node (isK 0 [HK.n] (op_19 [.n (gn (dOf (op_19 [.n (gn (dOf (op_19 [.n (ixor IntKind.u32 n0 (IntKind.wrap .u32 (List.getD l1 (Int.toNat n3) (0 : Int))))])) 0)])) 0)]))
         (.node (isK 0 [HK.n] (op_19 [.n (gn (dOf (op_19 [.n (gn (dOf (op_19 [.n (gn (dOf (op_19 [.n (ixor IntKind.u32 n0 (IntKind.wrap .u32 (List.getD l1 (Int.toNat n3) (0 : Int))))])) 0)])) 0)])) 0)]))
          (.node (isK 0 [HK.n] (op_19 [.n (gn (dOf (op_19 [.n (gn (dOf (op_19 [.n (gn (dOf (op_19 [.n (gn (dOf (op_19 [.n (ixor IntKind.u32 n0 (IntKind.wrap .u32 (List.getD l1 (Int.toNat n3) (0 : Int))))])) 0)])) 0)])) 0)])) 0)]))
           (.node (isK 0 [HK.n] (op_19 [.n (gn (dOf (op_19 [.n (gn (dOf (op_19 [.n (gn (dOf (op_19 [.n (gn (dOf (op_19 [.n (gn (dOf (op_19 [.n (ixor IntKind.u32 n0 (IntKind.wrap .u32 (List.getD l1 (Int.toNat n3) (0 : Int))))])) 0)])) 0)])) 0)])) 0)])) 0)]))
            (.node (isK 0 [HK.n] (op_19 [.n (gn (dOf (op_19 [.n (gn (dOf (op_19 [.n (gn (dOf (op_19 [.n (gn (dOf (op_19 [.n (gn (dOf (op_19 [.n (gn (dOf (op_19 [.n (ixor IntKind.u32 n0 (IntKind.wrap .u32 (List.getD l1 (Int.toNat n3) (0 : Int))))])) 0)])) 0)])) 0)])) 0)])) 0)])) 0)]))
             (.node (isK 0 [HK.n] (op_19 [.n (gn (dOf (op_19 [.n (gn (dOf (op_19 [.n (gn (dOf (op_19 [.n (gn (dOf (op_19 [.n (gn (dOf (op_19 [.n (gn (dOf (op_19 [.n (gn (dOf (op_19 [.n (ixor IntKind.u32 n0 (IntKind.wrap .u32 (List.getD l1 (Int.toNat n3) (0 : Int))))])) 0)])) 0)])) 0)])) 0)])) 0)])) 0)])) 0)]))
              (.leaf (Step.go [.n (gn (dOf (op_19 [.n (gn (dOf (op_19 [.n (gn (dOf (op_19 [.n (gn (dOf (op_19 [.n (gn (dOf (op_19 [.n (gn (dOf (op_19 [.n (gn (dOf (op_19 [.n (gn (dOf (op_19 [.n (ixor IntKind.u32 n0 (IntKind.wrap .u32 (List.getD l1 (Int.toNat n3) (0 : Int))))])) 0)])) 0)])) 0)])) 0)])) 0)])) 0)])) 0)])) 0), .l (Ty.int IntKind.u8) l1, .n n2, .n (IntKind.wrap .i64 (n3 + (1 : Int)))]))
              (.bad 351))
             (.bad 351))
            (.bad 351))
           (.bad 351))
          (.bad 351))
         (.bad 351))
        (.bad 351))
       (.bad 351))
      (.bad 10))
     (.leaf (Step.stop 0 [.n n0])))
  | _ => .bad 0
def op_L12_3 : List Dat → Option (Nat × List Dat) := iterS fn_L12_3 FU
def L12_3 : LBox := (mkL 0 [] (sh 20 [(3, .int .u32 0), (6, .imm TB 1), (7, .int .i64 2), (8, .int .i64 3)]) [] [] [(.exit 0, sh 20 [(3, .int .u32 0)], [])] op_L12_3)
theorem fn_L12_3_eq (n0 : Int) (l1 : List (Ty.den (Ty.int IntKind.u8))) (n2 : Int) (n3 : Int) : (stepC false Try.prog cs_21 12 3 ls0 (mkL 0 [] (sh 20 [(3, .int .u32 0), (6, .imm TB 1), (7, .int .i64 2), (8, .int .i64 3)]) [] [] [(.exit 0, sh 20 [(3, .int .u32 0)], [])] fun _ => none) [.n n0, .l (Ty.int IntKind.u8) l1, .n n2, .n n3]).sel = (fn_L12_3 [.n n0, .l (Ty.int IntKind.u8) l1, .n n2, .n n3]).sel := by kernel_rfl
theorem fn_L12_3_ok (env : List Dat) (y : Step) (h : (fn_L12_3 env).sel = some y) : (stepC false Try.prog cs_21 12 3 ls0 (mkL 0 [] (sh 20 [(3, .int .u32 0), (6, .imm TB 1), (7, .int .i64 2), (8, .int .i64 3)]) [] [] [(.exit 0, sh 20 [(3, .int .u32 0)], [])] fun _ => none) env).sel = some y := by
  unfold fn_L12_3 at h
  split at h
  · rw [fn_L12_3_eq]; exact h
  · cases h
theorem L12_3_ok (K : Nat) : LsOk Try.prog K (lsTab [(3, L12_3)] K) (bodyOf Try.prog 12) := mkL_ok (st := fn_L12_3) (m := FU) cs_21_ok hmix false (by kernel_rfl) (by kernel_rfl) fn_L12_3_ok
theorem L12_3_run : ∀ t s x, (loopRun L12_3 t s).sel = some x → CodeOk Try.prog 0 (.loop (cAt Try.prog 12 3)) t s x := mkLs_ok (st := fn_L12_3) (m := FU) cs_21_ok hmix false (LsOk.none _ _ _) (by kernel_rfl) fn_L12_3_ok

def fn_12 : List Dat → Tree (Nat × List Dat)
  | [.l (Ty.int IntKind.u8) l0] =>
    (.node (isK 0 [HK.n] (op_L12_3 [.n (4294967295 : Int), .l (Ty.int IntKind.u8) l0, .n (↑(List.length l0) : Int), .n (0 : Int)]))
     (.leaf ((0, [.n (ixor IntKind.u32 (4294967295 : Int) (gn (dOf (op_L12_3 [.n (4294967295 : Int), .l (Ty.int IntKind.u8) l0, .n (↑(List.length l0) : Int), .n (0 : Int)])) 0))])))
     (.bad 351))
  | _ => .bad 0
def op_12 : List Dat → Option (Nat × List Dat) := fun env => (fn_12 env).sel
def B12 : FBox := (mkF [.imm TB 0] [] [] [(.int .u32 0, [])] op_12)
def cs_12 : FuncId → Option CSpec := csLend 12 B12 cs_21
theorem fn_12_eq (l0 : List (Ty.den (Ty.int IntKind.u8))) : (boxC false Try.prog cs_21 12 (lsTab [(3, L12_3)] (List.length ([] : List PB))) (mkF [.imm TB 0] [] [] [(.int .u32 0, [])] fun _ => none) [.l (Ty.int IntKind.u8) l0]).sel = (fn_12 [.l (Ty.int IntKind.u8) l0]).sel := by kernel_rfl
theorem fn_12_ok (env : List Dat) (y : Nat × List Dat) (h : (fn_12 env).sel = some y) : (boxC false Try.prog cs_21 12 (lsTab [(3, L12_3)] (List.length ([] : List PB))) (mkF [.imm TB 0] [] [] [(.int .u32 0, [])] fun _ => none) env).sel = some y := by
  unfold fn_12 at h
  split at h
  · rw [fn_12_eq]; exact h
  · cases h
theorem B12_ok : RunOk Try.prog 12 (boxRun B12) := mkF_ok (op := op_12) cs_21_ok hmix false (L12_3_ok _) fn_12_ok
theorem cs_12_ok : CsOk Try.prog cs_12 := csLend_ok cs_21_ok B12_ok

def fn_L20_8_0 : List Dat → Tree Step
  | [.n n0, .l (Ty.int IntKind.u8) l1, .n n2, .n n3, .n n4, .l (Ty.int IntKind.u32) l5] =>
    (.node (decide (n4 < (8 : Int)))
     (.node (!decide (n4 < (0 : Int)))
      (.node (iand IntKind.u8 (ishr IntKind.u8 n3 n4) (1 : Int) == (1 : Int))
       (.node (inR n4 (List.length l5))
        (.leaf (Step.go [.k 0, .n (ixor IntKind.u32 n0 (List.getD l5 (Int.toNat n4) (0 : Int))), .l (Ty.int IntKind.u8) l1, .n n2, .n n3, .n (IntKind.wrap .i64 (n4 + (1 : Int))), .l (Ty.int IntKind.u32) l5]))
        (.bad 12))
       (.leaf (Step.go [.k 0, .n n0, .l (Ty.int IntKind.u8) l1, .n n2, .n n3, .n (IntKind.wrap .i64 (n4 + (1 : Int))), .l (Ty.int IntKind.u32) l5])))
      (.bad 83))
     (.leaf (Step.stop 0 [.n n0, .l (Ty.int IntKind.u8) l1, .n n2, .l (Ty.int IntKind.u32) l5])))
  | _ => .bad 0
def fn_L20_8 : List Dat → Tree Step
  | .k 0 :: d => fn_L20_8_0 d
  | _ => .bad 0
def op_L20_8 : List Dat → Option (Nat × List Dat) := iterS fn_L20_8 FU
def L20_8 : MBox := (mkM 0 [] [(sh 41 [(0, .int .u32 0), (1, .imm TB 1), (5, .own 0), (6, .int .i64 2), (7, .int .u8 3), (8, .int .i64 4)], [.arr TN 5])] [] [(.exit 2, sh 41 [(0, .int .u32 0), (1, .imm TB 1), (5, .own 0), (6, .int .i64 2)], [.arr TN 3])] op_L20_8)
theorem fn_L20_8_0_eq (n0 : Int) (l1 : List (Ty.den (Ty.int IntKind.u8))) (n2 : Int) (n3 : Int) (n4 : Int) (l5 : List (Ty.den (Ty.int IntKind.u32))) : ((fun (d : List Dat) => stepMC false Try.prog cs_12 20 8 ls0 (mkM 0 [] [(sh 41 [(0, .int .u32 0), (1, .imm TB 1), (5, .own 0), (6, .int .i64 2), (7, .int .u8 3), (8, .int .i64 4)], [.arr TN 5])] [] [(.exit 2, sh 41 [(0, .int .u32 0), (1, .imm TB 1), (5, .own 0), (6, .int .i64 2)], [.arr TN 3])] fun _ => none) (.k 0 :: d)) [.n n0, .l (Ty.int IntKind.u8) l1, .n n2, .n n3, .n n4, .l (Ty.int IntKind.u32) l5]).sel = (fn_L20_8_0 [.n n0, .l (Ty.int IntKind.u8) l1, .n n2, .n n3, .n n4, .l (Ty.int IntKind.u32) l5]).sel := by kernel_rfl
theorem fn_L20_8_0_ok (env : List Dat) (y : Step) (h : (fn_L20_8_0 env).sel = some y) : ((fun (d : List Dat) => stepMC false Try.prog cs_12 20 8 ls0 (mkM 0 [] [(sh 41 [(0, .int .u32 0), (1, .imm TB 1), (5, .own 0), (6, .int .i64 2), (7, .int .u8 3), (8, .int .i64 4)], [.arr TN 5])] [] [(.exit 2, sh 41 [(0, .int .u32 0), (1, .imm TB 1), (5, .own 0), (6, .int .i64 2)], [.arr TN 3])] fun _ => none) (.k 0 :: d)) env).sel = some y := by
  unfold fn_L20_8_0 at h
  split at h
  · rw [fn_L20_8_0_eq]; exact h
  · cases h
theorem fn_L20_8_ok (env : List Dat) (y : Step) (h : (fn_L20_8 env).sel = some y) : (stepMC false Try.prog cs_12 20 8 ls0 (mkM 0 [] [(sh 41 [(0, .int .u32 0), (1, .imm TB 1), (5, .own 0), (6, .int .i64 2), (7, .int .u8 3), (8, .int .i64 4)], [.arr TN 5])] [] [(.exit 2, sh 41 [(0, .int .u32 0), (1, .imm TB 1), (5, .own 0), (6, .int .i64 2)], [.arr TN 3])] fun _ => none) env).sel = some y := by
  unfold fn_L20_8 at h
  split at h
  · exact fn_L20_8_0_ok _ _ h
  · cases h
theorem L20_8_run : ∀ t s x, (manyRun L20_8 t s).sel = some x → CodeOk Try.prog 0 (.loop (cAt Try.prog 20 8)) t s x := mkM_ok (st := fn_L20_8) (m := FU) cs_12_ok hmix false (LsOk.none _ _ _) (by kernel_rfl) fn_L20_8_ok

def fn_L20_3_0 : List Dat → Tree Step
  | [.n n0, .l (Ty.int IntKind.u8) l1, .n n2, .l (Ty.int IntKind.u32) l3] =>
    (.node (decide (n2 < (↑(List.length l1) : Int)))
     (.node (inR n2 (List.length l1))
      (.node (isK 0 [HK.n, HK.l (Ty.int IntKind.u8), HK.n, HK.l (Ty.int IntKind.u32)] (op_L20_8 [.k 0, .n (ishr IntKind.u32 n0 (8 : Int)), .l (Ty.int IntKind.u8) l1, .n n2, .n (ixor IntKind.u8 (IntKind.wrap .u8 n0) (List.getD l1 (Int.toNat n2) (0 : Int))), .n (0 : Int), .l (Ty.int IntKind.u32) l3]))
       (.leaf (Step.go [.k 0, .n (gn (dOf (op_L20_8 [.k 0, .n (ishr IntKind.u32 n0 (8 : Int)), .l (Ty.int IntKind.u8) l1, .n n2, .n (ixor IntKind.u8 (IntKind.wrap .u8 n0) (List.getD l1 (Int.toNat n2) (0 : Int))), .n (0 : Int), .l (Ty.int IntKind.u32) l3])) 0), .l (Ty.int IntKind.u8) (gl (Ty.int IntKind.u8) (dOf (op_L20_8 [.k 0, .n (ishr IntKind.u32 n0 (8 : Int)), .l (Ty.int IntKind.u8) l1, .n n2, .n (ixor IntKind.u8 (IntKind.wrap .u8 n0) (List.getD l1 (Int.toNat n2) (0 : Int))), .n (0 : Int), .l (Ty.int IntKind.u32) l3])) 1), .n (IntKind.wrap .i64 (gn (dOf (op_L20_8 [.k 0, .n (ishr IntKind.u32 n0 (8 : Int)), .l (Ty.int IntKind.u8) l1, .n n2, .n (ixor IntKind.u8 (IntKind.wrap .u8 n0) (List.getD l1 (Int.toNat n2) (0 : Int))), .n (0 : Int), .l (Ty.int IntKind.u32) l3])) 2 + (1 : Int))), .l (Ty.int IntKind.u32) (gl (Ty.int IntKind.u32) (dOf (op_L20_8 [.k 0, .n (ishr IntKind.u32 n0 (8 : Int)), .l (Ty.int IntKind.u8) l1, .n n2, .n (ixor IntKind.u8 (IntKind.wrap .u8 n0) (List.getD l1 (Int.toNat n2) (0 : Int))), .n (0 : Int), .l (Ty.int IntKind.u32) l3])) 3)]))
       (.bad 351))
      (.bad 10))
     (.leaf (Step.stop 0 [.n n0])))
  | _ => .bad 0
def fn_L20_3 : List Dat → Tree Step
  | .k 0 :: d => fn_L20_3_0 d
  | _ => .bad 0
def op_L20_3 : List Dat → Option (Nat × List Dat) := iterS fn_L20_3 FU
def L20_3 : MBox := (mkM 0 [] [(sh 41 [(0, .int .u32 0), (1, .imm TB 1), (5, .own 0), (6, .int .i64 2)], [.arr TN 3])] [] [(.exit 0, sh 41 [(0, .int .u32 0)], [])] op_L20_3)
theorem fn_L20_3_0_eq (n0 : Int) (l1 : List (Ty.den (Ty.int IntKind.u8))) (n2 : Int) (l3 : List (Ty.den (Ty.int IntKind.u32))) : ((fun (d : List Dat) => stepMC false Try.prog cs_12 20 3 (lsM [(8, L20_8)] 0) (mkM 0 [] [(sh 41 [(0, .int .u32 0), (1, .imm TB 1), (5, .own 0), (6, .int .i64 2)], [.arr TN 3])] [] [(.exit 0, sh 41 [(0, .int .u32 0)], [])] fun _ => none) (.k 0 :: d)) [.n n0, .l (Ty.int IntKind.u8) l1, .n n2, .l (Ty.int IntKind.u32) l3]).sel = (fn_L20_3_0 [.n n0, .l (Ty.int IntKind.u8) l1, .n n2, .l (Ty.int IntKind.u32) l3]).sel := by kernel_rfl
theorem fn_L20_3_0_ok (env : List Dat) (y : Step) (h : (fn_L20_3_0 env).sel = some y) : ((fun (d : List Dat) => stepMC false Try.prog cs_12 20 3 (lsM [(8, L20_8)] 0) (mkM 0 [] [(sh 41 [(0, .int .u32 0), (1, .imm TB 1), (5, .own 0), (6, .int .i64 2)], [.arr TN 3])] [] [(.exit 0, sh 41 [(0, .int .u32 0)], [])] fun _ => none) (.k 0 :: d)) env).sel = some y := by
  unfold fn_L20_3_0 at h
  split at h
  · rw [fn_L20_3_0_eq]; exact h
  · cases h
theorem fn_L20_3_ok (env : List Dat) (y : Step) (h : (fn_L20_3 env).sel = some y) : (stepMC false Try.prog cs_12 20 3 (lsM [(8, L20_8)] 0) (mkM 0 [] [(sh 41 [(0, .int .u32 0), (1, .imm TB 1), (5, .own 0), (6, .int .i64 2)], [.arr TN 3])] [] [(.exit 0, sh 41 [(0, .int .u32 0)], [])] fun _ => none) env).sel = some y := by
  unfold fn_L20_3 at h
  split at h
  · exact fn_L20_3_0_ok _ _ h
  · cases h
theorem L20_3_in : LsOk Try.prog 0 (lsM [(8, L20_8)] 0) (cAt Try.prog 20 3) := LsOk.many fun j B hB hk c hc hi => by
  simp only [lookM] at hB
  split at hB
  · rename_i e; have := Nat.eq_of_beq_eq_true e; subst this; cases hB
    have e1 : loopsAt (cAt Try.prog 20 3) 8 = [cAt Try.prog 20 8] := by kernel_rfl
    have e2 := loopsAt_mem hc hi
    rw [e1] at e2; cases List.mem_singleton.1 e2; exact L20_8_run
  cases hB
theorem L20_3_run : ∀ t s x, (manyRun L20_3 t s).sel = some x → CodeOk Try.prog 0 (.loop (cAt Try.prog 20 3)) t s x := mkM_ok (st := fn_L20_3) (m := FU) cs_12_ok hmix false (L20_3_in) (by kernel_rfl) fn_L20_3_ok

theorem ls_20_ok : LsOk Try.prog (List.length ([] : List PB)) (lsM [(3, L20_3)] (List.length ([] : List PB))) (bodyOf Try.prog 20) := LsOk.many fun j B hB hk c hc hi => by
  simp only [lookM] at hB
  split at hB
  · rename_i e; have := Nat.eq_of_beq_eq_true e; subst this; cases hB
    have e1 : loopAt Try.prog 20 3 = [cAt Try.prog 20 3] := loopAt_one (by kernel_rfl)
    have e2 : c ∈ loopAt Try.prog 20 3 := loopsAt_mem hc hi
    rw [e1] at e2; cases List.mem_singleton.1 e2; exact L20_3_run
  cases hB

def fn_20 : List Dat → Tree (Nat × List Dat)
  | [.n n0, .l (Ty.int IntKind.u8) l1] =>
    (.node (isK 0 [HK.n] (op_L20_3 [.k 0, .n n0, .l (Ty.int IntKind.u8) l1, .n (0 : Int), .l (Ty.int IntKind.u32) (List.set (List.set (List.set (List.set (List.set (List.set (List.set (List.set (List.replicate 8 (0 : Int)) 0 (1996959894 : Int)) 1 (3993919788 : Int)) 2 (124634137 : Int)) 3 (249268274 : Int)) 4 (498536548 : Int)) 5 (997073096 : Int)) 6 (1994146192 : Int)) 7 (3988292384 : Int))]))
     (.leaf ((0, [.n (gn (dOf (op_L20_3 [.k 0, .n n0, .l (Ty.int IntKind.u8) l1, .n (0 : Int), .l (Ty.int IntKind.u32) (List.set (List.set (List.set (List.set (List.set (List.set (List.set (List.set (List.replicate 8 (0 : Int)) 0 (1996959894 : Int)) 1 (3993919788 : Int)) 2 (124634137 : Int)) 3 (249268274 : Int)) 4 (498536548 : Int)) 5 (997073096 : Int)) 6 (1994146192 : Int)) 7 (3988292384 : Int))])) 0)])))
     (.bad 351))
  | _ => .bad 0
def op_20 : List Dat → Option (Nat × List Dat) := fun env => (fn_20 env).sel
def B20 : FBox := (mkF [.int .u32 0, .imm TB 1] [] [] [(.int .u32 0, [])] op_20)
def cs_20 : FuncId → Option CSpec := csLend 20 B20 cs_12
theorem fn_20_eq (n0 : Int) (l1 : List (Ty.den (Ty.int IntKind.u8))) : (boxC false Try.prog cs_12 20 (lsM [(3, L20_3)] (List.length ([] : List PB))) (mkF [.int .u32 0, .imm TB 1] [] [] [(.int .u32 0, [])] fun _ => none) [.n n0, .l (Ty.int IntKind.u8) l1]).sel = (fn_20 [.n n0, .l (Ty.int IntKind.u8) l1]).sel := by kernel_rfl
theorem fn_20_ok (env : List Dat) (y : Nat × List Dat) (h : (fn_20 env).sel = some y) : (boxC false Try.prog cs_12 20 (lsM [(3, L20_3)] (List.length ([] : List PB))) (mkF [.int .u32 0, .imm TB 1] [] [] [(.int .u32 0, [])] fun _ => none) env).sel = some y := by
  unfold fn_20 at h
  split at h
  · rw [fn_20_eq]; exact h
  · cases h
theorem B20_ok : RunOk Try.prog 20 (boxRun B20) := mkF_ok (op := op_20) cs_12_ok hmix false (ls_20_ok) fn_20_ok
theorem cs_20_ok : CsOk Try.prog cs_20 := csLend_ok cs_12_ok B20_ok

def fn_13 : List Dat → Tree (Nat × List Dat)
  | [.l (Ty.int IntKind.u8) l0] =>
    (.node (isK 0 [HK.n] (op_20 [.n (4294967295 : Int), .l (Ty.int IntKind.u8) l0]))
     (.leaf ((0, [.n (ixor IntKind.u32 (4294967295 : Int) (gn (dOf (op_20 [.n (4294967295 : Int), .l (Ty.int IntKind.u8) l0])) 0))])))
     (.bad 351))
  | _ => .bad 0
def op_13 : List Dat → Option (Nat × List Dat) := fun env => (fn_13 env).sel
def B13 : FBox := (mkF [.imm TB 0] [] [] [(.int .u32 0, [])] op_13)
def cs_13 : FuncId → Option CSpec := csLend 13 B13 cs_20
theorem fn_13_eq (l0 : List (Ty.den (Ty.int IntKind.u8))) : (boxC false Try.prog cs_20 13 ls0 (mkF [.imm TB 0] [] [] [(.int .u32 0, [])] fun _ => none) [.l (Ty.int IntKind.u8) l0]).sel = (fn_13 [.l (Ty.int IntKind.u8) l0]).sel := by kernel_rfl
theorem fn_13_ok (env : List Dat) (y : Nat × List Dat) (h : (fn_13 env).sel = some y) : (boxC false Try.prog cs_20 13 ls0 (mkF [.imm TB 0] [] [] [(.int .u32 0, [])] fun _ => none) env).sel = some y := by
  unfold fn_13 at h
  split at h
  · rw [fn_13_eq]; exact h
  · cases h
theorem B13_ok : RunOk Try.prog 13 (boxRun B13) := mkF_ok (op := op_13) cs_20_ok hmix false (LsOk.none _ _ _) fn_13_ok
theorem cs_13_ok : CsOk Try.prog cs_13 := csLend_ok cs_20_ok B13_ok

def fn_L14_5 : List Dat → Tree Step
  | [.n n0, .n n1, .n n2, .n n3] =>
    (.node (decide (n3 < n2))
     (.node (isK 0 [HK.n] (op_19 [.n n1]))
      (.node (isK 0 [HK.n] (op_19 [.n (gn (dOf (op_19 [.n n1])) 0)]))
       (.node (isK 0 [HK.n] (op_19 [.n (gn (dOf (op_19 [.n (gn (dOf (op_19 [.n n1])) 0)])) 0)]))
        (.node (isK 0 [HK.n] (op_19 [.n (gn (dOf (op_19 [.n (gn (dOf (op_19 [.n (gn (dOf (op_19 [.n n1])) 0)])) 0)])) 0)]))
         (.node (isK 0 [HK.n] (op_19 [.n (gn (dOf (op_19 [.n (gn (dOf (op_19 [.n (gn (dOf (op_19 [.n (gn (dOf (op_19 [.n n1])) 0)])) 0)])) 0)])) 0)]))
          (.node (isK 0 [HK.n] (op_19 [.n (gn (dOf (op_19 [.n (gn (dOf (op_19 [.n (gn (dOf (op_19 [.n (gn (dOf (op_19 [.n (gn (dOf (op_19 [.n n1])) 0)])) 0)])) 0)])) 0)])) 0)]))
           (.node (isK 0 [HK.n] (op_19 [.n (gn (dOf (op_19 [.n (gn (dOf (op_19 [.n (gn (dOf (op_19 [.n (gn (dOf (op_19 [.n (gn (dOf (op_19 [.n (gn (dOf (op_19 [.n n1])) 0)])) 0)])) 0)])) 0)])) 0)])) 0)]))
            (.node (isK 0 [HK.n] (op_19 [.n (gn (dOf (op_19 [.n (gn (dOf (op_19 [.n (gn (dOf (op_19 [.n (gn (dOf (op_19 [.n (gn (dOf (op_19 [.n (gn (dOf (op_19 [.n (gn (dOf (op_19 [.n n1])) 0)])) 0)])) 0)])) 0)])) 0)])) 0)])) 0)]))
             (.leaf (Step.go [.n n0, .n (gn (dOf (op_19 [.n (gn (dOf (op_19 [.n (gn (dOf (op_19 [.n (gn (dOf (op_19 [.n (gn (dOf (op_19 [.n (gn (dOf (op_19 [.n (gn (dOf (op_19 [.n (gn (dOf (op_19 [.n n1])) 0)])) 0)])) 0)])) 0)])) 0)])) 0)])) 0)])) 0), .n n2, .n (IntKind.wrap .i64 (n3 + (1 : Int)))]))
             (.bad 351))
            (.bad 351))
           (.bad 351))
          (.bad 351))
         (.bad 351))
        (.bad 351))
       (.bad 351))
      (.bad 351))
     (.leaf (Step.stop 0 [.n n0, .n n1])))
  | _ => .bad 0
def op_L14_5 : List Dat → Option (Nat × List Dat) := iterS fn_L14_5 FU
def L14_5 : LBox := (mkL 0 [] (sh 31 [(0, .int .u32 0), (10, .int .u32 1), (22, .int .i64 2), (23, .int .i64 3)]) [] [] [(.exit 0, sh 31 [(0, .int .u32 0), (10, .int .u32 1)], [])] op_L14_5)
theorem fn_L14_5_eq (n0 : Int) (n1 : Int) (n2 : Int) (n3 : Int) : (stepC false Try.prog cs_13 14 5 ls0 (mkL 0 [] (sh 31 [(0, .int .u32 0), (10, .int .u32 1), (22, .int .i64 2), (23, .int .i64 3)]) [] [] [(.exit 0, sh 31 [(0, .int .u32 0), (10, .int .u32 1)], [])] fun _ => none) [.n n0, .n n1, .n n2, .n n3]).sel = (fn_L14_5 [.n n0, .n n1, .n n2, .n n3]).sel := by kernel_rfl
theorem fn_L14_5_ok (env : List Dat) (y : Step) (h : (fn_L14_5 env).sel = some y) : (stepC false Try.prog cs_13 14 5 ls0 (mkL 0 [] (sh 31 [(0, .int .u32 0), (10, .int .u32 1), (22, .int .i64 2), (23, .int .i64 3)]) [] [] [(.exit 0, sh 31 [(0, .int .u32 0), (10, .int .u32 1)], [])] fun _ => none) env).sel = some y := by
  unfold fn_L14_5 at h
  split at h
  · rw [fn_L14_5_eq]; exact h
  · cases h
theorem L14_5_ok (K : Nat) : LsOk Try.prog K (lsTab [(5, L14_5)] K) (bodyOf Try.prog 14) := mkL_ok (st := fn_L14_5) (m := FU) cs_13_ok hmix false (by kernel_rfl) (by kernel_rfl) fn_L14_5_ok
theorem L14_5_run : ∀ t s x, (loopRun L14_5 t s).sel = some x → CodeOk Try.prog 0 (.loop (cAt Try.prog 14 5)) t s x := mkLs_ok (st := fn_L14_5) (m := FU) cs_13_ok hmix false (LsOk.none _ _ _) (by kernel_rfl) fn_L14_5_ok

def fn_14 : List Dat → Tree (Nat × List Dat)
  | [.n n0, .n n1, .n n2, .n n3] =>
    (.node (decide (n3 < (0 : Int)))
     (.leaf ((0, [.n (0 : Int), .b false])))
     (.node (decide (n3 > (65536 : Int)))
      (.leaf ((0, [.n (0 : Int), .b false])))
      (.node (isK 0 [HK.n, HK.n] (op_L14_5 [.n n0, .n (IntKind.wrap .u32 (ixor IntKind.u8 n1 n2)), .n (IntKind.wrap .i64 (n3 + (1 : Int))), .n (0 : Int)]))
       (.leaf ((0, [.n (ixor IntKind.u32 (gn (dOf (op_L14_5 [.n n0, .n (IntKind.wrap .u32 (ixor IntKind.u8 n1 n2)), .n (IntKind.wrap .i64 (n3 + (1 : Int))), .n (0 : Int)])) 0) (gn (dOf (op_L14_5 [.n n0, .n (IntKind.wrap .u32 (ixor IntKind.u8 n1 n2)), .n (IntKind.wrap .i64 (n3 + (1 : Int))), .n (0 : Int)])) 1)), .b true])))
       (.bad 351))))
  | _ => .bad 0
def op_14 : List Dat → Option (Nat × List Dat) := fun env => (fn_14 env).sel
def B14 : FBox := (mkF [.int .u32 0, .int .u8 1, .int .u8 2, .int .i64 3] [] [] [(.tup [.int .u32 0, .bool 1], [])] op_14)
def cs_14 : FuncId → Option CSpec := csLend 14 B14 cs_13
theorem fn_14_eq (n0 : Int) (n1 : Int) (n2 : Int) (n3 : Int) : (boxC false Try.prog cs_13 14 (lsTab [(5, L14_5)] (List.length ([] : List PB))) (mkF [.int .u32 0, .int .u8 1, .int .u8 2, .int .i64 3] [] [] [(.tup [.int .u32 0, .bool 1], [])] fun _ => none) [.n n0, .n n1, .n n2, .n n3]).sel = (fn_14 [.n n0, .n n1, .n n2, .n n3]).sel := by kernel_rfl
theorem fn_14_ok (env : List Dat) (y : Nat × List Dat) (h : (fn_14 env).sel = some y) : (boxC false Try.prog cs_13 14 (lsTab [(5, L14_5)] (List.length ([] : List PB))) (mkF [.int .u32 0, .int .u8 1, .int .u8 2, .int .i64 3] [] [] [(.tup [.int .u32 0, .bool 1], [])] fun _ => none) env).sel = some y := by
  unfold fn_14 at h
  split at h
  · rw [fn_14_eq]; exact h
  · cases h
theorem B14_ok : RunOk Try.prog 14 (boxRun B14) := mkF_ok (op := op_14) cs_13_ok hmix false (L14_5_ok _) fn_14_ok
theorem cs_14_ok : CsOk Try.prog cs_14 := csLend_ok cs_13_ok B14_ok

def fn_15 : List Dat → Tree (Nat × List Dat)
  | [.n n0, .n n1, .n n2, .n n3] =>
    (.node (decide (n3 < (0 : Int)))
     (.leaf ((0, [.n (0 : Int), .b false])))
     (.node (decide (n3 > (65536 : Int)))
      (.leaf ((0, [.n (0 : Int), .b false])))
      (.node (decide ((0 : Int) ≤ IntKind.wrap .i64 (n3 + (1 : Int))) && decide (IntKind.wrap .i64 (n3 + (1 : Int)) ≤ IntKind.wrap .i64 (n3 + (1 : Int))) && decide (IntKind.wrap .i64 (n3 + (1 : Int)) * (1 : Int) ≤ (281474976710656 : Int)))
       (.node (inR (0 : Int) (List.length (List.replicate (Int.toNat (IntKind.wrap .i64 (n3 + (1 : Int)))) (0 : Int))))
        (.node (isK 0 [HK.n] (op_13 [.l (Ty.int IntKind.u8) (List.set (List.replicate (Int.toNat (IntKind.wrap .i64 (n3 + (1 : Int)))) (0 : Int)) 0 n1)]))
         (.node (isK 0 [HK.n] (op_13 [.l (Ty.int IntKind.u8) (List.set (List.replicate (Int.toNat (IntKind.wrap .i64 (n3 + (1 : Int)))) (0 : Int)) 0 n2)]))
          (.leaf ((0, [.n (ixor IntKind.u32 (ixor IntKind.u32 n0 (gn (dOf (op_13 [.l (Ty.int IntKind.u8) (List.set (List.replicate (Int.toNat (IntKind.wrap .i64 (n3 + (1 : Int)))) (0 : Int)) 0 n1)])) 0)) (gn (dOf (op_13 [.l (Ty.int IntKind.u8) (List.set (List.replicate (Int.toNat (IntKind.wrap .i64 (n3 + (1 : Int)))) (0 : Int)) 0 n2)])) 0)), .b true])))
          (.bad 351))
         (.bad 351))
        (.bad 12))
       (.bad 50))))
  | _ => .bad 0
def op_15 : List Dat → Option (Nat × List Dat) := fun env => (fn_15 env).sel
def B15 : FBox := (mkF [.int .u32 0, .int .u8 1, .int .u8 2, .int .i64 3] [] [] [(.tup [.int .u32 0, .bool 1], [])] op_15)
def cs_15 : FuncId → Option CSpec := csLend 15 B15 cs_14
def fr_15o : List Dat → Tree (Nat × List Dat)
  | [.n n0, .n n1, .n n2, .n n3] =>
    (.node (decide (n3 < (0 : Int)))
     (.leaf ((0, [.n (0 : Int), .b false])))
     (.node (decide (n3 > (65536 : Int)))
      (.leaf ((0, [.n (0 : Int), .b false])))
      (.node (decide ((0 : Int) ≤ IntKind.wrap .i64 (n3 + (1 : Int))) && decide (IntKind.wrap .i64 (n3 + (1 : Int)) ≤ IntKind.wrap .i64 (n3 + (1 : Int))) && decide (IntKind.wrap .i64 (n3 + (1 : Int)) * (1 : Int) ≤ (281474976710656 : Int)))
       (.node (decide ((0 : Int) ≤ IntKind.wrap .i64 (n3 + (1 : Int))) && decide (IntKind.wrap .i64 (n3 + (1 : Int)) ≤ IntKind.wrap .i64 (n3 + (1 : Int))) && decide (IntKind.wrap .i64 (n3 + (1 : Int)) * (1 : Int) ≤ (281474976710656 : Int)))
        (.node (inR (0 : Int) (List.length (List.replicate (Int.toNat (IntKind.wrap .i64 (n3 + (1 : Int)))) (0 : Int))))
         (.node (inR (0 : Int) (List.length (List.replicate (Int.toNat (IntKind.wrap .i64 (n3 + (1 : Int)))) (0 : Int))))
          (.node (isK 0 [HK.n] (op_13 [.l (Ty.int IntKind.u8) (List.set (List.replicate (Int.toNat (IntKind.wrap .i64 (n3 + (1 : Int)))) (0 : Int)) 0 n1)]))
           (.node (isK 0 [HK.n] (op_13 [.l (Ty.int IntKind.u8) (List.set (List.replicate (Int.toNat (IntKind.wrap .i64 (n3 + (1 : Int)))) (0 : Int)) 0 n2)]))
            (.leaf ((0, [.n (ixor IntKind.u32 (ixor IntKind.u32 n0 (gn (dOf (op_13 [.l (Ty.int IntKind.u8) (List.set (List.replicate (Int.toNat (IntKind.wrap .i64 (n3 + (1 : Int)))) (0 : Int)) 0 n1)])) 0)) (gn (dOf (op_13 [.l (Ty.int IntKind.u8) (List.set (List.replicate (Int.toNat (IntKind.wrap .i64 (n3 + (1 : Int)))) (0 : Int)) 0 n2)])) 0)), .b true])))
            (.bad 351))
           (.bad 351))
          (.bad 12))
         (.bad 12))
        (.bad 50))
       (.bad 50))))
  | _ => .bad 0
noncomputable def fr_15 : List Dat → Tree (Nat × List Dat)
  | [.n n0, .n n1, .n n2, .n n3] =>
    (.node (decide (n3 < (0 : Int)))
     (.leaf ((0, [.n (0 : Int), .b false])))
     (.node (decide (n3 > (65536 : Int)))
      (.leaf ((0, [.n (0 : Int), .b false])))
      (.node (decide ((0 : Int) ≤ IntKind.wrap .i64 (n3 + (1 : Int))) && decide (IntKind.wrap .i64 (n3 + (1 : Int)) ≤ IntKind.wrap .i64 (n3 + (1 : Int))) && decide (IntKind.wrap .i64 (n3 + (1 : Int)) * (1 : Int) ≤ (281474976710656 : Int)))
       (.node (decide ((0 : Int) ≤ IntKind.wrap .i64 (n3 + (1 : Int))) && decide (IntKind.wrap .i64 (n3 + (1 : Int)) ≤ IntKind.wrap .i64 (n3 + (1 : Int))) && decide (IntKind.wrap .i64 (n3 + (1 : Int)) * (1 : Int) ≤ (281474976710656 : Int)))
        (.node (inR (0 : Int) (List.length (repC (α := Int) (Int.toNat (IntKind.wrap .i64 (n3 + (1 : Int)))) (0 : Int))))
         (.node (inR (0 : Int) (List.length (repC (α := Int) (Int.toNat (IntKind.wrap .i64 (n3 + (1 : Int)))) (0 : Int))))
          (.node (isK 0 [HK.n] (op_13 [.l (Ty.int IntKind.u8) (List.set (repC (α := Int) (Int.toNat (IntKind.wrap .i64 (n3 + (1 : Int)))) (0 : Int)) 0 n1)]))
           (.node (isK 0 [HK.n] (op_13 [.l (Ty.int IntKind.u8) (List.set (repC (α := Int) (Int.toNat (IntKind.wrap .i64 (n3 + (1 : Int)))) (0 : Int)) 0 n2)]))
            (.leaf ((0, [.n (ixor IntKind.u32 (ixor IntKind.u32 n0 (gn (dOf (op_13 [.l (Ty.int IntKind.u8) (List.set (repC (α := Int) (Int.toNat (IntKind.wrap .i64 (n3 + (1 : Int)))) (0 : Int)) 0 n1)])) 0)) (gn (dOf (op_13 [.l (Ty.int IntKind.u8) (List.set (repC (α := Int) (Int.toNat (IntKind.wrap .i64 (n3 + (1 : Int)))) (0 : Int)) 0 n2)])) 0)), .b true])))
            (.bad 351))
           (.bad 351))
          (.bad 12))
         (.bad 12))
        (.bad 50))
       (.bad 50))))
  | _ => .bad 0
theorem fr_15_eq (n0 : Int) (n1 : Int) (n2 : Int) (n3 : Int) : (boxC false Try.prog cs_14 15 ls0 (mkF [.int .u32 0, .int .u8 1, .int .u8 2, .int .i64 3] [] [] [(.tup [.int .u32 0, .bool 1], [])] fun _ => none) [.n n0, .n n1, .n n2, .n n3]).sel = (fr_15 [.n n0, .n n1, .n n2, .n n3]).sel := by kernel_rfl
theorem fr_15_o (n0 n1 n2 n3 : Int) : fr_15 [.n n0, .n n1, .n n2, .n n3] = fr_15o [.n n0, .n n1, .n n2, .n n3] := by
  unfold fr_15 fr_15o
  simp only [repC_eq] <;> rfl
theorem fr_15o_pr (n0 : Int) (n1 : Int) (n2 : Int) (n3 : Int) : (fr_15o [.n n0, .n n1, .n n2, .n n3]).sel = (fn_15 [.n n0, .n n1, .n n2, .n n3]).sel := (sel_c (fun _ => rfl) (fun h0 => (sel_c (fun _ => rfl) (fun h1 => (sel_c (fun h2 => (sel_t h2 (sel_c (fun h3 => (sel_t h3 rfl)) (fun _ => rfl)))) (fun _ => rfl))))))
theorem fr_15_pr (n0 : Int) (n1 : Int) (n2 : Int) (n3 : Int) : (fr_15 [.n n0, .n n1, .n n2, .n n3]).sel = (fn_15 [.n n0, .n n1, .n n2, .n n3]).sel := (congrArg Tree.sel (fr_15_o n0 n1 n2 n3)).trans (fr_15o_pr n0 n1 n2 n3)
theorem fn_15_eq (n0 : Int) (n1 : Int) (n2 : Int) (n3 : Int) : (boxC false Try.prog cs_14 15 ls0 (mkF [.int .u32 0, .int .u8 1, .int .u8 2, .int .i64 3] [] [] [(.tup [.int .u32 0, .bool 1], [])] fun _ => none) [.n n0, .n n1, .n n2, .n n3]).sel = (fn_15 [.n n0, .n n1, .n n2, .n n3]).sel := (fr_15_eq n0 n1 n2 n3).trans (fr_15_pr n0 n1 n2 n3)
theorem fn_15_ok (env : List Dat) (y : Nat × List Dat) (h : (fn_15 env).sel = some y) : (boxC false Try.prog cs_14 15 ls0 (mkF [.int .u32 0, .int .u8 1, .int .u8 2, .int .i64 3] [] [] [(.tup [.int .u32 0, .bool 1], [])] fun _ => none) env).sel = some y := by
  unfold fn_15 at h
  split at h
  · rw [fn_15_eq]; exact h
  · cases h
theorem B15_ok : RunOk Try.prog 15 (boxRun B15) := mkF_ok (op := op_15) cs_14_ok hmix false (LsOk.none _ _ _) fn_15_ok
theorem cs_15_ok : CsOk Try.prog cs_15 := csLend_ok cs_14_ok B15_ok

def fn_L16_5 : List Dat → Tree Step
  | [.n n0, .n n1, .n n2] =>
    (.node (decide (n2 < n1))
     (.node (isK 0 [HK.n] (op_21 [.n n0]))
      (.node (isK 0 [HK.n] (op_21 [.n (gn (dOf (op_21 [.n n0])) 0)]))
       (.node (isK 0 [HK.n] (op_21 [.n (gn (dOf (op_21 [.n (gn (dOf (op_21 [.n n0])) 0)])) 0)]))
        (.node (isK 0 [HK.n] (op_21 [.n (gn (dOf (op_21 [.n (gn (dOf (op_21 [.n (gn (dOf (op_21 [.n n0])) 0)])) 0)])) 0)]))
         (.node (isK 0 [HK.n] (op_21 [.n (gn (dOf (op_21 [.n (gn (dOf (op_21 [.n (gn (dOf (op_21 [.n (gn (dOf (op_21 [.n n0])) 0)])) 0)])) 0)])) 0)]))
          (.node (isK 0 [HK.n] (op_21 [.n (gn (dOf (op_21 [.n (gn (dOf (op_21 [.n (gn (dOf (op_21 [.n (gn (dOf (op_21 [.n (gn (dOf (op_21 [.n n0])) 0)])) 0)])) 0)])) 0)])) 0)]))
           (.node (isK 0 [HK.n] (op_21 [.n (gn (dOf (op_21 [.n (gn (dOf (op_21 [.n (gn (dOf (op_21 [.n (gn (dOf (op_21 [.n (gn (dOf (op_21 [.n (gn (dOf (op_21 [.n n0])) 0)])) 0)])) 0)])) 0)])) 0)])) 0)]))
            (.node (isK 0 [HK.n] (op_21 [.n (gn (dOf (op_21 [.n (gn (dOf (op_21 [.n (gn (dOf (op_21 [.n (gn (dOf (op_21 [.n (gn (dOf (op_21 [.n (gn (dOf (op_21 [.n (gn (dOf (op_21 [.n n0])) 0)])) 0)])) 0)])) 0)])) 0)])) 0)])) 0)]))
             (.node (decide (gn (dOf (op_21 [.n (gn (dOf (op_21 [.n (gn (dOf (op_21 [.n (gn (dOf (op_21 [.n (gn (dOf (op_21 [.n (gn (dOf (op_21 [.n (gn (dOf (op_21 [.n (gn (dOf (op_21 [.n n0])) 0)])) 0)])) 0)])) 0)])) 0)])) 0)])) 0)])) 0 < (256 : Int)))
              (.leaf (Step.stop 1 [.n n2, .n (IntKind.wrap .u8 (gn (dOf (op_21 [.n (gn (dOf (op_21 [.n (gn (dOf (op_21 [.n (gn (dOf (op_21 [.n (gn (dOf (op_21 [.n (gn (dOf (op_21 [.n (gn (dOf (op_21 [.n (gn (dOf (op_21 [.n n0])) 0)])) 0)])) 0)])) 0)])) 0)])) 0)])) 0)])) 0)), .b true]))
              (.leaf (Step.go [.n (gn (dOf (op_21 [.n (gn (dOf (op_21 [.n (gn (dOf (op_21 [.n (gn (dOf (op_21 [.n (gn (dOf (op_21 [.n (gn (dOf (op_21 [.n (gn (dOf (op_21 [.n (gn (dOf (op_21 [.n n0])) 0)])) 0)])) 0)])) 0)])) 0)])) 0)])) 0)])) 0), .n n1, .n (IntKind.wrap .i64 (n2 + (1 : Int)))])))
             (.bad 351))
            (.bad 351))
           (.bad 351))
          (.bad 351))
         (.bad 351))
        (.bad 351))
       (.bad 351))
      (.bad 351))
     (.leaf (Step.stop 0 [])))
  | _ => .bad 0
def op_L16_5 : List Dat → Option (Nat × List Dat) := iterS fn_L16_5 FU
def L16_5 : LBox := (mkL 0 [] (sh 25 [(7, .int .u32 0), (13, .int .i64 1), (14, .int .i64 2)]) [] [] [(.exit 0, sh 25 [], []), (.ret, sh 25 [(4, .int .i64 0), (5, .int .u8 1), (6, .bool 2)], [])] op_L16_5)
theorem fn_L16_5_eq (n0 : Int) (n1 : Int) (n2 : Int) : (stepC false Try.prog cs_15 16 5 ls0 (mkL 0 [] (sh 25 [(7, .int .u32 0), (13, .int .i64 1), (14, .int .i64 2)]) [] [] [(.exit 0, sh 25 [], []), (.ret, sh 25 [(4, .int .i64 0), (5, .int .u8 1), (6, .bool 2)], [])] fun _ => none) [.n n0, .n n1, .n n2]).sel = (fn_L16_5 [.n n0, .n n1, .n n2]).sel := by kernel_rfl
theorem fn_L16_5_ok (env : List Dat) (y : Step) (h : (fn_L16_5 env).sel = some y) : (stepC false Try.prog cs_15 16 5 ls0 (mkL 0 [] (sh 25 [(7, .int .u32 0), (13, .int .i64 1), (14, .int .i64 2)]) [] [] [(.exit 0, sh 25 [], []), (.ret, sh 25 [(4, .int .i64 0), (5, .int .u8 1), (6, .bool 2)], [])] fun _ => none) env).sel = some y := by
  unfold fn_L16_5 at h
  split at h
  · rw [fn_L16_5_eq]; exact h
  · cases h
theorem L16_5_ok (K : Nat) : LsOk Try.prog K (lsTab [(5, L16_5)] K) (bodyOf Try.prog 16) := mkL_ok (st := fn_L16_5) (m := FU) cs_15_ok hmix false (by kernel_rfl) (by kernel_rfl) fn_L16_5_ok
theorem L16_5_run : ∀ t s x, (loopRun L16_5 t s).sel = some x → CodeOk Try.prog 0 (.loop (cAt Try.prog 16 5)) t s x := mkLs_ok (st := fn_L16_5) (m := FU) cs_15_ok hmix false (LsOk.none _ _ _) (by kernel_rfl) fn_L16_5_ok

def fn_16 : List Dat → Tree (Nat × List Dat)
  | [.n n0, .n n1] =>
    (.node (n0 == (0 : Int))
     (.leaf ((0, [.n (0 : Int), .n (0 : Int), .b false])))
     (.node (isK 0 [] (op_L16_5 [.n n0, .n (imin n1 (65536 : Int)), .n (0 : Int)]))
      (.leaf ((0, [.n (0 : Int), .n (0 : Int), .b false])))
      (.node (isK 1 [HK.n, HK.n, HK.b] (op_L16_5 [.n n0, .n (imin n1 (65536 : Int)), .n (0 : Int)]))
       (.leaf ((0, [.n (gn (dOf (op_L16_5 [.n n0, .n (imin n1 (65536 : Int)), .n (0 : Int)])) 0), .n (gn (dOf (op_L16_5 [.n n0, .n (imin n1 (65536 : Int)), .n (0 : Int)])) 1), .b (gb (dOf (op_L16_5 [.n n0, .n (imin n1 (65536 : Int)), .n (0 : Int)])) 2)])))
       (.bad 351))))
  | _ => .bad 0
def op_16 : List Dat → Option (Nat × List Dat) := fun env => (fn_16 env).sel
def B16 : FBox := (mkF [.int .u32 0, .int .i64 1] [] [] [(.tup [.int .i64 0, .int .u8 1, .bool 2], [])] op_16)
def cs_16 : FuncId → Option CSpec := csLend 16 B16 cs_15
theorem fn_16_eq (n0 : Int) (n1 : Int) : (boxC false Try.prog cs_15 16 (lsTab [(5, L16_5)] (List.length ([] : List PB))) (mkF [.int .u32 0, .int .i64 1] [] [] [(.tup [.int .i64 0, .int .u8 1, .bool 2], [])] fun _ => none) [.n n0, .n n1]).sel = (fn_16 [.n n0, .n n1]).sel := by kernel_rfl
theorem fn_16_ok (env : List Dat) (y : Nat × List Dat) (h : (fn_16 env).sel = some y) : (boxC false Try.prog cs_15 16 (lsTab [(5, L16_5)] (List.length ([] : List PB))) (mkF [.int .u32 0, .int .i64 1] [] [] [(.tup [.int .i64 0, .int .u8 1, .bool 2], [])] fun _ => none) env).sel = some y := by
  unfold fn_16 at h
  split at h
  · rw [fn_16_eq]; exact h
  · cases h
theorem B16_ok : RunOk Try.prog 16 (boxRun B16) := mkF_ok (op := op_16) cs_15_ok hmix false (L16_5_ok _) fn_16_ok
theorem cs_16_ok : CsOk Try.prog cs_16 := csLend_ok cs_15_ok B16_ok

def fn_L17_15_0 : List Dat → Tree Step
  | [.n n0, .n n1, .n n2, .n n3, .n n4, .n n5, .l (Ty.int IntKind.u32) l6] =>
    (.node (decide (n5 < (8 : Int)))
     (.node (!decide (n5 < (0 : Int)))
      (.node (iand IntKind.i64 (ishr IntKind.i64 n3 n5) (1 : Int) == (1 : Int))
       (.node (inR n5 (List.length l6))
        (.leaf (Step.go [.k 0, .n n0, .n n1, .n n2, .n n3, .n (ixor IntKind.u32 n4 (List.getD l6 (Int.toNat n5) (0 : Int))), .n (IntKind.wrap .i64 (n5 + (1 : Int))), .l (Ty.int IntKind.u32) l6]))
        (.bad 12))
       (.leaf (Step.go [.k 0, .n n0, .n n1, .n n2, .n n3, .n n4, .n (IntKind.wrap .i64 (n5 + (1 : Int))), .l (Ty.int IntKind.u32) l6])))
      (.bad 83))
     (.leaf (Step.stop 0 [.n n0, .n n1, .n n2, .n n3, .n n4, .l (Ty.int IntKind.u32) l6])))
  | _ => .bad 0
def fn_L17_15 : List Dat → Tree Step
  | .k 0 :: d => fn_L17_15_0 d
  | _ => .bad 0
def op_L17_15 : List Dat → Option (Nat × List Dat) := iterS fn_L17_15 FU
def L17_15 : MBox := (mkM 0 [] [(sh 64 [(0, .int .u32 0), (1, .int .i64 1), (7, .int .i64 2), (8, .own 0), (12, .int .i64 3), (13, .int .u32 4), (14, .int .i64 5)], [.arr TN 6])] [] [(.exit 6, sh 64 [(0, .int .u32 0), (1, .int .i64 1), (7, .int .i64 2), (8, .own 0), (12, .int .i64 3), (13, .int .u32 4)], [.arr TN 5])] op_L17_15)
theorem fn_L17_15_0_eq (n0 : Int) (n1 : Int) (n2 : Int) (n3 : Int) (n4 : Int) (n5 : Int) (l6 : List (Ty.den (Ty.int IntKind.u32))) : ((fun (d : List Dat) => stepMC false Try.prog cs_16 17 15 ls0 (mkM 0 [] [(sh 64 [(0, .int .u32 0), (1, .int .i64 1), (7, .int .i64 2), (8, .own 0), (12, .int .i64 3), (13, .int .u32 4), (14, .int .i64 5)], [.arr TN 6])] [] [(.exit 6, sh 64 [(0, .int .u32 0), (1, .int .i64 1), (7, .int .i64 2), (8, .own 0), (12, .int .i64 3), (13, .int .u32 4)], [.arr TN 5])] fun _ => none) (.k 0 :: d)) [.n n0, .n n1, .n n2, .n n3, .n n4, .n n5, .l (Ty.int IntKind.u32) l6]).sel = (fn_L17_15_0 [.n n0, .n n1, .n n2, .n n3, .n n4, .n n5, .l (Ty.int IntKind.u32) l6]).sel := by kernel_rfl
theorem fn_L17_15_0_ok (env : List Dat) (y : Step) (h : (fn_L17_15_0 env).sel = some y) : ((fun (d : List Dat) => stepMC false Try.prog cs_16 17 15 ls0 (mkM 0 [] [(sh 64 [(0, .int .u32 0), (1, .int .i64 1), (7, .int .i64 2), (8, .own 0), (12, .int .i64 3), (13, .int .u32 4), (14, .int .i64 5)], [.arr TN 6])] [] [(.exit 6, sh 64 [(0, .int .u32 0), (1, .int .i64 1), (7, .int .i64 2), (8, .own 0), (12, .int .i64 3), (13, .int .u32 4)], [.arr TN 5])] fun _ => none) (.k 0 :: d)) env).sel = some y := by
  unfold fn_L17_15_0 at h
  split at h
  · rw [fn_L17_15_0_eq]; exact h
  · cases h
theorem fn_L17_15_ok (env : List Dat) (y : Step) (h : (fn_L17_15 env).sel = some y) : (stepMC false Try.prog cs_16 17 15 ls0 (mkM 0 [] [(sh 64 [(0, .int .u32 0), (1, .int .i64 1), (7, .int .i64 2), (8, .own 0), (12, .int .i64 3), (13, .int .u32 4), (14, .int .i64 5)], [.arr TN 6])] [] [(.exit 6, sh 64 [(0, .int .u32 0), (1, .int .i64 1), (7, .int .i64 2), (8, .own 0), (12, .int .i64 3), (13, .int .u32 4)], [.arr TN 5])] fun _ => none) env).sel = some y := by
  unfold fn_L17_15 at h
  split at h
  · exact fn_L17_15_0_ok _ _ h
  · cases h
theorem L17_15_run : ∀ t s x, (manyRun L17_15 t s).sel = some x → CodeOk Try.prog 0 (.loop (cAt Try.prog 17 15)) t s x := mkM_ok (st := fn_L17_15) (m := FU) cs_16_ok hmix false (LsOk.none _ _ _) (by kernel_rfl) fn_L17_15_ok

def fn_L17_6_0 : List Dat → Tree Step
  | [.n n0, .n n1, .n n2, .n n3, .l (Ty.int IntKind.u32) l4] =>
    (.node (decide (n3 < (8 : Int)))
     (.node (!decide (n3 < (0 : Int)))
      (.node (isK 0 [HK.n, HK.b] (op_15 [.n (0 : Int), .n (0 : Int), .n (ishl IntKind.u8 (1 : Int) n3), .n n2]))
       (.node (decide ((List.length l4 + 1) * 4 ≤ 140737488355328))
        (.leaf (Step.go [.k 0, .n n0, .n n1, .n n2, .n (IntKind.wrap .i64 (n3 + (1 : Int))), .l (Ty.int IntKind.u32) (l4 ++ List.set (List.replicate 1 (0 : Int)) 0 (gn (dOf (op_15 [.n (0 : Int), .n (0 : Int), .n (ishl IntKind.u8 (1 : Int) n3), .n n2])) 0))]))
        (.bad 62))
       (.bad 351))
      (.bad 82))
     (.leaf (Step.stop 0 [.n n0, .n n1, .n n2, .l (Ty.int IntKind.u32) l4])))
  | _ => .bad 0
def fn_L17_6 : List Dat → Tree Step
  | .k 0 :: d => fn_L17_6_0 d
  | _ => .bad 0
def op_L17_6 : List Dat → Option (Nat × List Dat) := iterS fn_L17_6 FU
def L17_6 : MBox := (mkM 0 [] [(sh 64 [(0, .int .u32 0), (1, .int .i64 1), (7, .int .i64 2), (8, .own 0), (9, .int .i64 3)], [.arr TN 4])] [(8, TN)] [(.exit 2, sh 64 [(0, .int .u32 0), (1, .int .i64 1), (7, .int .i64 2), (8, .own 0)], [.arr TN 3])] op_L17_6)
theorem fn_L17_6_0_eq (n0 : Int) (n1 : Int) (n2 : Int) (n3 : Int) (l4 : List (Ty.den (Ty.int IntKind.u32))) : ((fun (d : List Dat) => stepMC false Try.prog cs_16 17 6 ls0 (mkM 0 [] [(sh 64 [(0, .int .u32 0), (1, .int .i64 1), (7, .int .i64 2), (8, .own 0), (9, .int .i64 3)], [.arr TN 4])] [(8, TN)] [(.exit 2, sh 64 [(0, .int .u32 0), (1, .int .i64 1), (7, .int .i64 2), (8, .own 0)], [.arr TN 3])] fun _ => none) (.k 0 :: d)) [.n n0, .n n1, .n n2, .n n3, .l (Ty.int IntKind.u32) l4]).sel = (fn_L17_6_0 [.n n0, .n n1, .n n2, .n n3, .l (Ty.int IntKind.u32) l4]).sel := by kernel_rfl
theorem fn_L17_6_0_ok (env : List Dat) (y : Step) (h : (fn_L17_6_0 env).sel = some y) : ((fun (d : List Dat) => stepMC false Try.prog cs_16 17 6 ls0 (mkM 0 [] [(sh 64 [(0, .int .u32 0), (1, .int .i64 1), (7, .int .i64 2), (8, .own 0), (9, .int .i64 3)], [.arr TN 4])] [(8, TN)] [(.exit 2, sh 64 [(0, .int .u32 0), (1, .int .i64 1), (7, .int .i64 2), (8, .own 0)], [.arr TN 3])] fun _ => none) (.k 0 :: d)) env).sel = some y := by
  unfold fn_L17_6_0 at h
  split at h
  · rw [fn_L17_6_0_eq]; exact h
  · cases h
theorem fn_L17_6_ok (env : List Dat) (y : Step) (h : (fn_L17_6 env).sel = some y) : (stepMC false Try.prog cs_16 17 6 ls0 (mkM 0 [] [(sh 64 [(0, .int .u32 0), (1, .int .i64 1), (7, .int .i64 2), (8, .own 0), (9, .int .i64 3)], [.arr TN 4])] [(8, TN)] [(.exit 2, sh 64 [(0, .int .u32 0), (1, .int .i64 1), (7, .int .i64 2), (8, .own 0)], [.arr TN 3])] fun _ => none) env).sel = some y := by
  unfold fn_L17_6 at h
  split at h
  · exact fn_L17_6_0_ok _ _ h
  · cases h
theorem L17_6_run : ∀ t s x, (manyRun L17_6 t s).sel = some x → CodeOk Try.prog 0 (.loop (cAt Try.prog 17 6)) t s x := mkM_ok (st := fn_L17_6) (m := FU) cs_16_ok hmix false (LsOk.none _ _ _) (by kernel_rfl) fn_L17_6_ok

def fn_L17_11_0 : List Dat → Tree Step
  | [.n n0, .n n1, .n n2, .n n3, .l (Ty.int IntKind.u32) l4] =>
    (.node (decide (n3 < (256 : Int)))
     (.node (isK 0 [HK.n, HK.n, HK.n, HK.n, HK.n, HK.l (Ty.int IntKind.u32)] (op_L17_15 [.k 0, .n n0, .n n1, .n n2, .n n3, .n (0 : Int), .n (0 : Int), .l (Ty.int IntKind.u32) l4]))
      (.node (gn (dOf (op_L17_15 [.k 0, .n n0, .n n1, .n n2, .n n3, .n (0 : Int), .n (0 : Int), .l (Ty.int IntKind.u32) l4])) 4 == gn (dOf (op_L17_15 [.k 0, .n n0, .n n1, .n n2, .n n3, .n (0 : Int), .n (0 : Int), .l (Ty.int IntKind.u32) l4])) 0)
       (.leaf (Step.stop 1 [.n (gn (dOf (op_L17_15 [.k 0, .n n0, .n n1, .n n2, .n n3, .n (0 : Int), .n (0 : Int), .l (Ty.int IntKind.u32) l4])) 2), .n (IntKind.wrap .u8 (gn (dOf (op_L17_15 [.k 0, .n n0, .n n1, .n n2, .n n3, .n (0 : Int), .n (0 : Int), .l (Ty.int IntKind.u32) l4])) 3)), .b true]))
       (.leaf (Step.go [.k 0, .n (gn (dOf (op_L17_15 [.k 0, .n n0, .n n1, .n n2, .n n3, .n (0 : Int), .n (0 : Int), .l (Ty.int IntKind.u32) l4])) 0), .n (gn (dOf (op_L17_15 [.k 0, .n n0, .n n1, .n n2, .n n3, .n (0 : Int), .n (0 : Int), .l (Ty.int IntKind.u32) l4])) 1), .n (gn (dOf (op_L17_15 [.k 0, .n n0, .n n1, .n n2, .n n3, .n (0 : Int), .n (0 : Int), .l (Ty.int IntKind.u32) l4])) 2), .n (IntKind.wrap .i64 (gn (dOf (op_L17_15 [.k 0, .n n0, .n n1, .n n2, .n n3, .n (0 : Int), .n (0 : Int), .l (Ty.int IntKind.u32) l4])) 3 + (1 : Int))), .l (Ty.int IntKind.u32) (gl (Ty.int IntKind.u32) (dOf (op_L17_15 [.k 0, .n n0, .n n1, .n n2, .n n3, .n (0 : Int), .n (0 : Int), .l (Ty.int IntKind.u32) l4])) 5)])))
      (.bad 351))
     (.leaf (Step.stop 0 [.n n0, .n n1, .n n2])))
  | _ => .bad 0
def fn_L17_11 : List Dat → Tree Step
  | .k 0 :: d => fn_L17_11_0 d
  | _ => .bad 0
def op_L17_11 : List Dat → Option (Nat × List Dat) := iterS fn_L17_11 FU
def L17_11 : MBox := (mkM 0 [] [(sh 64 [(0, .int .u32 0), (1, .int .i64 1), (7, .int .i64 2), (8, .own 0), (12, .int .i64 3)], [.arr TN 4])] [] [(.exit 4, sh 64 [(0, .int .u32 0), (1, .int .i64 1), (7, .int .i64 2)], []), (.ret, sh 64 [(4, .int .i64 0), (5, .int .u8 1), (6, .bool 2)], [])] op_L17_11)
theorem fn_L17_11_0_eq (n0 : Int) (n1 : Int) (n2 : Int) (n3 : Int) (l4 : List (Ty.den (Ty.int IntKind.u32))) : ((fun (d : List Dat) => stepMC false Try.prog cs_16 17 11 (lsM [(15, L17_15)] 0) (mkM 0 [] [(sh 64 [(0, .int .u32 0), (1, .int .i64 1), (7, .int .i64 2), (8, .own 0), (12, .int .i64 3)], [.arr TN 4])] [] [(.exit 4, sh 64 [(0, .int .u32 0), (1, .int .i64 1), (7, .int .i64 2)], []), (.ret, sh 64 [(4, .int .i64 0), (5, .int .u8 1), (6, .bool 2)], [])] fun _ => none) (.k 0 :: d)) [.n n0, .n n1, .n n2, .n n3, .l (Ty.int IntKind.u32) l4]).sel = (fn_L17_11_0 [.n n0, .n n1, .n n2, .n n3, .l (Ty.int IntKind.u32) l4]).sel := by kernel_rfl
theorem fn_L17_11_0_ok (env : List Dat) (y : Step) (h : (fn_L17_11_0 env).sel = some y) : ((fun (d : List Dat) => stepMC false Try.prog cs_16 17 11 (lsM [(15, L17_15)] 0) (mkM 0 [] [(sh 64 [(0, .int .u32 0), (1, .int .i64 1), (7, .int .i64 2), (8, .own 0), (12, .int .i64 3)], [.arr TN 4])] [] [(.exit 4, sh 64 [(0, .int .u32 0), (1, .int .i64 1), (7, .int .i64 2)], []), (.ret, sh 64 [(4, .int .i64 0), (5, .int .u8 1), (6, .bool 2)], [])] fun _ => none) (.k 0 :: d)) env).sel = some y := by
  unfold fn_L17_11_0 at h
  split at h
  · rw [fn_L17_11_0_eq]; exact h
  · cases h
theorem fn_L17_11_ok (env : List Dat) (y : Step) (h : (fn_L17_11 env).sel = some y) : (stepMC false Try.prog cs_16 17 11 (lsM [(15, L17_15)] 0) (mkM 0 [] [(sh 64 [(0, .int .u32 0), (1, .int .i64 1), (7, .int .i64 2), (8, .own 0), (12, .int .i64 3)], [.arr TN 4])] [] [(.exit 4, sh 64 [(0, .int .u32 0), (1, .int .i64 1), (7, .int .i64 2)], []), (.ret, sh 64 [(4, .int .i64 0), (5, .int .u8 1), (6, .bool 2)], [])] fun _ => none) env).sel = some y := by
  unfold fn_L17_11 at h
  split at h
  · exact fn_L17_11_0_ok _ _ h
  · cases h
theorem L17_11_in : LsOk Try.prog 0 (lsM [(15, L17_15)] 0) (cAt Try.prog 17 11) := LsOk.many fun j B hB hk c hc hi => by
  simp only [lookM] at hB
  split at hB
  · rename_i e; have := Nat.eq_of_beq_eq_true e; subst this; cases hB
    have e1 : loopsAt (cAt Try.prog 17 11) 15 = [cAt Try.prog 17 15] := by kernel_rfl
    have e2 := loopsAt_mem hc hi
    rw [e1] at e2; cases List.mem_singleton.1 e2; exact L17_15_run
  cases hB
theorem L17_11_run : ∀ t s x, (manyRun L17_11 t s).sel = some x → CodeOk Try.prog 0 (.loop (cAt Try.prog 17 11)) t s x := mkM_ok (st := fn_L17_11) (m := FU) cs_16_ok hmix false (L17_11_in) (by kernel_rfl) fn_L17_11_ok

def fn_L17_2_0 : List Dat → Tree Step
  | [.n n0, .n n1, .n n2] =>
    (.node (decide (n2 < n1))
     (.node (decide (n2 < (65536 : Int)))
      (.node (isK 0 [HK.n, HK.n, HK.n, HK.l (Ty.int IntKind.u32)] (op_L17_6 [.k 0, .n n0, .n n1, .n n2, .n (0 : Int), .l (Ty.int IntKind.u32) []]))
       (.node (isK 0 [HK.n, HK.n, HK.n] (op_L17_11 [.k 0, .n (gn (dOf (op_L17_6 [.k 0, .n n0, .n n1, .n n2, .n (0 : Int), .l (Ty.int IntKind.u32) []])) 0), .n (gn (dOf (op_L17_6 [.k 0, .n n0, .n n1, .n n2, .n (0 : Int), .l (Ty.int IntKind.u32) []])) 1), .n (gn (dOf (op_L17_6 [.k 0, .n n0, .n n1, .n n2, .n (0 : Int), .l (Ty.int IntKind.u32) []])) 2), .n (1 : Int), .l (Ty.int IntKind.u32) (gl (Ty.int IntKind.u32) (dOf (op_L17_6 [.k 0, .n n0, .n n1, .n n2, .n (0 : Int), .l (Ty.int IntKind.u32) []])) 3)]))
        (.leaf (Step.go [.k 0, .n (gn (dOf (op_L17_11 [.k 0, .n (gn (dOf (op_L17_6 [.k 0, .n n0, .n n1, .n n2, .n (0 : Int), .l (Ty.int IntKind.u32) []])) 0), .n (gn (dOf (op_L17_6 [.k 0, .n n0, .n n1, .n n2, .n (0 : Int), .l (Ty.int IntKind.u32) []])) 1), .n (gn (dOf (op_L17_6 [.k 0, .n n0, .n n1, .n n2, .n (0 : Int), .l (Ty.int IntKind.u32) []])) 2), .n (1 : Int), .l (Ty.int IntKind.u32) (gl (Ty.int IntKind.u32) (dOf (op_L17_6 [.k 0, .n n0, .n n1, .n n2, .n (0 : Int), .l (Ty.int IntKind.u32) []])) 3)])) 0), .n (gn (dOf (op_L17_11 [.k 0, .n (gn (dOf (op_L17_6 [.k 0, .n n0, .n n1, .n n2, .n (0 : Int), .l (Ty.int IntKind.u32) []])) 0), .n (gn (dOf (op_L17_6 [.k 0, .n n0, .n n1, .n n2, .n (0 : Int), .l (Ty.int IntKind.u32) []])) 1), .n (gn (dOf (op_L17_6 [.k 0, .n n0, .n n1, .n n2, .n (0 : Int), .l (Ty.int IntKind.u32) []])) 2), .n (1 : Int), .l (Ty.int IntKind.u32) (gl (Ty.int IntKind.u32) (dOf (op_L17_6 [.k 0, .n n0, .n n1, .n n2, .n (0 : Int), .l (Ty.int IntKind.u32) []])) 3)])) 1), .n (IntKind.wrap .i64 (gn (dOf (op_L17_11 [.k 0, .n (gn (dOf (op_L17_6 [.k 0, .n n0, .n n1, .n n2, .n (0 : Int), .l (Ty.int IntKind.u32) []])) 0), .n (gn (dOf (op_L17_6 [.k 0, .n n0, .n n1, .n n2, .n (0 : Int), .l (Ty.int IntKind.u32) []])) 1), .n (gn (dOf (op_L17_6 [.k 0, .n n0, .n n1, .n n2, .n (0 : Int), .l (Ty.int IntKind.u32) []])) 2), .n (1 : Int), .l (Ty.int IntKind.u32) (gl (Ty.int IntKind.u32) (dOf (op_L17_6 [.k 0, .n n0, .n n1, .n n2, .n (0 : Int), .l (Ty.int IntKind.u32) []])) 3)])) 2 + (1 : Int)))]))
        (.node (isK 1 [HK.n, HK.n, HK.b] (op_L17_11 [.k 0, .n (gn (dOf (op_L17_6 [.k 0, .n n0, .n n1, .n n2, .n (0 : Int), .l (Ty.int IntKind.u32) []])) 0), .n (gn (dOf (op_L17_6 [.k 0, .n n0, .n n1, .n n2, .n (0 : Int), .l (Ty.int IntKind.u32) []])) 1), .n (gn (dOf (op_L17_6 [.k 0, .n n0, .n n1, .n n2, .n (0 : Int), .l (Ty.int IntKind.u32) []])) 2), .n (1 : Int), .l (Ty.int IntKind.u32) (gl (Ty.int IntKind.u32) (dOf (op_L17_6 [.k 0, .n n0, .n n1, .n n2, .n (0 : Int), .l (Ty.int IntKind.u32) []])) 3)]))
         (.leaf (Step.stop 1 [.n (gn (dOf (op_L17_11 [.k 0, .n (gn (dOf (op_L17_6 [.k 0, .n n0, .n n1, .n n2, .n (0 : Int), .l (Ty.int IntKind.u32) []])) 0), .n (gn (dOf (op_L17_6 [.k 0, .n n0, .n n1, .n n2, .n (0 : Int), .l (Ty.int IntKind.u32) []])) 1), .n (gn (dOf (op_L17_6 [.k 0, .n n0, .n n1, .n n2, .n (0 : Int), .l (Ty.int IntKind.u32) []])) 2), .n (1 : Int), .l (Ty.int IntKind.u32) (gl (Ty.int IntKind.u32) (dOf (op_L17_6 [.k 0, .n n0, .n n1, .n n2, .n (0 : Int), .l (Ty.int IntKind.u32) []])) 3)])) 0), .n (gn (dOf (op_L17_11 [.k 0, .n (gn (dOf (op_L17_6 [.k 0, .n n0, .n n1, .n n2, .n (0 : Int), .l (Ty.int IntKind.u32) []])) 0), .n (gn (dOf (op_L17_6 [.k 0, .n n0, .n n1, .n n2, .n (0 : Int), .l (Ty.int IntKind.u32) []])) 1), .n (gn (dOf (op_L17_6 [.k 0, .n n0, .n n1, .n n2, .n (0 : Int), .l (Ty.int IntKind.u32) []])) 2), .n (1 : Int), .l (Ty.int IntKind.u32) (gl (Ty.int IntKind.u32) (dOf (op_L17_6 [.k 0, .n n0, .n n1, .n n2, .n (0 : Int), .l (Ty.int IntKind.u32) []])) 3)])) 1), .b (gb (dOf (op_L17_11 [.k 0, .n (gn (dOf (op_L17_6 [.k 0, .n n0, .n n1, .n n2, .n (0 : Int), .l (Ty.int IntKind.u32) []])) 0), .n (gn (dOf (op_L17_6 [.k 0, .n n0, .n n1, .n n2, .n (0 : Int), .l (Ty.int IntKind.u32) []])) 1), .n (gn (dOf (op_L17_6 [.k 0, .n n0, .n n1, .n n2, .n (0 : Int), .l (Ty.int IntKind.u32) []])) 2), .n (1 : Int), .l (Ty.int IntKind.u32) (gl (Ty.int IntKind.u32) (dOf (op_L17_6 [.k 0, .n n0, .n n1, .n n2, .n (0 : Int), .l (Ty.int IntKind.u32) []])) 3)])) 2)]))
         (.bad 351)))
       (.bad 351))
      (.leaf (Step.stop 0 [])))
     (.leaf (Step.stop 0 [])))
  | _ => .bad 0
def fn_L17_2 : List Dat → Tree Step
  | .k 0 :: d => fn_L17_2_0 d
  | _ => .bad 0
def op_L17_2 : List Dat → Option (Nat × List Dat) := iterS fn_L17_2 FU
def L17_2 : MBox := (mkM 0 [] [(sh 64 [(0, .int .u32 0), (1, .int .i64 1), (7, .int .i64 2)], [])] [] [(.exit 0, sh 64 [], []), (.ret, sh 64 [(4, .int .i64 0), (5, .int .u8 1), (6, .bool 2)], [])] op_L17_2)
theorem fn_L17_2_0_eq (n0 : Int) (n1 : Int) (n2 : Int) : ((fun (d : List Dat) => stepMC false Try.prog cs_16 17 2 (lsM [(6, L17_6), (11, L17_11)] 0) (mkM 0 [] [(sh 64 [(0, .int .u32 0), (1, .int .i64 1), (7, .int .i64 2)], [])] [] [(.exit 0, sh 64 [], []), (.ret, sh 64 [(4, .int .i64 0), (5, .int .u8 1), (6, .bool 2)], [])] fun _ => none) (.k 0 :: d)) [.n n0, .n n1, .n n2]).sel = (fn_L17_2_0 [.n n0, .n n1, .n n2]).sel := by kernel_rfl
theorem fn_L17_2_0_ok (env : List Dat) (y : Step) (h : (fn_L17_2_0 env).sel = some y) : ((fun (d : List Dat) => stepMC false Try.prog cs_16 17 2 (lsM [(6, L17_6), (11, L17_11)] 0) (mkM 0 [] [(sh 64 [(0, .int .u32 0), (1, .int .i64 1), (7, .int .i64 2)], [])] [] [(.exit 0, sh 64 [], []), (.ret, sh 64 [(4, .int .i64 0), (5, .int .u8 1), (6, .bool 2)], [])] fun _ => none) (.k 0 :: d)) env).sel = some y := by
  unfold fn_L17_2_0 at h
  split at h
  · rw [fn_L17_2_0_eq]; exact h
  · cases h
theorem fn_L17_2_ok (env : List Dat) (y : Step) (h : (fn_L17_2 env).sel = some y) : (stepMC false Try.prog cs_16 17 2 (lsM [(6, L17_6), (11, L17_11)] 0) (mkM 0 [] [(sh 64 [(0, .int .u32 0), (1, .int .i64 1), (7, .int .i64 2)], [])] [] [(.exit 0, sh 64 [], []), (.ret, sh 64 [(4, .int .i64 0), (5, .int .u8 1), (6, .bool 2)], [])] fun _ => none) env).sel = some y := by
  unfold fn_L17_2 at h
  split at h
  · exact fn_L17_2_0_ok _ _ h
  · cases h
theorem L17_2_in : LsOk Try.prog 0 (lsM [(6, L17_6), (11, L17_11)] 0) (cAt Try.prog 17 2) := LsOk.many fun j B hB hk c hc hi => by
  simp only [lookM] at hB
  split at hB
  · rename_i e; have := Nat.eq_of_beq_eq_true e; subst this; cases hB
    have e1 : loopsAt (cAt Try.prog 17 2) 6 = [cAt Try.prog 17 6] := by kernel_rfl
    have e2 := loopsAt_mem hc hi
    rw [e1] at e2; cases List.mem_singleton.1 e2; exact L17_6_run
  split at hB
  · rename_i e; have := Nat.eq_of_beq_eq_true e; subst this; cases hB
    have e1 : loopsAt (cAt Try.prog 17 2) 11 = [cAt Try.prog 17 11] := by kernel_rfl
    have e2 := loopsAt_mem hc hi
    rw [e1] at e2; cases List.mem_singleton.1 e2; exact L17_11_run
  cases hB
theorem L17_2_run : ∀ t s x, (manyRun L17_2 t s).sel = some x → CodeOk Try.prog 0 (.loop (cAt Try.prog 17 2)) t s x := mkM_ok (st := fn_L17_2) (m := FU) cs_16_ok hmix false (L17_2_in) (by kernel_rfl) fn_L17_2_ok

theorem ls_17_ok : LsOk Try.prog (List.length ([] : List PB)) (lsM [(2, L17_2)] (List.length ([] : List PB))) (bodyOf Try.prog 17) := LsOk.many fun j B hB hk c hc hi => by
  simp only [lookM] at hB
  split at hB
  · rename_i e; have := Nat.eq_of_beq_eq_true e; subst this; cases hB
    have e1 : loopAt Try.prog 17 2 = [cAt Try.prog 17 2] := loopAt_one (by kernel_rfl)
    have e2 : c ∈ loopAt Try.prog 17 2 := loopsAt_mem hc hi
    rw [e1] at e2; cases List.mem_singleton.1 e2; exact L17_2_run
  cases hB

def fn_17 : List Dat → Tree (Nat × List Dat)
  | [.n n0, .n n1] =>
    (.node (isK 0 [] (op_L17_2 [.k 0, .n n0, .n n1, .n (0 : Int)]))
     (.leaf ((0, [.n (0 : Int), .n (0 : Int), .b false])))
     (.node (isK 1 [HK.n, HK.n, HK.b] (op_L17_2 [.k 0, .n n0, .n n1, .n (0 : Int)]))
      (.leaf ((0, [.n (gn (dOf (op_L17_2 [.k 0, .n n0, .n n1, .n (0 : Int)])) 0), .n (gn (dOf (op_L17_2 [.k 0, .n n0, .n n1, .n (0 : Int)])) 1), .b (gb (dOf (op_L17_2 [.k 0, .n n0, .n n1, .n (0 : Int)])) 2)])))
      (.bad 351)))
  | _ => .bad 0
def op_17 : List Dat → Option (Nat × List Dat) := fun env => (fn_17 env).sel
def B17 : FBox := (mkF [.int .u32 0, .int .i64 1] [] [] [(.tup [.int .i64 0, .int .u8 1, .bool 2], [])] op_17)
def cs_17 : FuncId → Option CSpec := csLend 17 B17 cs_16
theorem fn_17_eq (n0 : Int) (n1 : Int) : (boxC false Try.prog cs_16 17 (lsM [(2, L17_2)] (List.length ([] : List PB))) (mkF [.int .u32 0, .int .i64 1] [] [] [(.tup [.int .i64 0, .int .u8 1, .bool 2], [])] fun _ => none) [.n n0, .n n1]).sel = (fn_17 [.n n0, .n n1]).sel := by kernel_rfl
theorem fn_17_ok (env : List Dat) (y : Nat × List Dat) (h : (fn_17 env).sel = some y) : (boxC false Try.prog cs_16 17 (lsM [(2, L17_2)] (List.length ([] : List PB))) (mkF [.int .u32 0, .int .i64 1] [] [] [(.tup [.int .i64 0, .int .u8 1, .bool 2], [])] fun _ => none) env).sel = some y := by
  unfold fn_17 at h
  split at h
  · rw [fn_17_eq]; exact h
  · cases h
theorem B17_ok : RunOk Try.prog 17 (boxRun B17) := mkF_ok (op := op_17) cs_16_ok hmix false (ls_17_ok) fn_17_ok
theorem cs_17_ok : CsOk Try.prog cs_17 := csLend_ok cs_16_ok B17_ok

def fn_W3 : List Dat → Tree Bool
  | [.l (Ty.int IntKind.u8) l0] =>
    (.node (decide ((↑(List.length l0) : Int) > (3000 : Int)))
     (.leaf (true))
     (.node (isK 0 [HK.n] (op_12 [.l (Ty.int IntKind.u8) (bytesOf (strOf l0))]))
      (.node (isK 0 [HK.n] (op_13 [.l (Ty.int IntKind.u8) l0]))
       (.node (gn (dOf (op_12 [.l (Ty.int IntKind.u8) (bytesOf (strOf l0))])) 0 == gn (dOf (op_13 [.l (Ty.int IntKind.u8) l0])) 0)
        (.node (strEq (strOf (bytesOf (strOf l0))) (strOf l0))
         (.leaf (true))
         (.leaf (false)))
        (.leaf (false)))
       (.bad 351))
      (.bad 351)))
  | _ => .bad 0
theorem fn_W3_eq (l0 : List (Ty.den (Ty.int IntKind.u8))) : ((fun (d : List Dat) => lawB false Try.prog cs_17 3 ls0 (instL [.imm TB 0] d)) [.l (Ty.int IntKind.u8) l0]).sel = (fn_W3 [.l (Ty.int IntKind.u8) l0]).sel := by kernel_rfl
theorem W3_law (env : List Dat) (h : (fn_W3 env).sel = some true) {w : World} {args : Array Value} (ha : LRel R0 (snapOf w) (instL [.imm TB 0] env) args) :
    Calls Try.prog 3 args w fun e w' => e = .returned (.bool true) ∧ Below w.heap.size w w' := by
  refine lawB_ok cs_17_ok hmix false (ls := ls0) (LsOk.none _ _ _) ?_ ha
  unfold fn_W3 at h
  split at h
  · exact (fn_W3_eq _).trans h
  · cases h

def fn_W4 : List Dat → Tree Bool
  | [.n n0, .n n1, .n n2, .n n3] =>
    (.node (decide (n3 > (500 : Int)))
     (.node (decide (n3 ≤ (65536 : Int)))
      (.leaf (true))
      (.node (isK 0 [HK.n, HK.b] (op_14 [.n n0, .n n1, .n n2, .n n3]))
       (.node (isK 0 [HK.n, HK.b] (op_15 [.n n0, .n n1, .n n2, .n n3]))
        (.node (gn (dOf (op_14 [.n n0, .n n1, .n n2, .n n3])) 0 == gn (dOf (op_15 [.n n0, .n n1, .n n2, .n n3])) 0)
         (.node (gb (dOf (op_14 [.n n0, .n n1, .n n2, .n n3])) 1 == gb (dOf (op_15 [.n n0, .n n1, .n n2, .n n3])) 1)
          (.leaf (true))
          (.leaf (false)))
         (.leaf (false)))
        (.bad 351))
       (.bad 351)))
     (.node (isK 0 [HK.n, HK.b] (op_14 [.n n0, .n n1, .n n2, .n n3]))
      (.node (isK 0 [HK.n, HK.b] (op_15 [.n n0, .n n1, .n n2, .n n3]))
       (.node (gn (dOf (op_14 [.n n0, .n n1, .n n2, .n n3])) 0 == gn (dOf (op_15 [.n n0, .n n1, .n n2, .n n3])) 0)
        (.node (gb (dOf (op_14 [.n n0, .n n1, .n n2, .n n3])) 1 == gb (dOf (op_15 [.n n0, .n n1, .n n2, .n n3])) 1)
         (.leaf (true))
         (.leaf (false)))
        (.leaf (false)))
       (.bad 351))
      (.bad 351)))
  | _ => .bad 0
theorem fn_W4_eq (n0 : Int) (n1 : Int) (n2 : Int) (n3 : Int) : ((fun (d : List Dat) => lawB false Try.prog cs_17 4 ls0 (instL [.int .u32 0, .int .u8 1, .int .u8 2, .int .i64 3] d)) [.n n0, .n n1, .n n2, .n n3]).sel = (fn_W4 [.n n0, .n n1, .n n2, .n n3]).sel := by kernel_rfl
theorem W4_law (env : List Dat) (h : (fn_W4 env).sel = some true) {w : World} {args : Array Value} (ha : LRel R0 (snapOf w) (instL [.int .u32 0, .int .u8 1, .int .u8 2, .int .i64 3] env) args) :
    Calls Try.prog 4 args w fun e w' => e = .returned (.bool true) ∧ Below w.heap.size w w' := by
  refine lawB_ok cs_17_ok hmix false (ls := ls0) (LsOk.none _ _ _) ?_ ha
  unfold fn_W4 at h
  split at h
  · exact (fn_W4_eq _ _ _ _).trans h
  · cases h

def fn_W5 : List Dat → Tree Bool
  | [.n n0, .n n1, .n n2, .n n3] =>
    (.node (decide (n1 > (60 : Int)))
     (.leaf (true))
     (.node (isK 0 [HK.n, HK.b] (op_15 [.n (0 : Int), .n (0 : Int), .n n2, .n (IntKind.wrap .i64 (Int.tmod n3 (64 : Int)))]))
      (.node (isK 0 [HK.n, HK.n, HK.b] (op_16 [.n (List.getD (List.set (List.set (List.replicate 2 (0 : Int)) 0 n0) 1 (gn (dOf (op_15 [.n (0 : Int), .n (0 : Int), .n n2, .n (IntKind.wrap .i64 (Int.tmod n3 (64 : Int)))])) 0)) 0 (0 : Int)), .n (IntKind.wrap .i64 n1)]))
       (.node (isK 0 [HK.n, HK.n, HK.b] (op_17 [.n (List.getD (List.set (List.set (List.replicate 2 (0 : Int)) 0 n0) 1 (gn (dOf (op_15 [.n (0 : Int), .n (0 : Int), .n n2, .n (IntKind.wrap .i64 (Int.tmod n3 (64 : Int)))])) 0)) 0 (0 : Int)), .n (IntKind.wrap .i64 n1)]))
        (.node (gn (dOf (op_16 [.n (List.getD (List.set (List.set (List.replicate 2 (0 : Int)) 0 n0) 1 (gn (dOf (op_15 [.n (0 : Int), .n (0 : Int), .n n2, .n (IntKind.wrap .i64 (Int.tmod n3 (64 : Int)))])) 0)) 0 (0 : Int)), .n (IntKind.wrap .i64 n1)])) 0 != gn (dOf (op_17 [.n (List.getD (List.set (List.set (List.replicate 2 (0 : Int)) 0 n0) 1 (gn (dOf (op_15 [.n (0 : Int), .n (0 : Int), .n n2, .n (IntKind.wrap .i64 (Int.tmod n3 (64 : Int)))])) 0)) 0 (0 : Int)), .n (IntKind.wrap .i64 n1)])) 0)
         (.leaf (false))
         (.node (gn (dOf (op_16 [.n (List.getD (List.set (List.set (List.replicate 2 (0 : Int)) 0 n0) 1 (gn (dOf (op_15 [.n (0 : Int), .n (0 : Int), .n n2, .n (IntKind.wrap .i64 (Int.tmod n3 (64 : Int)))])) 0)) 0 (0 : Int)), .n (IntKind.wrap .i64 n1)])) 1 != gn (dOf (op_17 [.n (List.getD (List.set (List.set (List.replicate 2 (0 : Int)) 0 n0) 1 (gn (dOf (op_15 [.n (0 : Int), .n (0 : Int), .n n2, .n (IntKind.wrap .i64 (Int.tmod n3 (64 : Int)))])) 0)) 0 (0 : Int)), .n (IntKind.wrap .i64 n1)])) 1)
          (.leaf (false))
          (.node (!gb (dOf (op_16 [.n (List.getD (List.set (List.set (List.replicate 2 (0 : Int)) 0 n0) 1 (gn (dOf (op_15 [.n (0 : Int), .n (0 : Int), .n n2, .n (IntKind.wrap .i64 (Int.tmod n3 (64 : Int)))])) 0)) 0 (0 : Int)), .n (IntKind.wrap .i64 n1)])) 2 == gb (dOf (op_17 [.n (List.getD (List.set (List.set (List.replicate 2 (0 : Int)) 0 n0) 1 (gn (dOf (op_15 [.n (0 : Int), .n (0 : Int), .n n2, .n (IntKind.wrap .i64 (Int.tmod n3 (64 : Int)))])) 0)) 0 (0 : Int)), .n (IntKind.wrap .i64 n1)])) 2)
           (.leaf (false))
           (.node (isK 0 [HK.n, HK.n, HK.b] (op_16 [.n (List.getD (List.set (List.set (List.replicate 2 (0 : Int)) 0 n0) 1 (gn (dOf (op_15 [.n (0 : Int), .n (0 : Int), .n n2, .n (IntKind.wrap .i64 (Int.tmod n3 (64 : Int)))])) 0)) 1 (0 : Int)), .n (IntKind.wrap .i64 n1)]))
            (.node (isK 0 [HK.n, HK.n, HK.b] (op_17 [.n (List.getD (List.set (List.set (List.replicate 2 (0 : Int)) 0 n0) 1 (gn (dOf (op_15 [.n (0 : Int), .n (0 : Int), .n n2, .n (IntKind.wrap .i64 (Int.tmod n3 (64 : Int)))])) 0)) 1 (0 : Int)), .n (IntKind.wrap .i64 n1)]))
             (.node (gn (dOf (op_16 [.n (List.getD (List.set (List.set (List.replicate 2 (0 : Int)) 0 n0) 1 (gn (dOf (op_15 [.n (0 : Int), .n (0 : Int), .n n2, .n (IntKind.wrap .i64 (Int.tmod n3 (64 : Int)))])) 0)) 1 (0 : Int)), .n (IntKind.wrap .i64 n1)])) 0 != gn (dOf (op_17 [.n (List.getD (List.set (List.set (List.replicate 2 (0 : Int)) 0 n0) 1 (gn (dOf (op_15 [.n (0 : Int), .n (0 : Int), .n n2, .n (IntKind.wrap .i64 (Int.tmod n3 (64 : Int)))])) 0)) 1 (0 : Int)), .n (IntKind.wrap .i64 n1)])) 0)
              (.leaf (false))
              (.node (gn (dOf (op_16 [.n (List.getD (List.set (List.set (List.replicate 2 (0 : Int)) 0 n0) 1 (gn (dOf (op_15 [.n (0 : Int), .n (0 : Int), .n n2, .n (IntKind.wrap .i64 (Int.tmod n3 (64 : Int)))])) 0)) 1 (0 : Int)), .n (IntKind.wrap .i64 n1)])) 1 != gn (dOf (op_17 [.n (List.getD (List.set (List.set (List.replicate 2 (0 : Int)) 0 n0) 1 (gn (dOf (op_15 [.n (0 : Int), .n (0 : Int), .n n2, .n (IntKind.wrap .i64 (Int.tmod n3 (64 : Int)))])) 0)) 1 (0 : Int)), .n (IntKind.wrap .i64 n1)])) 1)
               (.leaf (false))
               (.node (!gb (dOf (op_16 [.n (List.getD (List.set (List.set (List.replicate 2 (0 : Int)) 0 n0) 1 (gn (dOf (op_15 [.n (0 : Int), .n (0 : Int), .n n2, .n (IntKind.wrap .i64 (Int.tmod n3 (64 : Int)))])) 0)) 1 (0 : Int)), .n (IntKind.wrap .i64 n1)])) 2 == gb (dOf (op_17 [.n (List.getD (List.set (List.set (List.replicate 2 (0 : Int)) 0 n0) 1 (gn (dOf (op_15 [.n (0 : Int), .n (0 : Int), .n n2, .n (IntKind.wrap .i64 (Int.tmod n3 (64 : Int)))])) 0)) 1 (0 : Int)), .n (IntKind.wrap .i64 n1)])) 2)
                (.leaf (false))
                (.leaf (true)))))
             (.bad 351))
            (.bad 351)))))
        (.bad 351))
       (.bad 351))
      (.bad 351)))
  | _ => .bad 0
theorem fn_W5_eq (n0 : Int) (n1 : Int) (n2 : Int) (n3 : Int) : ((fun (d : List Dat) => lawB false Try.prog cs_17 5 ls0 (instL [.int .u32 0, .int .i8 1, .int .u8 2, .int .u8 3] d)) [.n n0, .n n1, .n n2, .n n3]).sel = (fn_W5 [.n n0, .n n1, .n n2, .n n3]).sel := by kernel_rfl
theorem W5_law (env : List Dat) (h : (fn_W5 env).sel = some true) {w : World} {args : Array Value} (ha : LRel R0 (snapOf w) (instL [.int .u32 0, .int .i8 1, .int .u8 2, .int .u8 3] env) args) :
    Calls Try.prog 5 args w fun e w' => e = .returned (.bool true) ∧ Below w.heap.size w w' := by
  refine lawB_ok cs_17_ok hmix false (ls := ls0) (LsOk.none _ _ _) ?_ ha
  unfold fn_W5 at h
  split at h
  · exact (fn_W5_eq _ _ _ _).trans h
  · cases h

def fn_L6_6 : List Dat → Tree Step
  | [.l (Ty.int IntKind.u16) l0, .l (Ty.int IntKind.u8) l1, .n n2, .n n3, .l (Ty.int IntKind.u8) l4] =>
    (.node (decide (n3 < (↑(List.length l0) : Int)))
     (.node (decide (n3 < (↑(List.length l1) : Int)))
      (.node (decide ((↑(List.length l4) : Int) > (0 : Int)))
       (.node (inR n3 (List.length l0))
        (.node (!decide ((↑(List.length l4) : Int) = (0 : Int)))
         (.node (inR (Int.tmod (IntKind.wrap .i64 (List.getD l0 (Int.toNat n3) (0 : Int))) (↑(List.length l4) : Int)) (List.length l4))
          (.node (inR n3 (List.length l1))
           (.node (isK 0 [HK.n, HK.b] (op_14 [.n n2, .n (List.getD l4 (Int.toNat (Int.tmod (IntKind.wrap .i64 (List.getD l0 (Int.toNat n3) (0 : Int))) (↑(List.length l4) : Int))) (0 : Int)), .n (List.getD l1 (Int.toNat n3) (0 : Int)), .n (IntKind.wrap .i64 (IntKind.wrap .i64 ((↑(List.length l4) : Int) - (1 : Int)) - Int.tmod (IntKind.wrap .i64 (List.getD l0 (Int.toNat n3) (0 : Int))) (↑(List.length l4) : Int)))]))
            (.node (!gb (dOf (op_14 [.n n2, .n (List.getD l4 (Int.toNat (Int.tmod (IntKind.wrap .i64 (List.getD l0 (Int.toNat n3) (0 : Int))) (↑(List.length l4) : Int))) (0 : Int)), .n (List.getD l1 (Int.toNat n3) (0 : Int)), .n (IntKind.wrap .i64 (IntKind.wrap .i64 ((↑(List.length l4) : Int) - (1 : Int)) - Int.tmod (IntKind.wrap .i64 (List.getD l0 (Int.toNat n3) (0 : Int))) (↑(List.length l4) : Int)))])) 1)
             (.leaf (Step.stop 1 [.b false]))
             (.node (isK 0 [HK.n] (op_12 [.l (Ty.int IntKind.u8) (List.set l4 (Int.toNat (Int.tmod (IntKind.wrap .i64 (List.getD l0 (Int.toNat n3) (0 : Int))) (↑(List.length l4) : Int))) (List.getD l1 (Int.toNat n3) (0 : Int)))]))
              (.node (gn (dOf (op_14 [.n n2, .n (List.getD l4 (Int.toNat (Int.tmod (IntKind.wrap .i64 (List.getD l0 (Int.toNat n3) (0 : Int))) (↑(List.length l4) : Int))) (0 : Int)), .n (List.getD l1 (Int.toNat n3) (0 : Int)), .n (IntKind.wrap .i64 (IntKind.wrap .i64 ((↑(List.length l4) : Int) - (1 : Int)) - Int.tmod (IntKind.wrap .i64 (List.getD l0 (Int.toNat n3) (0 : Int))) (↑(List.length l4) : Int)))])) 0 != gn (dOf (op_12 [.l (Ty.int IntKind.u8) (List.set l4 (Int.toNat (Int.tmod (IntKind.wrap .i64 (List.getD l0 (Int.toNat n3) (0 : Int))) (↑(List.length l4) : Int))) (List.getD l1 (Int.toNat n3) (0 : Int)))])) 0)
               (.leaf (Step.stop 1 [.b false]))
               (.leaf (Step.go [.l (Ty.int IntKind.u16) l0, .l (Ty.int IntKind.u8) l1, .n (gn (dOf (op_14 [.n n2, .n (List.getD l4 (Int.toNat (Int.tmod (IntKind.wrap .i64 (List.getD l0 (Int.toNat n3) (0 : Int))) (↑(List.length l4) : Int))) (0 : Int)), .n (List.getD l1 (Int.toNat n3) (0 : Int)), .n (IntKind.wrap .i64 (IntKind.wrap .i64 ((↑(List.length l4) : Int) - (1 : Int)) - Int.tmod (IntKind.wrap .i64 (List.getD l0 (Int.toNat n3) (0 : Int))) (↑(List.length l4) : Int)))])) 0), .n (IntKind.wrap .i64 (n3 + (1 : Int))), .l (Ty.int IntKind.u8) (List.set l4 (Int.toNat (Int.tmod (IntKind.wrap .i64 (List.getD l0 (Int.toNat n3) (0 : Int))) (↑(List.length l4) : Int))) (List.getD l1 (Int.toNat n3) (0 : Int)))])))
              (.bad 351)))
            (.bad 351))
           (.bad 10))
          (.bad 12))
         (.bad 81))
        (.bad 10))
       (.leaf (Step.stop 0 [])))
      (.leaf (Step.stop 0 [])))
     (.leaf (Step.stop 0 [])))
  | _ => .bad 0
def op_L6_6 : List Dat → Option (Nat × List Dat) := iterS fn_L6_6 FU
def L6_6 : LBox := (mkL 0 [] (sh 87 [(1, .imm (.int .u16) 0), (2, .imm TB 1), (7, .own 0), (8, .int .u32 2), (9, .int .i64 3)]) [.arr TB 4] [] [(.exit 0, sh 87 [], []), (.ret, sh 87 [(6, .bool 0)], [])] op_L6_6)
def fr_L6_6 : List Dat → Tree Step
  | [.l (Ty.int IntKind.u16) l0, .l (Ty.int IntKind.u8) l1, .n n2, .n n3, .l (Ty.int IntKind.u8) l4] =>
    (.node (decide (n3 < (↑(List.length l0) : Int)))
     (.node (decide (n3 < (↑(List.length l1) : Int)))
      (.node (decide ((↑(List.length l4) : Int) > (0 : Int)))
       (.node (inR n3 (List.length l0))
        (.node (!decide ((↑(List.length l4) : Int) = (0 : Int)))
         (.node (inR (Int.tmod (IntKind.wrap .i64 (List.getD l0 (Int.toNat n3) (0 : Int))) (↑(List.length l4) : Int)) (List.length l4))
          (.node (inR n3 (List.length l1))
           (.node (isK 0 [HK.n, HK.b] (op_14 [.n n2, .n (List.getD l4 (Int.toNat (Int.tmod (IntKind.wrap .i64 (List.getD l0 (Int.toNat n3) (0 : Int))) (↑(List.length l4) : Int))) (0 : Int)), .n (List.getD l1 (Int.toNat n3) (0 : Int)), .n (IntKind.wrap .i64 (IntKind.wrap .i64 ((↑(List.length l4) : Int) - (1 : Int)) - Int.tmod (IntKind.wrap .i64 (List.getD l0 (Int.toNat n3) (0 : Int))) (↑(List.length l4) : Int)))]))
            (.node (inR n3 (List.length l1))
             (.node (inR (Int.tmod (IntKind.wrap .i64 (List.getD l0 (Int.toNat n3) (0 : Int))) (↑(List.length l4) : Int)) (List.length l4))
              (.node (!gb (dOf (op_14 [.n n2, .n (List.getD l4 (Int.toNat (Int.tmod (IntKind.wrap .i64 (List.getD l0 (Int.toNat n3) (0 : Int))) (↑(List.length l4) : Int))) (0 : Int)), .n (List.getD l1 (Int.toNat n3) (0 : Int)), .n (IntKind.wrap .i64 (IntKind.wrap .i64 ((↑(List.length l4) : Int) - (1 : Int)) - Int.tmod (IntKind.wrap .i64 (List.getD l0 (Int.toNat n3) (0 : Int))) (↑(List.length l4) : Int)))])) 1)
               (.leaf (Step.stop 1 [.b false]))
               (.node (isK 0 [HK.n] (op_12 [.l (Ty.int IntKind.u8) (List.set l4 (Int.toNat (Int.tmod (IntKind.wrap .i64 (List.getD l0 (Int.toNat n3) (0 : Int))) (↑(List.length l4) : Int))) (List.getD l1 (Int.toNat n3) (0 : Int)))]))
                (.node (gn (dOf (op_14 [.n n2, .n (List.getD l4 (Int.toNat (Int.tmod (IntKind.wrap .i64 (List.getD l0 (Int.toNat n3) (0 : Int))) (↑(List.length l4) : Int))) (0 : Int)), .n (List.getD l1 (Int.toNat n3) (0 : Int)), .n (IntKind.wrap .i64 (IntKind.wrap .i64 ((↑(List.length l4) : Int) - (1 : Int)) - Int.tmod (IntKind.wrap .i64 (List.getD l0 (Int.toNat n3) (0 : Int))) (↑(List.length l4) : Int)))])) 0 != gn (dOf (op_12 [.l (Ty.int IntKind.u8) (List.set l4 (Int.toNat (Int.tmod (IntKind.wrap .i64 (List.getD l0 (Int.toNat n3) (0 : Int))) (↑(List.length l4) : Int))) (List.getD l1 (Int.toNat n3) (0 : Int)))])) 0)
                 (.leaf (Step.stop 1 [.b false]))
                 (.leaf (Step.go [.l (Ty.int IntKind.u16) l0, .l (Ty.int IntKind.u8) l1, .n (gn (dOf (op_14 [.n n2, .n (List.getD l4 (Int.toNat (Int.tmod (IntKind.wrap .i64 (List.getD l0 (Int.toNat n3) (0 : Int))) (↑(List.length l4) : Int))) (0 : Int)), .n (List.getD l1 (Int.toNat n3) (0 : Int)), .n (IntKind.wrap .i64 (IntKind.wrap .i64 ((↑(List.length l4) : Int) - (1 : Int)) - Int.tmod (IntKind.wrap .i64 (List.getD l0 (Int.toNat n3) (0 : Int))) (↑(List.length l4) : Int)))])) 0), .n (IntKind.wrap .i64 (n3 + (1 : Int))), .l (Ty.int IntKind.u8) (List.set l4 (Int.toNat (Int.tmod (IntKind.wrap .i64 (List.getD l0 (Int.toNat n3) (0 : Int))) (↑(List.length l4) : Int))) (List.getD l1 (Int.toNat n3) (0 : Int)))])))
                (.bad 351)))
              (.bad 12))
             (.bad 10))
            (.bad 351))
           (.bad 10))
          (.bad 12))
         (.bad 81))
        (.bad 10))
       (.leaf (Step.stop 0 [])))
      (.leaf (Step.stop 0 [])))
     (.leaf (Step.stop 0 [])))
  | _ => .bad 0
theorem fr_L6_6_eq (l0 : List (Ty.den (Ty.int IntKind.u16))) (l1 : List (Ty.den (Ty.int IntKind.u8))) (n2 : Int) (n3 : Int) (l4 : List (Ty.den (Ty.int IntKind.u8))) : (stepC false Try.prog cs_17 6 6 ls0 (mkL 0 [] (sh 87 [(1, .imm (.int .u16) 0), (2, .imm TB 1), (7, .own 0), (8, .int .u32 2), (9, .int .i64 3)]) [.arr TB 4] [] [(.exit 0, sh 87 [], []), (.ret, sh 87 [(6, .bool 0)], [])] fun _ => none) [.l (Ty.int IntKind.u16) l0, .l (Ty.int IntKind.u8) l1, .n n2, .n n3, .l (Ty.int IntKind.u8) l4]).sel = (fr_L6_6 [.l (Ty.int IntKind.u16) l0, .l (Ty.int IntKind.u8) l1, .n n2, .n n3, .l (Ty.int IntKind.u8) l4]).sel := by kernel_rfl
theorem fr_L6_6_pr (l0 : List (Ty.den (Ty.int IntKind.u16))) (l1 : List (Ty.den (Ty.int IntKind.u8))) (n2 : Int) (n3 : Int) (l4 : List (Ty.den (Ty.int IntKind.u8))) : (fr_L6_6 [.l (Ty.int IntKind.u16) l0, .l (Ty.int IntKind.u8) l1, .n n2, .n n3, .l (Ty.int IntKind.u8) l4]).sel = (fn_L6_6 [.l (Ty.int IntKind.u16) l0, .l (Ty.int IntKind.u8) l1, .n n2, .n n3, .l (Ty.int IntKind.u8) l4]).sel := (sel_c (fun h0 => (sel_c (fun h1 => (sel_c (fun h2 => (sel_c (fun h3 => (sel_c (fun h4 => (sel_c (fun h5 => (sel_c (fun h6 => (sel_c (fun h7 => (sel_t h6 (sel_t h5 rfl))) (fun _ => rfl))) (fun _ => rfl))) (fun _ => rfl))) (fun _ => rfl))) (fun _ => rfl))) (fun _ => rfl))) (fun _ => rfl))) (fun _ => rfl))
theorem fn_L6_6_eq (l0 : List (Ty.den (Ty.int IntKind.u16))) (l1 : List (Ty.den (Ty.int IntKind.u8))) (n2 : Int) (n3 : Int) (l4 : List (Ty.den (Ty.int IntKind.u8))) : (stepC false Try.prog cs_17 6 6 ls0 (mkL 0 [] (sh 87 [(1, .imm (.int .u16) 0), (2, .imm TB 1), (7, .own 0), (8, .int .u32 2), (9, .int .i64 3)]) [.arr TB 4] [] [(.exit 0, sh 87 [], []), (.ret, sh 87 [(6, .bool 0)], [])] fun _ => none) [.l (Ty.int IntKind.u16) l0, .l (Ty.int IntKind.u8) l1, .n n2, .n n3, .l (Ty.int IntKind.u8) l4]).sel = (fn_L6_6 [.l (Ty.int IntKind.u16) l0, .l (Ty.int IntKind.u8) l1, .n n2, .n n3, .l (Ty.int IntKind.u8) l4]).sel := (fr_L6_6_eq l0 l1 n2 n3 l4).trans (fr_L6_6_pr l0 l1 n2 n3 l4)
theorem fn_L6_6_ok (env : List Dat) (y : Step) (h : (fn_L6_6 env).sel = some y) : (stepC false Try.prog cs_17 6 6 ls0 (mkL 0 [] (sh 87 [(1, .imm (.int .u16) 0), (2, .imm TB 1), (7, .own 0), (8, .int .u32 2), (9, .int .i64 3)]) [.arr TB 4] [] [(.exit 0, sh 87 [], []), (.ret, sh 87 [(6, .bool 0)], [])] fun _ => none) env).sel = some y := by
  unfold fn_L6_6 at h
  split at h
  · rw [fn_L6_6_eq]; exact h
  · cases h
theorem L6_6_ok (K : Nat) : LsOk Try.prog K (lsTab [(6, L6_6)] K) (bodyOf Try.prog 6) := mkL_ok (st := fn_L6_6) (m := FU) cs_17_ok hmix false (by kernel_rfl) (by kernel_rfl) fn_L6_6_ok
theorem L6_6_run : ∀ t s x, (loopRun L6_6 t s).sel = some x → CodeOk Try.prog 0 (.loop (cAt Try.prog 6 6)) t s x := mkLs_ok (st := fn_L6_6) (m := FU) cs_17_ok hmix false (LsOk.none _ _ _) (by kernel_rfl) fn_L6_6_ok

def fn_W6 : List Dat → Tree Bool
  | [.l (Ty.int IntKind.u8) l0, .l (Ty.int IntKind.u16) l1, .l (Ty.int IntKind.u8) l2] =>
    (.node (decide ((↑(List.length l0) : Int) > (1500 : Int)))
     (.leaf (true))
     (.node (decide ((↑(List.length l1) : Int) > (40 : Int)))
      (.leaf (true))
      (.node (isK 0 [HK.n] (op_12 [.l (Ty.int IntKind.u8) (bytesOf (strOf l0))]))
       (.node (isK 0 [] (op_L6_6 [.l (Ty.int IntKind.u16) l1, .l (Ty.int IntKind.u8) l2, .n (gn (dOf (op_12 [.l (Ty.int IntKind.u8) (bytesOf (strOf l0))])) 0), .n (0 : Int), .l (Ty.int IntKind.u8) (bytesOf (strOf l0))]))
        (.leaf (true))
        (.node (isK 1 [HK.b] (op_L6_6 [.l (Ty.int IntKind.u16) l1, .l (Ty.int IntKind.u8) l2, .n (gn (dOf (op_12 [.l (Ty.int IntKind.u8) (bytesOf (strOf l0))])) 0), .n (0 : Int), .l (Ty.int IntKind.u8) (bytesOf (strOf l0))]))
         (.leaf (gb (dOf (op_L6_6 [.l (Ty.int IntKind.u16) l1, .l (Ty.int IntKind.u8) l2, .n (gn (dOf (op_12 [.l (Ty.int IntKind.u8) (bytesOf (strOf l0))])) 0), .n (0 : Int), .l (Ty.int IntKind.u8) (bytesOf (strOf l0))])) 0))
         (.bad 351)))
       (.bad 351))))
  | _ => .bad 0
theorem fn_W6_eq (l0 : List (Ty.den (Ty.int IntKind.u8))) (l1 : List (Ty.den (Ty.int IntKind.u16))) (l2 : List (Ty.den (Ty.int IntKind.u8))) : ((fun (d : List Dat) => lawB false Try.prog cs_17 6 (lsTab [(6, L6_6)] (0)) (instL [.imm TB 0, .imm (.int .u16) 1, .imm TB 2] d)) [.l (Ty.int IntKind.u8) l0, .l (Ty.int IntKind.u16) l1, .l (Ty.int IntKind.u8) l2]).sel = (fn_W6 [.l (Ty.int IntKind.u8) l0, .l (Ty.int IntKind.u16) l1, .l (Ty.int IntKind.u8) l2]).sel := by kernel_rfl
theorem W6_law (env : List Dat) (h : (fn_W6 env).sel = some true) {w : World} {args : Array Value} (ha : LRel R0 (snapOf w) (instL [.imm TB 0, .imm (.int .u16) 1, .imm TB 2] env) args) :
    Calls Try.prog 6 args w fun e w' => e = .returned (.bool true) ∧ Below w.heap.size w w' := by
  refine lawB_ok cs_17_ok hmix false (ls := (lsTab [(6, L6_6)] (0))) (L6_6_ok _) ?_ ha
  unfold fn_W6 at h
  split at h
  · exact (fn_W6_eq _ _ _).trans h
  · cases h

def fn_W7 : List Dat → Tree Bool
  | [.l (Ty.int IntKind.u8) l0, .n n1, .n n2] =>
    (.node ((↑(List.length l0) : Int) == (0 : Int))
     (.leaf (true))
     (.node (decide ((↑(List.length l0) : Int) > (2000 : Int)))
      (.leaf (true))
      (.node (n2 == (0 : Int))
       (.leaf (true))
       (.node (!decide ((↑(List.length l0) : Int) = (0 : Int)))
        (.node (inR (Int.tmod (IntKind.wrap .i64 n1) (↑(List.length l0) : Int)) (List.length (bytesOf (strOf l0))))
         (.node (isK 0 [HK.n] (op_12 [.l (Ty.int IntKind.u8) l0]))
          (.node (isK 0 [HK.n] (op_12 [.l (Ty.int IntKind.u8) (List.set (bytesOf (strOf l0)) (Int.toNat (Int.tmod (IntKind.wrap .i64 n1) (↑(List.length l0) : Int))) (ixor IntKind.u8 (List.getD (bytesOf (strOf l0)) (Int.toNat (Int.tmod (IntKind.wrap .i64 n1) (↑(List.length l0) : Int))) (0 : Int)) n2))]))
           (.node (isK 0 [HK.n, HK.n, HK.b] (op_16 [.n (ixor IntKind.u32 (gn (dOf (op_12 [.l (Ty.int IntKind.u8) l0])) 0) (gn (dOf (op_12 [.l (Ty.int IntKind.u8) (List.set (bytesOf (strOf l0)) (Int.toNat (Int.tmod (IntKind.wrap .i64 n1) (↑(List.length l0) : Int))) (ixor IntKind.u8 (List.getD (bytesOf (strOf l0)) (Int.toNat (Int.tmod (IntKind.wrap .i64 n1) (↑(List.length l0) : Int))) (0 : Int)) n2))])) 0)), .n (↑(List.length (List.set (bytesOf (strOf l0)) (Int.toNat (Int.tmod (IntKind.wrap .i64 n1) (↑(List.length l0) : Int))) (ixor IntKind.u8 (List.getD (bytesOf (strOf l0)) (Int.toNat (Int.tmod (IntKind.wrap .i64 n1) (↑(List.length l0) : Int))) (0 : Int)) n2))) : Int)]))
            (.node (!gb (dOf (op_16 [.n (ixor IntKind.u32 (gn (dOf (op_12 [.l (Ty.int IntKind.u8) l0])) 0) (gn (dOf (op_12 [.l (Ty.int IntKind.u8) (List.set (bytesOf (strOf l0)) (Int.toNat (Int.tmod (IntKind.wrap .i64 n1) (↑(List.length l0) : Int))) (ixor IntKind.u8 (List.getD (bytesOf (strOf l0)) (Int.toNat (Int.tmod (IntKind.wrap .i64 n1) (↑(List.length l0) : Int))) (0 : Int)) n2))])) 0)), .n (↑(List.length (List.set (bytesOf (strOf l0)) (Int.toNat (Int.tmod (IntKind.wrap .i64 n1) (↑(List.length l0) : Int))) (ixor IntKind.u8 (List.getD (bytesOf (strOf l0)) (Int.toNat (Int.tmod (IntKind.wrap .i64 n1) (↑(List.length l0) : Int))) (0 : Int)) n2))) : Int)])) 2)
             (.leaf (false))
             (.node (gn (dOf (op_16 [.n (ixor IntKind.u32 (gn (dOf (op_12 [.l (Ty.int IntKind.u8) l0])) 0) (gn (dOf (op_12 [.l (Ty.int IntKind.u8) (List.set (bytesOf (strOf l0)) (Int.toNat (Int.tmod (IntKind.wrap .i64 n1) (↑(List.length l0) : Int))) (ixor IntKind.u8 (List.getD (bytesOf (strOf l0)) (Int.toNat (Int.tmod (IntKind.wrap .i64 n1) (↑(List.length l0) : Int))) (0 : Int)) n2))])) 0)), .n (↑(List.length (List.set (bytesOf (strOf l0)) (Int.toNat (Int.tmod (IntKind.wrap .i64 n1) (↑(List.length l0) : Int))) (ixor IntKind.u8 (List.getD (bytesOf (strOf l0)) (Int.toNat (Int.tmod (IntKind.wrap .i64 n1) (↑(List.length l0) : Int))) (0 : Int)) n2))) : Int)])) 1 == (0 : Int))
              (.leaf (false))
              (.node (decide (gn (dOf (op_16 [.n (ixor IntKind.u32 (gn (dOf (op_12 [.l (Ty.int IntKind.u8) l0])) 0) (gn (dOf (op_12 [.l (Ty.int IntKind.u8) (List.set (bytesOf (strOf l0)) (Int.toNat (Int.tmod (IntKind.wrap .i64 n1) (↑(List.length l0) : Int))) (ixor IntKind.u8 (List.getD (bytesOf (strOf l0)) (Int.toNat (Int.tmod (IntKind.wrap .i64 n1) (↑(List.length l0) : Int))) (0 : Int)) n2))])) 0)), .n (↑(List.length (List.set (bytesOf (strOf l0)) (Int.toNat (Int.tmod (IntKind.wrap .i64 n1) (↑(List.length l0) : Int))) (ixor IntKind.u8 (List.getD (bytesOf (strOf l0)) (Int.toNat (Int.tmod (IntKind.wrap .i64 n1) (↑(List.length l0) : Int))) (0 : Int)) n2))) : Int)])) 0 < (0 : Int)))
               (.leaf (false))
               (.node (decide (gn (dOf (op_16 [.n (ixor IntKind.u32 (gn (dOf (op_12 [.l (Ty.int IntKind.u8) l0])) 0) (gn (dOf (op_12 [.l (Ty.int IntKind.u8) (List.set (bytesOf (strOf l0)) (Int.toNat (Int.tmod (IntKind.wrap .i64 n1) (↑(List.length l0) : Int))) (ixor IntKind.u8 (List.getD (bytesOf (strOf l0)) (Int.toNat (Int.tmod (IntKind.wrap .i64 n1) (↑(List.length l0) : Int))) (0 : Int)) n2))])) 0)), .n (↑(List.length (List.set (bytesOf (strOf l0)) (Int.toNat (Int.tmod (IntKind.wrap .i64 n1) (↑(List.length l0) : Int))) (ixor IntKind.u8 (List.getD (bytesOf (strOf l0)) (Int.toNat (Int.tmod (IntKind.wrap .i64 n1) (↑(List.length l0) : Int))) (0 : Int)) n2))) : Int)])) 0 > IntKind.wrap .i64 (IntKind.wrap .i64 ((↑(List.length (List.set (bytesOf (strOf l0)) (Int.toNat (Int.tmod (IntKind.wrap .i64 n1) (↑(List.length l0) : Int))) (ixor IntKind.u8 (List.getD (bytesOf (strOf l0)) (Int.toNat (Int.tmod (IntKind.wrap .i64 n1) (↑(List.length l0) : Int))) (0 : Int)) n2))) : Int) - (1 : Int)) - Int.tmod (IntKind.wrap .i64 n1) (↑(List.length l0) : Int))))
                (.leaf (false))
                (.node (inR (IntKind.wrap .i64 (IntKind.wrap .i64 ((↑(List.length (List.set (bytesOf (strOf l0)) (Int.toNat (Int.tmod (IntKind.wrap .i64 n1) (↑(List.length l0) : Int))) (ixor IntKind.u8 (List.getD (bytesOf (strOf l0)) (Int.toNat (Int.tmod (IntKind.wrap .i64 n1) (↑(List.length l0) : Int))) (0 : Int)) n2))) : Int) - (1 : Int)) - gn (dOf (op_16 [.n (ixor IntKind.u32 (gn (dOf (op_12 [.l (Ty.int IntKind.u8) l0])) 0) (gn (dOf (op_12 [.l (Ty.int IntKind.u8) (List.set (bytesOf (strOf l0)) (Int.toNat (Int.tmod (IntKind.wrap .i64 n1) (↑(List.length l0) : Int))) (ixor IntKind.u8 (List.getD (bytesOf (strOf l0)) (Int.toNat (Int.tmod (IntKind.wrap .i64 n1) (↑(List.length l0) : Int))) (0 : Int)) n2))])) 0)), .n (↑(List.length (List.set (bytesOf (strOf l0)) (Int.toNat (Int.tmod (IntKind.wrap .i64 n1) (↑(List.length l0) : Int))) (ixor IntKind.u8 (List.getD (bytesOf (strOf l0)) (Int.toNat (Int.tmod (IntKind.wrap .i64 n1) (↑(List.length l0) : Int))) (0 : Int)) n2))) : Int)])) 0)) (List.length (List.set (bytesOf (strOf l0)) (Int.toNat (Int.tmod (IntKind.wrap .i64 n1) (↑(List.length l0) : Int))) (ixor IntKind.u8 (List.getD (bytesOf (strOf l0)) (Int.toNat (Int.tmod (IntKind.wrap .i64 n1) (↑(List.length l0) : Int))) (0 : Int)) n2))))
                 (.node (isK 0 [HK.n] (op_12 [.l (Ty.int IntKind.u8) (List.set (List.set (bytesOf (strOf l0)) (Int.toNat (Int.tmod (IntKind.wrap .i64 n1) (↑(List.length l0) : Int))) (ixor IntKind.u8 (List.getD (bytesOf (strOf l0)) (Int.toNat (Int.tmod (IntKind.wrap .i64 n1) (↑(List.length l0) : Int))) (0 : Int)) n2)) (Int.toNat (IntKind.wrap .i64 (IntKind.wrap .i64 ((↑(List.length (List.set (bytesOf (strOf l0)) (Int.toNat (Int.tmod (IntKind.wrap .i64 n1) (↑(List.length l0) : Int))) (ixor IntKind.u8 (List.getD (bytesOf (strOf l0)) (Int.toNat (Int.tmod (IntKind.wrap .i64 n1) (↑(List.length l0) : Int))) (0 : Int)) n2))) : Int) - (1 : Int)) - gn (dOf (op_16 [.n (ixor IntKind.u32 (gn (dOf (op_12 [.l (Ty.int IntKind.u8) l0])) 0) (gn (dOf (op_12 [.l (Ty.int IntKind.u8) (List.set (bytesOf (strOf l0)) (Int.toNat (Int.tmod (IntKind.wrap .i64 n1) (↑(List.length l0) : Int))) (ixor IntKind.u8 (List.getD (bytesOf (strOf l0)) (Int.toNat (Int.tmod (IntKind.wrap .i64 n1) (↑(List.length l0) : Int))) (0 : Int)) n2))])) 0)), .n (↑(List.length (List.set (bytesOf (strOf l0)) (Int.toNat (Int.tmod (IntKind.wrap .i64 n1) (↑(List.length l0) : Int))) (ixor IntKind.u8 (List.getD (bytesOf (strOf l0)) (Int.toNat (Int.tmod (IntKind.wrap .i64 n1) (↑(List.length l0) : Int))) (0 : Int)) n2))) : Int)])) 0))) (ixor IntKind.u8 (List.getD (List.set (bytesOf (strOf l0)) (Int.toNat (Int.tmod (IntKind.wrap .i64 n1) (↑(List.length l0) : Int))) (ixor IntKind.u8 (List.getD (bytesOf (strOf l0)) (Int.toNat (Int.tmod (IntKind.wrap .i64 n1) (↑(List.length l0) : Int))) (0 : Int)) n2)) (Int.toNat (IntKind.wrap .i64 (IntKind.wrap .i64 ((↑(List.length (List.set (bytesOf (strOf l0)) (Int.toNat (Int.tmod (IntKind.wrap .i64 n1) (↑(List.length l0) : Int))) (ixor IntKind.u8 (List.getD (bytesOf (strOf l0)) (Int.toNat (Int.tmod (IntKind.wrap .i64 n1) (↑(List.length l0) : Int))) (0 : Int)) n2))) : Int) - (1 : Int)) - gn (dOf (op_16 [.n (ixor IntKind.u32 (gn (dOf (op_12 [.l (Ty.int IntKind.u8) l0])) 0) (gn (dOf (op_12 [.l (Ty.int IntKind.u8) (List.set (bytesOf (strOf l0)) (Int.toNat (Int.tmod (IntKind.wrap .i64 n1) (↑(List.length l0) : Int))) (ixor IntKind.u8 (List.getD (bytesOf (strOf l0)) (Int.toNat (Int.tmod (IntKind.wrap .i64 n1) (↑(List.length l0) : Int))) (0 : Int)) n2))])) 0)), .n (↑(List.length (List.set (bytesOf (strOf l0)) (Int.toNat (Int.tmod (IntKind.wrap .i64 n1) (↑(List.length l0) : Int))) (ixor IntKind.u8 (List.getD (bytesOf (strOf l0)) (Int.toNat (Int.tmod (IntKind.wrap .i64 n1) (↑(List.length l0) : Int))) (0 : Int)) n2))) : Int)])) 0))) (0 : Int)) (gn (dOf (op_16 [.n (ixor IntKind.u32 (gn (dOf (op_12 [.l (Ty.int IntKind.u8) l0])) 0) (gn (dOf (op_12 [.l (Ty.int IntKind.u8) (List.set (bytesOf (strOf l0)) (Int.toNat (Int.tmod (IntKind.wrap .i64 n1) (↑(List.length l0) : Int))) (ixor IntKind.u8 (List.getD (bytesOf (strOf l0)) (Int.toNat (Int.tmod (IntKind.wrap .i64 n1) (↑(List.length l0) : Int))) (0 : Int)) n2))])) 0)), .n (↑(List.length (List.set (bytesOf (strOf l0)) (Int.toNat (Int.tmod (IntKind.wrap .i64 n1) (↑(List.length l0) : Int))) (ixor IntKind.u8 (List.getD (bytesOf (strOf l0)) (Int.toNat (Int.tmod (IntKind.wrap .i64 n1) (↑(List.length l0) : Int))) (0 : Int)) n2))) : Int)])) 1)))]))
                  (.node (gn (dOf (op_12 [.l (Ty.int IntKind.u8) (List.set (List.set (bytesOf (strOf l0)) (Int.toNat (Int.tmod (IntKind.wrap .i64 n1) (↑(List.length l0) : Int))) (ixor IntKind.u8 (List.getD (bytesOf (strOf l0)) (Int.toNat (Int.tmod (IntKind.wrap .i64 n1) (↑(List.length l0) : Int))) (0 : Int)) n2)) (Int.toNat (IntKind.wrap .i64 (IntKind.wrap .i64 ((↑(List.length (List.set (bytesOf (strOf l0)) (Int.toNat (Int.tmod (IntKind.wrap .i64 n1) (↑(List.length l0) : Int))) (ixor IntKind.u8 (List.getD (bytesOf (strOf l0)) (Int.toNat (Int.tmod (IntKind.wrap .i64 n1) (↑(List.length l0) : Int))) (0 : Int)) n2))) : Int) - (1 : Int)) - gn (dOf (op_16 [.n (ixor IntKind.u32 (gn (dOf (op_12 [.l (Ty.int IntKind.u8) l0])) 0) (gn (dOf (op_12 [.l (Ty.int IntKind.u8) (List.set (bytesOf (strOf l0)) (Int.toNat (Int.tmod (IntKind.wrap .i64 n1) (↑(List.length l0) : Int))) (ixor IntKind.u8 (List.getD (bytesOf (strOf l0)) (Int.toNat (Int.tmod (IntKind.wrap .i64 n1) (↑(List.length l0) : Int))) (0 : Int)) n2))])) 0)), .n (↑(List.length (List.set (bytesOf (strOf l0)) (Int.toNat (Int.tmod (IntKind.wrap .i64 n1) (↑(List.length l0) : Int))) (ixor IntKind.u8 (List.getD (bytesOf (strOf l0)) (Int.toNat (Int.tmod (IntKind.wrap .i64 n1) (↑(List.length l0) : Int))) (0 : Int)) n2))) : Int)])) 0))) (ixor IntKind.u8 (List.getD (List.set (bytesOf (strOf l0)) (Int.toNat (Int.tmod (IntKind.wrap .i64 n1) (↑(List.length l0) : Int))) (ixor IntKind.u8 (List.getD (bytesOf (strOf l0)) (Int.toNat (Int.tmod (IntKind.wrap .i64 n1) (↑(List.length l0) : Int))) (0 : Int)) n2)) (Int.toNat (IntKind.wrap .i64 (IntKind.wrap .i64 ((↑(List.length (List.set (bytesOf (strOf l0)) (Int.toNat (Int.tmod (IntKind.wrap .i64 n1) (↑(List.length l0) : Int))) (ixor IntKind.u8 (List.getD (bytesOf (strOf l0)) (Int.toNat (Int.tmod (IntKind.wrap .i64 n1) (↑(List.length l0) : Int))) (0 : Int)) n2))) : Int) - (1 : Int)) - gn (dOf (op_16 [.n (ixor IntKind.u32 (gn (dOf (op_12 [.l (Ty.int IntKind.u8) l0])) 0) (gn (dOf (op_12 [.l (Ty.int IntKind.u8) (List.set (bytesOf (strOf l0)) (Int.toNat (Int.tmod (IntKind.wrap .i64 n1) (↑(List.length l0) : Int))) (ixor IntKind.u8 (List.getD (bytesOf (strOf l0)) (Int.toNat (Int.tmod (IntKind.wrap .i64 n1) (↑(List.length l0) : Int))) (0 : Int)) n2))])) 0)), .n (↑(List.length (List.set (bytesOf (strOf l0)) (Int.toNat (Int.tmod (IntKind.wrap .i64 n1) (↑(List.length l0) : Int))) (ixor IntKind.u8 (List.getD (bytesOf (strOf l0)) (Int.toNat (Int.tmod (IntKind.wrap .i64 n1) (↑(List.length l0) : Int))) (0 : Int)) n2))) : Int)])) 0))) (0 : Int)) (gn (dOf (op_16 [.n (ixor IntKind.u32 (gn (dOf (op_12 [.l (Ty.int IntKind.u8) l0])) 0) (gn (dOf (op_12 [.l (Ty.int IntKind.u8) (List.set (bytesOf (strOf l0)) (Int.toNat (Int.tmod (IntKind.wrap .i64 n1) (↑(List.length l0) : Int))) (ixor IntKind.u8 (List.getD (bytesOf (strOf l0)) (Int.toNat (Int.tmod (IntKind.wrap .i64 n1) (↑(List.length l0) : Int))) (0 : Int)) n2))])) 0)), .n (↑(List.length (List.set (bytesOf (strOf l0)) (Int.toNat (Int.tmod (IntKind.wrap .i64 n1) (↑(List.length l0) : Int))) (ixor IntKind.u8 (List.getD (bytesOf (strOf l0)) (Int.toNat (Int.tmod (IntKind.wrap .i64 n1) (↑(List.length l0) : Int))) (0 : Int)) n2))) : Int)])) 1)))])) 0 == gn (dOf (op_12 [.l (Ty.int IntKind.u8) l0])) 0)
                   (.leaf (true))
                   (.leaf (false)))
                  (.bad 351))
                 (.bad 12))))))
            (.bad 351))
           (.bad 351))
          (.bad 351))
         (.bad 12))
        (.bad 81)))))
  | _ => .bad 0
def fr_W7 : List Dat → Tree Bool
  | [.l (Ty.int IntKind.u8) l0, .n n1, .n n2] =>
    (.node ((↑(List.length l0) : Int) == (0 : Int))
     (.leaf (true))
     (.node (decide ((↑(List.length l0) : Int) > (2000 : Int)))
      (.leaf (true))
      (.node (n2 == (0 : Int))
       (.leaf (true))
       (.node (!decide ((↑(List.length l0) : Int) = (0 : Int)))
        (.node (inR (Int.tmod (IntKind.wrap .i64 n1) (↑(List.length l0) : Int)) (List.length (bytesOf (strOf l0))))
         (.node (inR (Int.tmod (IntKind.wrap .i64 n1) (↑(List.length l0) : Int)) (List.length (bytesOf (strOf l0))))
          (.node (isK 0 [HK.n] (op_12 [.l (Ty.int IntKind.u8) l0]))
           (.node (isK 0 [HK.n] (op_12 [.l (Ty.int IntKind.u8) (List.set (bytesOf (strOf l0)) (Int.toNat (Int.tmod (IntKind.wrap .i64 n1) (↑(List.length l0) : Int))) (ixor IntKind.u8 (List.getD (bytesOf (strOf l0)) (Int.toNat (Int.tmod (IntKind.wrap .i64 n1) (↑(List.length l0) : Int))) (0 : Int)) n2))]))
            (.node (isK 0 [HK.n, HK.n, HK.b] (op_16 [.n (ixor IntKind.u32 (gn (dOf (op_12 [.l (Ty.int IntKind.u8) l0])) 0) (gn (dOf (op_12 [.l (Ty.int IntKind.u8) (List.set (bytesOf (strOf l0)) (Int.toNat (Int.tmod (IntKind.wrap .i64 n1) (↑(List.length l0) : Int))) (ixor IntKind.u8 (List.getD (bytesOf (strOf l0)) (Int.toNat (Int.tmod (IntKind.wrap .i64 n1) (↑(List.length l0) : Int))) (0 : Int)) n2))])) 0)), .n (↑(List.length (List.set (bytesOf (strOf l0)) (Int.toNat (Int.tmod (IntKind.wrap .i64 n1) (↑(List.length l0) : Int))) (ixor IntKind.u8 (List.getD (bytesOf (strOf l0)) (Int.toNat (Int.tmod (IntKind.wrap .i64 n1) (↑(List.length l0) : Int))) (0 : Int)) n2))) : Int)]))
             (.node (!gb (dOf (op_16 [.n (ixor IntKind.u32 (gn (dOf (op_12 [.l (Ty.int IntKind.u8) l0])) 0) (gn (dOf (op_12 [.l (Ty.int IntKind.u8) (List.set (bytesOf (strOf l0)) (Int.toNat (Int.tmod (IntKind.wrap .i64 n1) (↑(List.length l0) : Int))) (ixor IntKind.u8 (List.getD (bytesOf (strOf l0)) (Int.toNat (Int.tmod (IntKind.wrap .i64 n1) (↑(List.length l0) : Int))) (0 : Int)) n2))])) 0)), .n (↑(List.length (List.set (bytesOf (strOf l0)) (Int.toNat (Int.tmod (IntKind.wrap .i64 n1) (↑(List.length l0) : Int))) (ixor IntKind.u8 (List.getD (bytesOf (strOf l0)) (Int.toNat (Int.tmod (IntKind.wrap .i64 n1) (↑(List.length l0) : Int))) (0 : Int)) n2))) : Int)])) 2)
              (.leaf (false))
              (.node (gn (dOf (op_16 [.n (ixor IntKind.u32 (gn (dOf (op_12 [.l (Ty.int IntKind.u8) l0])) 0) (gn (dOf (op_12 [.l (Ty.int IntKind.u8) (List.set (bytesOf (strOf l0)) (Int.toNat (Int.tmod (IntKind.wrap .i64 n1) (↑(List.length l0) : Int))) (ixor IntKind.u8 (List.getD (bytesOf (strOf l0)) (Int.toNat (Int.tmod (IntKind.wrap .i64 n1) (↑(List.length l0) : Int))) (0 : Int)) n2))])) 0)), .n (↑(List.length (List.set (bytesOf (strOf l0)) (Int.toNat (Int.tmod (IntKind.wrap .i64 n1) (↑(List.length l0) : Int))) (ixor IntKind.u8 (List.getD (bytesOf (strOf l0)) (Int.toNat (Int.tmod (IntKind.wrap .i64 n1) (↑(List.length l0) : Int))) (0 : Int)) n2))) : Int)])) 1 == (0 : Int))
               (.leaf (false))
               (.node (decide (gn (dOf (op_16 [.n (ixor IntKind.u32 (gn (dOf (op_12 [.l (Ty.int IntKind.u8) l0])) 0) (gn (dOf (op_12 [.l (Ty.int IntKind.u8) (List.set (bytesOf (strOf l0)) (Int.toNat (Int.tmod (IntKind.wrap .i64 n1) (↑(List.length l0) : Int))) (ixor IntKind.u8 (List.getD (bytesOf (strOf l0)) (Int.toNat (Int.tmod (IntKind.wrap .i64 n1) (↑(List.length l0) : Int))) (0 : Int)) n2))])) 0)), .n (↑(List.length (List.set (bytesOf (strOf l0)) (Int.toNat (Int.tmod (IntKind.wrap .i64 n1) (↑(List.length l0) : Int))) (ixor IntKind.u8 (List.getD (bytesOf (strOf l0)) (Int.toNat (Int.tmod (IntKind.wrap .i64 n1) (↑(List.length l0) : Int))) (0 : Int)) n2))) : Int)])) 0 < (0 : Int)))
                (.leaf (false))
                (.node (decide (gn (dOf (op_16 [.n (ixor IntKind.u32 (gn (dOf (op_12 [.l (Ty.int IntKind.u8) l0])) 0) (gn (dOf (op_12 [.l (Ty.int IntKind.u8) (List.set (bytesOf (strOf l0)) (Int.toNat (Int.tmod (IntKind.wrap .i64 n1) (↑(List.length l0) : Int))) (ixor IntKind.u8 (List.getD (bytesOf (strOf l0)) (Int.toNat (Int.tmod (IntKind.wrap .i64 n1) (↑(List.length l0) : Int))) (0 : Int)) n2))])) 0)), .n (↑(List.length (List.set (bytesOf (strOf l0)) (Int.toNat (Int.tmod (IntKind.wrap .i64 n1) (↑(List.length l0) : Int))) (ixor IntKind.u8 (List.getD (bytesOf (strOf l0)) (Int.toNat (Int.tmod (IntKind.wrap .i64 n1) (↑(List.length l0) : Int))) (0 : Int)) n2))) : Int)])) 0 > IntKind.wrap .i64 (IntKind.wrap .i64 ((↑(List.length (List.set (bytesOf (strOf l0)) (Int.toNat (Int.tmod (IntKind.wrap .i64 n1) (↑(List.length l0) : Int))) (ixor IntKind.u8 (List.getD (bytesOf (strOf l0)) (Int.toNat (Int.tmod (IntKind.wrap .i64 n1) (↑(List.length l0) : Int))) (0 : Int)) n2))) : Int) - (1 : Int)) - Int.tmod (IntKind.wrap .i64 n1) (↑(List.length l0) : Int))))
                 (.leaf (false))
                 (.node (inR (IntKind.wrap .i64 (IntKind.wrap .i64 ((↑(List.length (List.set (bytesOf (strOf l0)) (Int.toNat (Int.tmod (IntKind.wrap .i64 n1) (↑(List.length l0) : Int))) (ixor IntKind.u8 (List.getD (bytesOf (strOf l0)) (Int.toNat (Int.tmod (IntKind.wrap .i64 n1) (↑(List.length l0) : Int))) (0 : Int)) n2))) : Int) - (1 : Int)) - gn (dOf (op_16 [.n (ixor IntKind.u32 (gn (dOf (op_12 [.l (Ty.int IntKind.u8) l0])) 0) (gn (dOf (op_12 [.l (Ty.int IntKind.u8) (List.set (bytesOf (strOf l0)) (Int.toNat (Int.tmod (IntKind.wrap .i64 n1) (↑(List.length l0) : Int))) (ixor IntKind.u8 (List.getD (bytesOf (strOf l0)) (Int.toNat (Int.tmod (IntKind.wrap .i64 n1) (↑(List.length l0) : Int))) (0 : Int)) n2))])) 0)), .n (↑(List.length (List.set (bytesOf (strOf l0)) (Int.toNat (Int.tmod (IntKind.wrap .i64 n1) (↑(List.length l0) : Int))) (ixor IntKind.u8 (List.getD (bytesOf (strOf l0)) (Int.toNat (Int.tmod (IntKind.wrap .i64 n1) (↑(List.length l0) : Int))) (0 : Int)) n2))) : Int)])) 0)) (List.length (List.set (bytesOf (strOf l0)) (Int.toNat (Int.tmod (IntKind.wrap .i64 n1) (↑(List.length l0) : Int))) (ixor IntKind.u8 (List.getD (bytesOf (strOf l0)) (Int.toNat (Int.tmod (IntKind.wrap .i64 n1) (↑(List.length l0) : Int))) (0 : Int)) n2))))
                  (.node (inR (IntKind.wrap .i64 (IntKind.wrap .i64 ((↑(List.length (List.set (bytesOf (strOf l0)) (Int.toNat (Int.tmod (IntKind.wrap .i64 n1) (↑(List.length l0) : Int))) (ixor IntKind.u8 (List.getD (bytesOf (strOf l0)) (Int.toNat (Int.tmod (IntKind.wrap .i64 n1) (↑(List.length l0) : Int))) (0 : Int)) n2))) : Int) - (1 : Int)) - gn (dOf (op_16 [.n (ixor IntKind.u32 (gn (dOf (op_12 [.l (Ty.int IntKind.u8) l0])) 0) (gn (dOf (op_12 [.l (Ty.int IntKind.u8) (List.set (bytesOf (strOf l0)) (Int.toNat (Int.tmod (IntKind.wrap .i64 n1) (↑(List.length l0) : Int))) (ixor IntKind.u8 (List.getD (bytesOf (strOf l0)) (Int.toNat (Int.tmod (IntKind.wrap .i64 n1) (↑(List.length l0) : Int))) (0 : Int)) n2))])) 0)), .n (↑(List.length (List.set (bytesOf (strOf l0)) (Int.toNat (Int.tmod (IntKind.wrap .i64 n1) (↑(List.length l0) : Int))) (ixor IntKind.u8 (List.getD (bytesOf (strOf l0)) (Int.toNat (Int.tmod (IntKind.wrap .i64 n1) (↑(List.length l0) : Int))) (0 : Int)) n2))) : Int)])) 0)) (List.length (List.set (bytesOf (strOf l0)) (Int.toNat (Int.tmod (IntKind.wrap .i64 n1) (↑(List.length l0) : Int))) (ixor IntKind.u8 (List.getD (bytesOf (strOf l0)) (Int.toNat (Int.tmod (IntKind.wrap .i64 n1) (↑(List.length l0) : Int))) (0 : Int)) n2))))
                   (.node (isK 0 [HK.n] (op_12 [.l (Ty.int IntKind.u8) (List.set (List.set (bytesOf (strOf l0)) (Int.toNat (Int.tmod (IntKind.wrap .i64 n1) (↑(List.length l0) : Int))) (ixor IntKind.u8 (List.getD (bytesOf (strOf l0)) (Int.toNat (Int.tmod (IntKind.wrap .i64 n1) (↑(List.length l0) : Int))) (0 : Int)) n2)) (Int.toNat (IntKind.wrap .i64 (IntKind.wrap .i64 ((↑(List.length (List.set (bytesOf (strOf l0)) (Int.toNat (Int.tmod (IntKind.wrap .i64 n1) (↑(List.length l0) : Int))) (ixor IntKind.u8 (List.getD (bytesOf (strOf l0)) (Int.toNat (Int.tmod (IntKind.wrap .i64 n1) (↑(List.length l0) : Int))) (0 : Int)) n2))) : Int) - (1 : Int)) - gn (dOf (op_16 [.n (ixor IntKind.u32 (gn (dOf (op_12 [.l (Ty.int IntKind.u8) l0])) 0) (gn (dOf (op_12 [.l (Ty.int IntKind.u8) (List.set (bytesOf (strOf l0)) (Int.toNat (Int.tmod (IntKind.wrap .i64 n1) (↑(List.length l0) : Int))) (ixor IntKind.u8 (List.getD (bytesOf (strOf l0)) (Int.toNat (Int.tmod (IntKind.wrap .i64 n1) (↑(List.length l0) : Int))) (0 : Int)) n2))])) 0)), .n (↑(List.length (List.set (bytesOf (strOf l0)) (Int.toNat (Int.tmod (IntKind.wrap .i64 n1) (↑(List.length l0) : Int))) (ixor IntKind.u8 (List.getD (bytesOf (strOf l0)) (Int.toNat (Int.tmod (IntKind.wrap .i64 n1) (↑(List.length l0) : Int))) (0 : Int)) n2))) : Int)])) 0))) (ixor IntKind.u8 (List.getD (List.set (bytesOf (strOf l0)) (Int.toNat (Int.tmod (IntKind.wrap .i64 n1) (↑(List.length l0) : Int))) (ixor IntKind.u8 (List.getD (bytesOf (strOf l0)) (Int.toNat (Int.tmod (IntKind.wrap .i64 n1) (↑(List.length l0) : Int))) (0 : Int)) n2)) (Int.toNat (IntKind.wrap .i64 (IntKind.wrap .i64 ((↑(List.length (List.set (bytesOf (strOf l0)) (Int.toNat (Int.tmod (IntKind.wrap .i64 n1) (↑(List.length l0) : Int))) (ixor IntKind.u8 (List.getD (bytesOf (strOf l0)) (Int.toNat (Int.tmod (IntKind.wrap .i64 n1) (↑(List.length l0) : Int))) (0 : Int)) n2))) : Int) - (1 : Int)) - gn (dOf (op_16 [.n (ixor IntKind.u32 (gn (dOf (op_12 [.l (Ty.int IntKind.u8) l0])) 0) (gn (dOf (op_12 [.l (Ty.int IntKind.u8) (List.set (bytesOf (strOf l0)) (Int.toNat (Int.tmod (IntKind.wrap .i64 n1) (↑(List.length l0) : Int))) (ixor IntKind.u8 (List.getD (bytesOf (strOf l0)) (Int.toNat (Int.tmod (IntKind.wrap .i64 n1) (↑(List.length l0) : Int))) (0 : Int)) n2))])) 0)), .n (↑(List.length (List.set (bytesOf (strOf l0)) (Int.toNat (Int.tmod (IntKind.wrap .i64 n1) (↑(List.length l0) : Int))) (ixor IntKind.u8 (List.getD (bytesOf (strOf l0)) (Int.toNat (Int.tmod (IntKind.wrap .i64 n1) (↑(List.length l0) : Int))) (0 : Int)) n2))) : Int)])) 0))) (0 : Int)) (gn (dOf (op_16 [.n (ixor IntKind.u32 (gn (dOf (op_12 [.l (Ty.int IntKind.u8) l0])) 0) (gn (dOf (op_12 [.l (Ty.int IntKind.u8) (List.set (bytesOf (strOf l0)) (Int.toNat (Int.tmod (IntKind.wrap .i64 n1) (↑(List.length l0) : Int))) (ixor IntKind.u8 (List.getD (bytesOf (strOf l0)) (Int.toNat (Int.tmod (IntKind.wrap .i64 n1) (↑(List.length l0) : Int))) (0 : Int)) n2))])) 0)), .n (↑(List.length (List.set (bytesOf (strOf l0)) (Int.toNat (Int.tmod (IntKind.wrap .i64 n1) (↑(List.length l0) : Int))) (ixor IntKind.u8 (List.getD (bytesOf (strOf l0)) (Int.toNat (Int.tmod (IntKind.wrap .i64 n1) (↑(List.length l0) : Int))) (0 : Int)) n2))) : Int)])) 1)))]))
                    (.node (isK 0 [HK.n] (op_12 [.l (Ty.int IntKind.u8) l0]))
                     (.node (gn (dOf (op_12 [.l (Ty.int IntKind.u8) (List.set (List.set (bytesOf (strOf l0)) (Int.toNat (Int.tmod (IntKind.wrap .i64 n1) (↑(List.length l0) : Int))) (ixor IntKind.u8 (List.getD (bytesOf (strOf l0)) (Int.toNat (Int.tmod (IntKind.wrap .i64 n1) (↑(List.length l0) : Int))) (0 : Int)) n2)) (Int.toNat (IntKind.wrap .i64 (IntKind.wrap .i64 ((↑(List.length (List.set (bytesOf (strOf l0)) (Int.toNat (Int.tmod (IntKind.wrap .i64 n1) (↑(List.length l0) : Int))) (ixor IntKind.u8 (List.getD (bytesOf (strOf l0)) (Int.toNat (Int.tmod (IntKind.wrap .i64 n1) (↑(List.length l0) : Int))) (0 : Int)) n2))) : Int) - (1 : Int)) - gn (dOf (op_16 [.n (ixor IntKind.u32 (gn (dOf (op_12 [.l (Ty.int IntKind.u8) l0])) 0) (gn (dOf (op_12 [.l (Ty.int IntKind.u8) (List.set (bytesOf (strOf l0)) (Int.toNat (Int.tmod (IntKind.wrap .i64 n1) (↑(List.length l0) : Int))) (ixor IntKind.u8 (List.getD (bytesOf (strOf l0)) (Int.toNat (Int.tmod (IntKind.wrap .i64 n1) (↑(List.length l0) : Int))) (0 : Int)) n2))])) 0)), .n (↑(List.length (List.set (bytesOf (strOf l0)) (Int.toNat (Int.tmod (IntKind.wrap .i64 n1) (↑(List.length l0) : Int))) (ixor IntKind.u8 (List.getD (bytesOf (strOf l0)) (Int.toNat (Int.tmod (IntKind.wrap .i64 n1) (↑(List.length l0) : Int))) (0 : Int)) n2))) : Int)])) 0))) (ixor IntKind.u8 (List.getD (List.set (bytesOf (strOf l0)) (Int.toNat (Int.tmod (IntKind.wrap .i64 n1) (↑(List.length l0) : Int))) (ixor IntKind.u8 (List.getD (bytesOf (strOf l0)) (Int.toNat (Int.tmod (IntKind.wrap .i64 n1) (↑(List.length l0) : Int))) (0 : Int)) n2)) (Int.toNat (IntKind.wrap .i64 (IntKind.wrap .i64 ((↑(List.length (List.set (bytesOf (strOf l0)) (Int.toNat (Int.tmod (IntKind.wrap .i64 n1) (↑(List.length l0) : Int))) (ixor IntKind.u8 (List.getD (bytesOf (strOf l0)) (Int.toNat (Int.tmod (IntKind.wrap .i64 n1) (↑(List.length l0) : Int))) (0 : Int)) n2))) : Int) - (1 : Int)) - gn (dOf (op_16 [.n (ixor IntKind.u32 (gn (dOf (op_12 [.l (Ty.int IntKind.u8) l0])) 0) (gn (dOf (op_12 [.l (Ty.int IntKind.u8) (List.set (bytesOf (strOf l0)) (Int.toNat (Int.tmod (IntKind.wrap .i64 n1) (↑(List.length l0) : Int))) (ixor IntKind.u8 (List.getD (bytesOf (strOf l0)) (Int.toNat (Int.tmod (IntKind.wrap .i64 n1) (↑(List.length l0) : Int))) (0 : Int)) n2))])) 0)), .n (↑(List.length (List.set (bytesOf (strOf l0)) (Int.toNat (Int.tmod (IntKind.wrap .i64 n1) (↑(List.length l0) : Int))) (ixor IntKind.u8 (List.getD (bytesOf (strOf l0)) (Int.toNat (Int.tmod (IntKind.wrap .i64 n1) (↑(List.length l0) : Int))) (0 : Int)) n2))) : Int)])) 0))) (0 : Int)) (gn (dOf (op_16 [.n (ixor IntKind.u32 (gn (dOf (op_12 [.l (Ty.int IntKind.u8) l0])) 0) (gn (dOf (op_12 [.l (Ty.int IntKind.u8) (List.set (bytesOf (strOf l0)) (Int.toNat (Int.tmod (IntKind.wrap .i64 n1) (↑(List.length l0) : Int))) (ixor IntKind.u8 (List.getD (bytesOf (strOf l0)) (Int.toNat (Int.tmod (IntKind.wrap .i64 n1) (↑(List.length l0) : Int))) (0 : Int)) n2))])) 0)), .n (↑(List.length (List.set (bytesOf (strOf l0)) (Int.toNat (Int.tmod (IntKind.wrap .i64 n1) (↑(List.length l0) : Int))) (ixor IntKind.u8 (List.getD (bytesOf (strOf l0)) (Int.toNat (Int.tmod (IntKind.wrap .i64 n1) (↑(List.length l0) : Int))) (0 : Int)) n2))) : Int)])) 1)))])) 0 == gn (dOf (op_12 [.l (Ty.int IntKind.u8) l0])) 0)
                      (.leaf (true))
                      (.leaf (false)))
                     (.bad 351))
                    (.bad 351))
                   (.bad 12))
                  (.bad 12))))))
             (.bad 351))
            (.bad 351))
           (.bad 351))
          (.bad 12))
         (.bad 12))
        (.bad 81)))))
  | _ => .bad 0
theorem fr_W7_eq (l0 : List (Ty.den (Ty.int IntKind.u8))) (n1 : Int) (n2 : Int) : ((fun (d : List Dat) => lawB false Try.prog cs_17 7 ls0 (instL [.imm TB 0, .int .u16 1, .int .u8 2] d)) [.l (Ty.int IntKind.u8) l0, .n n1, .n n2]).sel = (fr_W7 [.l (Ty.int IntKind.u8) l0, .n n1, .n n2]).sel := by kernel_rfl
theorem fr_W7_pr (l0 : List (Ty.den (Ty.int IntKind.u8))) (n1 : Int) (n2 : Int) : (fr_W7 [.l (Ty.int IntKind.u8) l0, .n n1, .n n2]).sel = (fn_W7 [.l (Ty.int IntKind.u8) l0, .n n1, .n n2]).sel := (sel_c (fun _ => rfl) (fun h0 => (sel_c (fun _ => rfl) (fun h1 => (sel_c (fun _ => rfl) (fun h2 => (sel_c (fun h3 => (sel_c (fun h4 => (sel_t h4 (sel_c (fun h5 => (sel_c (fun h6 => (sel_c (fun h7 => (sel_c (fun _ => rfl) (fun h8 => (sel_c (fun _ => rfl) (fun h9 => (sel_c (fun _ => rfl) (fun h10 => (sel_c (fun _ => rfl) (fun h11 => (sel_c (fun h12 => (sel_t h12 (sel_c (fun h13 => (sel_t h5 rfl)) (fun _ => rfl)))) (fun _ => rfl))))))))))) (fun _ => rfl))) (fun _ => rfl))) (fun _ => rfl)))) (fun _ => rfl))) (fun _ => rfl))))))))
theorem fn_W7_eq (l0 : List (Ty.den (Ty.int IntKind.u8))) (n1 : Int) (n2 : Int) : ((fun (d : List Dat) => lawB false Try.prog cs_17 7 ls0 (instL [.imm TB 0, .int .u16 1, .int .u8 2] d)) [.l (Ty.int IntKind.u8) l0, .n n1, .n n2]).sel = (fn_W7 [.l (Ty.int IntKind.u8) l0, .n n1, .n n2]).sel := (fr_W7_eq l0 n1 n2).trans (fr_W7_pr l0 n1 n2)
theorem W7_law (env : List Dat) (h : (fn_W7 env).sel = some true) {w : World} {args : Array Value} (ha : LRel R0 (snapOf w) (instL [.imm TB 0, .int .u16 1, .int .u8 2] env) args) :
    Calls Try.prog 7 args w fun e w' => e = .returned (.bool true) ∧ Below w.heap.size w w' := by
  refine lawB_ok cs_17_ok hmix false (ls := ls0) (LsOk.none _ _ _) ?_ ha
  unfold fn_W7 at h
  split at h
  · exact (fn_W7_eq _ _ _).trans h
  · cases h

def fn_W8 : List Dat → Tree Bool
  | [.n n0, .n n1, .n n2, .n n3, .n n4, .n n5, .n n6] =>
    (.node (isK 0 [HK.n, HK.b] (op_14 [.n n0, .n n1, .n n2, .n (IntKind.wrap .i64 (Int.tmod n5 (1500 : Int)))]))
     (.node (isK 0 [HK.n, HK.b] (op_14 [.n (gn (dOf (op_14 [.n n0, .n n1, .n n2, .n (IntKind.wrap .i64 (Int.tmod n5 (1500 : Int)))])) 0), .n n3, .n n4, .n (IntKind.wrap .i64 (Int.tmod n6 (1500 : Int)))]))
      (.node (isK 0 [HK.n, HK.b] (op_14 [.n n0, .n n3, .n n4, .n (IntKind.wrap .i64 (Int.tmod n6 (1500 : Int)))]))
       (.node (isK 0 [HK.n, HK.b] (op_14 [.n (gn (dOf (op_14 [.n n0, .n n3, .n n4, .n (IntKind.wrap .i64 (Int.tmod n6 (1500 : Int)))])) 0), .n n1, .n n2, .n (IntKind.wrap .i64 (Int.tmod n5 (1500 : Int)))]))
        (.node (isK 0 [HK.n, HK.b] (op_14 [.n (gn (dOf (op_14 [.n n0, .n n1, .n n2, .n (IntKind.wrap .i64 (Int.tmod n5 (1500 : Int)))])) 0), .n n2, .n n3, .n (IntKind.wrap .i64 (Int.tmod n5 (1500 : Int)))]))
         (.node (isK 0 [HK.n, HK.b] (op_14 [.n n0, .n n1, .n n3, .n (IntKind.wrap .i64 (Int.tmod n5 (1500 : Int)))]))
          (.node (isK 0 [HK.n, HK.b] (op_14 [.n (gn (dOf (op_14 [.n n0, .n n1, .n n2, .n (IntKind.wrap .i64 (Int.tmod n5 (1500 : Int)))])) 0), .n n2, .n n1, .n (IntKind.wrap .i64 (Int.tmod n5 (1500 : Int)))]))
           (.node (gn (dOf (op_14 [.n (gn (dOf (op_14 [.n n0, .n n1, .n n2, .n (IntKind.wrap .i64 (Int.tmod n5 (1500 : Int)))])) 0), .n n3, .n n4, .n (IntKind.wrap .i64 (Int.tmod n6 (1500 : Int)))])) 0 == gn (dOf (op_14 [.n (gn (dOf (op_14 [.n n0, .n n3, .n n4, .n (IntKind.wrap .i64 (Int.tmod n6 (1500 : Int)))])) 0), .n n1, .n n2, .n (IntKind.wrap .i64 (Int.tmod n5 (1500 : Int)))])) 0)
            (.node (gn (dOf (op_14 [.n (gn (dOf (op_14 [.n n0, .n n1, .n n2, .n (IntKind.wrap .i64 (Int.tmod n5 (1500 : Int)))])) 0), .n n2, .n n3, .n (IntKind.wrap .i64 (Int.tmod n5 (1500 : Int)))])) 0 == gn (dOf (op_14 [.n n0, .n n1, .n n3, .n (IntKind.wrap .i64 (Int.tmod n5 (1500 : Int)))])) 0)
             (.node (gn (dOf (op_14 [.n (gn (dOf (op_14 [.n n0, .n n1, .n n2, .n (IntKind.wrap .i64 (Int.tmod n5 (1500 : Int)))])) 0), .n n2, .n n1, .n (IntKind.wrap .i64 (Int.tmod n5 (1500 : Int)))])) 0 == n0)
              (.node (gb (dOf (op_14 [.n (gn (dOf (op_14 [.n n0, .n n1, .n n2, .n (IntKind.wrap .i64 (Int.tmod n5 (1500 : Int)))])) 0), .n n2, .n n1, .n (IntKind.wrap .i64 (Int.tmod n5 (1500 : Int)))])) 1)
               (.node ((gn (dOf (op_14 [.n n0, .n n1, .n n2, .n (IntKind.wrap .i64 (Int.tmod n5 (1500 : Int)))])) 0 == n0) == (n1 == n2))
                (.leaf (true))
                (.leaf (false)))
               (.leaf (false)))
              (.leaf (false)))
             (.leaf (false)))
            (.leaf (false)))
           (.bad 351))
          (.bad 351))
         (.bad 351))
        (.bad 351))
       (.bad 351))
      (.bad 351))
     (.bad 351))
  | _ => .bad 0
theorem fn_W8_eq (n0 : Int) (n1 : Int) (n2 : Int) (n3 : Int) (n4 : Int) (n5 : Int) (n6 : Int) : ((fun (d : List Dat) => lawB false Try.prog cs_17 8 ls0 (instL [.int .u32 0, .int .u8 1, .int .u8 2, .int .u8 3, .int .u8 4, .int .u16 5, .int .u16 6] d)) [.n n0, .n n1, .n n2, .n n3, .n n4, .n n5, .n n6]).sel = (fn_W8 [.n n0, .n n1, .n n2, .n n3, .n n4, .n n5, .n n6]).sel := by kernel_rfl
theorem W8_law (env : List Dat) (h : (fn_W8 env).sel = some true) {w : World} {args : Array Value} (ha : LRel R0 (snapOf w) (instL [.int .u32 0, .int .u8 1, .int .u8 2, .int .u8 3, .int .u8 4, .int .u16 5, .int .u16 6] env) args) :
    Calls Try.prog 8 args w fun e w' => e = .returned (.bool true) ∧ Below w.heap.size w w' := by
  refine lawB_ok cs_17_ok hmix false (ls := ls0) (LsOk.none _ _ _) ?_ ha
  unfold fn_W8 at h
  split at h
  · exact (fn_W8_eq _ _ _ _ _ _ _).trans h
  · cases h

def fn_W9 : List Dat → Tree Bool
  | [.l (Ty.int IntKind.u8) l0, .l (Ty.int IntKind.u8) l1, .l (Ty.int IntKind.u8) l2, .n n3, .n n4] =>
    (.node (decide ((↑(List.length l0) : Int) > (1500 : Int)))
     (.leaf (true))
     (.node (decide ((↑(List.length l2) : Int) > (1500 : Int)))
      (.leaf (true))
      (.node (decide ((↑(List.length l1) : Int) < (5 : Int)))
       (.leaf (true))
       (.node (!decide (Int.tmod n4 (8 : Int) < (0 : Int)))
        (.node (decide (List.length l0 * 1 ≤ 140737488355328))
         (.node (true && decide ((5 : Int) ≤ (↑(List.length l1) : Int)))
          (.node (decide ((List.length l0 + List.length (List.take 5 l1)) * 1 ≤ 140737488355328))
           (.node (decide ((List.length (l0 ++ List.take 5 l1) + List.length l2) * 1 ≤ 140737488355328))
            (.node (decide (List.length (l0 ++ List.take 5 l1 ++ l2) * 1 ≤ 140737488355328))
             (.node (inR (IntKind.wrap .i64 ((↑(List.length l0) : Int) + (0 : Int))) (List.length (l0 ++ List.take 5 l1 ++ l2)))
              (.node (inR (IntKind.wrap .i64 ((↑(List.length l0) : Int) + (1 : Int))) (List.length (List.set (l0 ++ List.take 5 l1 ++ l2) (Int.toNat (IntKind.wrap .i64 ((↑(List.length l0) : Int) + (0 : Int)))) (ixor IntKind.u8 (List.getD (l0 ++ List.take 5 l1 ++ l2) (Int.toNat (IntKind.wrap .i64 ((↑(List.length l0) : Int) + (0 : Int)))) (0 : Int)) (IntKind.wrap .u8 (ishr IntKind.u64 (ishl IntKind.u64 (IntKind.wrap .u64 n3) (Int.tmod n4 (8 : Int))) (0 : Int)))))))
               (.node (inR (IntKind.wrap .i64 ((↑(List.length l0) : Int) + (2 : Int))) (List.length (List.set (List.set (l0 ++ List.take 5 l1 ++ l2) (Int.toNat (IntKind.wrap .i64 ((↑(List.length l0) : Int) + (0 : Int)))) (ixor IntKind.u8 (List.getD (l0 ++ List.take 5 l1 ++ l2) (Int.toNat (IntKind.wrap .i64 ((↑(List.length l0) : Int) + (0 : Int)))) (0 : Int)) (IntKind.wrap .u8 (ishr IntKind.u64 (ishl IntKind.u64 (IntKind.wrap .u64 n3) (Int.tmod n4 (8 : Int))) (0 : Int))))) (Int.toNat (IntKind.wrap .i64 ((↑(List.length l0) : Int) + (1 : Int)))) (ixor IntKind.u8 (List.getD (List.set (l0 ++ List.take 5 l1 ++ l2) (Int.toNat (IntKind.wrap .i64 ((↑(List.length l0) : Int) + (0 : Int)))) (ixor IntKind.u8 (List.getD (l0 ++ List.take 5 l1 ++ l2) (Int.toNat (IntKind.wrap .i64 ((↑(List.length l0) : Int) + (0 : Int)))) (0 : Int)) (IntKind.wrap .u8 (ishr IntKind.u64 (ishl IntKind.u64 (IntKind.wrap .u64 n3) (Int.tmod n4 (8 : Int))) (0 : Int))))) (Int.toNat (IntKind.wrap .i64 ((↑(List.length l0) : Int) + (1 : Int)))) (0 : Int)) (IntKind.wrap .u8 (ishr IntKind.u64 (ishl IntKind.u64 (IntKind.wrap .u64 n3) (Int.tmod n4 (8 : Int))) (8 : Int)))))))
                (.node (inR (IntKind.wrap .i64 ((↑(List.length l0) : Int) + (3 : Int))) (List.length (List.set (List.set (List.set (l0 ++ List.take 5 l1 ++ l2) (Int.toNat (IntKind.wrap .i64 ((↑(List.length l0) : Int) + (0 : Int)))) (ixor IntKind.u8 (List.getD (l0 ++ List.take 5 l1 ++ l2) (Int.toNat (IntKind.wrap .i64 ((↑(List.length l0) : Int) + (0 : Int)))) (0 : Int)) (IntKind.wrap .u8 (ishr IntKind.u64 (ishl IntKind.u64 (IntKind.wrap .u64 n3) (Int.tmod n4 (8 : Int))) (0 : Int))))) (Int.toNat (IntKind.wrap .i64 ((↑(List.length l0) : Int) + (1 : Int)))) (ixor IntKind.u8 (List.getD (List.set (l0 ++ List.take 5 l1 ++ l2) (Int.toNat (IntKind.wrap .i64 ((↑(List.length l0) : Int) + (0 : Int)))) (ixor IntKind.u8 (List.getD (l0 ++ List.take 5 l1 ++ l2) (Int.toNat (IntKind.wrap .i64 ((↑(List.length l0) : Int) + (0 : Int)))) (0 : Int)) (IntKind.wrap .u8 (ishr IntKind.u64 (ishl IntKind.u64 (IntKind.wrap .u64 n3) (Int.tmod n4 (8 : Int))) (0 : Int))))) (Int.toNat (IntKind.wrap .i64 ((↑(List.length l0) : Int) + (1 : Int)))) (0 : Int)) (IntKind.wrap .u8 (ishr IntKind.u64 (ishl IntKind.u64 (IntKind.wrap .u64 n3) (Int.tmod n4 (8 : Int))) (8 : Int))))) (Int.toNat (IntKind.wrap .i64 ((↑(List.length l0) : Int) + (2 : Int)))) (ixor IntKind.u8 (List.getD (List.set (List.set (l0 ++ List.take 5 l1 ++ l2) (Int.toNat (IntKind.wrap .i64 ((↑(List.length l0) : Int) + (0 : Int)))) (ixor IntKind.u8 (List.getD (l0 ++ List.take 5 l1 ++ l2) (Int.toNat (IntKind.wrap .i64 ((↑(List.length l0) : Int) + (0 : Int)))) (0 : Int)) (IntKind.wrap .u8 (ishr IntKind.u64 (ishl IntKind.u64 (IntKind.wrap .u64 n3) (Int.tmod n4 (8 : Int))) (0 : Int))))) (Int.toNat (IntKind.wrap .i64 ((↑(List.length l0) : Int) + (1 : Int)))) (ixor IntKind.u8 (List.getD (List.set (l0 ++ List.take 5 l1 ++ l2) (Int.toNat (IntKind.wrap .i64 ((↑(List.length l0) : Int) + (0 : Int)))) (ixor IntKind.u8 (List.getD (l0 ++ List.take 5 l1 ++ l2) (Int.toNat (IntKind.wrap .i64 ((↑(List.length l0) : Int) + (0 : Int)))) (0 : Int)) (IntKind.wrap .u8 (ishr IntKind.u64 (ishl IntKind.u64 (IntKind.wrap .u64 n3) (Int.tmod n4 (8 : Int))) (0 : Int))))) (Int.toNat (IntKind.wrap .i64 ((↑(List.length l0) : Int) + (1 : Int)))) (0 : Int)) (IntKind.wrap .u8 (ishr IntKind.u64 (ishl IntKind.u64 (IntKind.wrap .u64 n3) (Int.tmod n4 (8 : Int))) (8 : Int))))) (Int.toNat (IntKind.wrap .i64 ((↑(List.length l0) : Int) + (2 : Int)))) (0 : Int)) (IntKind.wrap .u8 (ishr IntKind.u64 (ishl IntKind.u64 (IntKind.wrap .u64 n3) (Int.tmod n4 (8 : Int))) (16 : Int)))))))
                 (.node (inR (IntKind.wrap .i64 ((↑(List.length l0) : Int) + (4 : Int))) (List.length (List.set (List.set (List.set (List.set (l0 ++ List.take 5 l1 ++ l2) (Int.toNat (IntKind.wrap .i64 ((↑(List.length l0) : Int) + (0 : Int)))) (ixor IntKind.u8 (List.getD (l0 ++ List.take 5 l1 ++ l2) (Int.toNat (IntKind.wrap .i64 ((↑(List.length l0) : Int) + (0 : Int)))) (0 : Int)) (IntKind.wrap .u8 (ishr IntKind.u64 (ishl IntKind.u64 (IntKind.wrap .u64 n3) (Int.tmod n4 (8 : Int))) (0 : Int))))) (Int.toNat (IntKind.wrap .i64 ((↑(List.length l0) : Int) + (1 : Int)))) (ixor IntKind.u8 (List.getD (List.set (l0 ++ List.take 5 l1 ++ l2) (Int.toNat (IntKind.wrap .i64 ((↑(List.length l0) : Int) + (0 : Int)))) (ixor IntKind.u8 (List.getD (l0 ++ List.take 5 l1 ++ l2) (Int.toNat (IntKind.wrap .i64 ((↑(List.length l0) : Int) + (0 : Int)))) (0 : Int)) (IntKind.wrap .u8 (ishr IntKind.u64 (ishl IntKind.u64 (IntKind.wrap .u64 n3) (Int.tmod n4 (8 : Int))) (0 : Int))))) (Int.toNat (IntKind.wrap .i64 ((↑(List.length l0) : Int) + (1 : Int)))) (0 : Int)) (IntKind.wrap .u8 (ishr IntKind.u64 (ishl IntKind.u64 (IntKind.wrap .u64 n3) (Int.tmod n4 (8 : Int))) (8 : Int))))) (Int.toNat (IntKind.wrap .i64 ((↑(List.length l0) : Int) + (2 : Int)))) (ixor IntKind.u8 (List.getD (List.set (List.set (l0 ++ List.take 5 l1 ++ l2) (Int.toNat (IntKind.wrap .i64 ((↑(List.length l0) : Int) + (0 : Int)))) (ixor IntKind.u8 (List.getD (l0 ++ List.take 5 l1 ++ l2) (Int.toNat (IntKind.wrap .i64 ((↑(List.length l0) : Int) + (0 : Int)))) (0 : Int)) (IntKind.wrap .u8 (ishr IntKind.u64 (ishl IntKind.u64 (IntKind.wrap .u64 n3) (Int.tmod n4 (8 : Int))) (0 : Int))))) (Int.toNat (IntKind.wrap .i64 ((↑(List.length l0) : Int) + (1 : Int)))) (ixor IntKind.u8 (List.getD (List.set (l0 ++ List.take 5 l1 ++ l2) (Int.toNat (IntKind.wrap .i64 ((↑(List.length l0) : Int) + (0 : Int)))) (ixor IntKind.u8 (List.getD (l0 ++ List.take 5 l1 ++ l2) (Int.toNat (IntKind.wrap .i64 ((↑(List.length l0) : Int) + (0 : Int)))) (0 : Int)) (IntKind.wrap .u8 (ishr IntKind.u64 (ishl IntKind.u64 (IntKind.wrap .u64 n3) (Int.tmod n4 (8 : Int))) (0 : Int))))) (Int.toNat (IntKind.wrap .i64 ((↑(List.length l0) : Int) + (1 : Int)))) (0 : Int)) (IntKind.wrap .u8 (ishr IntKind.u64 (ishl IntKind.u64 (IntKind.wrap .u64 n3) (Int.tmod n4 (8 : Int))) (8 : Int))))) (Int.toNat (IntKind.wrap .i64 ((↑(List.length l0) : Int) + (2 : Int)))) (0 : Int)) (IntKind.wrap .u8 (ishr IntKind.u64 (ishl IntKind.u64 (IntKind.wrap .u64 n3) (Int.tmod n4 (8 : Int))) (16 : Int))))) (Int.toNat (IntKind.wrap .i64 ((↑(List.length l0) : Int) + (3 : Int)))) (ixor IntKind.u8 (List.getD (List.set (List.set (List.set (l0 ++ List.take 5 l1 ++ l2) (Int.toNat (IntKind.wrap .i64 ((↑(List.length l0) : Int) + (0 : Int)))) (ixor IntKind.u8 (List.getD (l0 ++ List.take 5 l1 ++ l2) (Int.toNat (IntKind.wrap .i64 ((↑(List.length l0) : Int) + (0 : Int)))) (0 : Int)) (IntKind.wrap .u8 (ishr IntKind.u64 (ishl IntKind.u64 (IntKind.wrap .u64 n3) (Int.tmod n4 (8 : Int))) (0 : Int))))) (Int.toNat (IntKind.wrap .i64 ((↑(List.length l0) : Int) + (1 : Int)))) (ixor IntKind.u8 (List.getD (List.set (l0 ++ List.take 5 l1 ++ l2) (Int.toNat (IntKind.wrap .i64 ((↑(List.length l0) : Int) + (0 : Int)))) (ixor IntKind.u8 (List.getD (l0 ++ List.take 5 l1 ++ l2) (Int.toNat (IntKind.wrap .i64 ((↑(List.length l0) : Int) + (0 : Int)))) (0 : Int)) (IntKind.wrap .u8 (ishr IntKind.u64 (ishl IntKind.u64 (IntKind.wrap .u64 n3) (Int.tmod n4 (8 : Int))) (0 : Int))))) (Int.toNat (IntKind.wrap .i64 ((↑(List.length l0) : Int) + (1 : Int)))) (0 : Int)) (IntKind.wrap .u8 (ishr IntKind.u64 (ishl IntKind.u64 (IntKind.wrap .u64 n3) (Int.tmod n4 (8 : Int))) (8 : Int))))) (Int.toNat (IntKind.wrap .i64 ((↑(List.length l0) : Int) + (2 : Int)))) (ixor IntKind.u8 (List.getD (List.set (List.set (l0 ++ List.take 5 l1 ++ l2) (Int.toNat (IntKind.wrap .i64 ((↑(List.length l0) : Int) + (0 : Int)))) (ixor IntKind.u8 (List.getD (l0 ++ List.take 5 l1 ++ l2) (Int.toNat (IntKind.wrap .i64 ((↑(List.length l0) : Int) + (0 : Int)))) (0 : Int)) (IntKind.wrap .u8 (ishr IntKind.u64 (ishl IntKind.u64 (IntKind.wrap .u64 n3) (Int.tmod n4 (8 : Int))) (0 : Int))))) (Int.toNat (IntKind.wrap .i64 ((↑(List.length l0) : Int) + (1 : Int)))) (ixor IntKind.u8 (List.getD (List.set (l0 ++ List.take 5 l1 ++ l2) (Int.toNat (IntKind.wrap .i64 ((↑(List.length l0) : Int) + (0 : Int)))) (ixor IntKind.u8 (List.getD (l0 ++ List.take 5 l1 ++ l2) (Int.toNat (IntKind.wrap .i64 ((↑(List.length l0) : Int) + (0 : Int)))) (0 : Int)) (IntKind.wrap .u8 (ishr IntKind.u64 (ishl IntKind.u64 (IntKind.wrap .u64 n3) (Int.tmod n4 (8 : Int))) (0 : Int))))) (Int.toNat (IntKind.wrap .i64 ((↑(List.length l0) : Int) + (1 : Int)))) (0 : Int)) (IntKind.wrap .u8 (ishr IntKind.u64 (ishl IntKind.u64 (IntKind.wrap .u64 n3) (Int.tmod n4 (8 : Int))) (8 : Int))))) (Int.toNat (IntKind.wrap .i64 ((↑(List.length l0) : Int) + (2 : Int)))) (0 : Int)) (IntKind.wrap .u8 (ishr IntKind.u64 (ishl IntKind.u64 (IntKind.wrap .u64 n3) (Int.tmod n4 (8 : Int))) (16 : Int))))) (Int.toNat (IntKind.wrap .i64 ((↑(List.length l0) : Int) + (3 : Int)))) (0 : Int)) (IntKind.wrap .u8 (ishr IntKind.u64 (ishl IntKind.u64 (IntKind.wrap .u64 n3) (Int.tmod n4 (8 : Int))) (24 : Int)))))))
                  (.node (isK 0 [HK.n] (op_12 [.l (Ty.int IntKind.u8) (l0 ++ List.take 5 l1 ++ l2)]))
                   (.node (isK 0 [HK.n] (op_12 [.l (Ty.int IntKind.u8) (List.set (List.set (List.set (List.set (List.set (l0 ++ List.take 5 l1 ++ l2) (Int.toNat (IntKind.wrap .i64 ((↑(List.length l0) : Int) + (0 : Int)))) (ixor IntKind.u8 (List.getD (l0 ++ List.take 5 l1 ++ l2) (Int.toNat (IntKind.wrap .i64 ((↑(List.length l0) : Int) + (0 : Int)))) (0 : Int)) (IntKind.wrap .u8 (ishr IntKind.u64 (ishl IntKind.u64 (IntKind.wrap .u64 n3) (Int.tmod n4 (8 : Int))) (0 : Int))))) (Int.toNat (IntKind.wrap .i64 ((↑(List.length l0) : Int) + (1 : Int)))) (ixor IntKind.u8 (List.getD (List.set (l0 ++ List.take 5 l1 ++ l2) (Int.toNat (IntKind.wrap .i64 ((↑(List.length l0) : Int) + (0 : Int)))) (ixor IntKind.u8 (List.getD (l0 ++ List.take 5 l1 ++ l2) (Int.toNat (IntKind.wrap .i64 ((↑(List.length l0) : Int) + (0 : Int)))) (0 : Int)) (IntKind.wrap .u8 (ishr IntKind.u64 (ishl IntKind.u64 (IntKind.wrap .u64 n3) (Int.tmod n4 (8 : Int))) (0 : Int))))) (Int.toNat (IntKind.wrap .i64 ((↑(List.length l0) : Int) + (1 : Int)))) (0 : Int)) (IntKind.wrap .u8 (ishr IntKind.u64 (ishl IntKind.u64 (IntKind.wrap .u64 n3) (Int.tmod n4 (8 : Int))) (8 : Int))))) (Int.toNat (IntKind.wrap .i64 ((↑(List.length l0) : Int) + (2 : Int)))) (ixor IntKind.u8 (List.getD (List.set (List.set (l0 ++ List.take 5 l1 ++ l2) (Int.toNat (IntKind.wrap .i64 ((↑(List.length l0) : Int) + (0 : Int)))) (ixor IntKind.u8 (List.getD (l0 ++ List.take 5 l1 ++ l2) (Int.toNat (IntKind.wrap .i64 ((↑(List.length l0) : Int) + (0 : Int)))) (0 : Int)) (IntKind.wrap .u8 (ishr IntKind.u64 (ishl IntKind.u64 (IntKind.wrap .u64 n3) (Int.tmod n4 (8 : Int))) (0 : Int))))) (Int.toNat (IntKind.wrap .i64 ((↑(List.length l0) : Int) + (1 : Int)))) (ixor IntKind.u8 (List.getD (List.set (l0 ++ List.take 5 l1 ++ l2) (Int.toNat (IntKind.wrap .i64 ((↑(List.length l0) : Int) + (0 : Int)))) (ixor IntKind.u8 (List.getD (l0 ++ List.take 5 l1 ++ l2) (Int.toNat (IntKind.wrap .i64 ((↑(List.length l0) : Int) + (0 : Int)))) (0 : Int)) (IntKind.wrap .u8 (ishr IntKind.u64 (ishl IntKind.u64 (IntKind.wrap .u64 n3) (Int.tmod n4 (8 : Int))) (0 : Int))))) (Int.toNat (IntKind.wrap .i64 ((↑(List.length l0) : Int) + (1 : Int)))) (0 : Int)) (IntKind.wrap .u8 (ishr IntKind.u64 (ishl IntKind.u64 (IntKind.wrap .u64 n3) (Int.tmod n4 (8 : Int))) (8 : Int))))) (Int.toNat (IntKind.wrap .i64 ((↑(List.length l0) : Int) + (2 : Int)))) (0 : Int)) (IntKind.wrap .u8 (ishr IntKind.u64 (ishl IntKind.u64 (IntKind.wrap .u64 n3) (Int.tmod n4 (8 : Int))) (16 : Int))))) (Int.toNat (IntKind.wrap .i64 ((↑(List.length l0) : Int) + (3 : Int)))) (ixor IntKind.u8 (List.getD (List.set (List.set (List.set (l0 ++ List.take 5 l1 ++ l2) (Int.toNat (IntKind.wrap .i64 ((↑(List.length l0) : Int) + (0 : Int)))) (ixor IntKind.u8 (List.getD (l0 ++ List.take 5 l1 ++ l2) (Int.toNat (IntKind.wrap .i64 ((↑(List.length l0) : Int) + (0 : Int)))) (0 : Int)) (IntKind.wrap .u8 (ishr IntKind.u64 (ishl IntKind.u64 (IntKind.wrap .u64 n3) (Int.tmod n4 (8 : Int))) (0 : Int))))) (Int.toNat (IntKind.wrap .i64 ((↑(List.length l0) : Int) + (1 : Int)))) (ixor IntKind.u8 (List.getD (List.set (l0 ++ List.take 5 l1 ++ l2) (Int.toNat (IntKind.wrap .i64 ((↑(List.length l0) : Int) + (0 : Int)))) (ixor IntKind.u8 (List.getD (l0 ++ List.take 5 l1 ++ l2) (Int.toNat (IntKind.wrap .i64 ((↑(List.length l0) : Int) + (0 : Int)))) (0 : Int)) (IntKind.wrap .u8 (ishr IntKind.u64 (ishl IntKind.u64 (IntKind.wrap .u64 n3) (Int.tmod n4 (8 : Int))) (0 : Int))))) (Int.toNat (IntKind.wrap .i64 ((↑(List.length l0) : Int) + (1 : Int)))) (0 : Int)) (IntKind.wrap .u8 (ishr IntKind.u64 (ishl IntKind.u64 (IntKind.wrap .u64 n3) (Int.tmod n4 (8 : Int))) (8 : Int))))) (Int.toNat (IntKind.wrap .i64 ((↑(List.length l0) : Int) + (2 : Int)))) (ixor IntKind.u8 (List.getD (List.set (List.set (l0 ++ List.take 5 l1 ++ l2) (Int.toNat (IntKind.wrap .i64 ((↑(List.length l0) : Int) + (0 : Int)))) (ixor IntKind.u8 (List.getD (l0 ++ List.take 5 l1 ++ l2) (Int.toNat (IntKind.wrap .i64 ((↑(List.length l0) : Int) + (0 : Int)))) (0 : Int)) (IntKind.wrap .u8 (ishr IntKind.u64 (ishl IntKind.u64 (IntKind.wrap .u64 n3) (Int.tmod n4 (8 : Int))) (0 : Int))))) (Int.toNat (IntKind.wrap .i64 ((↑(List.length l0) : Int) + (1 : Int)))) (ixor IntKind.u8 (List.getD (List.set (l0 ++ List.take 5 l1 ++ l2) (Int.toNat (IntKind.wrap .i64 ((↑(List.length l0) : Int) + (0 : Int)))) (ixor IntKind.u8 (List.getD (l0 ++ List.take 5 l1 ++ l2) (Int.toNat (IntKind.wrap .i64 ((↑(List.length l0) : Int) + (0 : Int)))) (0 : Int)) (IntKind.wrap .u8 (ishr IntKind.u64 (ishl IntKind.u64 (IntKind.wrap .u64 n3) (Int.tmod n4 (8 : Int))) (0 : Int))))) (Int.toNat (IntKind.wrap .i64 ((↑(List.length l0) : Int) + (1 : Int)))) (0 : Int)) (IntKind.wrap .u8 (ishr IntKind.u64 (ishl IntKind.u64 (IntKind.wrap .u64 n3) (Int.tmod n4 (8 : Int))) (8 : Int))))) (Int.toNat (IntKind.wrap .i64 ((↑(List.length l0) : Int) + (2 : Int)))) (0 : Int)) (IntKind.wrap .u8 (ishr IntKind.u64 (ishl IntKind.u64 (IntKind.wrap .u64 n3) (Int.tmod n4 (8 : Int))) (16 : Int))))) (Int.toNat (IntKind.wrap .i64 ((↑(List.length l0) : Int) + (3 : Int)))) (0 : Int)) (IntKind.wrap .u8 (ishr IntKind.u64 (ishl IntKind.u64 (IntKind.wrap .u64 n3) (Int.tmod n4 (8 : Int))) (24 : Int))))) (Int.toNat (IntKind.wrap .i64 ((↑(List.length l0) : Int) + (4 : Int)))) (ixor IntKind.u8 (List.getD (List.set (List.set (List.set (List.set (l0 ++ List.take 5 l1 ++ l2) (Int.toNat (IntKind.wrap .i64 ((↑(List.length l0) : Int) + (0 : Int)))) (ixor IntKind.u8 (List.getD (l0 ++ List.take 5 l1 ++ l2) (Int.toNat (IntKind.wrap .i64 ((↑(List.length l0) : Int) + (0 : Int)))) (0 : Int)) (IntKind.wrap .u8 (ishr IntKind.u64 (ishl IntKind.u64 (IntKind.wrap .u64 n3) (Int.tmod n4 (8 : Int))) (0 : Int))))) (Int.toNat (IntKind.wrap .i64 ((↑(List.length l0) : Int) + (1 : Int)))) (ixor IntKind.u8 (List.getD (List.set (l0 ++ List.take 5 l1 ++ l2) (Int.toNat (IntKind.wrap .i64 ((↑(List.length l0) : Int) + (0 : Int)))) (ixor IntKind.u8 (List.getD (l0 ++ List.take 5 l1 ++ l2) (Int.toNat (IntKind.wrap .i64 ((↑(List.length l0) : Int) + (0 : Int)))) (0 : Int)) (IntKind.wrap .u8 (ishr IntKind.u64 (ishl IntKind.u64 (IntKind.wrap .u64 n3) (Int.tmod n4 (8 : Int))) (0 : Int))))) (Int.toNat (IntKind.wrap .i64 ((↑(List.length l0) : Int) + (1 : Int)))) (0 : Int)) (IntKind.wrap .u8 (ishr IntKind.u64 (ishl IntKind.u64 (IntKind.wrap .u64 n3) (Int.tmod n4 (8 : Int))) (8 : Int))))) (Int.toNat (IntKind.wrap .i64 ((↑(List.length l0) : Int) + (2 : Int)))) (ixor IntKind.u8 (List.getD (List.set (List.set (l0 ++ List.take 5 l1 ++ l2) (Int.toNat (IntKind.wrap .i64 ((↑(List.length l0) : Int) + (0 : Int)))) (ixor IntKind.u8 (List.getD (l0 ++ List.take 5 l1 ++ l2) (Int.toNat (IntKind.wrap .i64 ((↑(List.length l0) : Int) + (0 : Int)))) (0 : Int)) (IntKind.wrap .u8 (ishr IntKind.u64 (ishl IntKind.u64 (IntKind.wrap .u64 n3) (Int.tmod n4 (8 : Int))) (0 : Int))))) (Int.toNat (IntKind.wrap .i64 ((↑(List.length l0) : Int) + (1 : Int)))) (ixor IntKind.u8 (List.getD (List.set (l0 ++ List.take 5 l1 ++ l2) (Int.toNat (IntKind.wrap .i64 ((↑(List.length l0) : Int) + (0 : Int)))) (ixor IntKind.u8 (List.getD (l0 ++ List.take 5 l1 ++ l2) (Int.toNat (IntKind.wrap .i64 ((↑(List.length l0) : Int) + (0 : Int)))) (0 : Int)) (IntKind.wrap .u8 (ishr IntKind.u64 (ishl IntKind.u64 (IntKind.wrap .u64 n3) (Int.tmod n4 (8 : Int))) (0 : Int))))) (Int.toNat (IntKind.wrap .i64 ((↑(List.length l0) : Int) + (1 : Int)))) (0 : Int)) (IntKind.wrap .u8 (ishr IntKind.u64 (ishl IntKind.u64 (IntKind.wrap .u64 n3) (Int.tmod n4 (8 : Int))) (8 : Int))))) (Int.toNat (IntKind.wrap .i64 ((↑(List.length l0) : Int) + (2 : Int)))) (0 : Int)) (IntKind.wrap .u8 (ishr IntKind.u64 (ishl IntKind.u64 (IntKind.wrap .u64 n3) (Int.tmod n4 (8 : Int))) (16 : Int))))) (Int.toNat (IntKind.wrap .i64 ((↑(List.length l0) : Int) + (3 : Int)))) (ixor IntKind.u8 (List.getD (List.set (List.set (List.set (l0 ++ List.take 5 l1 ++ l2) (Int.toNat (IntKind.wrap .i64 ((↑(List.length l0) : Int) + (0 : Int)))) (ixor IntKind.u8 (List.getD (l0 ++ List.take 5 l1 ++ l2) (Int.toNat (IntKind.wrap .i64 ((↑(List.length l0) : Int) + (0 : Int)))) (0 : Int)) (IntKind.wrap .u8 (ishr IntKind.u64 (ishl IntKind.u64 (IntKind.wrap .u64 n3) (Int.tmod n4 (8 : Int))) (0 : Int))))) (Int.toNat (IntKind.wrap .i64 ((↑(List.length l0) : Int) + (1 : Int)))) (ixor IntKind.u8 (List.getD (List.set (l0 ++ List.take 5 l1 ++ l2) (Int.toNat (IntKind.wrap .i64 ((↑(List.length l0) : Int) + (0 : Int)))) (ixor IntKind.u8 (List.getD (l0 ++ List.take 5 l1 ++ l2) (Int.toNat (IntKind.wrap .i64 ((↑(List.length l0) : Int) + (0 : Int)))) (0 : Int)) (IntKind.wrap .u8 (ishr IntKind.u64 (ishl IntKind.u64 (IntKind.wrap .u64 n3) (Int.tmod n4 (8 : Int))) (0 : Int))))) (Int.toNat (IntKind.wrap .i64 ((↑(List.length l0) : Int) + (1 : Int)))) (0 : Int)) (IntKind.wrap .u8 (ishr IntKind.u64 (ishl IntKind.u64 (IntKind.wrap .u64 n3) (Int.tmod n4 (8 : Int))) (8 : Int))))) (Int.toNat (IntKind.wrap .i64 ((↑(List.length l0) : Int) + (2 : Int)))) (ixor IntKind.u8 (List.getD (List.set (List.set (l0 ++ List.take 5 l1 ++ l2) (Int.toNat (IntKind.wrap .i64 ((↑(List.length l0) : Int) + (0 : Int)))) (ixor IntKind.u8 (List.getD (l0 ++ List.take 5 l1 ++ l2) (Int.toNat (IntKind.wrap .i64 ((↑(List.length l0) : Int) + (0 : Int)))) (0 : Int)) (IntKind.wrap .u8 (ishr IntKind.u64 (ishl IntKind.u64 (IntKind.wrap .u64 n3) (Int.tmod n4 (8 : Int))) (0 : Int))))) (Int.toNat (IntKind.wrap .i64 ((↑(List.length l0) : Int) + (1 : Int)))) (ixor IntKind.u8 (List.getD (List.set (l0 ++ List.take 5 l1 ++ l2) (Int.toNat (IntKind.wrap .i64 ((↑(List.length l0) : Int) + (0 : Int)))) (ixor IntKind.u8 (List.getD (l0 ++ List.take 5 l1 ++ l2) (Int.toNat (IntKind.wrap .i64 ((↑(List.length l0) : Int) + (0 : Int)))) (0 : Int)) (IntKind.wrap .u8 (ishr IntKind.u64 (ishl IntKind.u64 (IntKind.wrap .u64 n3) (Int.tmod n4 (8 : Int))) (0 : Int))))) (Int.toNat (IntKind.wrap .i64 ((↑(List.length l0) : Int) + (1 : Int)))) (0 : Int)) (IntKind.wrap .u8 (ishr IntKind.u64 (ishl IntKind.u64 (IntKind.wrap .u64 n3) (Int.tmod n4 (8 : Int))) (8 : Int))))) (Int.toNat (IntKind.wrap .i64 ((↑(List.length l0) : Int) + (2 : Int)))) (0 : Int)) (IntKind.wrap .u8 (ishr IntKind.u64 (ishl IntKind.u64 (IntKind.wrap .u64 n3) (Int.tmod n4 (8 : Int))) (16 : Int))))) (Int.toNat (IntKind.wrap .i64 ((↑(List.length l0) : Int) + (3 : Int)))) (0 : Int)) (IntKind.wrap .u8 (ishr IntKind.u64 (ishl IntKind.u64 (IntKind.wrap .u64 n3) (Int.tmod n4 (8 : Int))) (24 : Int))))) (Int.toNat (IntKind.wrap .i64 ((↑(List.length l0) : Int) + (4 : Int)))) (0 : Int)) (IntKind.wrap .u8 (ishr IntKind.u64 (ishl IntKind.u64 (IntKind.wrap .u64 n3) (Int.tmod n4 (8 : Int))) (32 : Int)))))]))
                    (.node ((gn (dOf (op_12 [.l (Ty.int IntKind.u8) (l0 ++ List.take 5 l1 ++ l2)])) 0 == gn (dOf (op_12 [.l (Ty.int IntKind.u8) (List.set (List.set (List.set (List.set (List.set (l0 ++ List.take 5 l1 ++ l2) (Int.toNat (IntKind.wrap .i64 ((↑(List.length l0) : Int) + (0 : Int)))) (ixor IntKind.u8 (List.getD (l0 ++ List.take 5 l1 ++ l2) (Int.toNat (IntKind.wrap .i64 ((↑(List.length l0) : Int) + (0 : Int)))) (0 : Int)) (IntKind.wrap .u8 (ishr IntKind.u64 (ishl IntKind.u64 (IntKind.wrap .u64 n3) (Int.tmod n4 (8 : Int))) (0 : Int))))) (Int.toNat (IntKind.wrap .i64 ((↑(List.length l0) : Int) + (1 : Int)))) (ixor IntKind.u8 (List.getD (List.set (l0 ++ List.take 5 l1 ++ l2) (Int.toNat (IntKind.wrap .i64 ((↑(List.length l0) : Int) + (0 : Int)))) (ixor IntKind.u8 (List.getD (l0 ++ List.take 5 l1 ++ l2) (Int.toNat (IntKind.wrap .i64 ((↑(List.length l0) : Int) + (0 : Int)))) (0 : Int)) (IntKind.wrap .u8 (ishr IntKind.u64 (ishl IntKind.u64 (IntKind.wrap .u64 n3) (Int.tmod n4 (8 : Int))) (0 : Int))))) (Int.toNat (IntKind.wrap .i64 ((↑(List.length l0) : Int) + (1 : Int)))) (0 : Int)) (IntKind.wrap .u8 (ishr IntKind.u64 (ishl IntKind.u64 (IntKind.wrap .u64 n3) (Int.tmod n4 (8 : Int))) (8 : Int))))) (Int.toNat (IntKind.wrap .i64 ((↑(List.length l0) : Int) + (2 : Int)))) (ixor IntKind.u8 (List.getD (List.set (List.set (l0 ++ List.take 5 l1 ++ l2) (Int.toNat (IntKind.wrap .i64 ((↑(List.length l0) : Int) + (0 : Int)))) (ixor IntKind.u8 (List.getD (l0 ++ List.take 5 l1 ++ l2) (Int.toNat (IntKind.wrap .i64 ((↑(List.length l0) : Int) + (0 : Int)))) (0 : Int)) (IntKind.wrap .u8 (ishr IntKind.u64 (ishl IntKind.u64 (IntKind.wrap .u64 n3) (Int.tmod n4 (8 : Int))) (0 : Int))))) (Int.toNat (IntKind.wrap .i64 ((↑(List.length l0) : Int) + (1 : Int)))) (ixor IntKind.u8 (List.getD (List.set (l0 ++ List.take 5 l1 ++ l2) (Int.toNat (IntKind.wrap .i64 ((↑(List.length l0) : Int) + (0 : Int)))) (ixor IntKind.u8 (List.getD (l0 ++ List.take 5 l1 ++ l2) (Int.toNat (IntKind.wrap .i64 ((↑(List.length l0) : Int) + (0 : Int)))) (0 : Int)) (IntKind.wrap .u8 (ishr IntKind.u64 (ishl IntKind.u64 (IntKind.wrap .u64 n3) (Int.tmod n4 (8 : Int))) (0 : Int))))) (Int.toNat (IntKind.wrap .i64 ((↑(List.length l0) : Int) + (1 : Int)))) (0 : Int)) (IntKind.wrap .u8 (ishr IntKind.u64 (ishl IntKind.u64 (IntKind.wrap .u64 n3) (Int.tmod n4 (8 : Int))) (8 : Int))))) (Int.toNat (IntKind.wrap .i64 ((↑(List.length l0) : Int) + (2 : Int)))) (0 : Int)) (IntKind.wrap .u8 (ishr IntKind.u64 (ishl IntKind.u64 (IntKind.wrap .u64 n3) (Int.tmod n4 (8 : Int))) (16 : Int))))) (Int.toNat (IntKind.wrap .i64 ((↑(List.length l0) : Int) + (3 : Int)))) (ixor IntKind.u8 (List.getD (List.set (List.set (List.set (l0 ++ List.take 5 l1 ++ l2) (Int.toNat (IntKind.wrap .i64 ((↑(List.length l0) : Int) + (0 : Int)))) (ixor IntKind.u8 (List.getD (l0 ++ List.take 5 l1 ++ l2) (Int.toNat (IntKind.wrap .i64 ((↑(List.length l0) : Int) + (0 : Int)))) (0 : Int)) (IntKind.wrap .u8 (ishr IntKind.u64 (ishl IntKind.u64 (IntKind.wrap .u64 n3) (Int.tmod n4 (8 : Int))) (0 : Int))))) (Int.toNat (IntKind.wrap .i64 ((↑(List.length l0) : Int) + (1 : Int)))) (ixor IntKind.u8 (List.getD (List.set (l0 ++ List.take 5 l1 ++ l2) (Int.toNat (IntKind.wrap .i64 ((↑(List.length l0) : Int) + (0 : Int)))) (ixor IntKind.u8 (List.getD (l0 ++ List.take 5 l1 ++ l2) (Int.toNat (IntKind.wrap .i64 ((↑(List.length l0) : Int) + (0 : Int)))) (0 : Int)) (IntKind.wrap .u8 (ishr IntKind.u64 (ishl IntKind.u64 (IntKind.wrap .u64 n3) (Int.tmod n4 (8 : Int))) (0 : Int))))) (Int.toNat (IntKind.wrap .i64 ((↑(List.length l0) : Int) + (1 : Int)))) (0 : Int)) (IntKind.wrap .u8 (ishr IntKind.u64 (ishl IntKind.u64 (IntKind.wrap .u64 n3) (Int.tmod n4 (8 : Int))) (8 : Int))))) (Int.toNat (IntKind.wrap .i64 ((↑(List.length l0) : Int) + (2 : Int)))) (ixor IntKind.u8 (List.getD (List.set (List.set (l0 ++ List.take 5 l1 ++ l2) (Int.toNat (IntKind.wrap .i64 ((↑(List.length l0) : Int) + (0 : Int)))) (ixor IntKind.u8 (List.getD (l0 ++ List.take 5 l1 ++ l2) (Int.toNat (IntKind.wrap .i64 ((↑(List.length l0) : Int) + (0 : Int)))) (0 : Int)) (IntKind.wrap .u8 (ishr IntKind.u64 (ishl IntKind.u64 (IntKind.wrap .u64 n3) (Int.tmod n4 (8 : Int))) (0 : Int))))) (Int.toNat (IntKind.wrap .i64 ((↑(List.length l0) : Int) + (1 : Int)))) (ixor IntKind.u8 (List.getD (List.set (l0 ++ List.take 5 l1 ++ l2) (Int.toNat (IntKind.wrap .i64 ((↑(List.length l0) : Int) + (0 : Int)))) (ixor IntKind.u8 (List.getD (l0 ++ List.take 5 l1 ++ l2) (Int.toNat (IntKind.wrap .i64 ((↑(List.length l0) : Int) + (0 : Int)))) (0 : Int)) (IntKind.wrap .u8 (ishr IntKind.u64 (ishl IntKind.u64 (IntKind.wrap .u64 n3) (Int.tmod n4 (8 : Int))) (0 : Int))))) (Int.toNat (IntKind.wrap .i64 ((↑(List.length l0) : Int) + (1 : Int)))) (0 : Int)) (IntKind.wrap .u8 (ishr IntKind.u64 (ishl IntKind.u64 (IntKind.wrap .u64 n3) (Int.tmod n4 (8 : Int))) (8 : Int))))) (Int.toNat (IntKind.wrap .i64 ((↑(List.length l0) : Int) + (2 : Int)))) (0 : Int)) (IntKind.wrap .u8 (ishr IntKind.u64 (ishl IntKind.u64 (IntKind.wrap .u64 n3) (Int.tmod n4 (8 : Int))) (16 : Int))))) (Int.toNat (IntKind.wrap .i64 ((↑(List.length l0) : Int) + (3 : Int)))) (0 : Int)) (IntKind.wrap .u8 (ishr IntKind.u64 (ishl IntKind.u64 (IntKind.wrap .u64 n3) (Int.tmod n4 (8 : Int))) (24 : Int))))) (Int.toNat (IntKind.wrap .i64 ((↑(List.length l0) : Int) + (4 : Int)))) (ixor IntKind.u8 (List.getD (List.set (List.set (List.set (List.set (l0 ++ List.take 5 l1 ++ l2) (Int.toNat (IntKind.wrap .i64 ((↑(List.length l0) : Int) + (0 : Int)))) (ixor IntKind.u8 (List.getD (l0 ++ List.take 5 l1 ++ l2) (Int.toNat (IntKind.wrap .i64 ((↑(List.length l0) : Int) + (0 : Int)))) (0 : Int)) (IntKind.wrap .u8 (ishr IntKind.u64 (ishl IntKind.u64 (IntKind.wrap .u64 n3) (Int.tmod n4 (8 : Int))) (0 : Int))))) (Int.toNat (IntKind.wrap .i64 ((↑(List.length l0) : Int) + (1 : Int)))) (ixor IntKind.u8 (List.getD (List.set (l0 ++ List.take 5 l1 ++ l2) (Int.toNat (IntKind.wrap .i64 ((↑(List.length l0) : Int) + (0 : Int)))) (ixor IntKind.u8 (List.getD (l0 ++ List.take 5 l1 ++ l2) (Int.toNat (IntKind.wrap .i64 ((↑(List.length l0) : Int) + (0 : Int)))) (0 : Int)) (IntKind.wrap .u8 (ishr IntKind.u64 (ishl IntKind.u64 (IntKind.wrap .u64 n3) (Int.tmod n4 (8 : Int))) (0 : Int))))) (Int.toNat (IntKind.wrap .i64 ((↑(List.length l0) : Int) + (1 : Int)))) (0 : Int)) (IntKind.wrap .u8 (ishr IntKind.u64 (ishl IntKind.u64 (IntKind.wrap .u64 n3) (Int.tmod n4 (8 : Int))) (8 : Int))))) (Int.toNat (IntKind.wrap .i64 ((↑(List.length l0) : Int) + (2 : Int)))) (ixor IntKind.u8 (List.getD (List.set (List.set (l0 ++ List.take 5 l1 ++ l2) (Int.toNat (IntKind.wrap .i64 ((↑(List.length l0) : Int) + (0 : Int)))) (ixor IntKind.u8 (List.getD (l0 ++ List.take 5 l1 ++ l2) (Int.toNat (IntKind.wrap .i64 ((↑(List.length l0) : Int) + (0 : Int)))) (0 : Int)) (IntKind.wrap .u8 (ishr IntKind.u64 (ishl IntKind.u64 (IntKind.wrap .u64 n3) (Int.tmod n4 (8 : Int))) (0 : Int))))) (Int.toNat (IntKind.wrap .i64 ((↑(List.length l0) : Int) + (1 : Int)))) (ixor IntKind.u8 (List.getD (List.set (l0 ++ List.take 5 l1 ++ l2) (Int.toNat (IntKind.wrap .i64 ((↑(List.length l0) : Int) + (0 : Int)))) (ixor IntKind.u8 (List.getD (l0 ++ List.take 5 l1 ++ l2) (Int.toNat (IntKind.wrap .i64 ((↑(List.length l0) : Int) + (0 : Int)))) (0 : Int)) (IntKind.wrap .u8 (ishr IntKind.u64 (ishl IntKind.u64 (IntKind.wrap .u64 n3) (Int.tmod n4 (8 : Int))) (0 : Int))))) (Int.toNat (IntKind.wrap .i64 ((↑(List.length l0) : Int) + (1 : Int)))) (0 : Int)) (IntKind.wrap .u8 (ishr IntKind.u64 (ishl IntKind.u64 (IntKind.wrap .u64 n3) (Int.tmod n4 (8 : Int))) (8 : Int))))) (Int.toNat (IntKind.wrap .i64 ((↑(List.length l0) : Int) + (2 : Int)))) (0 : Int)) (IntKind.wrap .u8 (ishr IntKind.u64 (ishl IntKind.u64 (IntKind.wrap .u64 n3) (Int.tmod n4 (8 : Int))) (16 : Int))))) (Int.toNat (IntKind.wrap .i64 ((↑(List.length l0) : Int) + (3 : Int)))) (ixor IntKind.u8 (List.getD (List.set (List.set (List.set (l0 ++ List.take 5 l1 ++ l2) (Int.toNat (IntKind.wrap .i64 ((↑(List.length l0) : Int) + (0 : Int)))) (ixor IntKind.u8 (List.getD (l0 ++ List.take 5 l1 ++ l2) (Int.toNat (IntKind.wrap .i64 ((↑(List.length l0) : Int) + (0 : Int)))) (0 : Int)) (IntKind.wrap .u8 (ishr IntKind.u64 (ishl IntKind.u64 (IntKind.wrap .u64 n3) (Int.tmod n4 (8 : Int))) (0 : Int))))) (Int.toNat (IntKind.wrap .i64 ((↑(List.length l0) : Int) + (1 : Int)))) (ixor IntKind.u8 (List.getD (List.set (l0 ++ List.take 5 l1 ++ l2) (Int.toNat (IntKind.wrap .i64 ((↑(List.length l0) : Int) + (0 : Int)))) (ixor IntKind.u8 (List.getD (l0 ++ List.take 5 l1 ++ l2) (Int.toNat (IntKind.wrap .i64 ((↑(List.length l0) : Int) + (0 : Int)))) (0 : Int)) (IntKind.wrap .u8 (ishr IntKind.u64 (ishl IntKind.u64 (IntKind.wrap .u64 n3) (Int.tmod n4 (8 : Int))) (0 : Int))))) (Int.toNat (IntKind.wrap .i64 ((↑(List.length l0) : Int) + (1 : Int)))) (0 : Int)) (IntKind.wrap .u8 (ishr IntKind.u64 (ishl IntKind.u64 (IntKind.wrap .u64 n3) (Int.tmod n4 (8 : Int))) (8 : Int))))) (Int.toNat (IntKind.wrap .i64 ((↑(List.length l0) : Int) + (2 : Int)))) (ixor IntKind.u8 (List.getD (List.set (List.set (l0 ++ List.take 5 l1 ++ l2) (Int.toNat (IntKind.wrap .i64 ((↑(List.length l0) : Int) + (0 : Int)))) (ixor IntKind.u8 (List.getD (l0 ++ List.take 5 l1 ++ l2) (Int.toNat (IntKind.wrap .i64 ((↑(List.length l0) : Int) + (0 : Int)))) (0 : Int)) (IntKind.wrap .u8 (ishr IntKind.u64 (ishl IntKind.u64 (IntKind.wrap .u64 n3) (Int.tmod n4 (8 : Int))) (0 : Int))))) (Int.toNat (IntKind.wrap .i64 ((↑(List.length l0) : Int) + (1 : Int)))) (ixor IntKind.u8 (List.getD (List.set (l0 ++ List.take 5 l1 ++ l2) (Int.toNat (IntKind.wrap .i64 ((↑(List.length l0) : Int) + (0 : Int)))) (ixor IntKind.u8 (List.getD (l0 ++ List.take 5 l1 ++ l2) (Int.toNat (IntKind.wrap .i64 ((↑(List.length l0) : Int) + (0 : Int)))) (0 : Int)) (IntKind.wrap .u8 (ishr IntKind.u64 (ishl IntKind.u64 (IntKind.wrap .u64 n3) (Int.tmod n4 (8 : Int))) (0 : Int))))) (Int.toNat (IntKind.wrap .i64 ((↑(List.length l0) : Int) + (1 : Int)))) (0 : Int)) (IntKind.wrap .u8 (ishr IntKind.u64 (ishl IntKind.u64 (IntKind.wrap .u64 n3) (Int.tmod n4 (8 : Int))) (8 : Int))))) (Int.toNat (IntKind.wrap .i64 ((↑(List.length l0) : Int) + (2 : Int)))) (0 : Int)) (IntKind.wrap .u8 (ishr IntKind.u64 (ishl IntKind.u64 (IntKind.wrap .u64 n3) (Int.tmod n4 (8 : Int))) (16 : Int))))) (Int.toNat (IntKind.wrap .i64 ((↑(List.length l0) : Int) + (3 : Int)))) (0 : Int)) (IntKind.wrap .u8 (ishr IntKind.u64 (ishl IntKind.u64 (IntKind.wrap .u64 n3) (Int.tmod n4 (8 : Int))) (24 : Int))))) (Int.toNat (IntKind.wrap .i64 ((↑(List.length l0) : Int) + (4 : Int)))) (0 : Int)) (IntKind.wrap .u8 (ishr IntKind.u64 (ishl IntKind.u64 (IntKind.wrap .u64 n3) (Int.tmod n4 (8 : Int))) (32 : Int)))))])) 0) == (n3 == (0 : Int)))
                     (.leaf (true))
                     (.leaf (false)))
                    (.bad 351))
                   (.bad 351))
                  (.bad 12))
                 (.bad 12))
                (.bad 12))
               (.bad 12))
              (.bad 12))
             (.bad 60))
            (.bad 62))
           (.bad 62))
          (.bad 42))
         (.bad 60))
        (.bad 82)))))
  | _ => .bad 0
def fr_W9 : List Dat → Tree Bool
  | [.l (Ty.int IntKind.u8) l0, .l (Ty.int IntKind.u8) l1, .l (Ty.int IntKind.u8) l2, .n n3, .n n4] =>
    (.node (decide ((↑(List.length l0) : Int) > (1500 : Int)))
     (.leaf (true))
     (.node (decide ((↑(List.length l2) : Int) > (1500 : Int)))
      (.leaf (true))
      (.node (decide ((↑(List.length l1) : Int) < (5 : Int)))
       (.leaf (true))
       (.node (!decide (Int.tmod n4 (8 : Int) < (0 : Int)))
        (.node (decide (List.length l0 * 1 ≤ 140737488355328))
         (.node (true && decide ((5 : Int) ≤ (↑(List.length l1) : Int)))
          (.node (decide ((List.length l0 + List.length (List.take 5 l1)) * 1 ≤ 140737488355328))
           (.node (decide ((List.length (l0 ++ List.take 5 l1) + List.length l2) * 1 ≤ 140737488355328))
            (.node (decide (List.length (l0 ++ List.take 5 l1 ++ l2) * 1 ≤ 140737488355328))
             (.node (inR (IntKind.wrap .i64 ((↑(List.length l0) : Int) + (0 : Int))) (List.length (l0 ++ List.take 5 l1 ++ l2)))
              (.node (inR (IntKind.wrap .i64 ((↑(List.length l0) : Int) + (0 : Int))) (List.length (l0 ++ List.take 5 l1 ++ l2)))
               (.node (inR (IntKind.wrap .i64 ((↑(List.length l0) : Int) + (1 : Int))) (List.length (List.set (l0 ++ List.take 5 l1 ++ l2) (Int.toNat (IntKind.wrap .i64 ((↑(List.length l0) : Int) + (0 : Int)))) (ixor IntKind.u8 (List.getD (l0 ++ List.take 5 l1 ++ l2) (Int.toNat (IntKind.wrap .i64 ((↑(List.length l0) : Int) + (0 : Int)))) (0 : Int)) (IntKind.wrap .u8 (ishr IntKind.u64 (ishl IntKind.u64 (IntKind.wrap .u64 n3) (Int.tmod n4 (8 : Int))) (0 : Int)))))))
                (.node (inR (IntKind.wrap .i64 ((↑(List.length l0) : Int) + (1 : Int))) (List.length (List.set (l0 ++ List.take 5 l1 ++ l2) (Int.toNat (IntKind.wrap .i64 ((↑(List.length l0) : Int) + (0 : Int)))) (ixor IntKind.u8 (List.getD (l0 ++ List.take 5 l1 ++ l2) (Int.toNat (IntKind.wrap .i64 ((↑(List.length l0) : Int) + (0 : Int)))) (0 : Int)) (IntKind.wrap .u8 (ishr IntKind.u64 (ishl IntKind.u64 (IntKind.wrap .u64 n3) (Int.tmod n4 (8 : Int))) (0 : Int)))))))
                 (.node (inR (IntKind.wrap .i64 ((↑(List.length l0) : Int) + (2 : Int))) (List.length (List.set (List.set (l0 ++ List.take 5 l1 ++ l2) (Int.toNat (IntKind.wrap .i64 ((↑(List.length l0) : Int) + (0 : Int)))) (ixor IntKind.u8 (List.getD (l0 ++ List.take 5 l1 ++ l2) (Int.toNat (IntKind.wrap .i64 ((↑(List.length l0) : Int) + (0 : Int)))) (0 : Int)) (IntKind.wrap .u8 (ishr IntKind.u64 (ishl IntKind.u64 (IntKind.wrap .u64 n3) (Int.tmod n4 (8 : Int))) (0 : Int))))) (Int.toNat (IntKind.wrap .i64 ((↑(List.length l0) : Int) + (1 : Int)))) (ixor IntKind.u8 (List.getD (List.set (l0 ++ List.take 5 l1 ++ l2) (Int.toNat (IntKind.wrap .i64 ((↑(List.length l0) : Int) + (0 : Int)))) (ixor IntKind.u8 (List.getD (l0 ++ List.take 5 l1 ++ l2) (Int.toNat (IntKind.wrap .i64 ((↑(List.length l0) : Int) + (0 : Int)))) (0 : Int)) (IntKind.wrap .u8 (ishr IntKind.u64 (ishl IntKind.u64 (IntKind.wrap .u64 n3) (Int.tmod n4 (8 : Int))) (0 : Int))))) (Int.toNat (IntKind.wrap .i64 ((↑(List.length l0) : Int) + (1 : Int)))) (0 : Int)) (IntKind.wrap .u8 (ishr IntKind.u64 (ishl IntKind.u64 (IntKind.wrap .u64 n3) (Int.tmod n4 (8 : Int))) (8 : Int)))))))
                  (.node (inR (IntKind.wrap .i64 ((↑(List.length l0) : Int) + (2 : Int))) (List.length (List.set (List.set (l0 ++ List.take 5 l1 ++ l2) (Int.toNat (IntKind.wrap .i64 ((↑(List.length l0) : Int) + (0 : Int)))) (ixor IntKind.u8 (List.getD (l0 ++ List.take 5 l1 ++ l2) (Int.toNat (IntKind.wrap .i64 ((↑(List.length l0) : Int) + (0 : Int)))) (0 : Int)) (IntKind.wrap .u8 (ishr IntKind.u64 (ishl IntKind.u64 (IntKind.wrap .u64 n3) (Int.tmod n4 (8 : Int))) (0 : Int))))) (Int.toNat (IntKind.wrap .i64 ((↑(List.length l0) : Int) + (1 : Int)))) (ixor IntKind.u8 (List.getD (List.set (l0 ++ List.take 5 l1 ++ l2) (Int.toNat (IntKind.wrap .i64 ((↑(List.length l0) : Int) + (0 : Int)))) (ixor IntKind.u8 (List.getD (l0 ++ List.take 5 l1 ++ l2) (Int.toNat (IntKind.wrap .i64 ((↑(List.length l0) : Int) + (0 : Int)))) (0 : Int)) (IntKind.wrap .u8 (ishr IntKind.u64 (ishl IntKind.u64 (IntKind.wrap .u64 n3) (Int.tmod n4 (8 : Int))) (0 : Int))))) (Int.toNat (IntKind.wrap .i64 ((↑(List.length l0) : Int) + (1 : Int)))) (0 : Int)) (IntKind.wrap .u8 (ishr IntKind.u64 (ishl IntKind.u64 (IntKind.wrap .u64 n3) (Int.tmod n4 (8 : Int))) (8 : Int)))))))
                   (.node (inR (IntKind.wrap .i64 ((↑(List.length l0) : Int) + (3 : Int))) (List.length (List.set (List.set (List.set (l0 ++ List.take 5 l1 ++ l2) (Int.toNat (IntKind.wrap .i64 ((↑(List.length l0) : Int) + (0 : Int)))) (ixor IntKind.u8 (List.getD (l0 ++ List.take 5 l1 ++ l2) (Int.toNat (IntKind.wrap .i64 ((↑(List.length l0) : Int) + (0 : Int)))) (0 : Int)) (IntKind.wrap .u8 (ishr IntKind.u64 (ishl IntKind.u64 (IntKind.wrap .u64 n3) (Int.tmod n4 (8 : Int))) (0 : Int))))) (Int.toNat (IntKind.wrap .i64 ((↑(List.length l0) : Int) + (1 : Int)))) (ixor IntKind.u8 (List.getD (List.set (l0 ++ List.take 5 l1 ++ l2) (Int.toNat (IntKind.wrap .i64 ((↑(List.length l0) : Int) + (0 : Int)))) (ixor IntKind.u8 (List.getD (l0 ++ List.take 5 l1 ++ l2) (Int.toNat (IntKind.wrap .i64 ((↑(List.length l0) : Int) + (0 : Int)))) (0 : Int)) (IntKind.wrap .u8 (ishr IntKind.u64 (ishl IntKind.u64 (IntKind.wrap .u64 n3) (Int.tmod n4 (8 : Int))) (0 : Int))))) (Int.toNat (IntKind.wrap .i64 ((↑(List.length l0) : Int) + (1 : Int)))) (0 : Int)) (IntKind.wrap .u8 (ishr IntKind.u64 (ishl IntKind.u64 (IntKind.wrap .u64 n3) (Int.tmod n4 (8 : Int))) (8 : Int))))) (Int.toNat (IntKind.wrap .i64 ((↑(List.length l0) : Int) + (2 : Int)))) (ixor IntKind.u8 (List.getD (List.set (List.set (l0 ++ List.take 5 l1 ++ l2) (Int.toNat (IntKind.wrap .i64 ((↑(List.length l0) : Int) + (0 : Int)))) (ixor IntKind.u8 (List.getD (l0 ++ List.take 5 l1 ++ l2) (Int.toNat (IntKind.wrap .i64 ((↑(List.length l0) : Int) + (0 : Int)))) (0 : Int)) (IntKind.wrap .u8 (ishr IntKind.u64 (ishl IntKind.u64 (IntKind.wrap .u64 n3) (Int.tmod n4 (8 : Int))) (0 : Int))))) (Int.toNat (IntKind.wrap .i64 ((↑(List.length l0) : Int) + (1 : Int)))) (ixor IntKind.u8 (List.getD (List.set (l0 ++ List.take 5 l1 ++ l2) (Int.toNat (IntKind.wrap .i64 ((↑(List.length l0) : Int) + (0 : Int)))) (ixor IntKind.u8 (List.getD (l0 ++ List.take 5 l1 ++ l2) (Int.toNat (IntKind.wrap .i64 ((↑(List.length l0) : Int) + (0 : Int)))) (0 : Int)) (IntKind.wrap .u8 (ishr IntKind.u64 (ishl IntKind.u64 (IntKind.wrap .u64 n3) (Int.tmod n4 (8 : Int))) (0 : Int))))) (Int.toNat (IntKind.wrap .i64 ((↑(List.length l0) : Int) + (1 : Int)))) (0 : Int)) (IntKind.wrap .u8 (ishr IntKind.u64 (ishl IntKind.u64 (IntKind.wrap .u64 n3) (Int.tmod n4 (8 : Int))) (8 : Int))))) (Int.toNat (IntKind.wrap .i64 ((↑(List.length l0) : Int) + (2 : Int)))) (0 : Int)) (IntKind.wrap .u8 (ishr IntKind.u64 (ishl IntKind.u64 (IntKind.wrap .u64 n3) (Int.tmod n4 (8 : Int))) (16 : Int)))))))
                    (.node (inR (IntKind.wrap .i64 ((↑(List.length l0) : Int) + (3 : Int))) (List.length (List.set (List.set (List.set (l0 ++ List.take 5 l1 ++ l2) (Int.toNat (IntKind.wrap .i64 ((↑(List.length l0) : Int) + (0 : Int)))) (ixor IntKind.u8 (List.getD (l0 ++ List.take 5 l1 ++ l2) (Int.toNat (IntKind.wrap .i64 ((↑(List.length l0) : Int) + (0 : Int)))) (0 : Int)) (IntKind.wrap .u8 (ishr IntKind.u64 (ishl IntKind.u64 (IntKind.wrap .u64 n3) (Int.tmod n4 (8 : Int))) (0 : Int))))) (Int.toNat (IntKind.wrap .i64 ((↑(List.length l0) : Int) + (1 : Int)))) (ixor IntKind.u8 (List.getD (List.set (l0 ++ List.take 5 l1 ++ l2) (Int.toNat (IntKind.wrap .i64 ((↑(List.length l0) : Int) + (0 : Int)))) (ixor IntKind.u8 (List.getD (l0 ++ List.take 5 l1 ++ l2) (Int.toNat (IntKind.wrap .i64 ((↑(List.length l0) : Int) + (0 : Int)))) (0 : Int)) (IntKind.wrap .u8 (ishr IntKind.u64 (ishl IntKind.u64 (IntKind.wrap .u64 n3) (Int.tmod n4 (8 : Int))) (0 : Int))))) (Int.toNat (IntKind.wrap .i64 ((↑(List.length l0) : Int) + (1 : Int)))) (0 : Int)) (IntKind.wrap .u8 (ishr IntKind.u64 (ishl IntKind.u64 (IntKind.wrap .u64 n3) (Int.tmod n4 (8 : Int))) (8 : Int))))) (Int.toNat (IntKind.wrap .i64 ((↑(List.length l0) : Int) + (2 : Int)))) (ixor IntKind.u8 (List.getD (List.set (List.set (l0 ++ List.take 5 l1 ++ l2) (Int.toNat (IntKind.wrap .i64 ((↑(List.length l0) : Int) + (0 : Int)))) (ixor IntKind.u8 (List.getD (l0 ++ List.take 5 l1 ++ l2) (Int.toNat (IntKind.wrap .i64 ((↑(List.length l0) : Int) + (0 : Int)))) (0 : Int)) (IntKind.wrap .u8 (ishr IntKind.u64 (ishl IntKind.u64 (IntKind.wrap .u64 n3) (Int.tmod n4 (8 : Int))) (0 : Int))))) (Int.toNat (IntKind.wrap .i64 ((↑(List.length l0) : Int) + (1 : Int)))) (ixor IntKind.u8 (List.getD (List.set (l0 ++ List.take 5 l1 ++ l2) (Int.toNat (IntKind.wrap .i64 ((↑(List.length l0) : Int) + (0 : Int)))) (ixor IntKind.u8 (List.getD (l0 ++ List.take 5 l1 ++ l2) (Int.toNat (IntKind.wrap .i64 ((↑(List.length l0) : Int) + (0 : Int)))) (0 : Int)) (IntKind.wrap .u8 (ishr IntKind.u64 (ishl IntKind.u64 (IntKind.wrap .u64 n3) (Int.tmod n4 (8 : Int))) (0 : Int))))) (Int.toNat (IntKind.wrap .i64 ((↑(List.length l0) : Int) + (1 : Int)))) (0 : Int)) (IntKind.wrap .u8 (ishr IntKind.u64 (ishl IntKind.u64 (IntKind.wrap .u64 n3) (Int.tmod n4 (8 : Int))) (8 : Int))))) (Int.toNat (IntKind.wrap .i64 ((↑(List.length l0) : Int) + (2 : Int)))) (0 : Int)) (IntKind.wrap .u8 (ishr IntKind.u64 (ishl IntKind.u64 (IntKind.wrap .u64 n3) (Int.tmod n4 (8 : Int))) (16 : Int)))))))
                     (.node (inR (IntKind.wrap .i64 ((↑(List.length l0) : Int) + (4 : Int))) (List.length (List.set (List.set (List.set (List.set (l0 ++ List.take 5 l1 ++ l2) (Int.toNat (IntKind.wrap .i64 ((↑(List.length l0) : Int) + (0 : Int)))) (ixor IntKind.u8 (List.getD (l0 ++ List.take 5 l1 ++ l2) (Int.toNat (IntKind.wrap .i64 ((↑(List.length l0) : Int) + (0 : Int)))) (0 : Int)) (IntKind.wrap .u8 (ishr IntKind.u64 (ishl IntKind.u64 (IntKind.wrap .u64 n3) (Int.tmod n4 (8 : Int))) (0 : Int))))) (Int.toNat (IntKind.wrap .i64 ((↑(List.length l0) : Int) + (1 : Int)))) (ixor IntKind.u8 (List.getD (List.set (l0 ++ List.take 5 l1 ++ l2) (Int.toNat (IntKind.wrap .i64 ((↑(List.length l0) : Int) + (0 : Int)))) (ixor IntKind.u8 (List.getD (l0 ++ List.take 5 l1 ++ l2) (Int.toNat (IntKind.wrap .i64 ((↑(List.length l0) : Int) + (0 : Int)))) (0 : Int)) (IntKind.wrap .u8 (ishr IntKind.u64 (ishl IntKind.u64 (IntKind.wrap .u64 n3) (Int.tmod n4 (8 : Int))) (0 : Int))))) (Int.toNat (IntKind.wrap .i64 ((↑(List.length l0) : Int) + (1 : Int)))) (0 : Int)) (IntKind.wrap .u8 (ishr IntKind.u64 (ishl IntKind.u64 (IntKind.wrap .u64 n3) (Int.tmod n4 (8 : Int))) (8 : Int))))) (Int.toNat (IntKind.wrap .i64 ((↑(List.length l0) : Int) + (2 : Int)))) (ixor IntKind.u8 (List.getD (List.set (List.set (l0 ++ List.take 5 l1 ++ l2) (Int.toNat (IntKind.wrap .i64 ((↑(List.length l0) : Int) + (0 : Int)))) (ixor IntKind.u8 (List.getD (l0 ++ List.take 5 l1 ++ l2) (Int.toNat (IntKind.wrap .i64 ((↑(List.length l0) : Int) + (0 : Int)))) (0 : Int)) (IntKind.wrap .u8 (ishr IntKind.u64 (ishl IntKind.u64 (IntKind.wrap .u64 n3) (Int.tmod n4 (8 : Int))) (0 : Int))))) (Int.toNat (IntKind.wrap .i64 ((↑(List.length l0) : Int) + (1 : Int)))) (ixor IntKind.u8 (List.getD (List.set (l0 ++ List.take 5 l1 ++ l2) (Int.toNat (IntKind.wrap .i64 ((↑(List.length l0) : Int) + (0 : Int)))) (ixor IntKind.u8 (List.getD (l0 ++ List.take 5 l1 ++ l2) (Int.toNat (IntKind.wrap .i64 ((↑(List.length l0) : Int) + (0 : Int)))) (0 : Int)) (IntKind.wrap .u8 (ishr IntKind.u64 (ishl IntKind.u64 (IntKind.wrap .u64 n3) (Int.tmod n4 (8 : Int))) (0 : Int))))) (Int.toNat (IntKind.wrap .i64 ((↑(List.length l0) : Int) + (1 : Int)))) (0 : Int)) (IntKind.wrap .u8 (ishr IntKind.u64 (ishl IntKind.u64 (IntKind.wrap .u64 n3) (Int.tmod n4 (8 : Int))) (8 : Int))))) (Int.toNat (IntKind.wrap .i64 ((↑(List.length l0) : Int) + (2 : Int)))) (0 : Int)) (IntKind.wrap .u8 (ishr IntKind.u64 (ishl IntKind.u64 (IntKind.wrap .u64 n3) (Int.tmod n4 (8 : Int))) (16 : Int))))) (Int.toNat (IntKind.wrap .i64 ((↑(List.length l0) : Int) + (3 : Int)))) (ixor IntKind.u8 (List.getD (List.set (List.set (List.set (l0 ++ List.take 5 l1 ++ l2) (Int.toNat (IntKind.wrap .i64 ((↑(List.length l0) : Int) + (0 : Int)))) (ixor IntKind.u8 (List.getD (l0 ++ List.take 5 l1 ++ l2) (Int.toNat (IntKind.wrap .i64 ((↑(List.length l0) : Int) + (0 : Int)))) (0 : Int)) (IntKind.wrap .u8 (ishr IntKind.u64 (ishl IntKind.u64 (IntKind.wrap .u64 n3) (Int.tmod n4 (8 : Int))) (0 : Int))))) (Int.toNat (IntKind.wrap .i64 ((↑(List.length l0) : Int) + (1 : Int)))) (ixor IntKind.u8 (List.getD (List.set (l0 ++ List.take 5 l1 ++ l2) (Int.toNat (IntKind.wrap .i64 ((↑(List.length l0) : Int) + (0 : Int)))) (ixor IntKind.u8 (List.getD (l0 ++ List.take 5 l1 ++ l2) (Int.toNat (IntKind.wrap .i64 ((↑(List.length l0) : Int) + (0 : Int)))) (0 : Int)) (IntKind.wrap .u8 (ishr IntKind.u64 (ishl IntKind.u64 (IntKind.wrap .u64 n3) (Int.tmod n4 (8 : Int))) (0 : Int))))) (Int.toNat (IntKind.wrap .i64 ((↑(List.length l0) : Int) + (1 : Int)))) (0 : Int)) (IntKind.wrap .u8 (ishr IntKind.u64 (ishl IntKind.u64 (IntKind.wrap .u64 n3) (Int.tmod n4 (8 : Int))) (8 : Int))))) (Int.toNat (IntKind.wrap .i64 ((↑(List.length l0) : Int) + (2 : Int)))) (ixor IntKind.u8 (List.getD (List.set (List.set (l0 ++ List.take 5 l1 ++ l2) (Int.toNat (IntKind.wrap .i64 ((↑(List.length l0) : Int) + (0 : Int)))) (ixor IntKind.u8 (List.getD (l0 ++ List.take 5 l1 ++ l2) (Int.toNat (IntKind.wrap .i64 ((↑(List.length l0) : Int) + (0 : Int)))) (0 : Int)) (IntKind.wrap .u8 (ishr IntKind.u64 (ishl IntKind.u64 (IntKind.wrap .u64 n3) (Int.tmod n4 (8 : Int))) (0 : Int))))) (Int.toNat (IntKind.wrap .i64 ((↑(List.length l0) : Int) + (1 : Int)))) (ixor IntKind.u8 (List.getD (List.set (l0 ++ List.take 5 l1 ++ l2) (Int.toNat (IntKind.wrap .i64 ((↑(List.length l0) : Int) + (0 : Int)))) (ixor IntKind.u8 (List.getD (l0 ++ List.take 5 l1 ++ l2) (Int.toNat (IntKind.wrap .i64 ((↑(List.length l0) : Int) + (0 : Int)))) (0 : Int)) (IntKind.wrap .u8 (ishr IntKind.u64 (ishl IntKind.u64 (IntKind.wrap .u64 n3) (Int.tmod n4 (8 : Int))) (0 : Int))))) (Int.toNat (IntKind.wrap .i64 ((↑(List.length l0) : Int) + (1 : Int)))) (0 : Int)) (IntKind.wrap .u8 (ishr IntKind.u64 (ishl IntKind.u64 (IntKind.wrap .u64 n3) (Int.tmod n4 (8 : Int))) (8 : Int))))) (Int.toNat (IntKind.wrap .i64 ((↑(List.length l0) : Int) + (2 : Int)))) (0 : Int)) (IntKind.wrap .u8 (ishr IntKind.u64 (ishl IntKind.u64 (IntKind.wrap .u64 n3) (Int.tmod n4 (8 : Int))) (16 : Int))))) (Int.toNat (IntKind.wrap .i64 ((↑(List.length l0) : Int) + (3 : Int)))) (0 : Int)) (IntKind.wrap .u8 (ishr IntKind.u64 (ishl IntKind.u64 (IntKind.wrap .u64 n3) (Int.tmod n4 (8 : Int))) (24 : Int)))))))
                      (.node (inR (IntKind.wrap .i64 ((↑(List.length l0) : Int) + (4 : Int))) (List.length (List.set (List.set (List.set (List.set (l0 ++ List.take 5 l1 ++ l2) (Int.toNat (IntKind.wrap .i64 ((↑(List.length l0) : Int) + (0 : Int)))) (ixor IntKind.u8 (List.getD (l0 ++ List.take 5 l1 ++ l2) (Int.toNat (IntKind.wrap .i64 ((↑(List.length l0) : Int) + (0 : Int)))) (0 : Int)) (IntKind.wrap .u8 (ishr IntKind.u64 (ishl IntKind.u64 (IntKind.wrap .u64 n3) (Int.tmod n4 (8 : Int))) (0 : Int))))) (Int.toNat (IntKind.wrap .i64 ((↑(List.length l0) : Int) + (1 : Int)))) (ixor IntKind.u8 (List.getD (List.set (l0 ++ List.take 5 l1 ++ l2) (Int.toNat (IntKind.wrap .i64 ((↑(List.length l0) : Int) + (0 : Int)))) (ixor IntKind.u8 (List.getD (l0 ++ List.take 5 l1 ++ l2) (Int.toNat (IntKind.wrap .i64 ((↑(List.length l0) : Int) + (0 : Int)))) (0 : Int)) (IntKind.wrap .u8 (ishr IntKind.u64 (ishl IntKind.u64 (IntKind.wrap .u64 n3) (Int.tmod n4 (8 : Int))) (0 : Int))))) (Int.toNat (IntKind.wrap .i64 ((↑(List.length l0) : Int) + (1 : Int)))) (0 : Int)) (IntKind.wrap .u8 (ishr IntKind.u64 (ishl IntKind.u64 (IntKind.wrap .u64 n3) (Int.tmod n4 (8 : Int))) (8 : Int))))) (Int.toNat (IntKind.wrap .i64 ((↑(List.length l0) : Int) + (2 : Int)))) (ixor IntKind.u8 (List.getD (List.set (List.set (l0 ++ List.take 5 l1 ++ l2) (Int.toNat (IntKind.wrap .i64 ((↑(List.length l0) : Int) + (0 : Int)))) (ixor IntKind.u8 (List.getD (l0 ++ List.take 5 l1 ++ l2) (Int.toNat (IntKind.wrap .i64 ((↑(List.length l0) : Int) + (0 : Int)))) (0 : Int)) (IntKind.wrap .u8 (ishr IntKind.u64 (ishl IntKind.u64 (IntKind.wrap .u64 n3) (Int.tmod n4 (8 : Int))) (0 : Int))))) (Int.toNat (IntKind.wrap .i64 ((↑(List.length l0) : Int) + (1 : Int)))) (ixor IntKind.u8 (List.getD (List.set (l0 ++ List.take 5 l1 ++ l2) (Int.toNat (IntKind.wrap .i64 ((↑(List.length l0) : Int) + (0 : Int)))) (ixor IntKind.u8 (List.getD (l0 ++ List.take 5 l1 ++ l2) (Int.toNat (IntKind.wrap .i64 ((↑(List.length l0) : Int) + (0 : Int)))) (0 : Int)) (IntKind.wrap .u8 (ishr IntKind.u64 (ishl IntKind.u64 (IntKind.wrap .u64 n3) (Int.tmod n4 (8 : Int))) (0 : Int))))) (Int.toNat (IntKind.wrap .i64 ((↑(List.length l0) : Int) + (1 : Int)))) (0 : Int)) (IntKind.wrap .u8 (ishr IntKind.u64 (ishl IntKind.u64 (IntKind.wrap .u64 n3) (Int.tmod n4 (8 : Int))) (8 : Int))))) (Int.toNat (IntKind.wrap .i64 ((↑(List.length l0) : Int) + (2 : Int)))) (0 : Int)) (IntKind.wrap .u8 (ishr IntKind.u64 (ishl IntKind.u64 (IntKind.wrap .u64 n3) (Int.tmod n4 (8 : Int))) (16 : Int))))) (Int.toNat (IntKind.wrap .i64 ((↑(List.length l0) : Int) + (3 : Int)))) (ixor IntKind.u8 (List.getD (List.set (List.set (List.set (l0 ++ List.take 5 l1 ++ l2) (Int.toNat (IntKind.wrap .i64 ((↑(List.length l0) : Int) + (0 : Int)))) (ixor IntKind.u8 (List.getD (l0 ++ List.take 5 l1 ++ l2) (Int.toNat (IntKind.wrap .i64 ((↑(List.length l0) : Int) + (0 : Int)))) (0 : Int)) (IntKind.wrap .u8 (ishr IntKind.u64 (ishl IntKind.u64 (IntKind.wrap .u64 n3) (Int.tmod n4 (8 : Int))) (0 : Int))))) (Int.toNat (IntKind.wrap .i64 ((↑(List.length l0) : Int) + (1 : Int)))) (ixor IntKind.u8 (List.getD (List.set (l0 ++ List.take 5 l1 ++ l2) (Int.toNat (IntKind.wrap .i64 ((↑(List.length l0) : Int) + (0 : Int)))) (ixor IntKind.u8 (List.getD (l0 ++ List.take 5 l1 ++ l2) (Int.toNat (IntKind.wrap .i64 ((↑(List.length l0) : Int) + (0 : Int)))) (0 : Int)) (IntKind.wrap .u8 (ishr IntKind.u64 (ishl IntKind.u64 (IntKind.wrap .u64 n3) (Int.tmod n4 (8 : Int))) (0 : Int))))) (Int.toNat (IntKind.wrap .i64 ((↑(List.length l0) : Int) + (1 : Int)))) (0 : Int)) (IntKind.wrap .u8 (ishr IntKind.u64 (ishl IntKind.u64 (IntKind.wrap .u64 n3) (Int.tmod n4 (8 : Int))) (8 : Int))))) (Int.toNat (IntKind.wrap .i64 ((↑(List.length l0) : Int) + (2 : Int)))) (ixor IntKind.u8 (List.getD (List.set (List.set (l0 ++ List.take 5 l1 ++ l2) (Int.toNat (IntKind.wrap .i64 ((↑(List.length l0) : Int) + (0 : Int)))) (ixor IntKind.u8 (List.getD (l0 ++ List.take 5 l1 ++ l2) (Int.toNat (IntKind.wrap .i64 ((↑(List.length l0) : Int) + (0 : Int)))) (0 : Int)) (IntKind.wrap .u8 (ishr IntKind.u64 (ishl IntKind.u64 (IntKind.wrap .u64 n3) (Int.tmod n4 (8 : Int))) (0 : Int))))) (Int.toNat (IntKind.wrap .i64 ((↑(List.length l0) : Int) + (1 : Int)))) (ixor IntKind.u8 (List.getD (List.set (l0 ++ List.take 5 l1 ++ l2) (Int.toNat (IntKind.wrap .i64 ((↑(List.length l0) : Int) + (0 : Int)))) (ixor IntKind.u8 (List.getD (l0 ++ List.take 5 l1 ++ l2) (Int.toNat (IntKind.wrap .i64 ((↑(List.length l0) : Int) + (0 : Int)))) (0 : Int)) (IntKind.wrap .u8 (ishr IntKind.u64 (ishl IntKind.u64 (IntKind.wrap .u64 n3) (Int.tmod n4 (8 : Int))) (0 : Int))))) (Int.toNat (IntKind.wrap .i64 ((↑(List.length l0) : Int) + (1 : Int)))) (0 : Int)) (IntKind.wrap .u8 (ishr IntKind.u64 (ishl IntKind.u64 (IntKind.wrap .u64 n3) (Int.tmod n4 (8 : Int))) (8 : Int))))) (Int.toNat (IntKind.wrap .i64 ((↑(List.length l0) : Int) + (2 : Int)))) (0 : Int)) (IntKind.wrap .u8 (ishr IntKind.u64 (ishl IntKind.u64 (IntKind.wrap .u64 n3) (Int.tmod n4 (8 : Int))) (16 : Int))))) (Int.toNat (IntKind.wrap .i64 ((↑(List.length l0) : Int) + (3 : Int)))) (0 : Int)) (IntKind.wrap .u8 (ishr IntKind.u64 (ishl IntKind.u64 (IntKind.wrap .u64 n3) (Int.tmod n4 (8 : Int))) (24 : Int)))))))
                       (.node (isK 0 [HK.n] (op_12 [.l (Ty.int IntKind.u8) (l0 ++ List.take 5 l1 ++ l2)]))
                        (.node (isK 0 [HK.n] (op_12 [.l (Ty.int IntKind.u8) (List.set (List.set (List.set (List.set (List.set (l0 ++ List.take 5 l1 ++ l2) (Int.toNat (IntKind.wrap .i64 ((↑(List.length l0) : Int) + (0 : Int)))) (ixor IntKind.u8 (List.getD (l0 ++ List.take 5 l1 ++ l2) (Int.toNat (IntKind.wrap .i64 ((↑(List.length l0) : Int) + (0 : Int)))) (0 : Int)) (IntKind.wrap .u8 (ishr IntKind.u64 (ishl IntKind.u64 (IntKind.wrap .u64 n3) (Int.tmod n4 (8 : Int))) (0 : Int))))) (Int.toNat (IntKind.wrap .i64 ((↑(List.length l0) : Int) + (1 : Int)))) (ixor IntKind.u8 (List.getD (List.set (l0 ++ List.take 5 l1 ++ l2) (Int.toNat (IntKind.wrap .i64 ((↑(List.length l0) : Int) + (0 : Int)))) (ixor IntKind.u8 (List.getD (l0 ++ List.take 5 l1 ++ l2) (Int.toNat (IntKind.wrap .i64 ((↑(List.length l0) : Int) + (0 : Int)))) (0 : Int)) (IntKind.wrap .u8 (ishr IntKind.u64 (ishl IntKind.u64 (IntKind.wrap .u64 n3) (Int.tmod n4 (8 : Int))) (0 : Int))))) (Int.toNat (IntKind.wrap .i64 ((↑(List.length l0) : Int) + (1 : Int)))) (0 : Int)) (IntKind.wrap .u8 (ishr IntKind.u64 (ishl IntKind.u64 (IntKind.wrap .u64 n3) (Int.tmod n4 (8 : Int))) (8 : Int))))) (Int.toNat (IntKind.wrap .i64 ((↑(List.length l0) : Int) + (2 : Int)))) (ixor IntKind.u8 (List.getD (List.set (List.set (l0 ++ List.take 5 l1 ++ l2) (Int.toNat (IntKind.wrap .i64 ((↑(List.length l0) : Int) + (0 : Int)))) (ixor IntKind.u8 (List.getD (l0 ++ List.take 5 l1 ++ l2) (Int.toNat (IntKind.wrap .i64 ((↑(List.length l0) : Int) + (0 : Int)))) (0 : Int)) (IntKind.wrap .u8 (ishr IntKind.u64 (ishl IntKind.u64 (IntKind.wrap .u64 n3) (Int.tmod n4 (8 : Int))) (0 : Int))))) (Int.toNat (IntKind.wrap .i64 ((↑(List.length l0) : Int) + (1 : Int)))) (ixor IntKind.u8 (List.getD (List.set (l0 ++ List.take 5 l1 ++ l2) (Int.toNat (IntKind.wrap .i64 ((↑(List.length l0) : Int) + (0 : Int)))) (ixor IntKind.u8 (List.getD (l0 ++ List.take 5 l1 ++ l2) (Int.toNat (IntKind.wrap .i64 ((↑(List.length l0) : Int) + (0 : Int)))) (0 : Int)) (IntKind.wrap .u8 (ishr IntKind.u64 (ishl IntKind.u64 (IntKind.wrap .u64 n3) (Int.tmod n4 (8 : Int))) (0 : Int))))) (Int.toNat (IntKind.wrap .i64 ((↑(List.length l0) : Int) + (1 : Int)))) (0 : Int)) (IntKind.wrap .u8 (ishr IntKind.u64 (ishl IntKind.u64 (IntKind.wrap .u64 n3) (Int.tmod n4 (8 : Int))) (8 : Int))))) (Int.toNat (IntKind.wrap .i64 ((↑(List.length l0) : Int) + (2 : Int)))) (0 : Int)) (IntKind.wrap .u8 (ishr IntKind.u64 (ishl IntKind.u64 (IntKind.wrap .u64 n3) (Int.tmod n4 (8 : Int))) (16 : Int))))) (Int.toNat (IntKind.wrap .i64 ((↑(List.length l0) : Int) + (3 : Int)))) (ixor IntKind.u8 (List.getD (List.set (List.set (List.set (l0 ++ List.take 5 l1 ++ l2) (Int.toNat (IntKind.wrap .i64 ((↑(List.length l0) : Int) + (0 : Int)))) (ixor IntKind.u8 (List.getD (l0 ++ List.take 5 l1 ++ l2) (Int.toNat (IntKind.wrap .i64 ((↑(List.length l0) : Int) + (0 : Int)))) (0 : Int)) (IntKind.wrap .u8 (ishr IntKind.u64 (ishl IntKind.u64 (IntKind.wrap .u64 n3) (Int.tmod n4 (8 : Int))) (0 : Int))))) (Int.toNat (IntKind.wrap .i64 ((↑(List.length l0) : Int) + (1 : Int)))) (ixor IntKind.u8 (List.getD (List.set (l0 ++ List.take 5 l1 ++ l2) (Int.toNat (IntKind.wrap .i64 ((↑(List.length l0) : Int) + (0 : Int)))) (ixor IntKind.u8 (List.getD (l0 ++ List.take 5 l1 ++ l2) (Int.toNat (IntKind.wrap .i64 ((↑(List.length l0) : Int) + (0 : Int)))) (0 : Int)) (IntKind.wrap .u8 (ishr IntKind.u64 (ishl IntKind.u64 (IntKind.wrap .u64 n3) (Int.tmod n4 (8 : Int))) (0 : Int))))) (Int.toNat (IntKind.wrap .i64 ((↑(List.length l0) : Int) + (1 : Int)))) (0 : Int)) (IntKind.wrap .u8 (ishr IntKind.u64 (ishl IntKind.u64 (IntKind.wrap .u64 n3) (Int.tmod n4 (8 : Int))) (8 : Int))))) (Int.toNat (IntKind.wrap .i64 ((↑(List.length l0) : Int) + (2 : Int)))) (ixor IntKind.u8 (List.getD (List.set (List.set (l0 ++ List.take 5 l1 ++ l2) (Int.toNat (IntKind.wrap .i64 ((↑(List.length l0) : Int) + (0 : Int)))) (ixor IntKind.u8 (List.getD (l0 ++ List.take 5 l1 ++ l2) (Int.toNat (IntKind.wrap .i64 ((↑(List.length l0) : Int) + (0 : Int)))) (0 : Int)) (IntKind.wrap .u8 (ishr IntKind.u64 (ishl IntKind.u64 (IntKind.wrap .u64 n3) (Int.tmod n4 (8 : Int))) (0 : Int))))) (Int.toNat (IntKind.wrap .i64 ((↑(List.length l0) : Int) + (1 : Int)))) (ixor IntKind.u8 (List.getD (List.set (l0 ++ List.take 5 l1 ++ l2) (Int.toNat (IntKind.wrap .i64 ((↑(List.length l0) : Int) + (0 : Int)))) (ixor IntKind.u8 (List.getD (l0 ++ List.take 5 l1 ++ l2) (Int.toNat (IntKind.wrap .i64 ((↑(List.length l0) : Int) + (0 : Int)))) (0 : Int)) (IntKind.wrap .u8 (ishr IntKind.u64 (ishl IntKind.u64 (IntKind.wrap .u64 n3) (Int.tmod n4 (8 : Int))) (0 : Int))))) (Int.toNat (IntKind.wrap .i64 ((↑(List.length l0) : Int) + (1 : Int)))) (0 : Int)) (IntKind.wrap .u8 (ishr IntKind.u64 (ishl IntKind.u64 (IntKind.wrap .u64 n3) (Int.tmod n4 (8 : Int))) (8 : Int))))) (Int.toNat (IntKind.wrap .i64 ((↑(List.length l0) : Int) + (2 : Int)))) (0 : Int)) (IntKind.wrap .u8 (ishr IntKind.u64 (ishl IntKind.u64 (IntKind.wrap .u64 n3) (Int.tmod n4 (8 : Int))) (16 : Int))))) (Int.toNat (IntKind.wrap .i64 ((↑(List.length l0) : Int) + (3 : Int)))) (0 : Int)) (IntKind.wrap .u8 (ishr IntKind.u64 (ishl IntKind.u64 (IntKind.wrap .u64 n3) (Int.tmod n4 (8 : Int))) (24 : Int))))) (Int.toNat (IntKind.wrap .i64 ((↑(List.length l0) : Int) + (4 : Int)))) (ixor IntKind.u8 (List.getD (List.set (List.set (List.set (List.set (l0 ++ List.take 5 l1 ++ l2) (Int.toNat (IntKind.wrap .i64 ((↑(List.length l0) : Int) + (0 : Int)))) (ixor IntKind.u8 (List.getD (l0 ++ List.take 5 l1 ++ l2) (Int.toNat (IntKind.wrap .i64 ((↑(List.length l0) : Int) + (0 : Int)))) (0 : Int)) (IntKind.wrap .u8 (ishr IntKind.u64 (ishl IntKind.u64 (IntKind.wrap .u64 n3) (Int.tmod n4 (8 : Int))) (0 : Int))))) (Int.toNat (IntKind.wrap .i64 ((↑(List.length l0) : Int) + (1 : Int)))) (ixor IntKind.u8 (List.getD (List.set (l0 ++ List.take 5 l1 ++ l2) (Int.toNat (IntKind.wrap .i64 ((↑(List.length l0) : Int) + (0 : Int)))) (ixor IntKind.u8 (List.getD (l0 ++ List.take 5 l1 ++ l2) (Int.toNat (IntKind.wrap .i64 ((↑(List.length l0) : Int) + (0 : Int)))) (0 : Int)) (IntKind.wrap .u8 (ishr IntKind.u64 (ishl IntKind.u64 (IntKind.wrap .u64 n3) (Int.tmod n4 (8 : Int))) (0 : Int))))) (Int.toNat (IntKind.wrap .i64 ((↑(List.length l0) : Int) + (1 : Int)))) (0 : Int)) (IntKind.wrap .u8 (ishr IntKind.u64 (ishl IntKind.u64 (IntKind.wrap .u64 n3) (Int.tmod n4 (8 : Int))) (8 : Int))))) (Int.toNat (IntKind.wrap .i64 ((↑(List.length l0) : Int) + (2 : Int)))) (ixor IntKind.u8 (List.getD (List.set (List.set (l0 ++ List.take 5 l1 ++ l2) (Int.toNat (IntKind.wrap .i64 ((↑(List.length l0) : Int) + (0 : Int)))) (ixor IntKind.u8 (List.getD (l0 ++ List.take 5 l1 ++ l2) (Int.toNat (IntKind.wrap .i64 ((↑(List.length l0) : Int) + (0 : Int)))) (0 : Int)) (IntKind.wrap .u8 (ishr IntKind.u64 (ishl IntKind.u64 (IntKind.wrap .u64 n3) (Int.tmod n4 (8 : Int))) (0 : Int))))) (Int.toNat (IntKind.wrap .i64 ((↑(List.length l0) : Int) + (1 : Int)))) (ixor IntKind.u8 (List.getD (List.set (l0 ++ List.take 5 l1 ++ l2) (Int.toNat (IntKind.wrap .i64 ((↑(List.length l0) : Int) + (0 : Int)))) (ixor IntKind.u8 (List.getD (l0 ++ List.take 5 l1 ++ l2) (Int.toNat (IntKind.wrap .i64 ((↑(List.length l0) : Int) + (0 : Int)))) (0 : Int)) (IntKind.wrap .u8 (ishr IntKind.u64 (ishl IntKind.u64 (IntKind.wrap .u64 n3) (Int.tmod n4 (8 : Int))) (0 : Int))))) (Int.toNat (IntKind.wrap .i64 ((↑(List.length l0) : Int) + (1 : Int)))) (0 : Int)) (IntKind.wrap .u8 (ishr IntKind.u64 (ishl IntKind.u64 (IntKind.wrap .u64 n3) (Int.tmod n4 (8 : Int))) (8 : Int))))) (Int.toNat (IntKind.wrap .i64 ((↑(List.length l0) : Int) + (2 : Int)))) (0 : Int)) (IntKind.wrap .u8 (ishr IntKind.u64 (ishl IntKind.u64 (IntKind.wrap .u64 n3) (Int.tmod n4 (8 : Int))) (16 : Int))))) (Int.toNat (IntKind.wrap .i64 ((↑(List.length l0) : Int) + (3 : Int)))) (ixor IntKind.u8 (List.getD (List.set (List.set (List.set (l0 ++ List.take 5 l1 ++ l2) (Int.toNat (IntKind.wrap .i64 ((↑(List.length l0) : Int) + (0 : Int)))) (ixor IntKind.u8 (List.getD (l0 ++ List.take 5 l1 ++ l2) (Int.toNat (IntKind.wrap .i64 ((↑(List.length l0) : Int) + (0 : Int)))) (0 : Int)) (IntKind.wrap .u8 (ishr IntKind.u64 (ishl IntKind.u64 (IntKind.wrap .u64 n3) (Int.tmod n4 (8 : Int))) (0 : Int))))) (Int.toNat (IntKind.wrap .i64 ((↑(List.length l0) : Int) + (1 : Int)))) (ixor IntKind.u8 (List.getD (List.set (l0 ++ List.take 5 l1 ++ l2) (Int.toNat (IntKind.wrap .i64 ((↑(List.length l0) : Int) + (0 : Int)))) (ixor IntKind.u8 (List.getD (l0 ++ List.take 5 l1 ++ l2) (Int.toNat (IntKind.wrap .i64 ((↑(List.length l0) : Int) + (0 : Int)))) (0 : Int)) (IntKind.wrap .u8 (ishr IntKind.u64 (ishl IntKind.u64 (IntKind.wrap .u64 n3) (Int.tmod n4 (8 : Int))) (0 : Int))))) (Int.toNat (IntKind.wrap .i64 ((↑(List.length l0) : Int) + (1 : Int)))) (0 : Int)) (IntKind.wrap .u8 (ishr IntKind.u64 (ishl IntKind.u64 (IntKind.wrap .u64 n3) (Int.tmod n4 (8 : Int))) (8 : Int))))) (Int.toNat (IntKind.wrap .i64 ((↑(List.length l0) : Int) + (2 : Int)))) (ixor IntKind.u8 (List.getD (List.set (List.set (l0 ++ List.take 5 l1 ++ l2) (Int.toNat (IntKind.wrap .i64 ((↑(List.length l0) : Int) + (0 : Int)))) (ixor IntKind.u8 (List.getD (l0 ++ List.take 5 l1 ++ l2) (Int.toNat (IntKind.wrap .i64 ((↑(List.length l0) : Int) + (0 : Int)))) (0 : Int)) (IntKind.wrap .u8 (ishr IntKind.u64 (ishl IntKind.u64 (IntKind.wrap .u64 n3) (Int.tmod n4 (8 : Int))) (0 : Int))))) (Int.toNat (IntKind.wrap .i64 ((↑(List.length l0) : Int) + (1 : Int)))) (ixor IntKind.u8 (List.getD (List.set (l0 ++ List.take 5 l1 ++ l2) (Int.toNat (IntKind.wrap .i64 ((↑(List.length l0) : Int) + (0 : Int)))) (ixor IntKind.u8 (List.getD (l0 ++ List.take 5 l1 ++ l2) (Int.toNat (IntKind.wrap .i64 ((↑(List.length l0) : Int) + (0 : Int)))) (0 : Int)) (IntKind.wrap .u8 (ishr IntKind.u64 (ishl IntKind.u64 (IntKind.wrap .u64 n3) (Int.tmod n4 (8 : Int))) (0 : Int))))) (Int.toNat (IntKind.wrap .i64 ((↑(List.length l0) : Int) + (1 : Int)))) (0 : Int)) (IntKind.wrap .u8 (ishr IntKind.u64 (ishl IntKind.u64 (IntKind.wrap .u64 n3) (Int.tmod n4 (8 : Int))) (8 : Int))))) (Int.toNat (IntKind.wrap .i64 ((↑(List.length l0) : Int) + (2 : Int)))) (0 : Int)) (IntKind.wrap .u8 (ishr IntKind.u64 (ishl IntKind.u64 (IntKind.wrap .u64 n3) (Int.tmod n4 (8 : Int))) (16 : Int))))) (Int.toNat (IntKind.wrap .i64 ((↑(List.length l0) : Int) + (3 : Int)))) (0 : Int)) (IntKind.wrap .u8 (ishr IntKind.u64 (ishl IntKind.u64 (IntKind.wrap .u64 n3) (Int.tmod n4 (8 : Int))) (24 : Int))))) (Int.toNat (IntKind.wrap .i64 ((↑(List.length l0) : Int) + (4 : Int)))) (0 : Int)) (IntKind.wrap .u8 (ishr IntKind.u64 (ishl IntKind.u64 (IntKind.wrap .u64 n3) (Int.tmod n4 (8 : Int))) (32 : Int)))))]))
                         (.node ((gn (dOf (op_12 [.l (Ty.int IntKind.u8) (l0 ++ List.take 5 l1 ++ l2)])) 0 == gn (dOf (op_12 [.l (Ty.int IntKind.u8) (List.set (List.set (List.set (List.set (List.set (l0 ++ List.take 5 l1 ++ l2) (Int.toNat (IntKind.wrap .i64 ((↑(List.length l0) : Int) + (0 : Int)))) (ixor IntKind.u8 (List.getD (l0 ++ List.take 5 l1 ++ l2) (Int.toNat (IntKind.wrap .i64 ((↑(List.length l0) : Int) + (0 : Int)))) (0 : Int)) (IntKind.wrap .u8 (ishr IntKind.u64 (ishl IntKind.u64 (IntKind.wrap .u64 n3) (Int.tmod n4 (8 : Int))) (0 : Int))))) (Int.toNat (IntKind.wrap .i64 ((↑(List.length l0) : Int) + (1 : Int)))) (ixor IntKind.u8 (List.getD (List.set (l0 ++ List.take 5 l1 ++ l2) (Int.toNat (IntKind.wrap .i64 ((↑(List.length l0) : Int) + (0 : Int)))) (ixor IntKind.u8 (List.getD (l0 ++ List.take 5 l1 ++ l2) (Int.toNat (IntKind.wrap .i64 ((↑(List.length l0) : Int) + (0 : Int)))) (0 : Int)) (IntKind.wrap .u8 (ishr IntKind.u64 (ishl IntKind.u64 (IntKind.wrap .u64 n3) (Int.tmod n4 (8 : Int))) (0 : Int))))) (Int.toNat (IntKind.wrap .i64 ((↑(List.length l0) : Int) + (1 : Int)))) (0 : Int)) (IntKind.wrap .u8 (ishr IntKind.u64 (ishl IntKind.u64 (IntKind.wrap .u64 n3) (Int.tmod n4 (8 : Int))) (8 : Int))))) (Int.toNat (IntKind.wrap .i64 ((↑(List.length l0) : Int) + (2 : Int)))) (ixor IntKind.u8 (List.getD (List.set (List.set (l0 ++ List.take 5 l1 ++ l2) (Int.toNat (IntKind.wrap .i64 ((↑(List.length l0) : Int) + (0 : Int)))) (ixor IntKind.u8 (List.getD (l0 ++ List.take 5 l1 ++ l2) (Int.toNat (IntKind.wrap .i64 ((↑(List.length l0) : Int) + (0 : Int)))) (0 : Int)) (IntKind.wrap .u8 (ishr IntKind.u64 (ishl IntKind.u64 (IntKind.wrap .u64 n3) (Int.tmod n4 (8 : Int))) (0 : Int))))) (Int.toNat (IntKind.wrap .i64 ((↑(List.length l0) : Int) + (1 : Int)))) (ixor IntKind.u8 (List.getD (List.set (l0 ++ List.take 5 l1 ++ l2) (Int.toNat (IntKind.wrap .i64 ((↑(List.length l0) : Int) + (0 : Int)))) (ixor IntKind.u8 (List.getD (l0 ++ List.take 5 l1 ++ l2) (Int.toNat (IntKind.wrap .i64 ((↑(List.length l0) : Int) + (0 : Int)))) (0 : Int)) (IntKind.wrap .u8 (ishr IntKind.u64 (ishl IntKind.u64 (IntKind.wrap .u64 n3) (Int.tmod n4 (8 : Int))) (0 : Int))))) (Int.toNat (IntKind.wrap .i64 ((↑(List.length l0) : Int) + (1 : Int)))) (0 : Int)) (IntKind.wrap .u8 (ishr IntKind.u64 (ishl IntKind.u64 (IntKind.wrap .u64 n3) (Int.tmod n4 (8 : Int))) (8 : Int))))) (Int.toNat (IntKind.wrap .i64 ((↑(List.length l0) : Int) + (2 : Int)))) (0 : Int)) (IntKind.wrap .u8 (ishr IntKind.u64 (ishl IntKind.u64 (IntKind.wrap .u64 n3) (Int.tmod n4 (8 : Int))) (16 : Int))))) (Int.toNat (IntKind.wrap .i64 ((↑(List.length l0) : Int) + (3 : Int)))) (ixor IntKind.u8 (List.getD (List.set (List.set (List.set (l0 ++ List.take 5 l1 ++ l2) (Int.toNat (IntKind.wrap .i64 ((↑(List.length l0) : Int) + (0 : Int)))) (ixor IntKind.u8 (List.getD (l0 ++ List.take 5 l1 ++ l2) (Int.toNat (IntKind.wrap .i64 ((↑(List.length l0) : Int) + (0 : Int)))) (0 : Int)) (IntKind.wrap .u8 (ishr IntKind.u64 (ishl IntKind.u64 (IntKind.wrap .u64 n3) (Int.tmod n4 (8 : Int))) (0 : Int))))) (Int.toNat (IntKind.wrap .i64 ((↑(List.length l0) : Int) + (1 : Int)))) (ixor IntKind.u8 (List.getD (List.set (l0 ++ List.take 5 l1 ++ l2) (Int.toNat (IntKind.wrap .i64 ((↑(List.length l0) : Int) + (0 : Int)))) (ixor IntKind.u8 (List.getD (l0 ++ List.take 5 l1 ++ l2) (Int.toNat (IntKind.wrap .i64 ((↑(List.length l0) : Int) + (0 : Int)))) (0 : Int)) (IntKind.wrap .u8 (ishr IntKind.u64 (ishl IntKind.u64 (IntKind.wrap .u64 n3) (Int.tmod n4 (8 : Int))) (0 : Int))))) (Int.toNat (IntKind.wrap .i64 ((↑(List.length l0) : Int) + (1 : Int)))) (0 : Int)) (IntKind.wrap .u8 (ishr IntKind.u64 (ishl IntKind.u64 (IntKind.wrap .u64 n3) (Int.tmod n4 (8 : Int))) (8 : Int))))) (Int.toNat (IntKind.wrap .i64 ((↑(List.length l0) : Int) + (2 : Int)))) (ixor IntKind.u8 (List.getD (List.set (List.set (l0 ++ List.take 5 l1 ++ l2) (Int.toNat (IntKind.wrap .i64 ((↑(List.length l0) : Int) + (0 : Int)))) (ixor IntKind.u8 (List.getD (l0 ++ List.take 5 l1 ++ l2) (Int.toNat (IntKind.wrap .i64 ((↑(List.length l0) : Int) + (0 : Int)))) (0 : Int)) (IntKind.wrap .u8 (ishr IntKind.u64 (ishl IntKind.u64 (IntKind.wrap .u64 n3) (Int.tmod n4 (8 : Int))) (0 : Int))))) (Int.toNat (IntKind.wrap .i64 ((↑(List.length l0) : Int) + (1 : Int)))) (ixor IntKind.u8 (List.getD (List.set (l0 ++ List.take 5 l1 ++ l2) (Int.toNat (IntKind.wrap .i64 ((↑(List.length l0) : Int) + (0 : Int)))) (ixor IntKind.u8 (List.getD (l0 ++ List.take 5 l1 ++ l2) (Int.toNat (IntKind.wrap .i64 ((↑(List.length l0) : Int) + (0 : Int)))) (0 : Int)) (IntKind.wrap .u8 (ishr IntKind.u64 (ishl IntKind.u64 (IntKind.wrap .u64 n3) (Int.tmod n4 (8 : Int))) (0 : Int))))) (Int.toNat (IntKind.wrap .i64 ((↑(List.length l0) : Int) + (1 : Int)))) (0 : Int)) (IntKind.wrap .u8 (ishr IntKind.u64 (ishl IntKind.u64 (IntKind.wrap .u64 n3) (Int.tmod n4 (8 : Int))) (8 : Int))))) (Int.toNat (IntKind.wrap .i64 ((↑(List.length l0) : Int) + (2 : Int)))) (0 : Int)) (IntKind.wrap .u8 (ishr IntKind.u64 (ishl IntKind.u64 (IntKind.wrap .u64 n3) (Int.tmod n4 (8 : Int))) (16 : Int))))) (Int.toNat (IntKind.wrap .i64 ((↑(List.length l0) : Int) + (3 : Int)))) (0 : Int)) (IntKind.wrap .u8 (ishr IntKind.u64 (ishl IntKind.u64 (IntKind.wrap .u64 n3) (Int.tmod n4 (8 : Int))) (24 : Int))))) (Int.toNat (IntKind.wrap .i64 ((↑(List.length l0) : Int) + (4 : Int)))) (ixor IntKind.u8 (List.getD (List.set (List.set (List.set (List.set (l0 ++ List.take 5 l1 ++ l2) (Int.toNat (IntKind.wrap .i64 ((↑(List.length l0) : Int) + (0 : Int)))) (ixor IntKind.u8 (List.getD (l0 ++ List.take 5 l1 ++ l2) (Int.toNat (IntKind.wrap .i64 ((↑(List.length l0) : Int) + (0 : Int)))) (0 : Int)) (IntKind.wrap .u8 (ishr IntKind.u64 (ishl IntKind.u64 (IntKind.wrap .u64 n3) (Int.tmod n4 (8 : Int))) (0 : Int))))) (Int.toNat (IntKind.wrap .i64 ((↑(List.length l0) : Int) + (1 : Int)))) (ixor IntKind.u8 (List.getD (List.set (l0 ++ List.take 5 l1 ++ l2) (Int.toNat (IntKind.wrap .i64 ((↑(List.length l0) : Int) + (0 : Int)))) (ixor IntKind.u8 (List.getD (l0 ++ List.take 5 l1 ++ l2) (Int.toNat (IntKind.wrap .i64 ((↑(List.length l0) : Int) + (0 : Int)))) (0 : Int)) (IntKind.wrap .u8 (ishr IntKind.u64 (ishl IntKind.u64 (IntKind.wrap .u64 n3) (Int.tmod n4 (8 : Int))) (0 : Int))))) (Int.toNat (IntKind.wrap .i64 ((↑(List.length l0) : Int) + (1 : Int)))) (0 : Int)) (IntKind.wrap .u8 (ishr IntKind.u64 (ishl IntKind.u64 (IntKind.wrap .u64 n3) (Int.tmod n4 (8 : Int))) (8 : Int))))) (Int.toNat (IntKind.wrap .i64 ((↑(List.length l0) : Int) + (2 : Int)))) (ixor IntKind.u8 (List.getD (List.set (List.set (l0 ++ List.take 5 l1 ++ l2) (Int.toNat (IntKind.wrap .i64 ((↑(List.length l0) : Int) + (0 : Int)))) (ixor IntKind.u8 (List.getD (l0 ++ List.take 5 l1 ++ l2) (Int.toNat (IntKind.wrap .i64 ((↑(List.length l0) : Int) + (0 : Int)))) (0 : Int)) (IntKind.wrap .u8 (ishr IntKind.u64 (ishl IntKind.u64 (IntKind.wrap .u64 n3) (Int.tmod n4 (8 : Int))) (0 : Int))))) (Int.toNat (IntKind.wrap .i64 ((↑(List.length l0) : Int) + (1 : Int)))) (ixor IntKind.u8 (List.getD (List.set (l0 ++ List.take 5 l1 ++ l2) (Int.toNat (IntKind.wrap .i64 ((↑(List.length l0) : Int) + (0 : Int)))) (ixor IntKind.u8 (List.getD (l0 ++ List.take 5 l1 ++ l2) (Int.toNat (IntKind.wrap .i64 ((↑(List.length l0) : Int) + (0 : Int)))) (0 : Int)) (IntKind.wrap .u8 (ishr IntKind.u64 (ishl IntKind.u64 (IntKind.wrap .u64 n3) (Int.tmod n4 (8 : Int))) (0 : Int))))) (Int.toNat (IntKind.wrap .i64 ((↑(List.length l0) : Int) + (1 : Int)))) (0 : Int)) (IntKind.wrap .u8 (ishr IntKind.u64 (ishl IntKind.u64 (IntKind.wrap .u64 n3) (Int.tmod n4 (8 : Int))) (8 : Int))))) (Int.toNat (IntKind.wrap .i64 ((↑(List.length l0) : Int) + (2 : Int)))) (0 : Int)) (IntKind.wrap .u8 (ishr IntKind.u64 (ishl IntKind.u64 (IntKind.wrap .u64 n3) (Int.tmod n4 (8 : Int))) (16 : Int))))) (Int.toNat (IntKind.wrap .i64 ((↑(List.length l0) : Int) + (3 : Int)))) (ixor IntKind.u8 (List.getD (List.set (List.set (List.set (l0 ++ List.take 5 l1 ++ l2) (Int.toNat (IntKind.wrap .i64 ((↑(List.length l0) : Int) + (0 : Int)))) (ixor IntKind.u8 (List.getD (l0 ++ List.take 5 l1 ++ l2) (Int.toNat (IntKind.wrap .i64 ((↑(List.length l0) : Int) + (0 : Int)))) (0 : Int)) (IntKind.wrap .u8 (ishr IntKind.u64 (ishl IntKind.u64 (IntKind.wrap .u64 n3) (Int.tmod n4 (8 : Int))) (0 : Int))))) (Int.toNat (IntKind.wrap .i64 ((↑(List.length l0) : Int) + (1 : Int)))) (ixor IntKind.u8 (List.getD (List.set (l0 ++ List.take 5 l1 ++ l2) (Int.toNat (IntKind.wrap .i64 ((↑(List.length l0) : Int) + (0 : Int)))) (ixor IntKind.u8 (List.getD (l0 ++ List.take 5 l1 ++ l2) (Int.toNat (IntKind.wrap .i64 ((↑(List.length l0) : Int) + (0 : Int)))) (0 : Int)) (IntKind.wrap .u8 (ishr IntKind.u64 (ishl IntKind.u64 (IntKind.wrap .u64 n3) (Int.tmod n4 (8 : Int))) (0 : Int))))) (Int.toNat (IntKind.wrap .i64 ((↑(List.length l0) : Int) + (1 : Int)))) (0 : Int)) (IntKind.wrap .u8 (ishr IntKind.u64 (ishl IntKind.u64 (IntKind.wrap .u64 n3) (Int.tmod n4 (8 : Int))) (8 : Int))))) (Int.toNat (IntKind.wrap .i64 ((↑(List.length l0) : Int) + (2 : Int)))) (ixor IntKind.u8 (List.getD (List.set (List.set (l0 ++ List.take 5 l1 ++ l2) (Int.toNat (IntKind.wrap .i64 ((↑(List.length l0) : Int) + (0 : Int)))) (ixor IntKind.u8 (List.getD (l0 ++ List.take 5 l1 ++ l2) (Int.toNat (IntKind.wrap .i64 ((↑(List.length l0) : Int) + (0 : Int)))) (0 : Int)) (IntKind.wrap .u8 (ishr IntKind.u64 (ishl IntKind.u64 (IntKind.wrap .u64 n3) (Int.tmod n4 (8 : Int))) (0 : Int))))) (Int.toNat (IntKind.wrap .i64 ((↑(List.length l0) : Int) + (1 : Int)))) (ixor IntKind.u8 (List.getD (List.set (l0 ++ List.take 5 l1 ++ l2) (Int.toNat (IntKind.wrap .i64 ((↑(List.length l0) : Int) + (0 : Int)))) (ixor IntKind.u8 (List.getD (l0 ++ List.take 5 l1 ++ l2) (Int.toNat (IntKind.wrap .i64 ((↑(List.length l0) : Int) + (0 : Int)))) (0 : Int)) (IntKind.wrap .u8 (ishr IntKind.u64 (ishl IntKind.u64 (IntKind.wrap .u64 n3) (Int.tmod n4 (8 : Int))) (0 : Int))))) (Int.toNat (IntKind.wrap .i64 ((↑(List.length l0) : Int) + (1 : Int)))) (0 : Int)) (IntKind.wrap .u8 (ishr IntKind.u64 (ishl IntKind.u64 (IntKind.wrap .u64 n3) (Int.tmod n4 (8 : Int))) (8 : Int))))) (Int.toNat (IntKind.wrap .i64 ((↑(List.length l0) : Int) + (2 : Int)))) (0 : Int)) (IntKind.wrap .u8 (ishr IntKind.u64 (ishl IntKind.u64 (IntKind.wrap .u64 n3) (Int.tmod n4 (8 : Int))) (16 : Int))))) (Int.toNat (IntKind.wrap .i64 ((↑(List.length l0) : Int) + (3 : Int)))) (0 : Int)) (IntKind.wrap .u8 (ishr IntKind.u64 (ishl IntKind.u64 (IntKind.wrap .u64 n3) (Int.tmod n4 (8 : Int))) (24 : Int))))) (Int.toNat (IntKind.wrap .i64 ((↑(List.length l0) : Int) + (4 : Int)))) (0 : Int)) (IntKind.wrap .u8 (ishr IntKind.u64 (ishl IntKind.u64 (IntKind.wrap .u64 n3) (Int.tmod n4 (8 : Int))) (32 : Int)))))])) 0) == (n3 == (0 : Int)))
                          (.leaf (true))
                          (.leaf (false)))
                         (.bad 351))
                        (.bad 351))
                       (.bad 12))
                      (.bad 12))
                     (.bad 12))
                    (.bad 12))
                   (.bad 12))
                  (.bad 12))
                 (.bad 12))
                (.bad 12))
               (.bad 12))
              (.bad 12))
             (.bad 60))
            (.bad 62))
           (.bad 62))
          (.bad 42))
         (.bad 60))
        (.bad 82)))))
  | _ => .bad 0
theorem fr_W9_eq (l0 : List (Ty.den (Ty.int IntKind.u8))) (l1 : List (Ty.den (Ty.int IntKind.u8))) (l2 : List (Ty.den (Ty.int IntKind.u8))) (n3 : Int) (n4 : Int) : ((fun (d : List Dat) => lawB false Try.prog cs_17 9 ls0 (instL [.imm TB 0, .imm TB 1, .imm TB 2, .int .u32 3, .int .u8 4] d)) [.l (Ty.int IntKind.u8) l0, .l (Ty.int IntKind.u8) l1, .l (Ty.int IntKind.u8) l2, .n n3, .n n4]).sel = (fr_W9 [.l (Ty.int IntKind.u8) l0, .l (Ty.int IntKind.u8) l1, .l (Ty.int IntKind.u8) l2, .n n3, .n n4]).sel := by kernel_rfl
theorem fr_W9_pr (l0 : List (Ty.den (Ty.int IntKind.u8))) (l1 : List (Ty.den (Ty.int IntKind.u8))) (l2 : List (Ty.den (Ty.int IntKind.u8))) (n3 : Int) (n4 : Int) : (fr_W9 [.l (Ty.int IntKind.u8) l0, .l (Ty.int IntKind.u8) l1, .l (Ty.int IntKind.u8) l2, .n n3, .n n4]).sel = (fn_W9 [.l (Ty.int IntKind.u8) l0, .l (Ty.int IntKind.u8) l1, .l (Ty.int IntKind.u8) l2, .n n3, .n n4]).sel := (sel_c (fun _ => rfl) (fun h0 => (sel_c (fun _ => rfl) (fun h1 => (sel_c (fun _ => rfl) (fun h2 => (sel_c (fun h3 => (sel_c (fun h4 => (sel_c (fun h5 => (sel_c (fun h6 => (sel_c (fun h7 => (sel_c (fun h8 => (sel_c (fun h9 => (sel_t h9 (sel_c (fun h10 => (sel_t h10 (sel_c (fun h11 => (sel_t h11 (sel_c (fun h12 => (sel_t h12 (sel_c (fun h13 => (sel_t h13 rfl)) (fun _ => rfl)))) (fun _ => rfl)))) (fun _ => rfl)))) (fun _ => rfl)))) (fun _ => rfl))) (fun _ => rfl))) (fun _ => rfl))) (fun _ => rfl))) (fun _ => rfl))) (fun _ => rfl))) (fun _ => rfl))))))))
theorem fn_W9_eq (l0 : List (Ty.den (Ty.int IntKind.u8))) (l1 : List (Ty.den (Ty.int IntKind.u8))) (l2 : List (Ty.den (Ty.int IntKind.u8))) (n3 : Int) (n4 : Int) : ((fun (d : List Dat) => lawB false Try.prog cs_17 9 ls0 (instL [.imm TB 0, .imm TB 1, .imm TB 2, .int .u32 3, .int .u8 4] d)) [.l (Ty.int IntKind.u8) l0, .l (Ty.int IntKind.u8) l1, .l (Ty.int IntKind.u8) l2, .n n3, .n n4]).sel = (fn_W9 [.l (Ty.int IntKind.u8) l0, .l (Ty.int IntKind.u8) l1, .l (Ty.int IntKind.u8) l2, .n n3, .n n4]).sel := (fr_W9_eq l0 l1 l2 n3 n4).trans (fr_W9_pr l0 l1 l2 n3 n4)
theorem W9_law (env : List Dat) (h : (fn_W9 env).sel = some true) {w : World} {args : Array Value} (ha : LRel R0 (snapOf w) (instL [.imm TB 0, .imm TB 1, .imm TB 2, .int .u32 3, .int .u8 4] env) args) :
    Calls Try.prog 9 args w fun e w' => e = .returned (.bool true) ∧ Below w.heap.size w w' := by
  refine lawB_ok cs_17_ok hmix false (ls := ls0) (LsOk.none _ _ _) ?_ ha
  unfold fn_W9 at h
  split at h
  · exact (fn_W9_eq _ _ _ _ _).trans h
  · cases h
end Go.Proofs.Ytgjnolljacicfaa.Vx
