import Derived.Test.YtchedebomjmehaaVxNil
import Derived.Test.YtchedebomjmehaaProg
import Derived.KernelRfl
namespace Go.Proofs.Ytchedebomjmehaa.Vx
open Go Go.RowKit
set_option linter.unusedVariables false
set_option maxRecDepth 100000
set_option maxHeartbeats 0

abbrev TI : Ty := .int .i64
abbrev TSt : Ty := .pair (.int .u8) (.pair (.int .u8) (.int .u8))
abbrev TTen : Ty := .pair TI (.pair TI TI)
def bkV (h : Nat) : PV := .agg [.int .i64 h, .int .i64 (h+1), .int .i64 (h+2)]
def grV (h : Nat) : PV := .agg [.int .i64 h, .int .i64 (h+1)]
theorem hmix : Try.prog.follows .mixedOrders = true := by kernel_rfl
theorem csNone_ok0 : CsOk Try.prog csNone := csNone_ok _

def op_44 : List Dat → Option (Nat × List Dat) := fun _ => some (0, [.b true])
def B44 : FBox := (mkF [] [] [] [(.bool 0, [])] op_44)
def cs_44 : FuncId → Option CSpec := csAdd 44 [B44] csNone
theorem fn_44_ok (env : List Dat) (y : Nat × List Dat) (h : op_44 env = some y) : (boxC true Try.prog csNone 44 ls0 (mkF [] [] [] [(.bool 0, [])] fun _ => none) env).sel = some y := by
  cases h
  kernel_rfl
theorem B44_ok : RunOk Try.prog 44 (boxRun B44) := mkF_ok (op := op_44) csNone_ok0 hmix true (LsOk.none _ _ _) fn_44_ok
theorem cs_44_ok : CsOk Try.prog cs_44 := csAdd_ok csNone_ok0 fun B hB => by
  cases List.mem_singleton.1 hB
  exact B44_ok

def fn_L66_2 : List Dat → Tree Step
  | [.n n0, .l (Ty.int IntKind.i64) l1, .n n2, .n n3] =>
    (.node (decide (n3 < n2))
     (.node (inR n3 (List.length l1))
      (.node (decide ((List.getD l1 (Int.toNat n3) (0 : Int) : Int) < (0 : Int)))
       (.leaf (Step.stop 1 [.b false]))
       (.node (decide ((List.getD l1 (Int.toNat n3) (0 : Int) : Int) > n0))
        (.leaf (Step.stop 1 [.b false]))
        (.leaf (Step.go [.n n0, .l (Ty.int IntKind.i64) l1, .n n2, .n (IntKind.wrap .i64 (n3 + (1 : Int)))]))))
      (.bad 10))
     (.leaf (Step.stop 0 [])))
  | _ => .bad 0
def op_L66_2 : List Dat → Option (Nat × List Dat) := iterS fn_L66_2 FU
def L66_2 : LBox := (mkL 0 [] (sh 21 [(0, .int .i64 0), (7, .imm TI 1), (8, .int .i64 2), (9, .int .i64 3)]) [] [] [(.exit 0, sh 21 [], []), (.ret, sh 21 [(4, .bool 0)], [])] op_L66_2)
theorem fn_L66_2_eq (n0 : Int) (l1 : List (Ty.den (Ty.int IntKind.i64))) (n2 : Int) (n3 : Int) : (stepC false Try.prog cs_44 66 2 ls0 (mkL 0 [] (sh 21 [(0, .int .i64 0), (7, .imm TI 1), (8, .int .i64 2), (9, .int .i64 3)]) [] [] [(.exit 0, sh 21 [], []), (.ret, sh 21 [(4, .bool 0)], [])] fun _ => none) [.n n0, .l (Ty.int IntKind.i64) l1, .n n2, .n n3]).sel = (fn_L66_2 [.n n0, .l (Ty.int IntKind.i64) l1, .n n2, .n n3]).sel := by kernel_rfl
theorem fn_L66_2_ok (env : List Dat) (y : Step) (h : (fn_L66_2 env).sel = some y) : (stepC false Try.prog cs_44 66 2 ls0 (mkL 0 [] (sh 21 [(0, .int .i64 0), (7, .imm TI 1), (8, .int .i64 2), (9, .int .i64 3)]) [] [] [(.exit 0, sh 21 [], []), (.ret, sh 21 [(4, .bool 0)], [])] fun _ => none) env).sel = some y := by
  unfold fn_L66_2 at h
  split at h
  · rw [fn_L66_2_eq]; exact h
  · cases h
theorem L66_2_ok (K : Nat) : LsOk Try.prog K (lsTab [(2, L66_2)] K) (bodyOf Try.prog 66) := mkL_ok (st := fn_L66_2) (m := FU) cs_44_ok hmix false (by kernel_rfl) (by kernel_rfl) fn_L66_2_ok
theorem L66_2_run : ∀ t s x, (loopRun L66_2 t s).sel = some x → CodeOk Try.prog 0 (.loop (cAt Try.prog 66 2)) t s x := mkLs_ok (st := fn_L66_2) (m := FU) cs_44_ok hmix false (LsOk.none _ _ _) (by kernel_rfl) fn_L66_2_ok

def fn_66 : List Dat → Tree (Nat × List Dat)
  | [.n n0, .l (Ty.int IntKind.i64) l1] =>
    (let r1 : Option (Nat × List Dat) := (op_L66_2 [.n n0, .l (Ty.int IntKind.i64) l1, .n (↑(List.length l1) : Int), .n (0 : Int)]);
     (.node (isK 0 [] r1)
      (.leaf ((0, [.b true])))
      (.node (isK 1 [HK.b] r1)
       (.leaf ((0, [.b (gb (dOf r1) 0)])))
       (.bad 351))))
  | _ => .bad 0
def op_66 : List Dat → Option (Nat × List Dat) := fun env => (fn_66 env).sel
def B66 : FBox := (mkF [.int .i64 0, .imm TI 1] [] [] [(.bool 0, [])] op_66)
def cs_66 : FuncId → Option CSpec := csLend 66 B66 cs_44
theorem fn_66_eq (n0 : Int) (l1 : List (Ty.den (Ty.int IntKind.i64))) : (boxC false Try.prog cs_44 66 (lsTab [(2, L66_2)] (List.length ([] : List PB))) (mkF [.int .i64 0, .imm TI 1] [] [] [(.bool 0, [])] fun _ => none) [.n n0, .l (Ty.int IntKind.i64) l1]).sel = (fn_66 [.n n0, .l (Ty.int IntKind.i64) l1]).sel := by kernel_rfl
theorem fn_66_ok (env : List Dat) (y : Nat × List Dat) (h : (fn_66 env).sel = some y) : (boxC false Try.prog cs_44 66 (lsTab [(2, L66_2)] (List.length ([] : List PB))) (mkF [.int .i64 0, .imm TI 1] [] [] [(.bool 0, [])] fun _ => none) env).sel = some y := by
  unfold fn_66 at h
  split at h
  · rw [fn_66_eq]; exact h
  · cases h
theorem B66_ok : RunOk Try.prog 66 (boxRun B66) := mkF_ok (op := op_66) cs_44_ok hmix false (L66_2_ok _) fn_66_ok
theorem cs_66_ok : CsOk Try.prog cs_66 := csLend_ok cs_44_ok B66_ok

def fn_42 : List Dat → Tree (Nat × List Dat)
  | [.n n0, .n n1, .n n2] =>
    (let r1 : Option (Nat × List Dat) := (op_66 [.n (1099511627776 : Int), .l (Ty.int IntKind.i64) (List.set (List.replicate 1 (0 : Int)) 0 n0)]);
     (.node (isK 0 [HK.b] r1)
      (.node (gb (dOf r1) 0)
       (let r2 : Option (Nat × List Dat) := (op_66 [.n (1099511627784 : Int), .l (Ty.int IntKind.i64) (List.set (List.replicate 1 (0 : Int)) 0 n2)]);
        (.node (isK 0 [HK.b] r2)
         (.node (gb (dOf r2) 0)
          (.node (decide (n1 ≥ (-1 : Int)))
           (.node (decide (n1 ≤ (1 : Int)))
            (.node (decide (n0 > (0 : Int)))
             (.leaf ((0, [.b true])))
             (.leaf ((0, [.b (n1 == (-1 : Int))]))))
            (.leaf ((0, [.b false]))))
           (.leaf ((0, [.b false]))))
          (.leaf ((0, [.b false]))))
         (.bad 351)))
       (.leaf ((0, [.b false]))))
      (.bad 351)))
  | _ => .bad 0
def op_42 : List Dat → Option (Nat × List Dat) := fun env => (fn_42 env).sel
def B42 : FBox := (mkF [bkV 0] [] [] [(.bool 0, [])] op_42)
def cs_42 : FuncId → Option CSpec := csLend 42 B42 cs_66
theorem fn_42_eq (n0 : Int) (n1 : Int) (n2 : Int) : (boxC false Try.prog cs_66 42 ls0 (mkF [bkV 0] [] [] [(.bool 0, [])] fun _ => none) [.n n0, .n n1, .n n2]).sel = (fn_42 [.n n0, .n n1, .n n2]).sel := by kernel_rfl
theorem fn_42_ok (env : List Dat) (y : Nat × List Dat) (h : (fn_42 env).sel = some y) : (boxC false Try.prog cs_66 42 ls0 (mkF [bkV 0] [] [] [(.bool 0, [])] fun _ => none) env).sel = some y := by
  unfold fn_42 at h
  split at h
  · rw [fn_42_eq]; exact h
  · cases h
theorem B42_ok : RunOk Try.prog 42 (boxRun B42) := mkF_ok (op := op_42) cs_66_ok hmix false (LsOk.none _ _ _) fn_42_ok
theorem cs_42_ok : CsOk Try.prog cs_42 := csLend_ok cs_66_ok B42_ok

def fn_64 : List Dat → Tree (Nat × List Dat)
  | [.n n0, .n n1, .n n2, .n n3, .l (Ty.int IntKind.i64) l4] =>
    (let r1 : Option (Nat × List Dat) := (op_42 [.n n0, .n n1, .n n2]);
     (.node (isK 0 [HK.b] r1)
      (.node (gb (dOf r1) 0)
       (let r2 : Option (Nat × List Dat) := (op_66 [.n (1 : Int), .l (Ty.int IntKind.i64) (List.set (List.replicate 1 (0 : Int)) 0 n3)]);
        (.node (isK 0 [HK.b] r2)
         (.node (gb (dOf r2) 0)
          (let r3 : Option (Nat × List Dat) := (op_66 [.n (1099511627776 : Int), .l (Ty.int IntKind.i64) l4]);
           (.node (isK 0 [HK.b] r3)
            (.leaf ((0, [.b (gb (dOf r3) 0)])))
            (.bad 351)))
          (.leaf ((0, [.b false]))))
         (.bad 351)))
       (.leaf ((0, [.b false]))))
      (.bad 351)))
  | _ => .bad 0
def op_64 : List Dat → Option (Nat × List Dat) := fun env => (fn_64 env).sel
def B64 : FBox := (mkF [bkV 0, .int .i64 3, .imm TI 4] [] [] [(.bool 0, [])] op_64)
def cs_64 : FuncId → Option CSpec := csLend 64 B64 cs_42
theorem fn_64_eq (n0 : Int) (n1 : Int) (n2 : Int) (n3 : Int) (l4 : List (Ty.den (Ty.int IntKind.i64))) : (boxC false Try.prog cs_42 64 ls0 (mkF [bkV 0, .int .i64 3, .imm TI 4] [] [] [(.bool 0, [])] fun _ => none) [.n n0, .n n1, .n n2, .n n3, .l (Ty.int IntKind.i64) l4]).sel = (fn_64 [.n n0, .n n1, .n n2, .n n3, .l (Ty.int IntKind.i64) l4]).sel := by kernel_rfl
theorem fn_64_ok (env : List Dat) (y : Nat × List Dat) (h : (fn_64 env).sel = some y) : (boxC false Try.prog cs_42 64 ls0 (mkF [bkV 0, .int .i64 3, .imm TI 4] [] [] [(.bool 0, [])] fun _ => none) env).sel = some y := by
  unfold fn_64 at h
  split at h
  · rw [fn_64_eq]; exact h
  · cases h
theorem B64_ok : RunOk Try.prog 64 (boxRun B64) := mkF_ok (op := op_64) cs_42_ok hmix false (LsOk.none _ _ _) fn_64_ok
theorem cs_64_ok : CsOk Try.prog cs_64 := csLend_ok cs_42_ok B64_ok

def fn_39 : List Dat → Tree (Nat × List Dat)
  | [.n n0, .n n1, .n n2, .n n3, .n n4] =>
    (let r1 : Option (Nat × List Dat) := (op_64 [.n n0, .n n1, .n n2, .n n3, .l (Ty.int IntKind.i64) (List.set (List.replicate 1 (0 : Int)) 0 n4)]);
     (.node (isK 0 [HK.b] r1)
      (.node (!gb (dOf r1) 0)
       (.leaf ((0, [.n n0, .n n1, .n n2, .n (0 : Int), .n (0 : Int), .n (2 : Int)])))
       (.node (n1 != (-1 : Int))
        (.node (n1 != n3)
         (.node (decide (n4 ≤ n2))
          (.leaf ((0, [.n n0, .n n1, .n n2, .n (0 : Int), .n (0 : Int), .n (231 : Int)])))
          (.node (n0 == (1099511627776 : Int))
           (.leaf ((0, [.n n0, .n n1, .n n2, .n (0 : Int), .n (0 : Int), .n (3 : Int)])))
           (.leaf ((0, [.n (IntKind.wrap .i64 (n0 + (1 : Int))), .n n3, .n (IntKind.wrap .i64 (n4 + (8 : Int))), .n (IntKind.wrap .i64 (n0 + (1 : Int))), .n (IntKind.wrap .i64 (n4 + (8 : Int))), .n (0 : Int)])))))
         (.node (n0 == (1099511627776 : Int))
          (.leaf ((0, [.n n0, .n n1, .n n2, .n (0 : Int), .n (0 : Int), .n (3 : Int)])))
          (.leaf ((0, [.n (IntKind.wrap .i64 (n0 + (1 : Int))), .n n3, .n (IntKind.wrap .i64 (n4 + (8 : Int))), .n (IntKind.wrap .i64 (n0 + (1 : Int))), .n (IntKind.wrap .i64 (n4 + (8 : Int))), .n (0 : Int)])))))
        (.node (n0 == (1099511627776 : Int))
         (.leaf ((0, [.n n0, .n n1, .n n2, .n (0 : Int), .n (0 : Int), .n (3 : Int)])))
         (.leaf ((0, [.n (IntKind.wrap .i64 (n0 + (1 : Int))), .n n3, .n (IntKind.wrap .i64 (n4 + (8 : Int))), .n (IntKind.wrap .i64 (n0 + (1 : Int))), .n (IntKind.wrap .i64 (n4 + (8 : Int))), .n (0 : Int)]))))))
      (.bad 351)))
  | _ => .bad 0
def op_39 : List Dat → Option (Nat × List Dat) := fun env => (fn_39 env).sel
def B39 : FBox := (mkF [bkV 0, .int .i64 3, .int .i64 4] [] [] [(.tup [bkV 0, grV 3, .int .i64 5], [])] op_39)
def cs_39 : FuncId → Option CSpec := csLend 39 B39 cs_64
theorem fn_39_eq (n0 : Int) (n1 : Int) (n2 : Int) (n3 : Int) (n4 : Int) : (boxC false Try.prog cs_64 39 ls0 (mkF [bkV 0, .int .i64 3, .int .i64 4] [] [] [(.tup [bkV 0, grV 3, .int .i64 5], [])] fun _ => none) [.n n0, .n n1, .n n2, .n n3, .n n4]).sel = (fn_39 [.n n0, .n n1, .n n2, .n n3, .n n4]).sel := by kernel_rfl
theorem fn_39_ok (env : List Dat) (y : Nat × List Dat) (h : (fn_39 env).sel = some y) : (boxC false Try.prog cs_64 39 ls0 (mkF [bkV 0, .int .i64 3, .int .i64 4] [] [] [(.tup [bkV 0, grV 3, .int .i64 5], [])] fun _ => none) env).sel = some y := by
  unfold fn_39 at h
  split at h
  · rw [fn_39_eq]; exact h
  · cases h
theorem B39_ok : RunOk Try.prog 39 (boxRun B39) := mkF_ok (op := op_39) cs_64_ok hmix false (LsOk.none _ _ _) fn_39_ok
theorem cs_39_ok : CsOk Try.prog cs_39 := csLend_ok cs_64_ok B39_ok

def fn_45 : List Dat → Tree (Nat × List Dat)
  | [.n n0, .n n1, .n n2, .n n3, .n n4, .n n5] =>
    (let r1 : Option (Nat × List Dat) := (op_64 [.n n0, .n n1, .n n2, .n n3, .l (Ty.int IntKind.i64) (List.set (List.set (List.replicate 2 (0 : Int)) 0 n4) 1 n5)]);
     (.node (isK 0 [HK.b] r1)
      (.node (!gb (dOf r1) 0)
       (.leaf ((0, [.n n0, .n n1, .n n2, .n (0 : Int), .n (0 : Int), .n (2 : Int)])))
       (.node (decide (n4 < n0))
        (.leaf ((0, [.n n0, .n n1, .n n2, .n (0 : Int), .n (0 : Int), .n (230 : Int)])))
        (.node (n4 != n0)
         (.leaf ((0, [.n n0, .n n1, .n n2, .n (0 : Int), .n (0 : Int), .n (231 : Int)])))
         (.node (n1 != n3)
          (.leaf ((0, [.n n0, .n n1, .n n2, .n (0 : Int), .n (0 : Int), .n (231 : Int)])))
          (.node (decide (n5 > n2))
           (.leaf ((0, [.n n0, .n n1, .n n2, .n (0 : Int), .n (0 : Int), .n (231 : Int)])))
           (.leaf ((0, [.n n0, .n n1, .n (imax n2 (IntKind.wrap .i64 (n5 + (8 : Int)))), .n n0, .n (imax n2 (IntKind.wrap .i64 (n5 + (8 : Int)))), .n (0 : Int)]))))))))
      (.bad 351)))
  | _ => .bad 0
def op_45 : List Dat → Option (Nat × List Dat) := fun env => (fn_45 env).sel
def B45 : FBox := (mkF [bkV 0, .int .i64 3, .int .i64 4, .int .i64 5] [] [] [(.tup [bkV 0, grV 3, .int .i64 5], [])] op_45)
def cs_45 : FuncId → Option CSpec := csLend 45 B45 cs_39
theorem fn_45_eq (n0 : Int) (n1 : Int) (n2 : Int) (n3 : Int) (n4 : Int) (n5 : Int) : (boxC false Try.prog cs_39 45 ls0 (mkF [bkV 0, .int .i64 3, .int .i64 4, .int .i64 5] [] [] [(.tup [bkV 0, grV 3, .int .i64 5], [])] fun _ => none) [.n n0, .n n1, .n n2, .n n3, .n n4, .n n5]).sel = (fn_45 [.n n0, .n n1, .n n2, .n n3, .n n4, .n n5]).sel := by kernel_rfl
theorem fn_45_ok (env : List Dat) (y : Nat × List Dat) (h : (fn_45 env).sel = some y) : (boxC false Try.prog cs_39 45 ls0 (mkF [bkV 0, .int .i64 3, .int .i64 4, .int .i64 5] [] [] [(.tup [bkV 0, grV 3, .int .i64 5], [])] fun _ => none) env).sel = some y := by
  unfold fn_45 at h
  split at h
  · rw [fn_45_eq]; exact h
  · cases h
theorem B45_ok : RunOk Try.prog 45 (boxRun B45) := mkF_ok (op := op_45) cs_39_ok hmix false (LsOk.none _ _ _) fn_45_ok
theorem cs_45_ok : CsOk Try.prog cs_45 := csLend_ok cs_39_ok B45_ok

def fn_47 : List Dat → Tree (Nat × List Dat)
  | [.n n0, .n n1, .n n2, .n n3, .n n4] =>
    (let r1 : Option (Nat × List Dat) := (op_64 [.n n0, .n n1, .n n2, .n n3, .l (Ty.int IntKind.i64) (List.set (List.replicate 1 (0 : Int)) 0 n4)]);
     (.node (isK 0 [HK.b] r1)
      (.node (!gb (dOf r1) 0)
       (.leaf ((0, [.n n0, .n n1, .n n2, .n (2 : Int)])))
       (.node (decide (n4 < n0))
        (.leaf ((0, [.n n0, .n n1, .n n2, .n (230 : Int)])))
        (.node (n4 != n0)
         (.leaf ((0, [.n n0, .n n1, .n n2, .n (231 : Int)])))
         (.node (n1 != n3)
          (.leaf ((0, [.n n0, .n n1, .n n2, .n (231 : Int)])))
          (.leaf ((0, [.n n0, .n (-1 : Int), .n n2, .n (0 : Int)])))))))
      (.bad 351)))
  | _ => .bad 0
def op_47 : List Dat → Option (Nat × List Dat) := fun env => (fn_47 env).sel
def B47 : FBox := (mkF [bkV 0, .int .i64 3, .int .i64 4] [] [] [(.tup [bkV 0, .int .i64 3], [])] op_47)
def cs_47 : FuncId → Option CSpec := csLend 47 B47 cs_45
theorem fn_47_eq (n0 : Int) (n1 : Int) (n2 : Int) (n3 : Int) (n4 : Int) : (boxC false Try.prog cs_45 47 ls0 (mkF [bkV 0, .int .i64 3, .int .i64 4] [] [] [(.tup [bkV 0, .int .i64 3], [])] fun _ => none) [.n n0, .n n1, .n n2, .n n3, .n n4]).sel = (fn_47 [.n n0, .n n1, .n n2, .n n3, .n n4]).sel := by kernel_rfl
theorem fn_47_ok (env : List Dat) (y : Nat × List Dat) (h : (fn_47 env).sel = some y) : (boxC false Try.prog cs_45 47 ls0 (mkF [bkV 0, .int .i64 3, .int .i64 4] [] [] [(.tup [bkV 0, .int .i64 3], [])] fun _ => none) env).sel = some y := by
  unfold fn_47 at h
  split at h
  · rw [fn_47_eq]; exact h
  · cases h
theorem B47_ok : RunOk Try.prog 47 (boxRun B47) := mkF_ok (op := op_47) cs_45_ok hmix false (LsOk.none _ _ _) fn_47_ok
theorem cs_47_ok : CsOk Try.prog cs_47 := csLend_ok cs_45_ok B47_ok

def fn_50 : List Dat → Tree (Nat × List Dat)
  | [.n n0, .n n1, .n n2, .n n3] =>
    (.node (decide (n1 > (0 : Int)))
     (.leaf ((0, [.b (decide (n3 ≤ IntKind.wrap .i64 (n2 - (2 : Int))))])))
     (.leaf ((0, [.b false]))))
  | _ => .bad 0
def op_50 : List Dat → Option (Nat × List Dat) := fun env => (fn_50 env).sel
def B50 : FBox := (mkF [bkV 0, .int .i64 3] [] [] [(.bool 0, [])] op_50)
def cs_50 : FuncId → Option CSpec := csLend 50 B50 cs_47
theorem fn_50_eq (n0 : Int) (n1 : Int) (n2 : Int) (n3 : Int) : (boxC false Try.prog cs_47 50 ls0 (mkF [bkV 0, .int .i64 3] [] [] [(.bool 0, [])] fun _ => none) [.n n0, .n n1, .n n2, .n n3]).sel = (fn_50 [.n n0, .n n1, .n n2, .n n3]).sel := by kernel_rfl
theorem fn_50_ok (env : List Dat) (y : Nat × List Dat) (h : (fn_50 env).sel = some y) : (boxC false Try.prog cs_47 50 ls0 (mkF [bkV 0, .int .i64 3] [] [] [(.bool 0, [])] fun _ => none) env).sel = some y := by
  unfold fn_50 at h
  split at h
  · rw [fn_50_eq]; exact h
  · cases h
theorem B50_ok : RunOk Try.prog 50 (boxRun B50) := mkF_ok (op := op_50) cs_47_ok hmix false (LsOk.none _ _ _) fn_50_ok
theorem cs_50_ok : CsOk Try.prog cs_50 := csLend_ok cs_47_ok B50_ok

def fn_51 : List Dat → Tree (Nat × List Dat)
  | [.n n0, .n n1, .n n2, .n n3, .n n4] =>
    (let r1 : Option (Nat × List Dat) := (op_66 [.n (1099511627784 : Int), .l (Ty.int IntKind.i64) (List.set (List.set (List.replicate 2 (0 : Int)) 0 n3) 1 n4)]);
     (.node (isK 0 [HK.b] r1)
      (.node (!gb (dOf r1) 0)
       (.leaf ((0, [.n (0 : Int), .n (0 : Int), .n (0 : Int), .n (2 : Int)])))
       (.node (decide (n3 < n1))
        (.leaf ((0, [.n (0 : Int), .n (0 : Int), .n (0 : Int), .n (230 : Int)])))
        (.node (n3 == n1)
         (.leaf ((0, [.n n0, .n n3, .n (imax n4 n2), .n (0 : Int)])))
         (.leaf ((0, [.n n0, .n n3, .n n4, .n (0 : Int)]))))))
      (.bad 351)))
  | _ => .bad 0
def op_51 : List Dat → Option (Nat × List Dat) := fun env => (fn_51 env).sel
def B51 : FBox := (mkF [bkV 0, grV 3] [] [] [(.tup [bkV 0, .int .i64 3], [])] op_51)
def cs_51 : FuncId → Option CSpec := csLend 51 B51 cs_50
theorem fn_51_eq (n0 : Int) (n1 : Int) (n2 : Int) (n3 : Int) (n4 : Int) : (boxC false Try.prog cs_50 51 ls0 (mkF [bkV 0, grV 3] [] [] [(.tup [bkV 0, .int .i64 3], [])] fun _ => none) [.n n0, .n n1, .n n2, .n n3, .n n4]).sel = (fn_51 [.n n0, .n n1, .n n2, .n n3, .n n4]).sel := by kernel_rfl
theorem fn_51_ok (env : List Dat) (y : Nat × List Dat) (h : (fn_51 env).sel = some y) : (boxC false Try.prog cs_50 51 ls0 (mkF [bkV 0, grV 3] [] [] [(.tup [bkV 0, .int .i64 3], [])] fun _ => none) env).sel = some y := by
  unfold fn_51 at h
  split at h
  · rw [fn_51_eq]; exact h
  · cases h
theorem B51_ok : RunOk Try.prog 51 (boxRun B51) := mkF_ok (op := op_51) cs_50_ok hmix false (LsOk.none _ _ _) fn_51_ok
theorem cs_51_ok : CsOk Try.prog cs_51 := csLend_ok cs_50_ok B51_ok

def fn_L13_31_0 : List Dat → Tree Step
  | [.l (Ty.pair (Ty.int IntKind.u8) (Ty.pair (Ty.int IntKind.u8) (Ty.int IntKind.u8))) l0, .n n1, .n n2, .n n3, .b b4, .n n5, .n n6, .n n7, .l (Ty.int IntKind.i64) l8, .l (Ty.pair (Ty.int IntKind.i64) (Ty.pair (Ty.int IntKind.i64) (Ty.int IntKind.i64))) l9, .l (Ty.int IntKind.i64) l10, .n n11, .n n12] =>
    (.node (decide ((↑(List.length l10) : Int) < n11))
     (.node (decide ((List.length l10 + 1) * 8 ≤ 140737488355328))
      (.leaf (Step.go [.k 0, .l (Ty.pair (Ty.int IntKind.u8) (Ty.pair (Ty.int IntKind.u8) (Ty.int IntKind.u8))) l0, .n n1, .n n2, .n n3, .b b4, .n n5, .n n6, .n n7, .l (Ty.int IntKind.i64) l8, .l (Ty.pair (Ty.int IntKind.i64) (Ty.pair (Ty.int IntKind.i64) (Ty.int IntKind.i64))) l9, .l (Ty.int IntKind.i64) (l10 ++ List.set (List.replicate 1 (0 : Int)) 0 n3), .n n11, .n n12]))
      (.bad 62))
     (.leaf (Step.stop 0 [.l (Ty.pair (Ty.int IntKind.u8) (Ty.pair (Ty.int IntKind.u8) (Ty.int IntKind.u8))) l0, .n n1, .n n2, .n n3, .b b4, .n n5, .n n6, .n n7, .l (Ty.int IntKind.i64) l8, .l (Ty.pair (Ty.int IntKind.i64) (Ty.pair (Ty.int IntKind.i64) (Ty.int IntKind.i64))) l9, .l (Ty.int IntKind.i64) l10, .n n11, .n n12])))
  | _ => .bad 0
def fn_L13_31 : List Dat → Tree Step
  | .k 0 :: d => fn_L13_31_0 d
  | _ => .bad 0
def op_L13_31 : List Dat → Option (Nat × List Dat) := iterS fn_L13_31 FU
def L13_31 : MBox := (mkM 0 [] [(sh 205 [(0, .imm TSt 0), (7, .ptr 0 0), (8, .int .i64 1), (9, .own 1), (10, .own 2), (11, .own 3), (12, .int .i64 2), (13, .int .i64 3), (15, .bool 4), (16, .ptr 4 0)], [.cells [.int .i64 5, .int .i64 6, .int .i64 7], .arr TI 8, .arr TTen 9, .arr TI 10, .cells [.int .i64 11, .int .i64 12]])] [] [(.exit 3, sh 205 [(0, .imm TSt 0), (7, .ptr 0 0), (8, .int .i64 1), (9, .own 1), (10, .own 2), (11, .own 3), (12, .int .i64 2), (13, .int .i64 3), (15, .bool 4), (16, .ptr 4 0)], [.cells [.int .i64 5, .int .i64 6, .int .i64 7], .arr TI 8, .arr TTen 9, .arr TI 10, .cells [.int .i64 11, .int .i64 12]])] op_L13_31)
theorem fn_L13_31_0_eq (l0 : List (Ty.den (Ty.pair (Ty.int IntKind.u8) (Ty.pair (Ty.int IntKind.u8) (Ty.int IntKind.u8))))) (n1 : Int) (n2 : Int) (n3 : Int) (b4 : Bool) (n5 : Int) (n6 : Int) (n7 : Int) (l8 : List (Ty.den (Ty.int IntKind.i64))) (l9 : List (Ty.den (Ty.pair (Ty.int IntKind.i64) (Ty.pair (Ty.int IntKind.i64) (Ty.int IntKind.i64))))) (l10 : List (Ty.den (Ty.int IntKind.i64))) (n11 : Int) (n12 : Int) : ((fun (d : List Dat) => stepMC false Try.prog cs_51 13 31 ls0 (mkM 0 [] [(sh 205 [(0, .imm TSt 0), (7, .ptr 0 0), (8, .int .i64 1), (9, .own 1), (10, .own 2), (11, .own 3), (12, .int .i64 2), (13, .int .i64 3), (15, .bool 4), (16, .ptr 4 0)], [.cells [.int .i64 5, .int .i64 6, .int .i64 7], .arr TI 8, .arr TTen 9, .arr TI 10, .cells [.int .i64 11, .int .i64 12]])] [] [(.exit 3, sh 205 [(0, .imm TSt 0), (7, .ptr 0 0), (8, .int .i64 1), (9, .own 1), (10, .own 2), (11, .own 3), (12, .int .i64 2), (13, .int .i64 3), (15, .bool 4), (16, .ptr 4 0)], [.cells [.int .i64 5, .int .i64 6, .int .i64 7], .arr TI 8, .arr TTen 9, .arr TI 10, .cells [.int .i64 11, .int .i64 12]])] fun _ => none) (.k 0 :: d)) [.l (Ty.pair (Ty.int IntKind.u8) (Ty.pair (Ty.int IntKind.u8) (Ty.int IntKind.u8))) l0, .n n1, .n n2, .n n3, .b b4, .n n5, .n n6, .n n7, .l (Ty.int IntKind.i64) l8, .l (Ty.pair (Ty.int IntKind.i64) (Ty.pair (Ty.int IntKind.i64) (Ty.int IntKind.i64))) l9, .l (Ty.int IntKind.i64) l10, .n n11, .n n12]).sel = (fn_L13_31_0 [.l (Ty.pair (Ty.int IntKind.u8) (Ty.pair (Ty.int IntKind.u8) (Ty.int IntKind.u8))) l0, .n n1, .n n2, .n n3, .b b4, .n n5, .n n6, .n n7, .l (Ty.int IntKind.i64) l8, .l (Ty.pair (Ty.int IntKind.i64) (Ty.pair (Ty.int IntKind.i64) (Ty.int IntKind.i64))) l9, .l (Ty.int IntKind.i64) l10, .n n11, .n n12]).sel := by kernel_rfl
theorem fn_L13_31_0_ok (env : List Dat) (y : Step) (h : (fn_L13_31_0 env).sel = some y) : ((fun (d : List Dat) => stepMC false Try.prog cs_51 13 31 ls0 (mkM 0 [] [(sh 205 [(0, .imm TSt 0), (7, .ptr 0 0), (8, .int .i64 1), (9, .own 1), (10, .own 2), (11, .own 3), (12, .int .i64 2), (13, .int .i64 3), (15, .bool 4), (16, .ptr 4 0)], [.cells [.int .i64 5, .int .i64 6, .int .i64 7], .arr TI 8, .arr TTen 9, .arr TI 10, .cells [.int .i64 11, .int .i64 12]])] [] [(.exit 3, sh 205 [(0, .imm TSt 0), (7, .ptr 0 0), (8, .int .i64 1), (9, .own 1), (10, .own 2), (11, .own 3), (12, .int .i64 2), (13, .int .i64 3), (15, .bool 4), (16, .ptr 4 0)], [.cells [.int .i64 5, .int .i64 6, .int .i64 7], .arr TI 8, .arr TTen 9, .arr TI 10, .cells [.int .i64 11, .int .i64 12]])] fun _ => none) (.k 0 :: d)) env).sel = some y := by
  unfold fn_L13_31_0 at h
  split at h
  · rw [fn_L13_31_0_eq]; exact h
  · cases h
theorem fn_L13_31_ok (env : List Dat) (y : Step) (h : (fn_L13_31 env).sel = some y) : (stepMC false Try.prog cs_51 13 31 ls0 (mkM 0 [] [(sh 205 [(0, .imm TSt 0), (7, .ptr 0 0), (8, .int .i64 1), (9, .own 1), (10, .own 2), (11, .own 3), (12, .int .i64 2), (13, .int .i64 3), (15, .bool 4), (16, .ptr 4 0)], [.cells [.int .i64 5, .int .i64 6, .int .i64 7], .arr TI 8, .arr TTen 9, .arr TI 10, .cells [.int .i64 11, .int .i64 12]])] [] [(.exit 3, sh 205 [(0, .imm TSt 0), (7, .ptr 0 0), (8, .int .i64 1), (9, .own 1), (10, .own 2), (11, .own 3), (12, .int .i64 2), (13, .int .i64 3), (15, .bool 4), (16, .ptr 4 0)], [.cells [.int .i64 5, .int .i64 6, .int .i64 7], .arr TI 8, .arr TTen 9, .arr TI 10, .cells [.int .i64 11, .int .i64 12]])] fun _ => none) env).sel = some y := by
  unfold fn_L13_31 at h
  split at h
  · exact fn_L13_31_0_ok _ _ h
  · cases h
theorem L13_31_run : ∀ t s x, (manyRun L13_31 t s).sel = some x → CodeOk Try.prog 0 (.loop (cAt Try.prog 13 31)) t s x := mkM_ok (st := fn_L13_31) (m := FU) cs_51_ok hmix false (LsOk.none _ _ _) (by kernel_rfl) fn_L13_31_ok

def fn_L13_9_0 : List Dat → Tree Step
  | [.l (Ty.pair (Ty.int IntKind.u8) (Ty.pair (Ty.int IntKind.u8) (Ty.int IntKind.u8))) l0, .n n1, .n n2, .n n3, .n n4, .n n5, .l (Ty.int IntKind.i64) l6, .l (Ty.pair (Ty.int IntKind.i64) (Ty.pair (Ty.int IntKind.i64) (Ty.int IntKind.i64))) l7, .l (Ty.int IntKind.i64) l8] =>
    (.node (decide (n2 < (↑(List.length l0) : Int)))
     (.node (inR n2 (List.length l0))
      (.node (inR (IntKind.wrap .i64 ((1 : Int) - IntKind.wrap .i64 (Int.tmod (Prod.fst (Prod.snd (List.getD l0 (Int.toNat n2) (Ty.dflt (Ty.pair (Ty.int IntKind.u8) (Ty.pair (Ty.int IntKind.u8) (Ty.int IntKind.u8))))))) (2 : Int)))) (List.length l7))
       (.node (inR (IntKind.wrap .i64 ((1 : Int) - IntKind.wrap .i64 (Int.tmod (Prod.fst (Prod.snd (List.getD l0 (Int.toNat n2) (Ty.dflt (Ty.pair (Ty.int IntKind.u8) (Ty.pair (Ty.int IntKind.u8) (Ty.int IntKind.u8))))))) (2 : Int)))) (List.length l6))
        (let r1 : Option (Nat × List Dat) := (op_50 [.n (Prod.fst (List.getD l7 (Int.toNat (IntKind.wrap .i64 ((1 : Int) - IntKind.wrap .i64 (Int.tmod (Prod.fst (Prod.snd (List.getD l0 (Int.toNat n2) (Ty.dflt (Ty.pair (Ty.int IntKind.u8) (Ty.pair (Ty.int IntKind.u8) (Ty.int IntKind.u8))))))) (2 : Int))))) (Ty.dflt (Ty.pair (Ty.int IntKind.i64) (Ty.pair (Ty.int IntKind.i64) (Ty.int IntKind.i64)))))), .n (Prod.fst (Prod.snd (List.getD l7 (Int.toNat (IntKind.wrap .i64 ((1 : Int) - IntKind.wrap .i64 (Int.tmod (Prod.fst (Prod.snd (List.getD l0 (Int.toNat n2) (Ty.dflt (Ty.pair (Ty.int IntKind.u8) (Ty.pair (Ty.int IntKind.u8) (Ty.int IntKind.u8))))))) (2 : Int))))) (Ty.dflt (Ty.pair (Ty.int IntKind.i64) (Ty.pair (Ty.int IntKind.i64) (Ty.int IntKind.i64))))))), .n (Prod.snd (Prod.snd (List.getD l7 (Int.toNat (IntKind.wrap .i64 ((1 : Int) - IntKind.wrap .i64 (Int.tmod (Prod.fst (Prod.snd (List.getD l0 (Int.toNat n2) (Ty.dflt (Ty.pair (Ty.int IntKind.u8) (Ty.pair (Ty.int IntKind.u8) (Ty.int IntKind.u8))))))) (2 : Int))))) (Ty.dflt (Ty.pair (Ty.int IntKind.i64) (Ty.pair (Ty.int IntKind.i64) (Ty.int IntKind.i64))))))), .n (IntKind.wrap .i64 (n1 - (List.getD l6 (Int.toNat (IntKind.wrap .i64 ((1 : Int) - IntKind.wrap .i64 (Int.tmod (Prod.fst (Prod.snd (List.getD l0 (Int.toNat n2) (Ty.dflt (Ty.pair (Ty.int IntKind.u8) (Ty.pair (Ty.int IntKind.u8) (Ty.int IntKind.u8))))))) (2 : Int))))) (0 : Int) : Int)))]);
         (.node (isK 0 [HK.b] r1)
          (.node (Int.tmod (Prod.fst (List.getD l0 (Int.toNat n2) (Ty.dflt (Ty.pair (Ty.int IntKind.u8) (Ty.pair (Ty.int IntKind.u8) (Ty.int IntKind.u8)))))) (5 : Int) == (0 : Int))
           (.node (decide (n3 < n3))
            (.leaf (Step.stop 1 [.b false]))
            (.node (decide (n3 > IntKind.wrap .i64 (n3 + (1 : Int))))
             (.leaf (Step.stop 1 [.b false]))
             (let r2 : Option (Nat × List Dat) := (op_42 [.n n3, .n n4, .n n5]);
              (.node (isK 0 [HK.b] r2)
               (.node (!gb (dOf r2) 0)
                (.leaf (Step.stop 1 [.b false]))
                (.node (inR (0 : Int) (List.length l7))
                 (.node (inR (0 : Int) (List.length l6))
                  (let r3 : Option (Nat × List Dat) := (op_50 [.n (Prod.fst (List.getD l7 0 (Ty.dflt (Ty.pair (Ty.int IntKind.i64) (Ty.pair (Ty.int IntKind.i64) (Ty.int IntKind.i64)))))), .n (Prod.fst (Prod.snd (List.getD l7 0 (Ty.dflt (Ty.pair (Ty.int IntKind.i64) (Ty.pair (Ty.int IntKind.i64) (Ty.int IntKind.i64))))))), .n (Prod.snd (Prod.snd (List.getD l7 0 (Ty.dflt (Ty.pair (Ty.int IntKind.i64) (Ty.pair (Ty.int IntKind.i64) (Ty.int IntKind.i64))))))), .n (IntKind.wrap .i64 (IntKind.wrap .i64 (n1 + IntKind.wrap .i64 (Int.tmod (Prod.snd (Prod.snd (List.getD l0 (Int.toNat n2) (Ty.dflt (Ty.pair (Ty.int IntKind.u8) (Ty.pair (Ty.int IntKind.u8) (Ty.int IntKind.u8))))))) (4 : Int))) - (List.getD l6 0 (0 : Int) : Int)))]);
                   (.node (isK 0 [HK.b] r3)
                    (.node (gb (dOf r3) 0)
                     (.node (inR (1 : Int) (List.length l7))
                      (.node (inR (1 : Int) (List.length l6))
                       (let r4 : Option (Nat × List Dat) := (op_50 [.n (Prod.fst (List.getD l7 1 (Ty.dflt (Ty.pair (Ty.int IntKind.i64) (Ty.pair (Ty.int IntKind.i64) (Ty.int IntKind.i64)))))), .n (Prod.fst (Prod.snd (List.getD l7 1 (Ty.dflt (Ty.pair (Ty.int IntKind.i64) (Ty.pair (Ty.int IntKind.i64) (Ty.int IntKind.i64))))))), .n (Prod.snd (Prod.snd (List.getD l7 1 (Ty.dflt (Ty.pair (Ty.int IntKind.i64) (Ty.pair (Ty.int IntKind.i64) (Ty.int IntKind.i64))))))), .n (IntKind.wrap .i64 (IntKind.wrap .i64 (n1 + IntKind.wrap .i64 (Int.tmod (Prod.snd (Prod.snd (List.getD l0 (Int.toNat n2) (Ty.dflt (Ty.pair (Ty.int IntKind.u8) (Ty.pair (Ty.int IntKind.u8) (Ty.int IntKind.u8))))))) (4 : Int))) - (List.getD l6 1 (0 : Int) : Int)))]);
                        (.node (isK 0 [HK.b] r4)
                         (.node (gb (dOf r4) 0)
                          (.leaf (Step.stop 1 [.b false]))
                          (.leaf (Step.go [.k 0, .l (Ty.pair (Ty.int IntKind.u8) (Ty.pair (Ty.int IntKind.u8) (Ty.int IntKind.u8))) l0, .n (IntKind.wrap .i64 (n1 + IntKind.wrap .i64 (Int.tmod (Prod.snd (Prod.snd (List.getD l0 (Int.toNat n2) (Ty.dflt (Ty.pair (Ty.int IntKind.u8) (Ty.pair (Ty.int IntKind.u8) (Ty.int IntKind.u8))))))) (4 : Int)))), .n (IntKind.wrap .i64 (n2 + (1 : Int))), .n n3, .n n4, .n n5, .l (Ty.int IntKind.i64) l6, .l (Ty.pair (Ty.int IntKind.i64) (Ty.pair (Ty.int IntKind.i64) (Ty.int IntKind.i64))) l7, .l (Ty.int IntKind.i64) l8])))
                         (.bad 351)))
                       (.bad 12))
                      (.bad 12))
                     (.leaf (Step.go [.k 0, .l (Ty.pair (Ty.int IntKind.u8) (Ty.pair (Ty.int IntKind.u8) (Ty.int IntKind.u8))) l0, .n (IntKind.wrap .i64 (n1 + IntKind.wrap .i64 (Int.tmod (Prod.snd (Prod.snd (List.getD l0 (Int.toNat n2) (Ty.dflt (Ty.pair (Ty.int IntKind.u8) (Ty.pair (Ty.int IntKind.u8) (Ty.int IntKind.u8))))))) (4 : Int)))), .n (IntKind.wrap .i64 (n2 + (1 : Int))), .n n3, .n n4, .n n5, .l (Ty.int IntKind.i64) l6, .l (Ty.pair (Ty.int IntKind.i64) (Ty.pair (Ty.int IntKind.i64) (Ty.int IntKind.i64))) l7, .l (Ty.int IntKind.i64) l8])))
                    (.bad 351)))
                  (.bad 12))
                 (.bad 12)))
               (.bad 351)))))
           (.node (Int.tmod (Prod.fst (List.getD l0 (Int.toNat n2) (Ty.dflt (Ty.pair (Ty.int IntKind.u8) (Ty.pair (Ty.int IntKind.u8) (Ty.int IntKind.u8)))))) (5 : Int) == (1 : Int))
            (.node (decide (n3 < n3))
             (.leaf (Step.stop 1 [.b false]))
             (.node (decide (n3 > IntKind.wrap .i64 (n3 + (1 : Int))))
              (.leaf (Step.stop 1 [.b false]))
              (let r2 : Option (Nat × List Dat) := (op_42 [.n n3, .n n4, .n n5]);
               (.node (isK 0 [HK.b] r2)
                (.node (!gb (dOf r2) 0)
                 (.leaf (Step.stop 1 [.b false]))
                 (.node (inR (0 : Int) (List.length l7))
                  (.node (inR (0 : Int) (List.length l6))
                   (let r3 : Option (Nat × List Dat) := (op_50 [.n (Prod.fst (List.getD l7 0 (Ty.dflt (Ty.pair (Ty.int IntKind.i64) (Ty.pair (Ty.int IntKind.i64) (Ty.int IntKind.i64)))))), .n (Prod.fst (Prod.snd (List.getD l7 0 (Ty.dflt (Ty.pair (Ty.int IntKind.i64) (Ty.pair (Ty.int IntKind.i64) (Ty.int IntKind.i64))))))), .n (Prod.snd (Prod.snd (List.getD l7 0 (Ty.dflt (Ty.pair (Ty.int IntKind.i64) (Ty.pair (Ty.int IntKind.i64) (Ty.int IntKind.i64))))))), .n (IntKind.wrap .i64 (IntKind.wrap .i64 (n1 + IntKind.wrap .i64 (Int.tmod (Prod.snd (Prod.snd (List.getD l0 (Int.toNat n2) (Ty.dflt (Ty.pair (Ty.int IntKind.u8) (Ty.pair (Ty.int IntKind.u8) (Ty.int IntKind.u8))))))) (4 : Int))) - (List.getD l6 0 (0 : Int) : Int)))]);
                    (.node (isK 0 [HK.b] r3)
                     (.node (gb (dOf r3) 0)
                      (.node (inR (1 : Int) (List.length l7))
                       (.node (inR (1 : Int) (List.length l6))
                        (let r4 : Option (Nat × List Dat) := (op_50 [.n (Prod.fst (List.getD l7 1 (Ty.dflt (Ty.pair (Ty.int IntKind.i64) (Ty.pair (Ty.int IntKind.i64) (Ty.int IntKind.i64)))))), .n (Prod.fst (Prod.snd (List.getD l7 1 (Ty.dflt (Ty.pair (Ty.int IntKind.i64) (Ty.pair (Ty.int IntKind.i64) (Ty.int IntKind.i64))))))), .n (Prod.snd (Prod.snd (List.getD l7 1 (Ty.dflt (Ty.pair (Ty.int IntKind.i64) (Ty.pair (Ty.int IntKind.i64) (Ty.int IntKind.i64))))))), .n (IntKind.wrap .i64 (IntKind.wrap .i64 (n1 + IntKind.wrap .i64 (Int.tmod (Prod.snd (Prod.snd (List.getD l0 (Int.toNat n2) (Ty.dflt (Ty.pair (Ty.int IntKind.u8) (Ty.pair (Ty.int IntKind.u8) (Ty.int IntKind.u8))))))) (4 : Int))) - (List.getD l6 1 (0 : Int) : Int)))]);
                         (.node (isK 0 [HK.b] r4)
                          (.node (gb (dOf r4) 0)
                           (.leaf (Step.stop 1 [.b false]))
                           (.leaf (Step.go [.k 0, .l (Ty.pair (Ty.int IntKind.u8) (Ty.pair (Ty.int IntKind.u8) (Ty.int IntKind.u8))) l0, .n (IntKind.wrap .i64 (n1 + IntKind.wrap .i64 (Int.tmod (Prod.snd (Prod.snd (List.getD l0 (Int.toNat n2) (Ty.dflt (Ty.pair (Ty.int IntKind.u8) (Ty.pair (Ty.int IntKind.u8) (Ty.int IntKind.u8))))))) (4 : Int)))), .n (IntKind.wrap .i64 (n2 + (1 : Int))), .n n3, .n n4, .n n5, .l (Ty.int IntKind.i64) l6, .l (Ty.pair (Ty.int IntKind.i64) (Ty.pair (Ty.int IntKind.i64) (Ty.int IntKind.i64))) l7, .l (Ty.int IntKind.i64) l8])))
                          (.bad 351)))
                        (.bad 12))
                       (.bad 12))
                      (.leaf (Step.go [.k 0, .l (Ty.pair (Ty.int IntKind.u8) (Ty.pair (Ty.int IntKind.u8) (Ty.int IntKind.u8))) l0, .n (IntKind.wrap .i64 (n1 + IntKind.wrap .i64 (Int.tmod (Prod.snd (Prod.snd (List.getD l0 (Int.toNat n2) (Ty.dflt (Ty.pair (Ty.int IntKind.u8) (Ty.pair (Ty.int IntKind.u8) (Ty.int IntKind.u8))))))) (4 : Int)))), .n (IntKind.wrap .i64 (n2 + (1 : Int))), .n n3, .n n4, .n n5, .l (Ty.int IntKind.i64) l6, .l (Ty.pair (Ty.int IntKind.i64) (Ty.pair (Ty.int IntKind.i64) (Ty.int IntKind.i64))) l7, .l (Ty.int IntKind.i64) l8])))
                     (.bad 351)))
                   (.bad 12))
                  (.bad 12)))
                (.bad 351)))))
            (.node (Int.tmod (Prod.fst (List.getD l0 (Int.toNat n2) (Ty.dflt (Ty.pair (Ty.int IntKind.u8) (Ty.pair (Ty.int IntKind.u8) (Ty.int IntKind.u8)))))) (5 : Int) == (2 : Int))
             (let r2 : Option (Nat × List Dat) := (op_39 [.n n3, .n n4, .n n5, .n (IntKind.wrap .i64 (Int.tmod (Prod.fst (Prod.snd (List.getD l0 (Int.toNat n2) (Ty.dflt (Ty.pair (Ty.int IntKind.u8) (Ty.pair (Ty.int IntKind.u8) (Ty.int IntKind.u8))))))) (2 : Int))), .n n1]);
              (.node (isK 0 [HK.n, HK.n, HK.n, HK.n, HK.n, HK.n] r2)
               (.node (decide (gn (dOf r2) 0 < n3))
                (.leaf (Step.stop 1 [.b false]))
                (.node (decide (gn (dOf r2) 0 > IntKind.wrap .i64 (n3 + (1 : Int))))
                 (.leaf (Step.stop 1 [.b false]))
                 (let r3 : Option (Nat × List Dat) := (op_42 [.n (gn (dOf r2) 0), .n (gn (dOf r2) 1), .n (gn (dOf r2) 2)]);
                  (.node (isK 0 [HK.b] r3)
                   (.node (!gb (dOf r3) 0)
                    (.leaf (Step.stop 1 [.b false]))
                    (.node (gn (dOf r2) 5 == (0 : Int))
                     (let r4 : Option (Nat × List Dat) := (op_L13_31 [.k 0, .l (Ty.pair (Ty.int IntKind.u8) (Ty.pair (Ty.int IntKind.u8) (Ty.int IntKind.u8))) l0, .n n1, .n n2, .n (IntKind.wrap .i64 (Int.tmod (Prod.fst (Prod.snd (List.getD l0 (Int.toNat n2) (Ty.dflt (Ty.pair (Ty.int IntKind.u8) (Ty.pair (Ty.int IntKind.u8) (Ty.int IntKind.u8))))))) (2 : Int))), .b (gb (dOf r1) 0), .n (gn (dOf r2) 0), .n (gn (dOf r2) 1), .n (gn (dOf r2) 2), .l (Ty.int IntKind.i64) l6, .l (Ty.pair (Ty.int IntKind.i64) (Ty.pair (Ty.int IntKind.i64) (Ty.int IntKind.i64))) l7, .l (Ty.int IntKind.i64) l8, .n (gn (dOf r2) 3), .n (gn (dOf r2) 4)]);
                      (.node (isK 0 [HK.l (Ty.pair (Ty.int IntKind.u8) (Ty.pair (Ty.int IntKind.u8) (Ty.int IntKind.u8))), HK.n, HK.n, HK.n, HK.b, HK.n, HK.n, HK.n, HK.l (Ty.int IntKind.i64), HK.l (Ty.pair (Ty.int IntKind.i64) (Ty.pair (Ty.int IntKind.i64) (Ty.int IntKind.i64))), HK.l (Ty.int IntKind.i64), HK.n, HK.n] r4)
                       (.node (inR (gn (dOf r4) 3) (List.length (gl (Ty.pair (Ty.int IntKind.i64) (Ty.pair (Ty.int IntKind.i64) (Ty.int IntKind.i64))) (dOf r4) 9)))
                        (let r5 : Option (Nat × List Dat) := (op_51 [.n (Prod.fst (List.getD (gl (Ty.pair (Ty.int IntKind.i64) (Ty.pair (Ty.int IntKind.i64) (Ty.int IntKind.i64))) (dOf r4) 9) (Int.toNat (gn (dOf r4) 3)) (Ty.dflt (Ty.pair (Ty.int IntKind.i64) (Ty.pair (Ty.int IntKind.i64) (Ty.int IntKind.i64)))))), .n (Prod.fst (Prod.snd (List.getD (gl (Ty.pair (Ty.int IntKind.i64) (Ty.pair (Ty.int IntKind.i64) (Ty.int IntKind.i64))) (dOf r4) 9) (Int.toNat (gn (dOf r4) 3)) (Ty.dflt (Ty.pair (Ty.int IntKind.i64) (Ty.pair (Ty.int IntKind.i64) (Ty.int IntKind.i64))))))), .n (Prod.snd (Prod.snd (List.getD (gl (Ty.pair (Ty.int IntKind.i64) (Ty.pair (Ty.int IntKind.i64) (Ty.int IntKind.i64))) (dOf r4) 9) (Int.toNat (gn (dOf r4) 3)) (Ty.dflt (Ty.pair (Ty.int IntKind.i64) (Ty.pair (Ty.int IntKind.i64) (Ty.int IntKind.i64))))))), .n (gn (dOf r4) 11), .n (gn (dOf r4) 12)]);
                         (.node (isK 0 [HK.n, HK.n, HK.n, HK.n] r5)
                          (.node (gn (dOf r5) 3 != (0 : Int))
                           (.leaf (Step.stop 1 [.b false]))
                           (.node (inR (IntKind.wrap .i64 (gn (dOf r4) 11 - (1 : Int))) (List.length (gl (Ty.int IntKind.i64) (dOf r4) 10)))
                            (.node ((List.getD (gl (Ty.int IntKind.i64) (dOf r4) 10) (Int.toNat (IntKind.wrap .i64 (gn (dOf r4) 11 - (1 : Int)))) (0 : Int) : Int) != gn (dOf r4) 3)
                             (.leaf (Step.stop 1 [.b false]))
                             (.node (gb (dOf r4) 4)
                              (.leaf (Step.stop 1 [.b false]))
                              (.node (inR (0 : Int) (List.length (List.set (gl (Ty.pair (Ty.int IntKind.i64) (Ty.pair (Ty.int IntKind.i64) (Ty.int IntKind.i64))) (dOf r4) 9) (Int.toNat (gn (dOf r4) 3)) (gn (dOf r5) 0, gn (dOf r5) 1, gn (dOf r5) 2))))
                               (.node (inR (0 : Int) (List.length (gl (Ty.int IntKind.i64) (dOf r4) 8)))
                                (let r6 : Option (Nat × List Dat) := (op_50 [.n (Prod.fst (List.getD (List.set (gl (Ty.pair (Ty.int IntKind.i64) (Ty.pair (Ty.int IntKind.i64) (Ty.int IntKind.i64))) (dOf r4) 9) (Int.toNat (gn (dOf r4) 3)) (gn (dOf r5) 0, gn (dOf r5) 1, gn (dOf r5) 2)) 0 (Ty.dflt (Ty.pair (Ty.int IntKind.i64) (Ty.pair (Ty.int IntKind.i64) (Ty.int IntKind.i64)))))), .n (Prod.fst (Prod.snd (List.getD (List.set (gl (Ty.pair (Ty.int IntKind.i64) (Ty.pair (Ty.int IntKind.i64) (Ty.int IntKind.i64))) (dOf r4) 9) (Int.toNat (gn (dOf r4) 3)) (gn (dOf r5) 0, gn (dOf r5) 1, gn (dOf r5) 2)) 0 (Ty.dflt (Ty.pair (Ty.int IntKind.i64) (Ty.pair (Ty.int IntKind.i64) (Ty.int IntKind.i64))))))), .n (Prod.snd (Prod.snd (List.getD (List.set (gl (Ty.pair (Ty.int IntKind.i64) (Ty.pair (Ty.int IntKind.i64) (Ty.int IntKind.i64))) (dOf r4) 9) (Int.toNat (gn (dOf r4) 3)) (gn (dOf r5) 0, gn (dOf r5) 1, gn (dOf r5) 2)) 0 (Ty.dflt (Ty.pair (Ty.int IntKind.i64) (Ty.pair (Ty.int IntKind.i64) (Ty.int IntKind.i64))))))), .n (IntKind.wrap .i64 (gn (dOf r4) 1 - (List.getD (gl (Ty.int IntKind.i64) (dOf r4) 8) 0 (0 : Int) : Int)))]);
                                 (.node (isK 0 [HK.b] r6)
                                  (.node (gb (dOf r6) 0)
                                   (.node (inR (1 : Int) (List.length (List.set (gl (Ty.pair (Ty.int IntKind.i64) (Ty.pair (Ty.int IntKind.i64) (Ty.int IntKind.i64))) (dOf r4) 9) (Int.toNat (gn (dOf r4) 3)) (gn (dOf r5) 0, gn (dOf r5) 1, gn (dOf r5) 2))))
                                    (.node (inR (1 : Int) (List.length (gl (Ty.int IntKind.i64) (dOf r4) 8)))
                                     (let r7 : Option (Nat × List Dat) := (op_50 [.n (Prod.fst (List.getD (List.set (gl (Ty.pair (Ty.int IntKind.i64) (Ty.pair (Ty.int IntKind.i64) (Ty.int IntKind.i64))) (dOf r4) 9) (Int.toNat (gn (dOf r4) 3)) (gn (dOf r5) 0, gn (dOf r5) 1, gn (dOf r5) 2)) 1 (Ty.dflt (Ty.pair (Ty.int IntKind.i64) (Ty.pair (Ty.int IntKind.i64) (Ty.int IntKind.i64)))))), .n (Prod.fst (Prod.snd (List.getD (List.set (gl (Ty.pair (Ty.int IntKind.i64) (Ty.pair (Ty.int IntKind.i64) (Ty.int IntKind.i64))) (dOf r4) 9) (Int.toNat (gn (dOf r4) 3)) (gn (dOf r5) 0, gn (dOf r5) 1, gn (dOf r5) 2)) 1 (Ty.dflt (Ty.pair (Ty.int IntKind.i64) (Ty.pair (Ty.int IntKind.i64) (Ty.int IntKind.i64))))))), .n (Prod.snd (Prod.snd (List.getD (List.set (gl (Ty.pair (Ty.int IntKind.i64) (Ty.pair (Ty.int IntKind.i64) (Ty.int IntKind.i64))) (dOf r4) 9) (Int.toNat (gn (dOf r4) 3)) (gn (dOf r5) 0, gn (dOf r5) 1, gn (dOf r5) 2)) 1 (Ty.dflt (Ty.pair (Ty.int IntKind.i64) (Ty.pair (Ty.int IntKind.i64) (Ty.int IntKind.i64))))))), .n (IntKind.wrap .i64 (gn (dOf r4) 1 - (List.getD (gl (Ty.int IntKind.i64) (dOf r4) 8) 1 (0 : Int) : Int)))]);
                                      (.node (isK 0 [HK.b] r7)
                                       (.node (gb (dOf r7) 0)
                                        (.leaf (Step.stop 1 [.b false]))
                                        (.leaf (Step.go [.k 0, .l (Ty.pair (Ty.int IntKind.u8) (Ty.pair (Ty.int IntKind.u8) (Ty.int IntKind.u8))) (gl (Ty.pair (Ty.int IntKind.u8) (Ty.pair (Ty.int IntKind.u8) (Ty.int IntKind.u8))) (dOf r4) 0), .n (gn (dOf r4) 1), .n (IntKind.wrap .i64 (gn (dOf r4) 2 + (1 : Int))), .n (gn (dOf r4) 5), .n (gn (dOf r4) 6), .n (gn (dOf r4) 7), .l (Ty.int IntKind.i64) (gl (Ty.int IntKind.i64) (dOf r4) 8), .l (Ty.pair (Ty.int IntKind.i64) (Ty.pair (Ty.int IntKind.i64) (Ty.int IntKind.i64))) (List.set (gl (Ty.pair (Ty.int IntKind.i64) (Ty.pair (Ty.int IntKind.i64) (Ty.int IntKind.i64))) (dOf r4) 9) (Int.toNat (gn (dOf r4) 3)) (gn (dOf r5) 0, gn (dOf r5) 1, gn (dOf r5) 2)), .l (Ty.int IntKind.i64) (gl (Ty.int IntKind.i64) (dOf r4) 10)])))
                                       (.bad 351)))
                                     (.bad 12))
                                    (.bad 12))
                                   (.leaf (Step.go [.k 0, .l (Ty.pair (Ty.int IntKind.u8) (Ty.pair (Ty.int IntKind.u8) (Ty.int IntKind.u8))) (gl (Ty.pair (Ty.int IntKind.u8) (Ty.pair (Ty.int IntKind.u8) (Ty.int IntKind.u8))) (dOf r4) 0), .n (gn (dOf r4) 1), .n (IntKind.wrap .i64 (gn (dOf r4) 2 + (1 : Int))), .n (gn (dOf r4) 5), .n (gn (dOf r4) 6), .n (gn (dOf r4) 7), .l (Ty.int IntKind.i64) (gl (Ty.int IntKind.i64) (dOf r4) 8), .l (Ty.pair (Ty.int IntKind.i64) (Ty.pair (Ty.int IntKind.i64) (Ty.int IntKind.i64))) (List.set (gl (Ty.pair (Ty.int IntKind.i64) (Ty.pair (Ty.int IntKind.i64) (Ty.int IntKind.i64))) (dOf r4) 9) (Int.toNat (gn (dOf r4) 3)) (gn (dOf r5) 0, gn (dOf r5) 1, gn (dOf r5) 2)), .l (Ty.int IntKind.i64) (gl (Ty.int IntKind.i64) (dOf r4) 10)])))
                                  (.bad 351)))
                                (.bad 12))
                               (.bad 12))))
                            (.bad 12)))
                          (.bad 351)))
                        (.bad 12))
                       (.bad 351)))
                     (.node (inR (0 : Int) (List.length l7))
                      (.node (inR (0 : Int) (List.length l6))
                       (let r4 : Option (Nat × List Dat) := (op_50 [.n (Prod.fst (List.getD l7 0 (Ty.dflt (Ty.pair (Ty.int IntKind.i64) (Ty.pair (Ty.int IntKind.i64) (Ty.int IntKind.i64)))))), .n (Prod.fst (Prod.snd (List.getD l7 0 (Ty.dflt (Ty.pair (Ty.int IntKind.i64) (Ty.pair (Ty.int IntKind.i64) (Ty.int IntKind.i64))))))), .n (Prod.snd (Prod.snd (List.getD l7 0 (Ty.dflt (Ty.pair (Ty.int IntKind.i64) (Ty.pair (Ty.int IntKind.i64) (Ty.int IntKind.i64))))))), .n (IntKind.wrap .i64 (n1 - (List.getD l6 0 (0 : Int) : Int)))]);
                        (.node (isK 0 [HK.b] r4)
                         (.node (gb (dOf r4) 0)
                          (.node (inR (1 : Int) (List.length l7))
                           (.node (inR (1 : Int) (List.length l6))
                            (let r5 : Option (Nat × List Dat) := (op_50 [.n (Prod.fst (List.getD l7 1 (Ty.dflt (Ty.pair (Ty.int IntKind.i64) (Ty.pair (Ty.int IntKind.i64) (Ty.int IntKind.i64)))))), .n (Prod.fst (Prod.snd (List.getD l7 1 (Ty.dflt (Ty.pair (Ty.int IntKind.i64) (Ty.pair (Ty.int IntKind.i64) (Ty.int IntKind.i64))))))), .n (Prod.snd (Prod.snd (List.getD l7 1 (Ty.dflt (Ty.pair (Ty.int IntKind.i64) (Ty.pair (Ty.int IntKind.i64) (Ty.int IntKind.i64))))))), .n (IntKind.wrap .i64 (n1 - (List.getD l6 1 (0 : Int) : Int)))]);
                             (.node (isK 0 [HK.b] r5)
                              (.node (gb (dOf r5) 0)
                               (.leaf (Step.stop 1 [.b false]))
                               (.leaf (Step.go [.k 0, .l (Ty.pair (Ty.int IntKind.u8) (Ty.pair (Ty.int IntKind.u8) (Ty.int IntKind.u8))) l0, .n n1, .n (IntKind.wrap .i64 (n2 + (1 : Int))), .n (gn (dOf r2) 0), .n (gn (dOf r2) 1), .n (gn (dOf r2) 2), .l (Ty.int IntKind.i64) l6, .l (Ty.pair (Ty.int IntKind.i64) (Ty.pair (Ty.int IntKind.i64) (Ty.int IntKind.i64))) l7, .l (Ty.int IntKind.i64) l8])))
                              (.bad 351)))
                            (.bad 12))
                           (.bad 12))
                          (.leaf (Step.go [.k 0, .l (Ty.pair (Ty.int IntKind.u8) (Ty.pair (Ty.int IntKind.u8) (Ty.int IntKind.u8))) l0, .n n1, .n (IntKind.wrap .i64 (n2 + (1 : Int))), .n (gn (dOf r2) 0), .n (gn (dOf r2) 1), .n (gn (dOf r2) 2), .l (Ty.int IntKind.i64) l6, .l (Ty.pair (Ty.int IntKind.i64) (Ty.pair (Ty.int IntKind.i64) (Ty.int IntKind.i64))) l7, .l (Ty.int IntKind.i64) l8])))
                         (.bad 351)))
                       (.bad 12))
                      (.bad 12))))
                   (.bad 351)))))
               (.bad 351)))
             (.node (Int.tmod (Prod.fst (List.getD l0 (Int.toNat n2) (Ty.dflt (Ty.pair (Ty.int IntKind.u8) (Ty.pair (Ty.int IntKind.u8) (Ty.int IntKind.u8)))))) (5 : Int) == (3 : Int))
              (.node (inR (IntKind.wrap .i64 (Int.tmod (Prod.fst (Prod.snd (List.getD l0 (Int.toNat n2) (Ty.dflt (Ty.pair (Ty.int IntKind.u8) (Ty.pair (Ty.int IntKind.u8) (Ty.int IntKind.u8))))))) (2 : Int))) (List.length l7))
               (let r2 : Option (Nat × List Dat) := (op_45 [.n n3, .n n4, .n n5, .n (IntKind.wrap .i64 (Int.tmod (Prod.fst (Prod.snd (List.getD l0 (Int.toNat n2) (Ty.dflt (Ty.pair (Ty.int IntKind.u8) (Ty.pair (Ty.int IntKind.u8) (Ty.int IntKind.u8))))))) (2 : Int))), .n (Prod.fst (Prod.snd (List.getD l7 (Int.toNat (IntKind.wrap .i64 (Int.tmod (Prod.fst (Prod.snd (List.getD l0 (Int.toNat n2) (Ty.dflt (Ty.pair (Ty.int IntKind.u8) (Ty.pair (Ty.int IntKind.u8) (Ty.int IntKind.u8))))))) (2 : Int)))) (Ty.dflt (Ty.pair (Ty.int IntKind.i64) (Ty.pair (Ty.int IntKind.i64) (Ty.int IntKind.i64))))))), .n n1]);
                (.node (isK 0 [HK.n, HK.n, HK.n, HK.n, HK.n, HK.n] r2)
                 (.node (decide (gn (dOf r2) 0 < n3))
                  (.leaf (Step.stop 1 [.b false]))
                  (.node (decide (gn (dOf r2) 0 > IntKind.wrap .i64 (n3 + (1 : Int))))
                   (.leaf (Step.stop 1 [.b false]))
                   (let r3 : Option (Nat × List Dat) := (op_42 [.n (gn (dOf r2) 0), .n (gn (dOf r2) 1), .n (gn (dOf r2) 2)]);
                    (.node (isK 0 [HK.b] r3)
                     (.node (!gb (dOf r3) 0)
                      (.leaf (Step.stop 1 [.b false]))
                      (.node (gn (dOf r2) 5 == (0 : Int))
                       (let r4 : Option (Nat × List Dat) := (op_L13_31 [.k 0, .l (Ty.pair (Ty.int IntKind.u8) (Ty.pair (Ty.int IntKind.u8) (Ty.int IntKind.u8))) l0, .n n1, .n n2, .n (IntKind.wrap .i64 (Int.tmod (Prod.fst (Prod.snd (List.getD l0 (Int.toNat n2) (Ty.dflt (Ty.pair (Ty.int IntKind.u8) (Ty.pair (Ty.int IntKind.u8) (Ty.int IntKind.u8))))))) (2 : Int))), .b (gb (dOf r1) 0), .n (gn (dOf r2) 0), .n (gn (dOf r2) 1), .n (gn (dOf r2) 2), .l (Ty.int IntKind.i64) l6, .l (Ty.pair (Ty.int IntKind.i64) (Ty.pair (Ty.int IntKind.i64) (Ty.int IntKind.i64))) l7, .l (Ty.int IntKind.i64) l8, .n (gn (dOf r2) 3), .n (gn (dOf r2) 4)]);
                        (.node (isK 0 [HK.l (Ty.pair (Ty.int IntKind.u8) (Ty.pair (Ty.int IntKind.u8) (Ty.int IntKind.u8))), HK.n, HK.n, HK.n, HK.b, HK.n, HK.n, HK.n, HK.l (Ty.int IntKind.i64), HK.l (Ty.pair (Ty.int IntKind.i64) (Ty.pair (Ty.int IntKind.i64) (Ty.int IntKind.i64))), HK.l (Ty.int IntKind.i64), HK.n, HK.n] r4)
                         (.node (inR (gn (dOf r4) 3) (List.length (gl (Ty.pair (Ty.int IntKind.i64) (Ty.pair (Ty.int IntKind.i64) (Ty.int IntKind.i64))) (dOf r4) 9)))
                          (let r5 : Option (Nat × List Dat) := (op_51 [.n (Prod.fst (List.getD (gl (Ty.pair (Ty.int IntKind.i64) (Ty.pair (Ty.int IntKind.i64) (Ty.int IntKind.i64))) (dOf r4) 9) (Int.toNat (gn (dOf r4) 3)) (Ty.dflt (Ty.pair (Ty.int IntKind.i64) (Ty.pair (Ty.int IntKind.i64) (Ty.int IntKind.i64)))))), .n (Prod.fst (Prod.snd (List.getD (gl (Ty.pair (Ty.int IntKind.i64) (Ty.pair (Ty.int IntKind.i64) (Ty.int IntKind.i64))) (dOf r4) 9) (Int.toNat (gn (dOf r4) 3)) (Ty.dflt (Ty.pair (Ty.int IntKind.i64) (Ty.pair (Ty.int IntKind.i64) (Ty.int IntKind.i64))))))), .n (Prod.snd (Prod.snd (List.getD (gl (Ty.pair (Ty.int IntKind.i64) (Ty.pair (Ty.int IntKind.i64) (Ty.int IntKind.i64))) (dOf r4) 9) (Int.toNat (gn (dOf r4) 3)) (Ty.dflt (Ty.pair (Ty.int IntKind.i64) (Ty.pair (Ty.int IntKind.i64) (Ty.int IntKind.i64))))))), .n (gn (dOf r4) 11), .n (gn (dOf r4) 12)]);
                           (.node (isK 0 [HK.n, HK.n, HK.n, HK.n] r5)
                            (.node (gn (dOf r5) 3 != (0 : Int))
                             (.leaf (Step.stop 1 [.b false]))
                             (.node (inR (IntKind.wrap .i64 (gn (dOf r4) 11 - (1 : Int))) (List.length (gl (Ty.int IntKind.i64) (dOf r4) 10)))
                              (.node ((List.getD (gl (Ty.int IntKind.i64) (dOf r4) 10) (Int.toNat (IntKind.wrap .i64 (gn (dOf r4) 11 - (1 : Int)))) (0 : Int) : Int) != gn (dOf r4) 3)
                               (.leaf (Step.stop 1 [.b false]))
                               (.node (gb (dOf r4) 4)
                                (.leaf (Step.stop 1 [.b false]))
                                (.node (inR (0 : Int) (List.length (List.set (gl (Ty.pair (Ty.int IntKind.i64) (Ty.pair (Ty.int IntKind.i64) (Ty.int IntKind.i64))) (dOf r4) 9) (Int.toNat (gn (dOf r4) 3)) (gn (dOf r5) 0, gn (dOf r5) 1, gn (dOf r5) 2))))
                                 (.node (inR (0 : Int) (List.length (gl (Ty.int IntKind.i64) (dOf r4) 8)))
                                  (let r6 : Option (Nat × List Dat) := (op_50 [.n (Prod.fst (List.getD (List.set (gl (Ty.pair (Ty.int IntKind.i64) (Ty.pair (Ty.int IntKind.i64) (Ty.int IntKind.i64))) (dOf r4) 9) (Int.toNat (gn (dOf r4) 3)) (gn (dOf r5) 0, gn (dOf r5) 1, gn (dOf r5) 2)) 0 (Ty.dflt (Ty.pair (Ty.int IntKind.i64) (Ty.pair (Ty.int IntKind.i64) (Ty.int IntKind.i64)))))), .n (Prod.fst (Prod.snd (List.getD (List.set (gl (Ty.pair (Ty.int IntKind.i64) (Ty.pair (Ty.int IntKind.i64) (Ty.int IntKind.i64))) (dOf r4) 9) (Int.toNat (gn (dOf r4) 3)) (gn (dOf r5) 0, gn (dOf r5) 1, gn (dOf r5) 2)) 0 (Ty.dflt (Ty.pair (Ty.int IntKind.i64) (Ty.pair (Ty.int IntKind.i64) (Ty.int IntKind.i64))))))), .n (Prod.snd (Prod.snd (List.getD (List.set (gl (Ty.pair (Ty.int IntKind.i64) (Ty.pair (Ty.int IntKind.i64) (Ty.int IntKind.i64))) (dOf r4) 9) (Int.toNat (gn (dOf r4) 3)) (gn (dOf r5) 0, gn (dOf r5) 1, gn (dOf r5) 2)) 0 (Ty.dflt (Ty.pair (Ty.int IntKind.i64) (Ty.pair (Ty.int IntKind.i64) (Ty.int IntKind.i64))))))), .n (IntKind.wrap .i64 (gn (dOf r4) 1 - (List.getD (gl (Ty.int IntKind.i64) (dOf r4) 8) 0 (0 : Int) : Int)))]);
                                   (.node (isK 0 [HK.b] r6)
                                    (.node (gb (dOf r6) 0)
                                     (.node (inR (1 : Int) (List.length (List.set (gl (Ty.pair (Ty.int IntKind.i64) (Ty.pair (Ty.int IntKind.i64) (Ty.int IntKind.i64))) (dOf r4) 9) (Int.toNat (gn (dOf r4) 3)) (gn (dOf r5) 0, gn (dOf r5) 1, gn (dOf r5) 2))))
                                      (.node (inR (1 : Int) (List.length (gl (Ty.int IntKind.i64) (dOf r4) 8)))
                                       (let r7 : Option (Nat × List Dat) := (op_50 [.n (Prod.fst (List.getD (List.set (gl (Ty.pair (Ty.int IntKind.i64) (Ty.pair (Ty.int IntKind.i64) (Ty.int IntKind.i64))) (dOf r4) 9) (Int.toNat (gn (dOf r4) 3)) (gn (dOf r5) 0, gn (dOf r5) 1, gn (dOf r5) 2)) 1 (Ty.dflt (Ty.pair (Ty.int IntKind.i64) (Ty.pair (Ty.int IntKind.i64) (Ty.int IntKind.i64)))))), .n (Prod.fst (Prod.snd (List.getD (List.set (gl (Ty.pair (Ty.int IntKind.i64) (Ty.pair (Ty.int IntKind.i64) (Ty.int IntKind.i64))) (dOf r4) 9) (Int.toNat (gn (dOf r4) 3)) (gn (dOf r5) 0, gn (dOf r5) 1, gn (dOf r5) 2)) 1 (Ty.dflt (Ty.pair (Ty.int IntKind.i64) (Ty.pair (Ty.int IntKind.i64) (Ty.int IntKind.i64))))))), .n (Prod.snd (Prod.snd (List.getD (List.set (gl (Ty.pair (Ty.int IntKind.i64) (Ty.pair (Ty.int IntKind.i64) (Ty.int IntKind.i64))) (dOf r4) 9) (Int.toNat (gn (dOf r4) 3)) (gn (dOf r5) 0, gn (dOf r5) 1, gn (dOf r5) 2)) 1 (Ty.dflt (Ty.pair (Ty.int IntKind.i64) (Ty.pair (Ty.int IntKind.i64) (Ty.int IntKind.i64))))))), .n (IntKind.wrap .i64 (gn (dOf r4) 1 - (List.getD (gl (Ty.int IntKind.i64) (dOf r4) 8) 1 (0 : Int) : Int)))]);
                                        (.node (isK 0 [HK.b] r7)
                                         (.node (gb (dOf r7) 0)
                                          (.leaf (Step.stop 1 [.b false]))
                                          (.leaf (Step.go [.k 0, .l (Ty.pair (Ty.int IntKind.u8) (Ty.pair (Ty.int IntKind.u8) (Ty.int IntKind.u8))) (gl (Ty.pair (Ty.int IntKind.u8) (Ty.pair (Ty.int IntKind.u8) (Ty.int IntKind.u8))) (dOf r4) 0), .n (gn (dOf r4) 1), .n (IntKind.wrap .i64 (gn (dOf r4) 2 + (1 : Int))), .n (gn (dOf r4) 5), .n (gn (dOf r4) 6), .n (gn (dOf r4) 7), .l (Ty.int IntKind.i64) (gl (Ty.int IntKind.i64) (dOf r4) 8), .l (Ty.pair (Ty.int IntKind.i64) (Ty.pair (Ty.int IntKind.i64) (Ty.int IntKind.i64))) (List.set (gl (Ty.pair (Ty.int IntKind.i64) (Ty.pair (Ty.int IntKind.i64) (Ty.int IntKind.i64))) (dOf r4) 9) (Int.toNat (gn (dOf r4) 3)) (gn (dOf r5) 0, gn (dOf r5) 1, gn (dOf r5) 2)), .l (Ty.int IntKind.i64) (gl (Ty.int IntKind.i64) (dOf r4) 10)])))
                                         (.bad 351)))
                                       (.bad 12))
                                      (.bad 12))
                                     (.leaf (Step.go [.k 0, .l (Ty.pair (Ty.int IntKind.u8) (Ty.pair (Ty.int IntKind.u8) (Ty.int IntKind.u8))) (gl (Ty.pair (Ty.int IntKind.u8) (Ty.pair (Ty.int IntKind.u8) (Ty.int IntKind.u8))) (dOf r4) 0), .n (gn (dOf r4) 1), .n (IntKind.wrap .i64 (gn (dOf r4) 2 + (1 : Int))), .n (gn (dOf r4) 5), .n (gn (dOf r4) 6), .n (gn (dOf r4) 7), .l (Ty.int IntKind.i64) (gl (Ty.int IntKind.i64) (dOf r4) 8), .l (Ty.pair (Ty.int IntKind.i64) (Ty.pair (Ty.int IntKind.i64) (Ty.int IntKind.i64))) (List.set (gl (Ty.pair (Ty.int IntKind.i64) (Ty.pair (Ty.int IntKind.i64) (Ty.int IntKind.i64))) (dOf r4) 9) (Int.toNat (gn (dOf r4) 3)) (gn (dOf r5) 0, gn (dOf r5) 1, gn (dOf r5) 2)), .l (Ty.int IntKind.i64) (gl (Ty.int IntKind.i64) (dOf r4) 10)])))
                                    (.bad 351)))
                                  (.bad 12))
                                 (.bad 12))))
                              (.bad 12)))
                            (.bad 351)))
                          (.bad 12))
                         (.bad 351)))
                       (.node (inR (0 : Int) (List.length l7))
                        (.node (inR (0 : Int) (List.length l6))
                         (let r4 : Option (Nat × List Dat) := (op_50 [.n (Prod.fst (List.getD l7 0 (Ty.dflt (Ty.pair (Ty.int IntKind.i64) (Ty.pair (Ty.int IntKind.i64) (Ty.int IntKind.i64)))))), .n (Prod.fst (Prod.snd (List.getD l7 0 (Ty.dflt (Ty.pair (Ty.int IntKind.i64) (Ty.pair (Ty.int IntKind.i64) (Ty.int IntKind.i64))))))), .n (Prod.snd (Prod.snd (List.getD l7 0 (Ty.dflt (Ty.pair (Ty.int IntKind.i64) (Ty.pair (Ty.int IntKind.i64) (Ty.int IntKind.i64))))))), .n (IntKind.wrap .i64 (n1 - (List.getD l6 0 (0 : Int) : Int)))]);
                          (.node (isK 0 [HK.b] r4)
                           (.node (gb (dOf r4) 0)
                            (.node (inR (1 : Int) (List.length l7))
                             (.node (inR (1 : Int) (List.length l6))
                              (let r5 : Option (Nat × List Dat) := (op_50 [.n (Prod.fst (List.getD l7 1 (Ty.dflt (Ty.pair (Ty.int IntKind.i64) (Ty.pair (Ty.int IntKind.i64) (Ty.int IntKind.i64)))))), .n (Prod.fst (Prod.snd (List.getD l7 1 (Ty.dflt (Ty.pair (Ty.int IntKind.i64) (Ty.pair (Ty.int IntKind.i64) (Ty.int IntKind.i64))))))), .n (Prod.snd (Prod.snd (List.getD l7 1 (Ty.dflt (Ty.pair (Ty.int IntKind.i64) (Ty.pair (Ty.int IntKind.i64) (Ty.int IntKind.i64))))))), .n (IntKind.wrap .i64 (n1 - (List.getD l6 1 (0 : Int) : Int)))]);
                               (.node (isK 0 [HK.b] r5)
                                (.node (gb (dOf r5) 0)
                                 (.leaf (Step.stop 1 [.b false]))
                                 (.leaf (Step.go [.k 0, .l (Ty.pair (Ty.int IntKind.u8) (Ty.pair (Ty.int IntKind.u8) (Ty.int IntKind.u8))) l0, .n n1, .n (IntKind.wrap .i64 (n2 + (1 : Int))), .n (gn (dOf r2) 0), .n (gn (dOf r2) 1), .n (gn (dOf r2) 2), .l (Ty.int IntKind.i64) l6, .l (Ty.pair (Ty.int IntKind.i64) (Ty.pair (Ty.int IntKind.i64) (Ty.int IntKind.i64))) l7, .l (Ty.int IntKind.i64) l8])))
                                (.bad 351)))
                              (.bad 12))
                             (.bad 12))
                            (.leaf (Step.go [.k 0, .l (Ty.pair (Ty.int IntKind.u8) (Ty.pair (Ty.int IntKind.u8) (Ty.int IntKind.u8))) l0, .n n1, .n (IntKind.wrap .i64 (n2 + (1 : Int))), .n (gn (dOf r2) 0), .n (gn (dOf r2) 1), .n (gn (dOf r2) 2), .l (Ty.int IntKind.i64) l6, .l (Ty.pair (Ty.int IntKind.i64) (Ty.pair (Ty.int IntKind.i64) (Ty.int IntKind.i64))) l7, .l (Ty.int IntKind.i64) l8])))
                           (.bad 351)))
                         (.bad 12))
                        (.bad 12))))
                     (.bad 351)))))
                 (.bad 351)))
               (.bad 12))
              (.node (inR (IntKind.wrap .i64 (Int.tmod (Prod.fst (Prod.snd (List.getD l0 (Int.toNat n2) (Ty.dflt (Ty.pair (Ty.int IntKind.u8) (Ty.pair (Ty.int IntKind.u8) (Ty.int IntKind.u8))))))) (2 : Int))) (List.length l7))
               (let r2 : Option (Nat × List Dat) := (op_47 [.n n3, .n n4, .n n5, .n (IntKind.wrap .i64 (Int.tmod (Prod.fst (Prod.snd (List.getD l0 (Int.toNat n2) (Ty.dflt (Ty.pair (Ty.int IntKind.u8) (Ty.pair (Ty.int IntKind.u8) (Ty.int IntKind.u8))))))) (2 : Int))), .n (Prod.fst (Prod.snd (List.getD l7 (Int.toNat (IntKind.wrap .i64 (Int.tmod (Prod.fst (Prod.snd (List.getD l0 (Int.toNat n2) (Ty.dflt (Ty.pair (Ty.int IntKind.u8) (Ty.pair (Ty.int IntKind.u8) (Ty.int IntKind.u8))))))) (2 : Int)))) (Ty.dflt (Ty.pair (Ty.int IntKind.i64) (Ty.pair (Ty.int IntKind.i64) (Ty.int IntKind.i64)))))))]);
                (.node (isK 0 [HK.n, HK.n, HK.n, HK.n] r2)
                 (.node (gn (dOf r2) 3 == (0 : Int))
                  (.node (decide (gn (dOf r2) 0 < n3))
                   (.leaf (Step.stop 1 [.b false]))
                   (.node (decide (gn (dOf r2) 0 > IntKind.wrap .i64 (n3 + (1 : Int))))
                    (.leaf (Step.stop 1 [.b false]))
                    (let r3 : Option (Nat × List Dat) := (op_42 [.n (gn (dOf r2) 0), .n (gn (dOf r2) 1), .n (gn (dOf r2) 2)]);
                     (.node (isK 0 [HK.b] r3)
                      (.node (!gb (dOf r3) 0)
                       (.leaf (Step.stop 1 [.b false]))
                       (.node (inR (0 : Int) (List.length (List.set l7 (Int.toNat (IntKind.wrap .i64 (Int.tmod (Prod.fst (Prod.snd (List.getD l0 (Int.toNat n2) (Ty.dflt (Ty.pair (Ty.int IntKind.u8) (Ty.pair (Ty.int IntKind.u8) (Ty.int IntKind.u8))))))) (2 : Int)))) (IntKind.wrap .i64 (Int.tmod (Prod.fst (Prod.snd (List.getD l0 (Int.toNat n2) (Ty.dflt (Ty.pair (Ty.int IntKind.u8) (Ty.pair (Ty.int IntKind.u8) (Ty.int IntKind.u8))))))) (2 : Int)), (0 : Int), (0 : Int)))))
                        (.node (inR (0 : Int) (List.length l6))
                         (let r4 : Option (Nat × List Dat) := (op_50 [.n (Prod.fst (List.getD (List.set l7 (Int.toNat (IntKind.wrap .i64 (Int.tmod (Prod.fst (Prod.snd (List.getD l0 (Int.toNat n2) (Ty.dflt (Ty.pair (Ty.int IntKind.u8) (Ty.pair (Ty.int IntKind.u8) (Ty.int IntKind.u8))))))) (2 : Int)))) (IntKind.wrap .i64 (Int.tmod (Prod.fst (Prod.snd (List.getD l0 (Int.toNat n2) (Ty.dflt (Ty.pair (Ty.int IntKind.u8) (Ty.pair (Ty.int IntKind.u8) (Ty.int IntKind.u8))))))) (2 : Int)), (0 : Int), (0 : Int))) 0 (Ty.dflt (Ty.pair (Ty.int IntKind.i64) (Ty.pair (Ty.int IntKind.i64) (Ty.int IntKind.i64)))))), .n (Prod.fst (Prod.snd (List.getD (List.set l7 (Int.toNat (IntKind.wrap .i64 (Int.tmod (Prod.fst (Prod.snd (List.getD l0 (Int.toNat n2) (Ty.dflt (Ty.pair (Ty.int IntKind.u8) (Ty.pair (Ty.int IntKind.u8) (Ty.int IntKind.u8))))))) (2 : Int)))) (IntKind.wrap .i64 (Int.tmod (Prod.fst (Prod.snd (List.getD l0 (Int.toNat n2) (Ty.dflt (Ty.pair (Ty.int IntKind.u8) (Ty.pair (Ty.int IntKind.u8) (Ty.int IntKind.u8))))))) (2 : Int)), (0 : Int), (0 : Int))) 0 (Ty.dflt (Ty.pair (Ty.int IntKind.i64) (Ty.pair (Ty.int IntKind.i64) (Ty.int IntKind.i64))))))), .n (Prod.snd (Prod.snd (List.getD (List.set l7 (Int.toNat (IntKind.wrap .i64 (Int.tmod (Prod.fst (Prod.snd (List.getD l0 (Int.toNat n2) (Ty.dflt (Ty.pair (Ty.int IntKind.u8) (Ty.pair (Ty.int IntKind.u8) (Ty.int IntKind.u8))))))) (2 : Int)))) (IntKind.wrap .i64 (Int.tmod (Prod.fst (Prod.snd (List.getD l0 (Int.toNat n2) (Ty.dflt (Ty.pair (Ty.int IntKind.u8) (Ty.pair (Ty.int IntKind.u8) (Ty.int IntKind.u8))))))) (2 : Int)), (0 : Int), (0 : Int))) 0 (Ty.dflt (Ty.pair (Ty.int IntKind.i64) (Ty.pair (Ty.int IntKind.i64) (Ty.int IntKind.i64))))))), .n (IntKind.wrap .i64 (n1 - (List.getD l6 0 (0 : Int) : Int)))]);
                          (.node (isK 0 [HK.b] r4)
                           (.node (gb (dOf r4) 0)
                            (.node (inR (1 : Int) (List.length (List.set l7 (Int.toNat (IntKind.wrap .i64 (Int.tmod (Prod.fst (Prod.snd (List.getD l0 (Int.toNat n2) (Ty.dflt (Ty.pair (Ty.int IntKind.u8) (Ty.pair (Ty.int IntKind.u8) (Ty.int IntKind.u8))))))) (2 : Int)))) (IntKind.wrap .i64 (Int.tmod (Prod.fst (Prod.snd (List.getD l0 (Int.toNat n2) (Ty.dflt (Ty.pair (Ty.int IntKind.u8) (Ty.pair (Ty.int IntKind.u8) (Ty.int IntKind.u8))))))) (2 : Int)), (0 : Int), (0 : Int)))))
                             (.node (inR (1 : Int) (List.length l6))
                              (let r5 : Option (Nat × List Dat) := (op_50 [.n (Prod.fst (List.getD (List.set l7 (Int.toNat (IntKind.wrap .i64 (Int.tmod (Prod.fst (Prod.snd (List.getD l0 (Int.toNat n2) (Ty.dflt (Ty.pair (Ty.int IntKind.u8) (Ty.pair (Ty.int IntKind.u8) (Ty.int IntKind.u8))))))) (2 : Int)))) (IntKind.wrap .i64 (Int.tmod (Prod.fst (Prod.snd (List.getD l0 (Int.toNat n2) (Ty.dflt (Ty.pair (Ty.int IntKind.u8) (Ty.pair (Ty.int IntKind.u8) (Ty.int IntKind.u8))))))) (2 : Int)), (0 : Int), (0 : Int))) 1 (Ty.dflt (Ty.pair (Ty.int IntKind.i64) (Ty.pair (Ty.int IntKind.i64) (Ty.int IntKind.i64)))))), .n (Prod.fst (Prod.snd (List.getD (List.set l7 (Int.toNat (IntKind.wrap .i64 (Int.tmod (Prod.fst (Prod.snd (List.getD l0 (Int.toNat n2) (Ty.dflt (Ty.pair (Ty.int IntKind.u8) (Ty.pair (Ty.int IntKind.u8) (Ty.int IntKind.u8))))))) (2 : Int)))) (IntKind.wrap .i64 (Int.tmod (Prod.fst (Prod.snd (List.getD l0 (Int.toNat n2) (Ty.dflt (Ty.pair (Ty.int IntKind.u8) (Ty.pair (Ty.int IntKind.u8) (Ty.int IntKind.u8))))))) (2 : Int)), (0 : Int), (0 : Int))) 1 (Ty.dflt (Ty.pair (Ty.int IntKind.i64) (Ty.pair (Ty.int IntKind.i64) (Ty.int IntKind.i64))))))), .n (Prod.snd (Prod.snd (List.getD (List.set l7 (Int.toNat (IntKind.wrap .i64 (Int.tmod (Prod.fst (Prod.snd (List.getD l0 (Int.toNat n2) (Ty.dflt (Ty.pair (Ty.int IntKind.u8) (Ty.pair (Ty.int IntKind.u8) (Ty.int IntKind.u8))))))) (2 : Int)))) (IntKind.wrap .i64 (Int.tmod (Prod.fst (Prod.snd (List.getD l0 (Int.toNat n2) (Ty.dflt (Ty.pair (Ty.int IntKind.u8) (Ty.pair (Ty.int IntKind.u8) (Ty.int IntKind.u8))))))) (2 : Int)), (0 : Int), (0 : Int))) 1 (Ty.dflt (Ty.pair (Ty.int IntKind.i64) (Ty.pair (Ty.int IntKind.i64) (Ty.int IntKind.i64))))))), .n (IntKind.wrap .i64 (n1 - (List.getD l6 1 (0 : Int) : Int)))]);
                               (.node (isK 0 [HK.b] r5)
                                (.node (gb (dOf r5) 0)
                                 (.leaf (Step.stop 1 [.b false]))
                                 (.leaf (Step.go [.k 0, .l (Ty.pair (Ty.int IntKind.u8) (Ty.pair (Ty.int IntKind.u8) (Ty.int IntKind.u8))) l0, .n n1, .n (IntKind.wrap .i64 (n2 + (1 : Int))), .n (gn (dOf r2) 0), .n (gn (dOf r2) 1), .n (gn (dOf r2) 2), .l (Ty.int IntKind.i64) l6, .l (Ty.pair (Ty.int IntKind.i64) (Ty.pair (Ty.int IntKind.i64) (Ty.int IntKind.i64))) (List.set l7 (Int.toNat (IntKind.wrap .i64 (Int.tmod (Prod.fst (Prod.snd (List.getD l0 (Int.toNat n2) (Ty.dflt (Ty.pair (Ty.int IntKind.u8) (Ty.pair (Ty.int IntKind.u8) (Ty.int IntKind.u8))))))) (2 : Int)))) (IntKind.wrap .i64 (Int.tmod (Prod.fst (Prod.snd (List.getD l0 (Int.toNat n2) (Ty.dflt (Ty.pair (Ty.int IntKind.u8) (Ty.pair (Ty.int IntKind.u8) (Ty.int IntKind.u8))))))) (2 : Int)), (0 : Int), (0 : Int))), .l (Ty.int IntKind.i64) l8])))
                                (.bad 351)))
                              (.bad 12))
                             (.bad 12))
                            (.leaf (Step.go [.k 0, .l (Ty.pair (Ty.int IntKind.u8) (Ty.pair (Ty.int IntKind.u8) (Ty.int IntKind.u8))) l0, .n n1, .n (IntKind.wrap .i64 (n2 + (1 : Int))), .n (gn (dOf r2) 0), .n (gn (dOf r2) 1), .n (gn (dOf r2) 2), .l (Ty.int IntKind.i64) l6, .l (Ty.pair (Ty.int IntKind.i64) (Ty.pair (Ty.int IntKind.i64) (Ty.int IntKind.i64))) (List.set l7 (Int.toNat (IntKind.wrap .i64 (Int.tmod (Prod.fst (Prod.snd (List.getD l0 (Int.toNat n2) (Ty.dflt (Ty.pair (Ty.int IntKind.u8) (Ty.pair (Ty.int IntKind.u8) (Ty.int IntKind.u8))))))) (2 : Int)))) (IntKind.wrap .i64 (Int.tmod (Prod.fst (Prod.snd (List.getD l0 (Int.toNat n2) (Ty.dflt (Ty.pair (Ty.int IntKind.u8) (Ty.pair (Ty.int IntKind.u8) (Ty.int IntKind.u8))))))) (2 : Int)), (0 : Int), (0 : Int))), .l (Ty.int IntKind.i64) l8])))
                           (.bad 351)))
                         (.bad 12))
                        (.bad 12)))
                      (.bad 351)))))
                  (.node (decide (gn (dOf r2) 0 < n3))
                   (.leaf (Step.stop 1 [.b false]))
                   (.node (decide (gn (dOf r2) 0 > IntKind.wrap .i64 (n3 + (1 : Int))))
                    (.leaf (Step.stop 1 [.b false]))
                    (let r3 : Option (Nat × List Dat) := (op_42 [.n (gn (dOf r2) 0), .n (gn (dOf r2) 1), .n (gn (dOf r2) 2)]);
                     (.node (isK 0 [HK.b] r3)
                      (.node (!gb (dOf r3) 0)
                       (.leaf (Step.stop 1 [.b false]))
                       (.node (inR (0 : Int) (List.length l7))
                        (.node (inR (0 : Int) (List.length l6))
                         (let r4 : Option (Nat × List Dat) := (op_50 [.n (Prod.fst (List.getD l7 0 (Ty.dflt (Ty.pair (Ty.int IntKind.i64) (Ty.pair (Ty.int IntKind.i64) (Ty.int IntKind.i64)))))), .n (Prod.fst (Prod.snd (List.getD l7 0 (Ty.dflt (Ty.pair (Ty.int IntKind.i64) (Ty.pair (Ty.int IntKind.i64) (Ty.int IntKind.i64))))))), .n (Prod.snd (Prod.snd (List.getD l7 0 (Ty.dflt (Ty.pair (Ty.int IntKind.i64) (Ty.pair (Ty.int IntKind.i64) (Ty.int IntKind.i64))))))), .n (IntKind.wrap .i64 (n1 - (List.getD l6 0 (0 : Int) : Int)))]);
                          (.node (isK 0 [HK.b] r4)
                           (.node (gb (dOf r4) 0)
                            (.node (inR (1 : Int) (List.length l7))
                             (.node (inR (1 : Int) (List.length l6))
                              (let r5 : Option (Nat × List Dat) := (op_50 [.n (Prod.fst (List.getD l7 1 (Ty.dflt (Ty.pair (Ty.int IntKind.i64) (Ty.pair (Ty.int IntKind.i64) (Ty.int IntKind.i64)))))), .n (Prod.fst (Prod.snd (List.getD l7 1 (Ty.dflt (Ty.pair (Ty.int IntKind.i64) (Ty.pair (Ty.int IntKind.i64) (Ty.int IntKind.i64))))))), .n (Prod.snd (Prod.snd (List.getD l7 1 (Ty.dflt (Ty.pair (Ty.int IntKind.i64) (Ty.pair (Ty.int IntKind.i64) (Ty.int IntKind.i64))))))), .n (IntKind.wrap .i64 (n1 - (List.getD l6 1 (0 : Int) : Int)))]);
                               (.node (isK 0 [HK.b] r5)
                                (.node (gb (dOf r5) 0)
                                 (.leaf (Step.stop 1 [.b false]))
                                 (.leaf (Step.go [.k 0, .l (Ty.pair (Ty.int IntKind.u8) (Ty.pair (Ty.int IntKind.u8) (Ty.int IntKind.u8))) l0, .n n1, .n (IntKind.wrap .i64 (n2 + (1 : Int))), .n (gn (dOf r2) 0), .n (gn (dOf r2) 1), .n (gn (dOf r2) 2), .l (Ty.int IntKind.i64) l6, .l (Ty.pair (Ty.int IntKind.i64) (Ty.pair (Ty.int IntKind.i64) (Ty.int IntKind.i64))) l7, .l (Ty.int IntKind.i64) l8])))
                                (.bad 351)))
                              (.bad 12))
                             (.bad 12))
                            (.leaf (Step.go [.k 0, .l (Ty.pair (Ty.int IntKind.u8) (Ty.pair (Ty.int IntKind.u8) (Ty.int IntKind.u8))) l0, .n n1, .n (IntKind.wrap .i64 (n2 + (1 : Int))), .n (gn (dOf r2) 0), .n (gn (dOf r2) 1), .n (gn (dOf r2) 2), .l (Ty.int IntKind.i64) l6, .l (Ty.pair (Ty.int IntKind.i64) (Ty.pair (Ty.int IntKind.i64) (Ty.int IntKind.i64))) l7, .l (Ty.int IntKind.i64) l8])))
                           (.bad 351)))
                         (.bad 12))
                        (.bad 12)))
                      (.bad 351))))))
                 (.bad 351)))
               (.bad 12))))))
          (.bad 351)))
        (.bad 12))
       (.bad 12))
      (.bad 10))
     (.leaf (Step.stop 0 [])))
  | _ => .bad 0
def fn_L13_9 : List Dat → Tree Step
  | .k 0 :: d => fn_L13_9_0 d
  | _ => .bad 0
def op_L13_9 : List Dat → Option (Nat × List Dat) := iterS fn_L13_9 FU
def L13_9 : MBox := (mkM 0 [] [(sh 205 [(0, .imm TSt 0), (7, .ptr 0 0), (8, .int .i64 1), (9, .own 1), (10, .own 2), (11, .own 3), (12, .int .i64 2)], [.cells [.int .i64 3, .int .i64 4, .int .i64 5], .arr TI 6, .arr TTen 7, .arr TI 8])] [(11, TI)] [(.exit 0, sh 205 [], []), (.ret, sh 205 [(6, .bool 0)], [])] op_L13_9)
def fr_L13_9_0 : List Dat → Tree Step
  | [.l (Ty.pair (Ty.int IntKind.u8) (Ty.pair (Ty.int IntKind.u8) (Ty.int IntKind.u8))) l0, .n n1, .n n2, .n n3, .n n4, .n n5, .l (Ty.int IntKind.i64) l6, .l (Ty.pair (Ty.int IntKind.i64) (Ty.pair (Ty.int IntKind.i64) (Ty.int IntKind.i64))) l7, .l (Ty.int IntKind.i64) l8] =>
    (.node (decide (n2 < (↑(List.length l0) : Int)))
     (.node (inR n2 (List.length l0))
      (.node (inR (IntKind.wrap .i64 ((1 : Int) - IntKind.wrap .i64 (Int.tmod (Prod.fst (Prod.snd (List.getD l0 (Int.toNat n2) (Ty.dflt (Ty.pair (Ty.int IntKind.u8) (Ty.pair (Ty.int IntKind.u8) (Ty.int IntKind.u8))))))) (2 : Int)))) (List.length l7))
       (.node (inR (IntKind.wrap .i64 ((1 : Int) - IntKind.wrap .i64 (Int.tmod (Prod.fst (Prod.snd (List.getD l0 (Int.toNat n2) (Ty.dflt (Ty.pair (Ty.int IntKind.u8) (Ty.pair (Ty.int IntKind.u8) (Ty.int IntKind.u8))))))) (2 : Int)))) (List.length l6))
        (let r1 : Option (Nat × List Dat) := (op_50 [.n (Prod.fst (List.getD l7 (Int.toNat (IntKind.wrap .i64 ((1 : Int) - IntKind.wrap .i64 (Int.tmod (Prod.fst (Prod.snd (List.getD l0 (Int.toNat n2) (Ty.dflt (Ty.pair (Ty.int IntKind.u8) (Ty.pair (Ty.int IntKind.u8) (Ty.int IntKind.u8))))))) (2 : Int))))) (Ty.dflt (Ty.pair (Ty.int IntKind.i64) (Ty.pair (Ty.int IntKind.i64) (Ty.int IntKind.i64)))))), .n (Prod.fst (Prod.snd (List.getD l7 (Int.toNat (IntKind.wrap .i64 ((1 : Int) - IntKind.wrap .i64 (Int.tmod (Prod.fst (Prod.snd (List.getD l0 (Int.toNat n2) (Ty.dflt (Ty.pair (Ty.int IntKind.u8) (Ty.pair (Ty.int IntKind.u8) (Ty.int IntKind.u8))))))) (2 : Int))))) (Ty.dflt (Ty.pair (Ty.int IntKind.i64) (Ty.pair (Ty.int IntKind.i64) (Ty.int IntKind.i64))))))), .n (Prod.snd (Prod.snd (List.getD l7 (Int.toNat (IntKind.wrap .i64 ((1 : Int) - IntKind.wrap .i64 (Int.tmod (Prod.fst (Prod.snd (List.getD l0 (Int.toNat n2) (Ty.dflt (Ty.pair (Ty.int IntKind.u8) (Ty.pair (Ty.int IntKind.u8) (Ty.int IntKind.u8))))))) (2 : Int))))) (Ty.dflt (Ty.pair (Ty.int IntKind.i64) (Ty.pair (Ty.int IntKind.i64) (Ty.int IntKind.i64))))))), .n (IntKind.wrap .i64 (n1 - (List.getD l6 (Int.toNat (IntKind.wrap .i64 ((1 : Int) - IntKind.wrap .i64 (Int.tmod (Prod.fst (Prod.snd (List.getD l0 (Int.toNat n2) (Ty.dflt (Ty.pair (Ty.int IntKind.u8) (Ty.pair (Ty.int IntKind.u8) (Ty.int IntKind.u8))))))) (2 : Int))))) (0 : Int) : Int)))]);
         (.node (isK 0 [HK.b] r1)
          (.node (inR n2 (List.length l0))
           (.node (Int.tmod (Prod.fst (List.getD l0 (Int.toNat n2) (Ty.dflt (Ty.pair (Ty.int IntKind.u8) (Ty.pair (Ty.int IntKind.u8) (Ty.int IntKind.u8)))))) (5 : Int) == (0 : Int))
            (.node (Int.tmod (Prod.fst (List.getD l0 (Int.toNat n2) (Ty.dflt (Ty.pair (Ty.int IntKind.u8) (Ty.pair (Ty.int IntKind.u8) (Ty.int IntKind.u8)))))) (5 : Int) == (0 : Int))
             (.node (inR n2 (List.length l0))
              (.node (decide (n3 < n3))
               (.leaf (Step.stop 1 [.b false]))
               (.node (decide (n3 > IntKind.wrap .i64 (n3 + (1 : Int))))
                (.leaf (Step.stop 1 [.b false]))
                (let r2 : Option (Nat × List Dat) := (op_42 [.n n3, .n n4, .n n5]);
                 (.node (isK 0 [HK.b] r2)
                  (.node (!gb (dOf r2) 0)
                   (.leaf (Step.stop 1 [.b false]))
                   (.node (inR (0 : Int) (List.length l7))
                    (.node (inR (0 : Int) (List.length l6))
                     (let r3 : Option (Nat × List Dat) := (op_50 [.n (Prod.fst (List.getD l7 0 (Ty.dflt (Ty.pair (Ty.int IntKind.i64) (Ty.pair (Ty.int IntKind.i64) (Ty.int IntKind.i64)))))), .n (Prod.fst (Prod.snd (List.getD l7 0 (Ty.dflt (Ty.pair (Ty.int IntKind.i64) (Ty.pair (Ty.int IntKind.i64) (Ty.int IntKind.i64))))))), .n (Prod.snd (Prod.snd (List.getD l7 0 (Ty.dflt (Ty.pair (Ty.int IntKind.i64) (Ty.pair (Ty.int IntKind.i64) (Ty.int IntKind.i64))))))), .n (IntKind.wrap .i64 (IntKind.wrap .i64 (n1 + IntKind.wrap .i64 (Int.tmod (Prod.snd (Prod.snd (List.getD l0 (Int.toNat n2) (Ty.dflt (Ty.pair (Ty.int IntKind.u8) (Ty.pair (Ty.int IntKind.u8) (Ty.int IntKind.u8))))))) (4 : Int))) - (List.getD l6 0 (0 : Int) : Int)))]);
                      (.node (isK 0 [HK.b] r3)
                       (.node (gb (dOf r3) 0)
                        (.node (inR (1 : Int) (List.length l7))
                         (.node (inR (1 : Int) (List.length l6))
                          (let r4 : Option (Nat × List Dat) := (op_50 [.n (Prod.fst (List.getD l7 1 (Ty.dflt (Ty.pair (Ty.int IntKind.i64) (Ty.pair (Ty.int IntKind.i64) (Ty.int IntKind.i64)))))), .n (Prod.fst (Prod.snd (List.getD l7 1 (Ty.dflt (Ty.pair (Ty.int IntKind.i64) (Ty.pair (Ty.int IntKind.i64) (Ty.int IntKind.i64))))))), .n (Prod.snd (Prod.snd (List.getD l7 1 (Ty.dflt (Ty.pair (Ty.int IntKind.i64) (Ty.pair (Ty.int IntKind.i64) (Ty.int IntKind.i64))))))), .n (IntKind.wrap .i64 (IntKind.wrap .i64 (n1 + IntKind.wrap .i64 (Int.tmod (Prod.snd (Prod.snd (List.getD l0 (Int.toNat n2) (Ty.dflt (Ty.pair (Ty.int IntKind.u8) (Ty.pair (Ty.int IntKind.u8) (Ty.int IntKind.u8))))))) (4 : Int))) - (List.getD l6 1 (0 : Int) : Int)))]);
                           (.node (isK 0 [HK.b] r4)
                            (.node (gb (dOf r4) 0)
                             (.leaf (Step.stop 1 [.b false]))
                             (.leaf (Step.go [.k 0, .l (Ty.pair (Ty.int IntKind.u8) (Ty.pair (Ty.int IntKind.u8) (Ty.int IntKind.u8))) l0, .n (IntKind.wrap .i64 (n1 + IntKind.wrap .i64 (Int.tmod (Prod.snd (Prod.snd (List.getD l0 (Int.toNat n2) (Ty.dflt (Ty.pair (Ty.int IntKind.u8) (Ty.pair (Ty.int IntKind.u8) (Ty.int IntKind.u8))))))) (4 : Int)))), .n (IntKind.wrap .i64 (n2 + (1 : Int))), .n n3, .n n4, .n n5, .l (Ty.int IntKind.i64) l6, .l (Ty.pair (Ty.int IntKind.i64) (Ty.pair (Ty.int IntKind.i64) (Ty.int IntKind.i64))) l7, .l (Ty.int IntKind.i64) l8])))
                            (.bad 351)))
                          (.bad 12))
                         (.bad 12))
                        (.leaf (Step.go [.k 0, .l (Ty.pair (Ty.int IntKind.u8) (Ty.pair (Ty.int IntKind.u8) (Ty.int IntKind.u8))) l0, .n (IntKind.wrap .i64 (n1 + IntKind.wrap .i64 (Int.tmod (Prod.snd (Prod.snd (List.getD l0 (Int.toNat n2) (Ty.dflt (Ty.pair (Ty.int IntKind.u8) (Ty.pair (Ty.int IntKind.u8) (Ty.int IntKind.u8))))))) (4 : Int)))), .n (IntKind.wrap .i64 (n2 + (1 : Int))), .n n3, .n n4, .n n5, .l (Ty.int IntKind.i64) l6, .l (Ty.pair (Ty.int IntKind.i64) (Ty.pair (Ty.int IntKind.i64) (Ty.int IntKind.i64))) l7, .l (Ty.int IntKind.i64) l8])))
                       (.bad 351)))
                     (.bad 12))
                    (.bad 12)))
                  (.bad 351)))))
              (.bad 10))
             (.node (Int.tmod (Prod.fst (List.getD l0 (Int.toNat n2) (Ty.dflt (Ty.pair (Ty.int IntKind.u8) (Ty.pair (Ty.int IntKind.u8) (Ty.int IntKind.u8)))))) (5 : Int) == (2 : Int))
              (let r2 : Option (Nat × List Dat) := (op_39 [.n n3, .n n4, .n n5, .n (IntKind.wrap .i64 (Int.tmod (Prod.fst (Prod.snd (List.getD l0 (Int.toNat n2) (Ty.dflt (Ty.pair (Ty.int IntKind.u8) (Ty.pair (Ty.int IntKind.u8) (Ty.int IntKind.u8))))))) (2 : Int))), .n n1]);
               (.node (isK 0 [HK.n, HK.n, HK.n, HK.n, HK.n, HK.n] r2)
                (.node (decide (gn (dOf r2) 0 < n3))
                 (.leaf (Step.stop 1 [.b false]))
                 (.node (decide (gn (dOf r2) 0 > IntKind.wrap .i64 (n3 + (1 : Int))))
                  (.leaf (Step.stop 1 [.b false]))
                  (let r3 : Option (Nat × List Dat) := (op_42 [.n (gn (dOf r2) 0), .n (gn (dOf r2) 1), .n (gn (dOf r2) 2)]);
                   (.node (isK 0 [HK.b] r3)
                    (.node (!gb (dOf r3) 0)
                     (.leaf (Step.stop 1 [.b false]))
                     (.node (gn (dOf r2) 5 == (0 : Int))
                      (let r4 : Option (Nat × List Dat) := (op_L13_31 [.k 0, .l (Ty.pair (Ty.int IntKind.u8) (Ty.pair (Ty.int IntKind.u8) (Ty.int IntKind.u8))) l0, .n n1, .n n2, .n (IntKind.wrap .i64 (Int.tmod (Prod.fst (Prod.snd (List.getD l0 (Int.toNat n2) (Ty.dflt (Ty.pair (Ty.int IntKind.u8) (Ty.pair (Ty.int IntKind.u8) (Ty.int IntKind.u8))))))) (2 : Int))), .b (gb (dOf r1) 0), .n (gn (dOf r2) 0), .n (gn (dOf r2) 1), .n (gn (dOf r2) 2), .l (Ty.int IntKind.i64) l6, .l (Ty.pair (Ty.int IntKind.i64) (Ty.pair (Ty.int IntKind.i64) (Ty.int IntKind.i64))) l7, .l (Ty.int IntKind.i64) l8, .n (gn (dOf r2) 3), .n (gn (dOf r2) 4)]);
                       (.node (isK 0 [HK.l (Ty.pair (Ty.int IntKind.u8) (Ty.pair (Ty.int IntKind.u8) (Ty.int IntKind.u8))), HK.n, HK.n, HK.n, HK.b, HK.n, HK.n, HK.n, HK.l (Ty.int IntKind.i64), HK.l (Ty.pair (Ty.int IntKind.i64) (Ty.pair (Ty.int IntKind.i64) (Ty.int IntKind.i64))), HK.l (Ty.int IntKind.i64), HK.n, HK.n] r4)
                        (.node (inR (gn (dOf r4) 3) (List.length (gl (Ty.pair (Ty.int IntKind.i64) (Ty.pair (Ty.int IntKind.i64) (Ty.int IntKind.i64))) (dOf r4) 9)))
                         (let r5 : Option (Nat × List Dat) := (op_51 [.n (Prod.fst (List.getD (gl (Ty.pair (Ty.int IntKind.i64) (Ty.pair (Ty.int IntKind.i64) (Ty.int IntKind.i64))) (dOf r4) 9) (Int.toNat (gn (dOf r4) 3)) (Ty.dflt (Ty.pair (Ty.int IntKind.i64) (Ty.pair (Ty.int IntKind.i64) (Ty.int IntKind.i64)))))), .n (Prod.fst (Prod.snd (List.getD (gl (Ty.pair (Ty.int IntKind.i64) (Ty.pair (Ty.int IntKind.i64) (Ty.int IntKind.i64))) (dOf r4) 9) (Int.toNat (gn (dOf r4) 3)) (Ty.dflt (Ty.pair (Ty.int IntKind.i64) (Ty.pair (Ty.int IntKind.i64) (Ty.int IntKind.i64))))))), .n (Prod.snd (Prod.snd (List.getD (gl (Ty.pair (Ty.int IntKind.i64) (Ty.pair (Ty.int IntKind.i64) (Ty.int IntKind.i64))) (dOf r4) 9) (Int.toNat (gn (dOf r4) 3)) (Ty.dflt (Ty.pair (Ty.int IntKind.i64) (Ty.pair (Ty.int IntKind.i64) (Ty.int IntKind.i64))))))), .n (gn (dOf r4) 11), .n (gn (dOf r4) 12)]);
                          (.node (isK 0 [HK.n, HK.n, HK.n, HK.n] r5)
                           (.node (gn (dOf r5) 3 != (0 : Int))
                            (.leaf (Step.stop 1 [.b false]))
                            (.node (inR (IntKind.wrap .i64 (gn (dOf r4) 11 - (1 : Int))) (List.length (gl (Ty.int IntKind.i64) (dOf r4) 10)))
                             (.node ((List.getD (gl (Ty.int IntKind.i64) (dOf r4) 10) (Int.toNat (IntKind.wrap .i64 (gn (dOf r4) 11 - (1 : Int)))) (0 : Int) : Int) != gn (dOf r4) 3)
                              (.leaf (Step.stop 1 [.b false]))
                              (.node (gb (dOf r4) 4)
                               (.leaf (Step.stop 1 [.b false]))
                               (.node (inR (gn (dOf r4) 3) (List.length (gl (Ty.pair (Ty.int IntKind.i64) (Ty.pair (Ty.int IntKind.i64) (Ty.int IntKind.i64))) (dOf r4) 9)))
                                (.node (inR (0 : Int) (List.length (List.set (gl (Ty.pair (Ty.int IntKind.i64) (Ty.pair (Ty.int IntKind.i64) (Ty.int IntKind.i64))) (dOf r4) 9) (Int.toNat (gn (dOf r4) 3)) (gn (dOf r5) 0, gn (dOf r5) 1, gn (dOf r5) 2))))
                                 (.node (inR (0 : Int) (List.length (gl (Ty.int IntKind.i64) (dOf r4) 8)))
                                  (let r6 : Option (Nat × List Dat) := (op_50 [.n (Prod.fst (List.getD (List.set (gl (Ty.pair (Ty.int IntKind.i64) (Ty.pair (Ty.int IntKind.i64) (Ty.int IntKind.i64))) (dOf r4) 9) (Int.toNat (gn (dOf r4) 3)) (gn (dOf r5) 0, gn (dOf r5) 1, gn (dOf r5) 2)) 0 (Ty.dflt (Ty.pair (Ty.int IntKind.i64) (Ty.pair (Ty.int IntKind.i64) (Ty.int IntKind.i64)))))), .n (Prod.fst (Prod.snd (List.getD (List.set (gl (Ty.pair (Ty.int IntKind.i64) (Ty.pair (Ty.int IntKind.i64) (Ty.int IntKind.i64))) (dOf r4) 9) (Int.toNat (gn (dOf r4) 3)) (gn (dOf r5) 0, gn (dOf r5) 1, gn (dOf r5) 2)) 0 (Ty.dflt (Ty.pair (Ty.int IntKind.i64) (Ty.pair (Ty.int IntKind.i64) (Ty.int IntKind.i64))))))), .n (Prod.snd (Prod.snd (List.getD (List.set (gl (Ty.pair (Ty.int IntKind.i64) (Ty.pair (Ty.int IntKind.i64) (Ty.int IntKind.i64))) (dOf r4) 9) (Int.toNat (gn (dOf r4) 3)) (gn (dOf r5) 0, gn (dOf r5) 1, gn (dOf r5) 2)) 0 (Ty.dflt (Ty.pair (Ty.int IntKind.i64) (Ty.pair (Ty.int IntKind.i64) (Ty.int IntKind.i64))))))), .n (IntKind.wrap .i64 (gn (dOf r4) 1 - (List.getD (gl (Ty.int IntKind.i64) (dOf r4) 8) 0 (0 : Int) : Int)))]);
                                   (.node (isK 0 [HK.b] r6)
                                    (.node (gb (dOf r6) 0)
                                     (.node (inR (1 : Int) (List.length (List.set (gl (Ty.pair (Ty.int IntKind.i64) (Ty.pair (Ty.int IntKind.i64) (Ty.int IntKind.i64))) (dOf r4) 9) (Int.toNat (gn (dOf r4) 3)) (gn (dOf r5) 0, gn (dOf r5) 1, gn (dOf r5) 2))))
                                      (.node (inR (1 : Int) (List.length (gl (Ty.int IntKind.i64) (dOf r4) 8)))
                                       (let r7 : Option (Nat × List Dat) := (op_50 [.n (Prod.fst (List.getD (List.set (gl (Ty.pair (Ty.int IntKind.i64) (Ty.pair (Ty.int IntKind.i64) (Ty.int IntKind.i64))) (dOf r4) 9) (Int.toNat (gn (dOf r4) 3)) (gn (dOf r5) 0, gn (dOf r5) 1, gn (dOf r5) 2)) 1 (Ty.dflt (Ty.pair (Ty.int IntKind.i64) (Ty.pair (Ty.int IntKind.i64) (Ty.int IntKind.i64)))))), .n (Prod.fst (Prod.snd (List.getD (List.set (gl (Ty.pair (Ty.int IntKind.i64) (Ty.pair (Ty.int IntKind.i64) (Ty.int IntKind.i64))) (dOf r4) 9) (Int.toNat (gn (dOf r4) 3)) (gn (dOf r5) 0, gn (dOf r5) 1, gn (dOf r5) 2)) 1 (Ty.dflt (Ty.pair (Ty.int IntKind.i64) (Ty.pair (Ty.int IntKind.i64) (Ty.int IntKind.i64))))))), .n (Prod.snd (Prod.snd (List.getD (List.set (gl (Ty.pair (Ty.int IntKind.i64) (Ty.pair (Ty.int IntKind.i64) (Ty.int IntKind.i64))) (dOf r4) 9) (Int.toNat (gn (dOf r4) 3)) (gn (dOf r5) 0, gn (dOf r5) 1, gn (dOf r5) 2)) 1 (Ty.dflt (Ty.pair (Ty.int IntKind.i64) (Ty.pair (Ty.int IntKind.i64) (Ty.int IntKind.i64))))))), .n (IntKind.wrap .i64 (gn (dOf r4) 1 - (List.getD (gl (Ty.int IntKind.i64) (dOf r4) 8) 1 (0 : Int) : Int)))]);
                                        (.node (isK 0 [HK.b] r7)
                                         (.node (gb (dOf r7) 0)
                                          (.leaf (Step.stop 1 [.b false]))
                                          (.leaf (Step.go [.k 0, .l (Ty.pair (Ty.int IntKind.u8) (Ty.pair (Ty.int IntKind.u8) (Ty.int IntKind.u8))) (gl (Ty.pair (Ty.int IntKind.u8) (Ty.pair (Ty.int IntKind.u8) (Ty.int IntKind.u8))) (dOf r4) 0), .n (gn (dOf r4) 1), .n (IntKind.wrap .i64 (gn (dOf r4) 2 + (1 : Int))), .n (gn (dOf r4) 5), .n (gn (dOf r4) 6), .n (gn (dOf r4) 7), .l (Ty.int IntKind.i64) (gl (Ty.int IntKind.i64) (dOf r4) 8), .l (Ty.pair (Ty.int IntKind.i64) (Ty.pair (Ty.int IntKind.i64) (Ty.int IntKind.i64))) (List.set (gl (Ty.pair (Ty.int IntKind.i64) (Ty.pair (Ty.int IntKind.i64) (Ty.int IntKind.i64))) (dOf r4) 9) (Int.toNat (gn (dOf r4) 3)) (gn (dOf r5) 0, gn (dOf r5) 1, gn (dOf r5) 2)), .l (Ty.int IntKind.i64) (gl (Ty.int IntKind.i64) (dOf r4) 10)])))
                                         (.bad 351)))
                                       (.bad 12))
                                      (.bad 12))
                                     (.leaf (Step.go [.k 0, .l (Ty.pair (Ty.int IntKind.u8) (Ty.pair (Ty.int IntKind.u8) (Ty.int IntKind.u8))) (gl (Ty.pair (Ty.int IntKind.u8) (Ty.pair (Ty.int IntKind.u8) (Ty.int IntKind.u8))) (dOf r4) 0), .n (gn (dOf r4) 1), .n (IntKind.wrap .i64 (gn (dOf r4) 2 + (1 : Int))), .n (gn (dOf r4) 5), .n (gn (dOf r4) 6), .n (gn (dOf r4) 7), .l (Ty.int IntKind.i64) (gl (Ty.int IntKind.i64) (dOf r4) 8), .l (Ty.pair (Ty.int IntKind.i64) (Ty.pair (Ty.int IntKind.i64) (Ty.int IntKind.i64))) (List.set (gl (Ty.pair (Ty.int IntKind.i64) (Ty.pair (Ty.int IntKind.i64) (Ty.int IntKind.i64))) (dOf r4) 9) (Int.toNat (gn (dOf r4) 3)) (gn (dOf r5) 0, gn (dOf r5) 1, gn (dOf r5) 2)), .l (Ty.int IntKind.i64) (gl (Ty.int IntKind.i64) (dOf r4) 10)])))
                                    (.bad 351)))
                                  (.bad 12))
                                 (.bad 12))
                                (.bad 12))))
                             (.bad 12)))
                           (.bad 351)))
                         (.bad 12))
                        (.bad 351)))
                      (.node (inR (0 : Int) (List.length l7))
                       (.node (inR (0 : Int) (List.length l6))
                        (let r4 : Option (Nat × List Dat) := (op_50 [.n (Prod.fst (List.getD l7 0 (Ty.dflt (Ty.pair (Ty.int IntKind.i64) (Ty.pair (Ty.int IntKind.i64) (Ty.int IntKind.i64)))))), .n (Prod.fst (Prod.snd (List.getD l7 0 (Ty.dflt (Ty.pair (Ty.int IntKind.i64) (Ty.pair (Ty.int IntKind.i64) (Ty.int IntKind.i64))))))), .n (Prod.snd (Prod.snd (List.getD l7 0 (Ty.dflt (Ty.pair (Ty.int IntKind.i64) (Ty.pair (Ty.int IntKind.i64) (Ty.int IntKind.i64))))))), .n (IntKind.wrap .i64 (n1 - (List.getD l6 0 (0 : Int) : Int)))]);
                         (.node (isK 0 [HK.b] r4)
                          (.node (gb (dOf r4) 0)
                           (.node (inR (1 : Int) (List.length l7))
                            (.node (inR (1 : Int) (List.length l6))
                             (let r5 : Option (Nat × List Dat) := (op_50 [.n (Prod.fst (List.getD l7 1 (Ty.dflt (Ty.pair (Ty.int IntKind.i64) (Ty.pair (Ty.int IntKind.i64) (Ty.int IntKind.i64)))))), .n (Prod.fst (Prod.snd (List.getD l7 1 (Ty.dflt (Ty.pair (Ty.int IntKind.i64) (Ty.pair (Ty.int IntKind.i64) (Ty.int IntKind.i64))))))), .n (Prod.snd (Prod.snd (List.getD l7 1 (Ty.dflt (Ty.pair (Ty.int IntKind.i64) (Ty.pair (Ty.int IntKind.i64) (Ty.int IntKind.i64))))))), .n (IntKind.wrap .i64 (n1 - (List.getD l6 1 (0 : Int) : Int)))]);
                              (.node (isK 0 [HK.b] r5)
                               (.node (gb (dOf r5) 0)
                                (.leaf (Step.stop 1 [.b false]))
                                (.leaf (Step.go [.k 0, .l (Ty.pair (Ty.int IntKind.u8) (Ty.pair (Ty.int IntKind.u8) (Ty.int IntKind.u8))) l0, .n n1, .n (IntKind.wrap .i64 (n2 + (1 : Int))), .n (gn (dOf r2) 0), .n (gn (dOf r2) 1), .n (gn (dOf r2) 2), .l (Ty.int IntKind.i64) l6, .l (Ty.pair (Ty.int IntKind.i64) (Ty.pair (Ty.int IntKind.i64) (Ty.int IntKind.i64))) l7, .l (Ty.int IntKind.i64) l8])))
                               (.bad 351)))
                             (.bad 12))
                            (.bad 12))
                           (.leaf (Step.go [.k 0, .l (Ty.pair (Ty.int IntKind.u8) (Ty.pair (Ty.int IntKind.u8) (Ty.int IntKind.u8))) l0, .n n1, .n (IntKind.wrap .i64 (n2 + (1 : Int))), .n (gn (dOf r2) 0), .n (gn (dOf r2) 1), .n (gn (dOf r2) 2), .l (Ty.int IntKind.i64) l6, .l (Ty.pair (Ty.int IntKind.i64) (Ty.pair (Ty.int IntKind.i64) (Ty.int IntKind.i64))) l7, .l (Ty.int IntKind.i64) l8])))
                          (.bad 351)))
                        (.bad 12))
                       (.bad 12))))
                    (.bad 351)))))
                (.bad 351)))
              (.node (Int.tmod (Prod.fst (List.getD l0 (Int.toNat n2) (Ty.dflt (Ty.pair (Ty.int IntKind.u8) (Ty.pair (Ty.int IntKind.u8) (Ty.int IntKind.u8)))))) (5 : Int) == (3 : Int))
               (.node (inR (IntKind.wrap .i64 (Int.tmod (Prod.fst (Prod.snd (List.getD l0 (Int.toNat n2) (Ty.dflt (Ty.pair (Ty.int IntKind.u8) (Ty.pair (Ty.int IntKind.u8) (Ty.int IntKind.u8))))))) (2 : Int))) (List.length l7))
                (let r2 : Option (Nat × List Dat) := (op_45 [.n n3, .n n4, .n n5, .n (IntKind.wrap .i64 (Int.tmod (Prod.fst (Prod.snd (List.getD l0 (Int.toNat n2) (Ty.dflt (Ty.pair (Ty.int IntKind.u8) (Ty.pair (Ty.int IntKind.u8) (Ty.int IntKind.u8))))))) (2 : Int))), .n (Prod.fst (Prod.snd (List.getD l7 (Int.toNat (IntKind.wrap .i64 (Int.tmod (Prod.fst (Prod.snd (List.getD l0 (Int.toNat n2) (Ty.dflt (Ty.pair (Ty.int IntKind.u8) (Ty.pair (Ty.int IntKind.u8) (Ty.int IntKind.u8))))))) (2 : Int)))) (Ty.dflt (Ty.pair (Ty.int IntKind.i64) (Ty.pair (Ty.int IntKind.i64) (Ty.int IntKind.i64))))))), .n n1]);
                 (.node (isK 0 [HK.n, HK.n, HK.n, HK.n, HK.n, HK.n] r2)
                  (.node (decide (gn (dOf r2) 0 < n3))
                   (.leaf (Step.stop 1 [.b false]))
                   (.node (decide (gn (dOf r2) 0 > IntKind.wrap .i64 (n3 + (1 : Int))))
                    (.leaf (Step.stop 1 [.b false]))
                    (let r3 : Option (Nat × List Dat) := (op_42 [.n (gn (dOf r2) 0), .n (gn (dOf r2) 1), .n (gn (dOf r2) 2)]);
                     (.node (isK 0 [HK.b] r3)
                      (.node (!gb (dOf r3) 0)
                       (.leaf (Step.stop 1 [.b false]))
                       (.node (gn (dOf r2) 5 == (0 : Int))
                        (let r4 : Option (Nat × List Dat) := (op_L13_31 [.k 0, .l (Ty.pair (Ty.int IntKind.u8) (Ty.pair (Ty.int IntKind.u8) (Ty.int IntKind.u8))) l0, .n n1, .n n2, .n (IntKind.wrap .i64 (Int.tmod (Prod.fst (Prod.snd (List.getD l0 (Int.toNat n2) (Ty.dflt (Ty.pair (Ty.int IntKind.u8) (Ty.pair (Ty.int IntKind.u8) (Ty.int IntKind.u8))))))) (2 : Int))), .b (gb (dOf r1) 0), .n (gn (dOf r2) 0), .n (gn (dOf r2) 1), .n (gn (dOf r2) 2), .l (Ty.int IntKind.i64) l6, .l (Ty.pair (Ty.int IntKind.i64) (Ty.pair (Ty.int IntKind.i64) (Ty.int IntKind.i64))) l7, .l (Ty.int IntKind.i64) l8, .n (gn (dOf r2) 3), .n (gn (dOf r2) 4)]);
                         (.node (isK 0 [HK.l (Ty.pair (Ty.int IntKind.u8) (Ty.pair (Ty.int IntKind.u8) (Ty.int IntKind.u8))), HK.n, HK.n, HK.n, HK.b, HK.n, HK.n, HK.n, HK.l (Ty.int IntKind.i64), HK.l (Ty.pair (Ty.int IntKind.i64) (Ty.pair (Ty.int IntKind.i64) (Ty.int IntKind.i64))), HK.l (Ty.int IntKind.i64), HK.n, HK.n] r4)
                          (.node (inR (gn (dOf r4) 3) (List.length (gl (Ty.pair (Ty.int IntKind.i64) (Ty.pair (Ty.int IntKind.i64) (Ty.int IntKind.i64))) (dOf r4) 9)))
                           (let r5 : Option (Nat × List Dat) := (op_51 [.n (Prod.fst (List.getD (gl (Ty.pair (Ty.int IntKind.i64) (Ty.pair (Ty.int IntKind.i64) (Ty.int IntKind.i64))) (dOf r4) 9) (Int.toNat (gn (dOf r4) 3)) (Ty.dflt (Ty.pair (Ty.int IntKind.i64) (Ty.pair (Ty.int IntKind.i64) (Ty.int IntKind.i64)))))), .n (Prod.fst (Prod.snd (List.getD (gl (Ty.pair (Ty.int IntKind.i64) (Ty.pair (Ty.int IntKind.i64) (Ty.int IntKind.i64))) (dOf r4) 9) (Int.toNat (gn (dOf r4) 3)) (Ty.dflt (Ty.pair (Ty.int IntKind.i64) (Ty.pair (Ty.int IntKind.i64) (Ty.int IntKind.i64))))))), .n (Prod.snd (Prod.snd (List.getD (gl (Ty.pair (Ty.int IntKind.i64) (Ty.pair (Ty.int IntKind.i64) (Ty.int IntKind.i64))) (dOf r4) 9) (Int.toNat (gn (dOf r4) 3)) (Ty.dflt (Ty.pair (Ty.int IntKind.i64) (Ty.pair (Ty.int IntKind.i64) (Ty.int IntKind.i64))))))), .n (gn (dOf r4) 11), .n (gn (dOf r4) 12)]);
                            (.node (isK 0 [HK.n, HK.n, HK.n, HK.n] r5)
                             (.node (gn (dOf r5) 3 != (0 : Int))
                              (.leaf (Step.stop 1 [.b false]))
                              (.node (inR (IntKind.wrap .i64 (gn (dOf r4) 11 - (1 : Int))) (List.length (gl (Ty.int IntKind.i64) (dOf r4) 10)))
                               (.node ((List.getD (gl (Ty.int IntKind.i64) (dOf r4) 10) (Int.toNat (IntKind.wrap .i64 (gn (dOf r4) 11 - (1 : Int)))) (0 : Int) : Int) != gn (dOf r4) 3)
                                (.leaf (Step.stop 1 [.b false]))
                                (.node (gb (dOf r4) 4)
                                 (.leaf (Step.stop 1 [.b false]))
                                 (.node (inR (gn (dOf r4) 3) (List.length (gl (Ty.pair (Ty.int IntKind.i64) (Ty.pair (Ty.int IntKind.i64) (Ty.int IntKind.i64))) (dOf r4) 9)))
                                  (.node (inR (0 : Int) (List.length (List.set (gl (Ty.pair (Ty.int IntKind.i64) (Ty.pair (Ty.int IntKind.i64) (Ty.int IntKind.i64))) (dOf r4) 9) (Int.toNat (gn (dOf r4) 3)) (gn (dOf r5) 0, gn (dOf r5) 1, gn (dOf r5) 2))))
                                   (.node (inR (0 : Int) (List.length (gl (Ty.int IntKind.i64) (dOf r4) 8)))
                                    (let r6 : Option (Nat × List Dat) := (op_50 [.n (Prod.fst (List.getD (List.set (gl (Ty.pair (Ty.int IntKind.i64) (Ty.pair (Ty.int IntKind.i64) (Ty.int IntKind.i64))) (dOf r4) 9) (Int.toNat (gn (dOf r4) 3)) (gn (dOf r5) 0, gn (dOf r5) 1, gn (dOf r5) 2)) 0 (Ty.dflt (Ty.pair (Ty.int IntKind.i64) (Ty.pair (Ty.int IntKind.i64) (Ty.int IntKind.i64)))))), .n (Prod.fst (Prod.snd (List.getD (List.set (gl (Ty.pair (Ty.int IntKind.i64) (Ty.pair (Ty.int IntKind.i64) (Ty.int IntKind.i64))) (dOf r4) 9) (Int.toNat (gn (dOf r4) 3)) (gn (dOf r5) 0, gn (dOf r5) 1, gn (dOf r5) 2)) 0 (Ty.dflt (Ty.pair (Ty.int IntKind.i64) (Ty.pair (Ty.int IntKind.i64) (Ty.int IntKind.i64))))))), .n (Prod.snd (Prod.snd (List.getD (List.set (gl (Ty.pair (Ty.int IntKind.i64) (Ty.pair (Ty.int IntKind.i64) (Ty.int IntKind.i64))) (dOf r4) 9) (Int.toNat (gn (dOf r4) 3)) (gn (dOf r5) 0, gn (dOf r5) 1, gn (dOf r5) 2)) 0 (Ty.dflt (Ty.pair (Ty.int IntKind.i64) (Ty.pair (Ty.int IntKind.i64) (Ty.int IntKind.i64))))))), .n (IntKind.wrap .i64 (gn (dOf r4) 1 - (List.getD (gl (Ty.int IntKind.i64) (dOf r4) 8) 0 (0 : Int) : Int)))]);
                                     (.node (isK 0 [HK.b] r6)
                                      (.node (gb (dOf r6) 0)
                                       (.node (inR (1 : Int) (List.length (List.set (gl (Ty.pair (Ty.int IntKind.i64) (Ty.pair (Ty.int IntKind.i64) (Ty.int IntKind.i64))) (dOf r4) 9) (Int.toNat (gn (dOf r4) 3)) (gn (dOf r5) 0, gn (dOf r5) 1, gn (dOf r5) 2))))
                                        (.node (inR (1 : Int) (List.length (gl (Ty.int IntKind.i64) (dOf r4) 8)))
                                         (let r7 : Option (Nat × List Dat) := (op_50 [.n (Prod.fst (List.getD (List.set (gl (Ty.pair (Ty.int IntKind.i64) (Ty.pair (Ty.int IntKind.i64) (Ty.int IntKind.i64))) (dOf r4) 9) (Int.toNat (gn (dOf r4) 3)) (gn (dOf r5) 0, gn (dOf r5) 1, gn (dOf r5) 2)) 1 (Ty.dflt (Ty.pair (Ty.int IntKind.i64) (Ty.pair (Ty.int IntKind.i64) (Ty.int IntKind.i64)))))), .n (Prod.fst (Prod.snd (List.getD (List.set (gl (Ty.pair (Ty.int IntKind.i64) (Ty.pair (Ty.int IntKind.i64) (Ty.int IntKind.i64))) (dOf r4) 9) (Int.toNat (gn (dOf r4) 3)) (gn (dOf r5) 0, gn (dOf r5) 1, gn (dOf r5) 2)) 1 (Ty.dflt (Ty.pair (Ty.int IntKind.i64) (Ty.pair (Ty.int IntKind.i64) (Ty.int IntKind.i64))))))), .n (Prod.snd (Prod.snd (List.getD (List.set (gl (Ty.pair (Ty.int IntKind.i64) (Ty.pair (Ty.int IntKind.i64) (Ty.int IntKind.i64))) (dOf r4) 9) (Int.toNat (gn (dOf r4) 3)) (gn (dOf r5) 0, gn (dOf r5) 1, gn (dOf r5) 2)) 1 (Ty.dflt (Ty.pair (Ty.int IntKind.i64) (Ty.pair (Ty.int IntKind.i64) (Ty.int IntKind.i64))))))), .n (IntKind.wrap .i64 (gn (dOf r4) 1 - (List.getD (gl (Ty.int IntKind.i64) (dOf r4) 8) 1 (0 : Int) : Int)))]);
                                          (.node (isK 0 [HK.b] r7)
                                           (.node (gb (dOf r7) 0)
                                            (.leaf (Step.stop 1 [.b false]))
                                            (.leaf (Step.go [.k 0, .l (Ty.pair (Ty.int IntKind.u8) (Ty.pair (Ty.int IntKind.u8) (Ty.int IntKind.u8))) (gl (Ty.pair (Ty.int IntKind.u8) (Ty.pair (Ty.int IntKind.u8) (Ty.int IntKind.u8))) (dOf r4) 0), .n (gn (dOf r4) 1), .n (IntKind.wrap .i64 (gn (dOf r4) 2 + (1 : Int))), .n (gn (dOf r4) 5), .n (gn (dOf r4) 6), .n (gn (dOf r4) 7), .l (Ty.int IntKind.i64) (gl (Ty.int IntKind.i64) (dOf r4) 8), .l (Ty.pair (Ty.int IntKind.i64) (Ty.pair (Ty.int IntKind.i64) (Ty.int IntKind.i64))) (List.set (gl (Ty.pair (Ty.int IntKind.i64) (Ty.pair (Ty.int IntKind.i64) (Ty.int IntKind.i64))) (dOf r4) 9) (Int.toNat (gn (dOf r4) 3)) (gn (dOf r5) 0, gn (dOf r5) 1, gn (dOf r5) 2)), .l (Ty.int IntKind.i64) (gl (Ty.int IntKind.i64) (dOf r4) 10)])))
                                           (.bad 351)))
                                         (.bad 12))
                                        (.bad 12))
                                       (.leaf (Step.go [.k 0, .l (Ty.pair (Ty.int IntKind.u8) (Ty.pair (Ty.int IntKind.u8) (Ty.int IntKind.u8))) (gl (Ty.pair (Ty.int IntKind.u8) (Ty.pair (Ty.int IntKind.u8) (Ty.int IntKind.u8))) (dOf r4) 0), .n (gn (dOf r4) 1), .n (IntKind.wrap .i64 (gn (dOf r4) 2 + (1 : Int))), .n (gn (dOf r4) 5), .n (gn (dOf r4) 6), .n (gn (dOf r4) 7), .l (Ty.int IntKind.i64) (gl (Ty.int IntKind.i64) (dOf r4) 8), .l (Ty.pair (Ty.int IntKind.i64) (Ty.pair (Ty.int IntKind.i64) (Ty.int IntKind.i64))) (List.set (gl (Ty.pair (Ty.int IntKind.i64) (Ty.pair (Ty.int IntKind.i64) (Ty.int IntKind.i64))) (dOf r4) 9) (Int.toNat (gn (dOf r4) 3)) (gn (dOf r5) 0, gn (dOf r5) 1, gn (dOf r5) 2)), .l (Ty.int IntKind.i64) (gl (Ty.int IntKind.i64) (dOf r4) 10)])))
                                      (.bad 351)))
                                    (.bad 12))
                                   (.bad 12))
                                  (.bad 12))))
                               (.bad 12)))
                             (.bad 351)))
                           (.bad 12))
                          (.bad 351)))
                        (.node (inR (0 : Int) (List.length l7))
                         (.node (inR (0 : Int) (List.length l6))
                          (let r4 : Option (Nat × List Dat) := (op_50 [.n (Prod.fst (List.getD l7 0 (Ty.dflt (Ty.pair (Ty.int IntKind.i64) (Ty.pair (Ty.int IntKind.i64) (Ty.int IntKind.i64)))))), .n (Prod.fst (Prod.snd (List.getD l7 0 (Ty.dflt (Ty.pair (Ty.int IntKind.i64) (Ty.pair (Ty.int IntKind.i64) (Ty.int IntKind.i64))))))), .n (Prod.snd (Prod.snd (List.getD l7 0 (Ty.dflt (Ty.pair (Ty.int IntKind.i64) (Ty.pair (Ty.int IntKind.i64) (Ty.int IntKind.i64))))))), .n (IntKind.wrap .i64 (n1 - (List.getD l6 0 (0 : Int) : Int)))]);
                           (.node (isK 0 [HK.b] r4)
                            (.node (gb (dOf r4) 0)
                             (.node (inR (1 : Int) (List.length l7))
                              (.node (inR (1 : Int) (List.length l6))
                               (let r5 : Option (Nat × List Dat) := (op_50 [.n (Prod.fst (List.getD l7 1 (Ty.dflt (Ty.pair (Ty.int IntKind.i64) (Ty.pair (Ty.int IntKind.i64) (Ty.int IntKind.i64)))))), .n (Prod.fst (Prod.snd (List.getD l7 1 (Ty.dflt (Ty.pair (Ty.int IntKind.i64) (Ty.pair (Ty.int IntKind.i64) (Ty.int IntKind.i64))))))), .n (Prod.snd (Prod.snd (List.getD l7 1 (Ty.dflt (Ty.pair (Ty.int IntKind.i64) (Ty.pair (Ty.int IntKind.i64) (Ty.int IntKind.i64))))))), .n (IntKind.wrap .i64 (n1 - (List.getD l6 1 (0 : Int) : Int)))]);
                                (.node (isK 0 [HK.b] r5)
                                 (.node (gb (dOf r5) 0)
                                  (.leaf (Step.stop 1 [.b false]))
                                  (.leaf (Step.go [.k 0, .l (Ty.pair (Ty.int IntKind.u8) (Ty.pair (Ty.int IntKind.u8) (Ty.int IntKind.u8))) l0, .n n1, .n (IntKind.wrap .i64 (n2 + (1 : Int))), .n (gn (dOf r2) 0), .n (gn (dOf r2) 1), .n (gn (dOf r2) 2), .l (Ty.int IntKind.i64) l6, .l (Ty.pair (Ty.int IntKind.i64) (Ty.pair (Ty.int IntKind.i64) (Ty.int IntKind.i64))) l7, .l (Ty.int IntKind.i64) l8])))
                                 (.bad 351)))
                               (.bad 12))
                              (.bad 12))
                             (.leaf (Step.go [.k 0, .l (Ty.pair (Ty.int IntKind.u8) (Ty.pair (Ty.int IntKind.u8) (Ty.int IntKind.u8))) l0, .n n1, .n (IntKind.wrap .i64 (n2 + (1 : Int))), .n (gn (dOf r2) 0), .n (gn (dOf r2) 1), .n (gn (dOf r2) 2), .l (Ty.int IntKind.i64) l6, .l (Ty.pair (Ty.int IntKind.i64) (Ty.pair (Ty.int IntKind.i64) (Ty.int IntKind.i64))) l7, .l (Ty.int IntKind.i64) l8])))
                            (.bad 351)))
                          (.bad 12))
                         (.bad 12))))
                      (.bad 351)))))
                  (.bad 351)))
                (.bad 12))
               (.node (inR (IntKind.wrap .i64 (Int.tmod (Prod.fst (Prod.snd (List.getD l0 (Int.toNat n2) (Ty.dflt (Ty.pair (Ty.int IntKind.u8) (Ty.pair (Ty.int IntKind.u8) (Ty.int IntKind.u8))))))) (2 : Int))) (List.length l7))
                (let r2 : Option (Nat × List Dat) := (op_47 [.n n3, .n n4, .n n5, .n (IntKind.wrap .i64 (Int.tmod (Prod.fst (Prod.snd (List.getD l0 (Int.toNat n2) (Ty.dflt (Ty.pair (Ty.int IntKind.u8) (Ty.pair (Ty.int IntKind.u8) (Ty.int IntKind.u8))))))) (2 : Int))), .n (Prod.fst (Prod.snd (List.getD l7 (Int.toNat (IntKind.wrap .i64 (Int.tmod (Prod.fst (Prod.snd (List.getD l0 (Int.toNat n2) (Ty.dflt (Ty.pair (Ty.int IntKind.u8) (Ty.pair (Ty.int IntKind.u8) (Ty.int IntKind.u8))))))) (2 : Int)))) (Ty.dflt (Ty.pair (Ty.int IntKind.i64) (Ty.pair (Ty.int IntKind.i64) (Ty.int IntKind.i64)))))))]);
                 (.node (isK 0 [HK.n, HK.n, HK.n, HK.n] r2)
                  (.node (gn (dOf r2) 3 == (0 : Int))
                   (.node (inR (IntKind.wrap .i64 (Int.tmod (Prod.fst (Prod.snd (List.getD l0 (Int.toNat n2) (Ty.dflt (Ty.pair (Ty.int IntKind.u8) (Ty.pair (Ty.int IntKind.u8) (Ty.int IntKind.u8))))))) (2 : Int))) (List.length l7))
                    (.node (decide (gn (dOf r2) 0 < n3))
                     (.leaf (Step.stop 1 [.b false]))
                     (.node (decide (gn (dOf r2) 0 > IntKind.wrap .i64 (n3 + (1 : Int))))
                      (.leaf (Step.stop 1 [.b false]))
                      (let r3 : Option (Nat × List Dat) := (op_42 [.n (gn (dOf r2) 0), .n (gn (dOf r2) 1), .n (gn (dOf r2) 2)]);
                       (.node (isK 0 [HK.b] r3)
                        (.node (!gb (dOf r3) 0)
                         (.leaf (Step.stop 1 [.b false]))
                         (.node (inR (0 : Int) (List.length (List.set l7 (Int.toNat (IntKind.wrap .i64 (Int.tmod (Prod.fst (Prod.snd (List.getD l0 (Int.toNat n2) (Ty.dflt (Ty.pair (Ty.int IntKind.u8) (Ty.pair (Ty.int IntKind.u8) (Ty.int IntKind.u8))))))) (2 : Int)))) (IntKind.wrap .i64 (Int.tmod (Prod.fst (Prod.snd (List.getD l0 (Int.toNat n2) (Ty.dflt (Ty.pair (Ty.int IntKind.u8) (Ty.pair (Ty.int IntKind.u8) (Ty.int IntKind.u8))))))) (2 : Int)), (0 : Int), (0 : Int)))))
                          (.node (inR (0 : Int) (List.length l6))
                           (let r4 : Option (Nat × List Dat) := (op_50 [.n (Prod.fst (List.getD (List.set l7 (Int.toNat (IntKind.wrap .i64 (Int.tmod (Prod.fst (Prod.snd (List.getD l0 (Int.toNat n2) (Ty.dflt (Ty.pair (Ty.int IntKind.u8) (Ty.pair (Ty.int IntKind.u8) (Ty.int IntKind.u8))))))) (2 : Int)))) (IntKind.wrap .i64 (Int.tmod (Prod.fst (Prod.snd (List.getD l0 (Int.toNat n2) (Ty.dflt (Ty.pair (Ty.int IntKind.u8) (Ty.pair (Ty.int IntKind.u8) (Ty.int IntKind.u8))))))) (2 : Int)), (0 : Int), (0 : Int))) 0 (Ty.dflt (Ty.pair (Ty.int IntKind.i64) (Ty.pair (Ty.int IntKind.i64) (Ty.int IntKind.i64)))))), .n (Prod.fst (Prod.snd (List.getD (List.set l7 (Int.toNat (IntKind.wrap .i64 (Int.tmod (Prod.fst (Prod.snd (List.getD l0 (Int.toNat n2) (Ty.dflt (Ty.pair (Ty.int IntKind.u8) (Ty.pair (Ty.int IntKind.u8) (Ty.int IntKind.u8))))))) (2 : Int)))) (IntKind.wrap .i64 (Int.tmod (Prod.fst (Prod.snd (List.getD l0 (Int.toNat n2) (Ty.dflt (Ty.pair (Ty.int IntKind.u8) (Ty.pair (Ty.int IntKind.u8) (Ty.int IntKind.u8))))))) (2 : Int)), (0 : Int), (0 : Int))) 0 (Ty.dflt (Ty.pair (Ty.int IntKind.i64) (Ty.pair (Ty.int IntKind.i64) (Ty.int IntKind.i64))))))), .n (Prod.snd (Prod.snd (List.getD (List.set l7 (Int.toNat (IntKind.wrap .i64 (Int.tmod (Prod.fst (Prod.snd (List.getD l0 (Int.toNat n2) (Ty.dflt (Ty.pair (Ty.int IntKind.u8) (Ty.pair (Ty.int IntKind.u8) (Ty.int IntKind.u8))))))) (2 : Int)))) (IntKind.wrap .i64 (Int.tmod (Prod.fst (Prod.snd (List.getD l0 (Int.toNat n2) (Ty.dflt (Ty.pair (Ty.int IntKind.u8) (Ty.pair (Ty.int IntKind.u8) (Ty.int IntKind.u8))))))) (2 : Int)), (0 : Int), (0 : Int))) 0 (Ty.dflt (Ty.pair (Ty.int IntKind.i64) (Ty.pair (Ty.int IntKind.i64) (Ty.int IntKind.i64))))))), .n (IntKind.wrap .i64 (n1 - (List.getD l6 0 (0 : Int) : Int)))]);
                            (.node (isK 0 [HK.b] r4)
                             (.node (gb (dOf r4) 0)
                              (.node (inR (1 : Int) (List.length (List.set l7 (Int.toNat (IntKind.wrap .i64 (Int.tmod (Prod.fst (Prod.snd (List.getD l0 (Int.toNat n2) (Ty.dflt (Ty.pair (Ty.int IntKind.u8) (Ty.pair (Ty.int IntKind.u8) (Ty.int IntKind.u8))))))) (2 : Int)))) (IntKind.wrap .i64 (Int.tmod (Prod.fst (Prod.snd (List.getD l0 (Int.toNat n2) (Ty.dflt (Ty.pair (Ty.int IntKind.u8) (Ty.pair (Ty.int IntKind.u8) (Ty.int IntKind.u8))))))) (2 : Int)), (0 : Int), (0 : Int)))))
                               (.node (inR (1 : Int) (List.length l6))
                                (let r5 : Option (Nat × List Dat) := (op_50 [.n (Prod.fst (List.getD (List.set l7 (Int.toNat (IntKind.wrap .i64 (Int.tmod (Prod.fst (Prod.snd (List.getD l0 (Int.toNat n2) (Ty.dflt (Ty.pair (Ty.int IntKind.u8) (Ty.pair (Ty.int IntKind.u8) (Ty.int IntKind.u8))))))) (2 : Int)))) (IntKind.wrap .i64 (Int.tmod (Prod.fst (Prod.snd (List.getD l0 (Int.toNat n2) (Ty.dflt (Ty.pair (Ty.int IntKind.u8) (Ty.pair (Ty.int IntKind.u8) (Ty.int IntKind.u8))))))) (2 : Int)), (0 : Int), (0 : Int))) 1 (Ty.dflt (Ty.pair (Ty.int IntKind.i64) (Ty.pair (Ty.int IntKind.i64) (Ty.int IntKind.i64)))))), .n (Prod.fst (Prod.snd (List.getD (List.set l7 (Int.toNat (IntKind.wrap .i64 (Int.tmod (Prod.fst (Prod.snd (List.getD l0 (Int.toNat n2) (Ty.dflt (Ty.pair (Ty.int IntKind.u8) (Ty.pair (Ty.int IntKind.u8) (Ty.int IntKind.u8))))))) (2 : Int)))) (IntKind.wrap .i64 (Int.tmod (Prod.fst (Prod.snd (List.getD l0 (Int.toNat n2) (Ty.dflt (Ty.pair (Ty.int IntKind.u8) (Ty.pair (Ty.int IntKind.u8) (Ty.int IntKind.u8))))))) (2 : Int)), (0 : Int), (0 : Int))) 1 (Ty.dflt (Ty.pair (Ty.int IntKind.i64) (Ty.pair (Ty.int IntKind.i64) (Ty.int IntKind.i64))))))), .n (Prod.snd (Prod.snd (List.getD (List.set l7 (Int.toNat (IntKind.wrap .i64 (Int.tmod (Prod.fst (Prod.snd (List.getD l0 (Int.toNat n2) (Ty.dflt (Ty.pair (Ty.int IntKind.u8) (Ty.pair (Ty.int IntKind.u8) (Ty.int IntKind.u8))))))) (2 : Int)))) (IntKind.wrap .i64 (Int.tmod (Prod.fst (Prod.snd (List.getD l0 (Int.toNat n2) (Ty.dflt (Ty.pair (Ty.int IntKind.u8) (Ty.pair (Ty.int IntKind.u8) (Ty.int IntKind.u8))))))) (2 : Int)), (0 : Int), (0 : Int))) 1 (Ty.dflt (Ty.pair (Ty.int IntKind.i64) (Ty.pair (Ty.int IntKind.i64) (Ty.int IntKind.i64))))))), .n (IntKind.wrap .i64 (n1 - (List.getD l6 1 (0 : Int) : Int)))]);
                                 (.node (isK 0 [HK.b] r5)
                                  (.node (gb (dOf r5) 0)
                                   (.leaf (Step.stop 1 [.b false]))
                                   (.leaf (Step.go [.k 0, .l (Ty.pair (Ty.int IntKind.u8) (Ty.pair (Ty.int IntKind.u8) (Ty.int IntKind.u8))) l0, .n n1, .n (IntKind.wrap .i64 (n2 + (1 : Int))), .n (gn (dOf r2) 0), .n (gn (dOf r2) 1), .n (gn (dOf r2) 2), .l (Ty.int IntKind.i64) l6, .l (Ty.pair (Ty.int IntKind.i64) (Ty.pair (Ty.int IntKind.i64) (Ty.int IntKind.i64))) (List.set l7 (Int.toNat (IntKind.wrap .i64 (Int.tmod (Prod.fst (Prod.snd (List.getD l0 (Int.toNat n2) (Ty.dflt (Ty.pair (Ty.int IntKind.u8) (Ty.pair (Ty.int IntKind.u8) (Ty.int IntKind.u8))))))) (2 : Int)))) (IntKind.wrap .i64 (Int.tmod (Prod.fst (Prod.snd (List.getD l0 (Int.toNat n2) (Ty.dflt (Ty.pair (Ty.int IntKind.u8) (Ty.pair (Ty.int IntKind.u8) (Ty.int IntKind.u8))))))) (2 : Int)), (0 : Int), (0 : Int))), .l (Ty.int IntKind.i64) l8])))
                                  (.bad 351)))
                                (.bad 12))
                               (.bad 12))
                              (.leaf (Step.go [.k 0, .l (Ty.pair (Ty.int IntKind.u8) (Ty.pair (Ty.int IntKind.u8) (Ty.int IntKind.u8))) l0, .n n1, .n (IntKind.wrap .i64 (n2 + (1 : Int))), .n (gn (dOf r2) 0), .n (gn (dOf r2) 1), .n (gn (dOf r2) 2), .l (Ty.int IntKind.i64) l6, .l (Ty.pair (Ty.int IntKind.i64) (Ty.pair (Ty.int IntKind.i64) (Ty.int IntKind.i64))) (List.set l7 (Int.toNat (IntKind.wrap .i64 (Int.tmod (Prod.fst (Prod.snd (List.getD l0 (Int.toNat n2) (Ty.dflt (Ty.pair (Ty.int IntKind.u8) (Ty.pair (Ty.int IntKind.u8) (Ty.int IntKind.u8))))))) (2 : Int)))) (IntKind.wrap .i64 (Int.tmod (Prod.fst (Prod.snd (List.getD l0 (Int.toNat n2) (Ty.dflt (Ty.pair (Ty.int IntKind.u8) (Ty.pair (Ty.int IntKind.u8) (Ty.int IntKind.u8))))))) (2 : Int)), (0 : Int), (0 : Int))), .l (Ty.int IntKind.i64) l8])))
                             (.bad 351)))
                           (.bad 12))
                          (.bad 12)))
                        (.bad 351)))))
                    (.bad 12))
                   (.node (decide (gn (dOf r2) 0 < n3))
                    (.leaf (Step.stop 1 [.b false]))
                    (.node (decide (gn (dOf r2) 0 > IntKind.wrap .i64 (n3 + (1 : Int))))
                     (.leaf (Step.stop 1 [.b false]))
                     (let r3 : Option (Nat × List Dat) := (op_42 [.n (gn (dOf r2) 0), .n (gn (dOf r2) 1), .n (gn (dOf r2) 2)]);
                      (.node (isK 0 [HK.b] r3)
                       (.node (!gb (dOf r3) 0)
                        (.leaf (Step.stop 1 [.b false]))
                        (.node (inR (0 : Int) (List.length l7))
                         (.node (inR (0 : Int) (List.length l6))
                          (let r4 : Option (Nat × List Dat) := (op_50 [.n (Prod.fst (List.getD l7 0 (Ty.dflt (Ty.pair (Ty.int IntKind.i64) (Ty.pair (Ty.int IntKind.i64) (Ty.int IntKind.i64)))))), .n (Prod.fst (Prod.snd (List.getD l7 0 (Ty.dflt (Ty.pair (Ty.int IntKind.i64) (Ty.pair (Ty.int IntKind.i64) (Ty.int IntKind.i64))))))), .n (Prod.snd (Prod.snd (List.getD l7 0 (Ty.dflt (Ty.pair (Ty.int IntKind.i64) (Ty.pair (Ty.int IntKind.i64) (Ty.int IntKind.i64))))))), .n (IntKind.wrap .i64 (n1 - (List.getD l6 0 (0 : Int) : Int)))]);
                           (.node (isK 0 [HK.b] r4)
                            (.node (gb (dOf r4) 0)
                             (.node (inR (1 : Int) (List.length l7))
                              (.node (inR (1 : Int) (List.length l6))
                               (let r5 : Option (Nat × List Dat) := (op_50 [.n (Prod.fst (List.getD l7 1 (Ty.dflt (Ty.pair (Ty.int IntKind.i64) (Ty.pair (Ty.int IntKind.i64) (Ty.int IntKind.i64)))))), .n (Prod.fst (Prod.snd (List.getD l7 1 (Ty.dflt (Ty.pair (Ty.int IntKind.i64) (Ty.pair (Ty.int IntKind.i64) (Ty.int IntKind.i64))))))), .n (Prod.snd (Prod.snd (List.getD l7 1 (Ty.dflt (Ty.pair (Ty.int IntKind.i64) (Ty.pair (Ty.int IntKind.i64) (Ty.int IntKind.i64))))))), .n (IntKind.wrap .i64 (n1 - (List.getD l6 1 (0 : Int) : Int)))]);
                                (.node (isK 0 [HK.b] r5)
                                 (.node (gb (dOf r5) 0)
                                  (.leaf (Step.stop 1 [.b false]))
                                  (.leaf (Step.go [.k 0, .l (Ty.pair (Ty.int IntKind.u8) (Ty.pair (Ty.int IntKind.u8) (Ty.int IntKind.u8))) l0, .n n1, .n (IntKind.wrap .i64 (n2 + (1 : Int))), .n (gn (dOf r2) 0), .n (gn (dOf r2) 1), .n (gn (dOf r2) 2), .l (Ty.int IntKind.i64) l6, .l (Ty.pair (Ty.int IntKind.i64) (Ty.pair (Ty.int IntKind.i64) (Ty.int IntKind.i64))) l7, .l (Ty.int IntKind.i64) l8])))
                                 (.bad 351)))
                               (.bad 12))
                              (.bad 12))
                             (.leaf (Step.go [.k 0, .l (Ty.pair (Ty.int IntKind.u8) (Ty.pair (Ty.int IntKind.u8) (Ty.int IntKind.u8))) l0, .n n1, .n (IntKind.wrap .i64 (n2 + (1 : Int))), .n (gn (dOf r2) 0), .n (gn (dOf r2) 1), .n (gn (dOf r2) 2), .l (Ty.int IntKind.i64) l6, .l (Ty.pair (Ty.int IntKind.i64) (Ty.pair (Ty.int IntKind.i64) (Ty.int IntKind.i64))) l7, .l (Ty.int IntKind.i64) l8])))
                            (.bad 351)))
                          (.bad 12))
                         (.bad 12)))
                       (.bad 351))))))
                  (.bad 351)))
                (.bad 12)))))
            (.node (Int.tmod (Prod.fst (List.getD l0 (Int.toNat n2) (Ty.dflt (Ty.pair (Ty.int IntKind.u8) (Ty.pair (Ty.int IntKind.u8) (Ty.int IntKind.u8)))))) (5 : Int) == (1 : Int))
             (.node (inR n2 (List.length l0))
              (.node (decide (n3 < n3))
               (.leaf (Step.stop 1 [.b false]))
               (.node (decide (n3 > IntKind.wrap .i64 (n3 + (1 : Int))))
                (.leaf (Step.stop 1 [.b false]))
                (let r2 : Option (Nat × List Dat) := (op_42 [.n n3, .n n4, .n n5]);
                 (.node (isK 0 [HK.b] r2)
                  (.node (!gb (dOf r2) 0)
                   (.leaf (Step.stop 1 [.b false]))
                   (.node (inR (0 : Int) (List.length l7))
                    (.node (inR (0 : Int) (List.length l6))
                     (let r3 : Option (Nat × List Dat) := (op_50 [.n (Prod.fst (List.getD l7 0 (Ty.dflt (Ty.pair (Ty.int IntKind.i64) (Ty.pair (Ty.int IntKind.i64) (Ty.int IntKind.i64)))))), .n (Prod.fst (Prod.snd (List.getD l7 0 (Ty.dflt (Ty.pair (Ty.int IntKind.i64) (Ty.pair (Ty.int IntKind.i64) (Ty.int IntKind.i64))))))), .n (Prod.snd (Prod.snd (List.getD l7 0 (Ty.dflt (Ty.pair (Ty.int IntKind.i64) (Ty.pair (Ty.int IntKind.i64) (Ty.int IntKind.i64))))))), .n (IntKind.wrap .i64 (IntKind.wrap .i64 (n1 + IntKind.wrap .i64 (Int.tmod (Prod.snd (Prod.snd (List.getD l0 (Int.toNat n2) (Ty.dflt (Ty.pair (Ty.int IntKind.u8) (Ty.pair (Ty.int IntKind.u8) (Ty.int IntKind.u8))))))) (4 : Int))) - (List.getD l6 0 (0 : Int) : Int)))]);
                      (.node (isK 0 [HK.b] r3)
                       (.node (gb (dOf r3) 0)
                        (.node (inR (1 : Int) (List.length l7))
                         (.node (inR (1 : Int) (List.length l6))
                          (let r4 : Option (Nat × List Dat) := (op_50 [.n (Prod.fst (List.getD l7 1 (Ty.dflt (Ty.pair (Ty.int IntKind.i64) (Ty.pair (Ty.int IntKind.i64) (Ty.int IntKind.i64)))))), .n (Prod.fst (Prod.snd (List.getD l7 1 (Ty.dflt (Ty.pair (Ty.int IntKind.i64) (Ty.pair (Ty.int IntKind.i64) (Ty.int IntKind.i64))))))), .n (Prod.snd (Prod.snd (List.getD l7 1 (Ty.dflt (Ty.pair (Ty.int IntKind.i64) (Ty.pair (Ty.int IntKind.i64) (Ty.int IntKind.i64))))))), .n (IntKind.wrap .i64 (IntKind.wrap .i64 (n1 + IntKind.wrap .i64 (Int.tmod (Prod.snd (Prod.snd (List.getD l0 (Int.toNat n2) (Ty.dflt (Ty.pair (Ty.int IntKind.u8) (Ty.pair (Ty.int IntKind.u8) (Ty.int IntKind.u8))))))) (4 : Int))) - (List.getD l6 1 (0 : Int) : Int)))]);
                           (.node (isK 0 [HK.b] r4)
                            (.node (gb (dOf r4) 0)
                             (.leaf (Step.stop 1 [.b false]))
                             (.leaf (Step.go [.k 0, .l (Ty.pair (Ty.int IntKind.u8) (Ty.pair (Ty.int IntKind.u8) (Ty.int IntKind.u8))) l0, .n (IntKind.wrap .i64 (n1 + IntKind.wrap .i64 (Int.tmod (Prod.snd (Prod.snd (List.getD l0 (Int.toNat n2) (Ty.dflt (Ty.pair (Ty.int IntKind.u8) (Ty.pair (Ty.int IntKind.u8) (Ty.int IntKind.u8))))))) (4 : Int)))), .n (IntKind.wrap .i64 (n2 + (1 : Int))), .n n3, .n n4, .n n5, .l (Ty.int IntKind.i64) l6, .l (Ty.pair (Ty.int IntKind.i64) (Ty.pair (Ty.int IntKind.i64) (Ty.int IntKind.i64))) l7, .l (Ty.int IntKind.i64) l8])))
                            (.bad 351)))
                          (.bad 12))
                         (.bad 12))
                        (.leaf (Step.go [.k 0, .l (Ty.pair (Ty.int IntKind.u8) (Ty.pair (Ty.int IntKind.u8) (Ty.int IntKind.u8))) l0, .n (IntKind.wrap .i64 (n1 + IntKind.wrap .i64 (Int.tmod (Prod.snd (Prod.snd (List.getD l0 (Int.toNat n2) (Ty.dflt (Ty.pair (Ty.int IntKind.u8) (Ty.pair (Ty.int IntKind.u8) (Ty.int IntKind.u8))))))) (4 : Int)))), .n (IntKind.wrap .i64 (n2 + (1 : Int))), .n n3, .n n4, .n n5, .l (Ty.int IntKind.i64) l6, .l (Ty.pair (Ty.int IntKind.i64) (Ty.pair (Ty.int IntKind.i64) (Ty.int IntKind.i64))) l7, .l (Ty.int IntKind.i64) l8])))
                       (.bad 351)))
                     (.bad 12))
                    (.bad 12)))
                  (.bad 351)))))
              (.bad 10))
             (.node (Int.tmod (Prod.fst (List.getD l0 (Int.toNat n2) (Ty.dflt (Ty.pair (Ty.int IntKind.u8) (Ty.pair (Ty.int IntKind.u8) (Ty.int IntKind.u8)))))) (5 : Int) == (2 : Int))
              (let r2 : Option (Nat × List Dat) := (op_39 [.n n3, .n n4, .n n5, .n (IntKind.wrap .i64 (Int.tmod (Prod.fst (Prod.snd (List.getD l0 (Int.toNat n2) (Ty.dflt (Ty.pair (Ty.int IntKind.u8) (Ty.pair (Ty.int IntKind.u8) (Ty.int IntKind.u8))))))) (2 : Int))), .n n1]);
               (.node (isK 0 [HK.n, HK.n, HK.n, HK.n, HK.n, HK.n] r2)
                (.node (decide (gn (dOf r2) 0 < n3))
                 (.leaf (Step.stop 1 [.b false]))
                 (.node (decide (gn (dOf r2) 0 > IntKind.wrap .i64 (n3 + (1 : Int))))
                  (.leaf (Step.stop 1 [.b false]))
                  (let r3 : Option (Nat × List Dat) := (op_42 [.n (gn (dOf r2) 0), .n (gn (dOf r2) 1), .n (gn (dOf r2) 2)]);
                   (.node (isK 0 [HK.b] r3)
                    (.node (!gb (dOf r3) 0)
                     (.leaf (Step.stop 1 [.b false]))
                     (.node (gn (dOf r2) 5 == (0 : Int))
                      (let r4 : Option (Nat × List Dat) := (op_L13_31 [.k 0, .l (Ty.pair (Ty.int IntKind.u8) (Ty.pair (Ty.int IntKind.u8) (Ty.int IntKind.u8))) l0, .n n1, .n n2, .n (IntKind.wrap .i64 (Int.tmod (Prod.fst (Prod.snd (List.getD l0 (Int.toNat n2) (Ty.dflt (Ty.pair (Ty.int IntKind.u8) (Ty.pair (Ty.int IntKind.u8) (Ty.int IntKind.u8))))))) (2 : Int))), .b (gb (dOf r1) 0), .n (gn (dOf r2) 0), .n (gn (dOf r2) 1), .n (gn (dOf r2) 2), .l (Ty.int IntKind.i64) l6, .l (Ty.pair (Ty.int IntKind.i64) (Ty.pair (Ty.int IntKind.i64) (Ty.int IntKind.i64))) l7, .l (Ty.int IntKind.i64) l8, .n (gn (dOf r2) 3), .n (gn (dOf r2) 4)]);
                       (.node (isK 0 [HK.l (Ty.pair (Ty.int IntKind.u8) (Ty.pair (Ty.int IntKind.u8) (Ty.int IntKind.u8))), HK.n, HK.n, HK.n, HK.b, HK.n, HK.n, HK.n, HK.l (Ty.int IntKind.i64), HK.l (Ty.pair (Ty.int IntKind.i64) (Ty.pair (Ty.int IntKind.i64) (Ty.int IntKind.i64))), HK.l (Ty.int IntKind.i64), HK.n, HK.n] r4)
                        (.node (inR (gn (dOf r4) 3) (List.length (gl (Ty.pair (Ty.int IntKind.i64) (Ty.pair (Ty.int IntKind.i64) (Ty.int IntKind.i64))) (dOf r4) 9)))
                         (let r5 : Option (Nat × List Dat) := (op_51 [.n (Prod.fst (List.getD (gl (Ty.pair (Ty.int IntKind.i64) (Ty.pair (Ty.int IntKind.i64) (Ty.int IntKind.i64))) (dOf r4) 9) (Int.toNat (gn (dOf r4) 3)) (Ty.dflt (Ty.pair (Ty.int IntKind.i64) (Ty.pair (Ty.int IntKind.i64) (Ty.int IntKind.i64)))))), .n (Prod.fst (Prod.snd (List.getD (gl (Ty.pair (Ty.int IntKind.i64) (Ty.pair (Ty.int IntKind.i64) (Ty.int IntKind.i64))) (dOf r4) 9) (Int.toNat (gn (dOf r4) 3)) (Ty.dflt (Ty.pair (Ty.int IntKind.i64) (Ty.pair (Ty.int IntKind.i64) (Ty.int IntKind.i64))))))), .n (Prod.snd (Prod.snd (List.getD (gl (Ty.pair (Ty.int IntKind.i64) (Ty.pair (Ty.int IntKind.i64) (Ty.int IntKind.i64))) (dOf r4) 9) (Int.toNat (gn (dOf r4) 3)) (Ty.dflt (Ty.pair (Ty.int IntKind.i64) (Ty.pair (Ty.int IntKind.i64) (Ty.int IntKind.i64))))))), .n (gn (dOf r4) 11), .n (gn (dOf r4) 12)]);
                          (.node (isK 0 [HK.n, HK.n, HK.n, HK.n] r5)
                           (.node (gn (dOf r5) 3 != (0 : Int))
                            (.leaf (Step.stop 1 [.b false]))
                            (.node (inR (IntKind.wrap .i64 (gn (dOf r4) 11 - (1 : Int))) (List.length (gl (Ty.int IntKind.i64) (dOf r4) 10)))
                             (.node ((List.getD (gl (Ty.int IntKind.i64) (dOf r4) 10) (Int.toNat (IntKind.wrap .i64 (gn (dOf r4) 11 - (1 : Int)))) (0 : Int) : Int) != gn (dOf r4) 3)
                              (.leaf (Step.stop 1 [.b false]))
                              (.node (gb (dOf r4) 4)
                               (.leaf (Step.stop 1 [.b false]))
                               (.node (inR (gn (dOf r4) 3) (List.length (gl (Ty.pair (Ty.int IntKind.i64) (Ty.pair (Ty.int IntKind.i64) (Ty.int IntKind.i64))) (dOf r4) 9)))
                                (.node (inR (0 : Int) (List.length (List.set (gl (Ty.pair (Ty.int IntKind.i64) (Ty.pair (Ty.int IntKind.i64) (Ty.int IntKind.i64))) (dOf r4) 9) (Int.toNat (gn (dOf r4) 3)) (gn (dOf r5) 0, gn (dOf r5) 1, gn (dOf r5) 2))))
                                 (.node (inR (0 : Int) (List.length (gl (Ty.int IntKind.i64) (dOf r4) 8)))
                                  (let r6 : Option (Nat × List Dat) := (op_50 [.n (Prod.fst (List.getD (List.set (gl (Ty.pair (Ty.int IntKind.i64) (Ty.pair (Ty.int IntKind.i64) (Ty.int IntKind.i64))) (dOf r4) 9) (Int.toNat (gn (dOf r4) 3)) (gn (dOf r5) 0, gn (dOf r5) 1, gn (dOf r5) 2)) 0 (Ty.dflt (Ty.pair (Ty.int IntKind.i64) (Ty.pair (Ty.int IntKind.i64) (Ty.int IntKind.i64)))))), .n (Prod.fst (Prod.snd (List.getD (List.set (gl (Ty.pair (Ty.int IntKind.i64) (Ty.pair (Ty.int IntKind.i64) (Ty.int IntKind.i64))) (dOf r4) 9) (Int.toNat (gn (dOf r4) 3)) (gn (dOf r5) 0, gn (dOf r5) 1, gn (dOf r5) 2)) 0 (Ty.dflt (Ty.pair (Ty.int IntKind.i64) (Ty.pair (Ty.int IntKind.i64) (Ty.int IntKind.i64))))))), .n (Prod.snd (Prod.snd (List.getD (List.set (gl (Ty.pair (Ty.int IntKind.i64) (Ty.pair (Ty.int IntKind.i64) (Ty.int IntKind.i64))) (dOf r4) 9) (Int.toNat (gn (dOf r4) 3)) (gn (dOf r5) 0, gn (dOf r5) 1, gn (dOf r5) 2)) 0 (Ty.dflt (Ty.pair (Ty.int IntKind.i64) (Ty.pair (Ty.int IntKind.i64) (Ty.int IntKind.i64))))))), .n (IntKind.wrap .i64 (gn (dOf r4) 1 - (List.getD (gl (Ty.int IntKind.i64) (dOf r4) 8) 0 (0 : Int) : Int)))]);
                                   (.node (isK 0 [HK.b] r6)
                                    (.node (gb (dOf r6) 0)
                                     (.node (inR (1 : Int) (List.length (List.set (gl (Ty.pair (Ty.int IntKind.i64) (Ty.pair (Ty.int IntKind.i64) (Ty.int IntKind.i64))) (dOf r4) 9) (Int.toNat (gn (dOf r4) 3)) (gn (dOf r5) 0, gn (dOf r5) 1, gn (dOf r5) 2))))
                                      (.node (inR (1 : Int) (List.length (gl (Ty.int IntKind.i64) (dOf r4) 8)))
                                       (let r7 : Option (Nat × List Dat) := (op_50 [.n (Prod.fst (List.getD (List.set (gl (Ty.pair (Ty.int IntKind.i64) (Ty.pair (Ty.int IntKind.i64) (Ty.int IntKind.i64))) (dOf r4) 9) (Int.toNat (gn (dOf r4) 3)) (gn (dOf r5) 0, gn (dOf r5) 1, gn (dOf r5) 2)) 1 (Ty.dflt (Ty.pair (Ty.int IntKind.i64) (Ty.pair (Ty.int IntKind.i64) (Ty.int IntKind.i64)))))), .n (Prod.fst (Prod.snd (List.getD (List.set (gl (Ty.pair (Ty.int IntKind.i64) (Ty.pair (Ty.int IntKind.i64) (Ty.int IntKind.i64))) (dOf r4) 9) (Int.toNat (gn (dOf r4) 3)) (gn (dOf r5) 0, gn (dOf r5) 1, gn (dOf r5) 2)) 1 (Ty.dflt (Ty.pair (Ty.int IntKind.i64) (Ty.pair (Ty.int IntKind.i64) (Ty.int IntKind.i64))))))), .n (Prod.snd (Prod.snd (List.getD (List.set (gl (Ty.pair (Ty.int IntKind.i64) (Ty.pair (Ty.int IntKind.i64) (Ty.int IntKind.i64))) (dOf r4) 9) (Int.toNat (gn (dOf r4) 3)) (gn (dOf r5) 0, gn (dOf r5) 1, gn (dOf r5) 2)) 1 (Ty.dflt (Ty.pair (Ty.int IntKind.i64) (Ty.pair (Ty.int IntKind.i64) (Ty.int IntKind.i64))))))), .n (IntKind.wrap .i64 (gn (dOf r4) 1 - (List.getD (gl (Ty.int IntKind.i64) (dOf r4) 8) 1 (0 : Int) : Int)))]);
                                        (.node (isK 0 [HK.b] r7)
                                         (.node (gb (dOf r7) 0)
                                          (.leaf (Step.stop 1 [.b false]))
                                          (.leaf (Step.go [.k 0, .l (Ty.pair (Ty.int IntKind.u8) (Ty.pair (Ty.int IntKind.u8) (Ty.int IntKind.u8))) (gl (Ty.pair (Ty.int IntKind.u8) (Ty.pair (Ty.int IntKind.u8) (Ty.int IntKind.u8))) (dOf r4) 0), .n (gn (dOf r4) 1), .n (IntKind.wrap .i64 (gn (dOf r4) 2 + (1 : Int))), .n (gn (dOf r4) 5), .n (gn (dOf r4) 6), .n (gn (dOf r4) 7), .l (Ty.int IntKind.i64) (gl (Ty.int IntKind.i64) (dOf r4) 8), .l (Ty.pair (Ty.int IntKind.i64) (Ty.pair (Ty.int IntKind.i64) (Ty.int IntKind.i64))) (List.set (gl (Ty.pair (Ty.int IntKind.i64) (Ty.pair (Ty.int IntKind.i64) (Ty.int IntKind.i64))) (dOf r4) 9) (Int.toNat (gn (dOf r4) 3)) (gn (dOf r5) 0, gn (dOf r5) 1, gn (dOf r5) 2)), .l (Ty.int IntKind.i64) (gl (Ty.int IntKind.i64) (dOf r4) 10)])))
                                         (.bad 351)))
                                       (.bad 12))
                                      (.bad 12))
                                     (.leaf (Step.go [.k 0, .l (Ty.pair (Ty.int IntKind.u8) (Ty.pair (Ty.int IntKind.u8) (Ty.int IntKind.u8))) (gl (Ty.pair (Ty.int IntKind.u8) (Ty.pair (Ty.int IntKind.u8) (Ty.int IntKind.u8))) (dOf r4) 0), .n (gn (dOf r4) 1), .n (IntKind.wrap .i64 (gn (dOf r4) 2 + (1 : Int))), .n (gn (dOf r4) 5), .n (gn (dOf r4) 6), .n (gn (dOf r4) 7), .l (Ty.int IntKind.i64) (gl (Ty.int IntKind.i64) (dOf r4) 8), .l (Ty.pair (Ty.int IntKind.i64) (Ty.pair (Ty.int IntKind.i64) (Ty.int IntKind.i64))) (List.set (gl (Ty.pair (Ty.int IntKind.i64) (Ty.pair (Ty.int IntKind.i64) (Ty.int IntKind.i64))) (dOf r4) 9) (Int.toNat (gn (dOf r4) 3)) (gn (dOf r5) 0, gn (dOf r5) 1, gn (dOf r5) 2)), .l (Ty.int IntKind.i64) (gl (Ty.int IntKind.i64) (dOf r4) 10)])))
                                    (.bad 351)))
                                  (.bad 12))
                                 (.bad 12))
                                (.bad 12))))
                             (.bad 12)))
                           (.bad 351)))
                         (.bad 12))
                        (.bad 351)))
                      (.node (inR (0 : Int) (List.length l7))
                       (.node (inR (0 : Int) (List.length l6))
                        (let r4 : Option (Nat × List Dat) := (op_50 [.n (Prod.fst (List.getD l7 0 (Ty.dflt (Ty.pair (Ty.int IntKind.i64) (Ty.pair (Ty.int IntKind.i64) (Ty.int IntKind.i64)))))), .n (Prod.fst (Prod.snd (List.getD l7 0 (Ty.dflt (Ty.pair (Ty.int IntKind.i64) (Ty.pair (Ty.int IntKind.i64) (Ty.int IntKind.i64))))))), .n (Prod.snd (Prod.snd (List.getD l7 0 (Ty.dflt (Ty.pair (Ty.int IntKind.i64) (Ty.pair (Ty.int IntKind.i64) (Ty.int IntKind.i64))))))), .n (IntKind.wrap .i64 (n1 - (List.getD l6 0 (0 : Int) : Int)))]);
                         (.node (isK 0 [HK.b] r4)
                          (.node (gb (dOf r4) 0)
                           (.node (inR (1 : Int) (List.length l7))
                            (.node (inR (1 : Int) (List.length l6))
                             (let r5 : Option (Nat × List Dat) := (op_50 [.n (Prod.fst (List.getD l7 1 (Ty.dflt (Ty.pair (Ty.int IntKind.i64) (Ty.pair (Ty.int IntKind.i64) (Ty.int IntKind.i64)))))), .n (Prod.fst (Prod.snd (List.getD l7 1 (Ty.dflt (Ty.pair (Ty.int IntKind.i64) (Ty.pair (Ty.int IntKind.i64) (Ty.int IntKind.i64))))))), .n (Prod.snd (Prod.snd (List.getD l7 1 (Ty.dflt (Ty.pair (Ty.int IntKind.i64) (Ty.pair (Ty.int IntKind.i64) (Ty.int IntKind.i64))))))), .n (IntKind.wrap .i64 (n1 - (List.getD l6 1 (0 : Int) : Int)))]);
                              (.node (isK 0 [HK.b] r5)
                               (.node (gb (dOf r5) 0)
                                (.leaf (Step.stop 1 [.b false]))
                                (.leaf (Step.go [.k 0, .l (Ty.pair (Ty.int IntKind.u8) (Ty.pair (Ty.int IntKind.u8) (Ty.int IntKind.u8))) l0, .n n1, .n (IntKind.wrap .i64 (n2 + (1 : Int))), .n (gn (dOf r2) 0), .n (gn (dOf r2) 1), .n (gn (dOf r2) 2), .l (Ty.int IntKind.i64) l6, .l (Ty.pair (Ty.int IntKind.i64) (Ty.pair (Ty.int IntKind.i64) (Ty.int IntKind.i64))) l7, .l (Ty.int IntKind.i64) l8])))
                               (.bad 351)))
                             (.bad 12))
                            (.bad 12))
                           (.leaf (Step.go [.k 0, .l (Ty.pair (Ty.int IntKind.u8) (Ty.pair (Ty.int IntKind.u8) (Ty.int IntKind.u8))) l0, .n n1, .n (IntKind.wrap .i64 (n2 + (1 : Int))), .n (gn (dOf r2) 0), .n (gn (dOf r2) 1), .n (gn (dOf r2) 2), .l (Ty.int IntKind.i64) l6, .l (Ty.pair (Ty.int IntKind.i64) (Ty.pair (Ty.int IntKind.i64) (Ty.int IntKind.i64))) l7, .l (Ty.int IntKind.i64) l8])))
                          (.bad 351)))
                        (.bad 12))
                       (.bad 12))))
                    (.bad 351)))))
                (.bad 351)))
              (.node (Int.tmod (Prod.fst (List.getD l0 (Int.toNat n2) (Ty.dflt (Ty.pair (Ty.int IntKind.u8) (Ty.pair (Ty.int IntKind.u8) (Ty.int IntKind.u8)))))) (5 : Int) == (3 : Int))
               (.node (inR (IntKind.wrap .i64 (Int.tmod (Prod.fst (Prod.snd (List.getD l0 (Int.toNat n2) (Ty.dflt (Ty.pair (Ty.int IntKind.u8) (Ty.pair (Ty.int IntKind.u8) (Ty.int IntKind.u8))))))) (2 : Int))) (List.length l7))
                (let r2 : Option (Nat × List Dat) := (op_45 [.n n3, .n n4, .n n5, .n (IntKind.wrap .i64 (Int.tmod (Prod.fst (Prod.snd (List.getD l0 (Int.toNat n2) (Ty.dflt (Ty.pair (Ty.int IntKind.u8) (Ty.pair (Ty.int IntKind.u8) (Ty.int IntKind.u8))))))) (2 : Int))), .n (Prod.fst (Prod.snd (List.getD l7 (Int.toNat (IntKind.wrap .i64 (Int.tmod (Prod.fst (Prod.snd (List.getD l0 (Int.toNat n2) (Ty.dflt (Ty.pair (Ty.int IntKind.u8) (Ty.pair (Ty.int IntKind.u8) (Ty.int IntKind.u8))))))) (2 : Int)))) (Ty.dflt (Ty.pair (Ty.int IntKind.i64) (Ty.pair (Ty.int IntKind.i64) (Ty.int IntKind.i64))))))), .n n1]);
                 (.node (isK 0 [HK.n, HK.n, HK.n, HK.n, HK.n, HK.n] r2)
                  (.node (decide (gn (dOf r2) 0 < n3))
                   (.leaf (Step.stop 1 [.b false]))
                   (.node (decide (gn (dOf r2) 0 > IntKind.wrap .i64 (n3 + (1 : Int))))
                    (.leaf (Step.stop 1 [.b false]))
                    (let r3 : Option (Nat × List Dat) := (op_42 [.n (gn (dOf r2) 0), .n (gn (dOf r2) 1), .n (gn (dOf r2) 2)]);
                     (.node (isK 0 [HK.b] r3)
                      (.node (!gb (dOf r3) 0)
                       (.leaf (Step.stop 1 [.b false]))
                       (.node (gn (dOf r2) 5 == (0 : Int))
                        (let r4 : Option (Nat × List Dat) := (op_L13_31 [.k 0, .l (Ty.pair (Ty.int IntKind.u8) (Ty.pair (Ty.int IntKind.u8) (Ty.int IntKind.u8))) l0, .n n1, .n n2, .n (IntKind.wrap .i64 (Int.tmod (Prod.fst (Prod.snd (List.getD l0 (Int.toNat n2) (Ty.dflt (Ty.pair (Ty.int IntKind.u8) (Ty.pair (Ty.int IntKind.u8) (Ty.int IntKind.u8))))))) (2 : Int))), .b (gb (dOf r1) 0), .n (gn (dOf r2) 0), .n (gn (dOf r2) 1), .n (gn (dOf r2) 2), .l (Ty.int IntKind.i64) l6, .l (Ty.pair (Ty.int IntKind.i64) (Ty.pair (Ty.int IntKind.i64) (Ty.int IntKind.i64))) l7, .l (Ty.int IntKind.i64) l8, .n (gn (dOf r2) 3), .n (gn (dOf r2) 4)]);
                         (.node (isK 0 [HK.l (Ty.pair (Ty.int IntKind.u8) (Ty.pair (Ty.int IntKind.u8) (Ty.int IntKind.u8))), HK.n, HK.n, HK.n, HK.b, HK.n, HK.n, HK.n, HK.l (Ty.int IntKind.i64), HK.l (Ty.pair (Ty.int IntKind.i64) (Ty.pair (Ty.int IntKind.i64) (Ty.int IntKind.i64))), HK.l (Ty.int IntKind.i64), HK.n, HK.n] r4)
                          (.node (inR (gn (dOf r4) 3) (List.length (gl (Ty.pair (Ty.int IntKind.i64) (Ty.pair (Ty.int IntKind.i64) (Ty.int IntKind.i64))) (dOf r4) 9)))
                           (let r5 : Option (Nat × List Dat) := (op_51 [.n (Prod.fst (List.getD (gl (Ty.pair (Ty.int IntKind.i64) (Ty.pair (Ty.int IntKind.i64) (Ty.int IntKind.i64))) (dOf r4) 9) (Int.toNat (gn (dOf r4) 3)) (Ty.dflt (Ty.pair (Ty.int IntKind.i64) (Ty.pair (Ty.int IntKind.i64) (Ty.int IntKind.i64)))))), .n (Prod.fst (Prod.snd (List.getD (gl (Ty.pair (Ty.int IntKind.i64) (Ty.pair (Ty.int IntKind.i64) (Ty.int IntKind.i64))) (dOf r4) 9) (Int.toNat (gn (dOf r4) 3)) (Ty.dflt (Ty.pair (Ty.int IntKind.i64) (Ty.pair (Ty.int IntKind.i64) (Ty.int IntKind.i64))))))), .n (Prod.snd (Prod.snd (List.getD (gl (Ty.pair (Ty.int IntKind.i64) (Ty.pair (Ty.int IntKind.i64) (Ty.int IntKind.i64))) (dOf r4) 9) (Int.toNat (gn (dOf r4) 3)) (Ty.dflt (Ty.pair (Ty.int IntKind.i64) (Ty.pair (Ty.int IntKind.i64) (Ty.int IntKind.i64))))))), .n (gn (dOf r4) 11), .n (gn (dOf r4) 12)]);
                            (.node (isK 0 [HK.n, HK.n, HK.n, HK.n] r5)
                             (.node (gn (dOf r5) 3 != (0 : Int))
                              (.leaf (Step.stop 1 [.b false]))
                              (.node (inR (IntKind.wrap .i64 (gn (dOf r4) 11 - (1 : Int))) (List.length (gl (Ty.int IntKind.i64) (dOf r4) 10)))
                               (.node ((List.getD (gl (Ty.int IntKind.i64) (dOf r4) 10) (Int.toNat (IntKind.wrap .i64 (gn (dOf r4) 11 - (1 : Int)))) (0 : Int) : Int) != gn (dOf r4) 3)
                                (.leaf (Step.stop 1 [.b false]))
                                (.node (gb (dOf r4) 4)
                                 (.leaf (Step.stop 1 [.b false]))
                                 (.node (inR (gn (dOf r4) 3) (List.length (gl (Ty.pair (Ty.int IntKind.i64) (Ty.pair (Ty.int IntKind.i64) (Ty.int IntKind.i64))) (dOf r4) 9)))
                                  (.node (inR (0 : Int) (List.length (List.set (gl (Ty.pair (Ty.int IntKind.i64) (Ty.pair (Ty.int IntKind.i64) (Ty.int IntKind.i64))) (dOf r4) 9) (Int.toNat (gn (dOf r4) 3)) (gn (dOf r5) 0, gn (dOf r5) 1, gn (dOf r5) 2))))
                                   (.node (inR (0 : Int) (List.length (gl (Ty.int IntKind.i64) (dOf r4) 8)))
                                    (let r6 : Option (Nat × List Dat) := (op_50 [.n (Prod.fst (List.getD (List.set (gl (Ty.pair (Ty.int IntKind.i64) (Ty.pair (Ty.int IntKind.i64) (Ty.int IntKind.i64))) (dOf r4) 9) (Int.toNat (gn (dOf r4) 3)) (gn (dOf r5) 0, gn (dOf r5) 1, gn (dOf r5) 2)) 0 (Ty.dflt (Ty.pair (Ty.int IntKind.i64) (Ty.pair (Ty.int IntKind.i64) (Ty.int IntKind.i64)))))), .n (Prod.fst (Prod.snd (List.getD (List.set (gl (Ty.pair (Ty.int IntKind.i64) (Ty.pair (Ty.int IntKind.i64) (Ty.int IntKind.i64))) (dOf r4) 9) (Int.toNat (gn (dOf r4) 3)) (gn (dOf r5) 0, gn (dOf r5) 1, gn (dOf r5) 2)) 0 (Ty.dflt (Ty.pair (Ty.int IntKind.i64) (Ty.pair (Ty.int IntKind.i64) (Ty.int IntKind.i64))))))), .n (Prod.snd (Prod.snd (List.getD (List.set (gl (Ty.pair (Ty.int IntKind.i64) (Ty.pair (Ty.int IntKind.i64) (Ty.int IntKind.i64))) (dOf r4) 9) (Int.toNat (gn (dOf r4) 3)) (gn (dOf r5) 0, gn (dOf r5) 1, gn (dOf r5) 2)) 0 (Ty.dflt (Ty.pair (Ty.int IntKind.i64) (Ty.pair (Ty.int IntKind.i64) (Ty.int IntKind.i64))))))), .n (IntKind.wrap .i64 (gn (dOf r4) 1 - (List.getD (gl (Ty.int IntKind.i64) (dOf r4) 8) 0 (0 : Int) : Int)))]);
                                     (.node (isK 0 [HK.b] r6)
                                      (.node (gb (dOf r6) 0)
                                       (.node (inR (1 : Int) (List.length (List.set (gl (Ty.pair (Ty.int IntKind.i64) (Ty.pair (Ty.int IntKind.i64) (Ty.int IntKind.i64))) (dOf r4) 9) (Int.toNat (gn (dOf r4) 3)) (gn (dOf r5) 0, gn (dOf r5) 1, gn (dOf r5) 2))))
                                        (.node (inR (1 : Int) (List.length (gl (Ty.int IntKind.i64) (dOf r4) 8)))
                                         (let r7 : Option (Nat × List Dat) := (op_50 [.n (Prod.fst (List.getD (List.set (gl (Ty.pair (Ty.int IntKind.i64) (Ty.pair (Ty.int IntKind.i64) (Ty.int IntKind.i64))) (dOf r4) 9) (Int.toNat (gn (dOf r4) 3)) (gn (dOf r5) 0, gn (dOf r5) 1, gn (dOf r5) 2)) 1 (Ty.dflt (Ty.pair (Ty.int IntKind.i64) (Ty.pair (Ty.int IntKind.i64) (Ty.int IntKind.i64)))))), .n (Prod.fst (Prod.snd (List.getD (List.set (gl (Ty.pair (Ty.int IntKind.i64) (Ty.pair (Ty.int IntKind.i64) (Ty.int IntKind.i64))) (dOf r4) 9) (Int.toNat (gn (dOf r4) 3)) (gn (dOf r5) 0, gn (dOf r5) 1, gn (dOf r5) 2)) 1 (Ty.dflt (Ty.pair (Ty.int IntKind.i64) (Ty.pair (Ty.int IntKind.i64) (Ty.int IntKind.i64))))))), .n (Prod.snd (Prod.snd (List.getD (List.set (gl (Ty.pair (Ty.int IntKind.i64) (Ty.pair (Ty.int IntKind.i64) (Ty.int IntKind.i64))) (dOf r4) 9) (Int.toNat (gn (dOf r4) 3)) (gn (dOf r5) 0, gn (dOf r5) 1, gn (dOf r5) 2)) 1 (Ty.dflt (Ty.pair (Ty.int IntKind.i64) (Ty.pair (Ty.int IntKind.i64) (Ty.int IntKind.i64))))))), .n (IntKind.wrap .i64 (gn (dOf r4) 1 - (List.getD (gl (Ty.int IntKind.i64) (dOf r4) 8) 1 (0 : Int) : Int)))]);
                                          (.node (isK 0 [HK.b] r7)
                                           (.node (gb (dOf r7) 0)
                                            (.leaf (Step.stop 1 [.b false]))
                                            (.leaf (Step.go [.k 0, .l (Ty.pair (Ty.int IntKind.u8) (Ty.pair (Ty.int IntKind.u8) (Ty.int IntKind.u8))) (gl (Ty.pair (Ty.int IntKind.u8) (Ty.pair (Ty.int IntKind.u8) (Ty.int IntKind.u8))) (dOf r4) 0), .n (gn (dOf r4) 1), .n (IntKind.wrap .i64 (gn (dOf r4) 2 + (1 : Int))), .n (gn (dOf r4) 5), .n (gn (dOf r4) 6), .n (gn (dOf r4) 7), .l (Ty.int IntKind.i64) (gl (Ty.int IntKind.i64) (dOf r4) 8), .l (Ty.pair (Ty.int IntKind.i64) (Ty.pair (Ty.int IntKind.i64) (Ty.int IntKind.i64))) (List.set (gl (Ty.pair (Ty.int IntKind.i64) (Ty.pair (Ty.int IntKind.i64) (Ty.int IntKind.i64))) (dOf r4) 9) (Int.toNat (gn (dOf r4) 3)) (gn (dOf r5) 0, gn (dOf r5) 1, gn (dOf r5) 2)), .l (Ty.int IntKind.i64) (gl (Ty.int IntKind.i64) (dOf r4) 10)])))
                                           (.bad 351)))
                                         (.bad 12))
                                        (.bad 12))
                                       (.leaf (Step.go [.k 0, .l (Ty.pair (Ty.int IntKind.u8) (Ty.pair (Ty.int IntKind.u8) (Ty.int IntKind.u8))) (gl (Ty.pair (Ty.int IntKind.u8) (Ty.pair (Ty.int IntKind.u8) (Ty.int IntKind.u8))) (dOf r4) 0), .n (gn (dOf r4) 1), .n (IntKind.wrap .i64 (gn (dOf r4) 2 + (1 : Int))), .n (gn (dOf r4) 5), .n (gn (dOf r4) 6), .n (gn (dOf r4) 7), .l (Ty.int IntKind.i64) (gl (Ty.int IntKind.i64) (dOf r4) 8), .l (Ty.pair (Ty.int IntKind.i64) (Ty.pair (Ty.int IntKind.i64) (Ty.int IntKind.i64))) (List.set (gl (Ty.pair (Ty.int IntKind.i64) (Ty.pair (Ty.int IntKind.i64) (Ty.int IntKind.i64))) (dOf r4) 9) (Int.toNat (gn (dOf r4) 3)) (gn (dOf r5) 0, gn (dOf r5) 1, gn (dOf r5) 2)), .l (Ty.int IntKind.i64) (gl (Ty.int IntKind.i64) (dOf r4) 10)])))
                                      (.bad 351)))
                                    (.bad 12))
                                   (.bad 12))
                                  (.bad 12))))
                               (.bad 12)))
                             (.bad 351)))
                           (.bad 12))
                          (.bad 351)))
                        (.node (inR (0 : Int) (List.length l7))
                         (.node (inR (0 : Int) (List.length l6))
                          (let r4 : Option (Nat × List Dat) := (op_50 [.n (Prod.fst (List.getD l7 0 (Ty.dflt (Ty.pair (Ty.int IntKind.i64) (Ty.pair (Ty.int IntKind.i64) (Ty.int IntKind.i64)))))), .n (Prod.fst (Prod.snd (List.getD l7 0 (Ty.dflt (Ty.pair (Ty.int IntKind.i64) (Ty.pair (Ty.int IntKind.i64) (Ty.int IntKind.i64))))))), .n (Prod.snd (Prod.snd (List.getD l7 0 (Ty.dflt (Ty.pair (Ty.int IntKind.i64) (Ty.pair (Ty.int IntKind.i64) (Ty.int IntKind.i64))))))), .n (IntKind.wrap .i64 (n1 - (List.getD l6 0 (0 : Int) : Int)))]);
                           (.node (isK 0 [HK.b] r4)
                            (.node (gb (dOf r4) 0)
                             (.node (inR (1 : Int) (List.length l7))
                              (.node (inR (1 : Int) (List.length l6))
                               (let r5 : Option (Nat × List Dat) := (op_50 [.n (Prod.fst (List.getD l7 1 (Ty.dflt (Ty.pair (Ty.int IntKind.i64) (Ty.pair (Ty.int IntKind.i64) (Ty.int IntKind.i64)))))), .n (Prod.fst (Prod.snd (List.getD l7 1 (Ty.dflt (Ty.pair (Ty.int IntKind.i64) (Ty.pair (Ty.int IntKind.i64) (Ty.int IntKind.i64))))))), .n (Prod.snd (Prod.snd (List.getD l7 1 (Ty.dflt (Ty.pair (Ty.int IntKind.i64) (Ty.pair (Ty.int IntKind.i64) (Ty.int IntKind.i64))))))), .n (IntKind.wrap .i64 (n1 - (List.getD l6 1 (0 : Int) : Int)))]);
                                (.node (isK 0 [HK.b] r5)
                                 (.node (gb (dOf r5) 0)
                                  (.leaf (Step.stop 1 [.b false]))
                                  (.leaf (Step.go [.k 0, .l (Ty.pair (Ty.int IntKind.u8) (Ty.pair (Ty.int IntKind.u8) (Ty.int IntKind.u8))) l0, .n n1, .n (IntKind.wrap .i64 (n2 + (1 : Int))), .n (gn (dOf r2) 0), .n (gn (dOf r2) 1), .n (gn (dOf r2) 2), .l (Ty.int IntKind.i64) l6, .l (Ty.pair (Ty.int IntKind.i64) (Ty.pair (Ty.int IntKind.i64) (Ty.int IntKind.i64))) l7, .l (Ty.int IntKind.i64) l8])))
                                 (.bad 351)))
                               (.bad 12))
                              (.bad 12))
                             (.leaf (Step.go [.k 0, .l (Ty.pair (Ty.int IntKind.u8) (Ty.pair (Ty.int IntKind.u8) (Ty.int IntKind.u8))) l0, .n n1, .n (IntKind.wrap .i64 (n2 + (1 : Int))), .n (gn (dOf r2) 0), .n (gn (dOf r2) 1), .n (gn (dOf r2) 2), .l (Ty.int IntKind.i64) l6, .l (Ty.pair (Ty.int IntKind.i64) (Ty.pair (Ty.int IntKind.i64) (Ty.int IntKind.i64))) l7, .l (Ty.int IntKind.i64) l8])))
                            (.bad 351)))
                          (.bad 12))
                         (.bad 12))))
                      (.bad 351)))))
                  (.bad 351)))
                (.bad 12))
               (.node (inR (IntKind.wrap .i64 (Int.tmod (Prod.fst (Prod.snd (List.getD l0 (Int.toNat n2) (Ty.dflt (Ty.pair (Ty.int IntKind.u8) (Ty.pair (Ty.int IntKind.u8) (Ty.int IntKind.u8))))))) (2 : Int))) (List.length l7))
                (let r2 : Option (Nat × List Dat) := (op_47 [.n n3, .n n4, .n n5, .n (IntKind.wrap .i64 (Int.tmod (Prod.fst (Prod.snd (List.getD l0 (Int.toNat n2) (Ty.dflt (Ty.pair (Ty.int IntKind.u8) (Ty.pair (Ty.int IntKind.u8) (Ty.int IntKind.u8))))))) (2 : Int))), .n (Prod.fst (Prod.snd (List.getD l7 (Int.toNat (IntKind.wrap .i64 (Int.tmod (Prod.fst (Prod.snd (List.getD l0 (Int.toNat n2) (Ty.dflt (Ty.pair (Ty.int IntKind.u8) (Ty.pair (Ty.int IntKind.u8) (Ty.int IntKind.u8))))))) (2 : Int)))) (Ty.dflt (Ty.pair (Ty.int IntKind.i64) (Ty.pair (Ty.int IntKind.i64) (Ty.int IntKind.i64)))))))]);
                 (.node (isK 0 [HK.n, HK.n, HK.n, HK.n] r2)
                  (.node (gn (dOf r2) 3 == (0 : Int))
                   (.node (inR (IntKind.wrap .i64 (Int.tmod (Prod.fst (Prod.snd (List.getD l0 (Int.toNat n2) (Ty.dflt (Ty.pair (Ty.int IntKind.u8) (Ty.pair (Ty.int IntKind.u8) (Ty.int IntKind.u8))))))) (2 : Int))) (List.length l7))
                    (.node (decide (gn (dOf r2) 0 < n3))
                     (.leaf (Step.stop 1 [.b false]))
                     (.node (decide (gn (dOf r2) 0 > IntKind.wrap .i64 (n3 + (1 : Int))))
                      (.leaf (Step.stop 1 [.b false]))
                      (let r3 : Option (Nat × List Dat) := (op_42 [.n (gn (dOf r2) 0), .n (gn (dOf r2) 1), .n (gn (dOf r2) 2)]);
                       (.node (isK 0 [HK.b] r3)
                        (.node (!gb (dOf r3) 0)
                         (.leaf (Step.stop 1 [.b false]))
                         (.node (inR (0 : Int) (List.length (List.set l7 (Int.toNat (IntKind.wrap .i64 (Int.tmod (Prod.fst (Prod.snd (List.getD l0 (Int.toNat n2) (Ty.dflt (Ty.pair (Ty.int IntKind.u8) (Ty.pair (Ty.int IntKind.u8) (Ty.int IntKind.u8))))))) (2 : Int)))) (IntKind.wrap .i64 (Int.tmod (Prod.fst (Prod.snd (List.getD l0 (Int.toNat n2) (Ty.dflt (Ty.pair (Ty.int IntKind.u8) (Ty.pair (Ty.int IntKind.u8) (Ty.int IntKind.u8))))))) (2 : Int)), (0 : Int), (0 : Int)))))
                          (.node (inR (0 : Int) (List.length l6))
                           (let r4 : Option (Nat × List Dat) := (op_50 [.n (Prod.fst (List.getD (List.set l7 (Int.toNat (IntKind.wrap .i64 (Int.tmod (Prod.fst (Prod.snd (List.getD l0 (Int.toNat n2) (Ty.dflt (Ty.pair (Ty.int IntKind.u8) (Ty.pair (Ty.int IntKind.u8) (Ty.int IntKind.u8))))))) (2 : Int)))) (IntKind.wrap .i64 (Int.tmod (Prod.fst (Prod.snd (List.getD l0 (Int.toNat n2) (Ty.dflt (Ty.pair (Ty.int IntKind.u8) (Ty.pair (Ty.int IntKind.u8) (Ty.int IntKind.u8))))))) (2 : Int)), (0 : Int), (0 : Int))) 0 (Ty.dflt (Ty.pair (Ty.int IntKind.i64) (Ty.pair (Ty.int IntKind.i64) (Ty.int IntKind.i64)))))), .n (Prod.fst (Prod.snd (List.getD (List.set l7 (Int.toNat (IntKind.wrap .i64 (Int.tmod (Prod.fst (Prod.snd (List.getD l0 (Int.toNat n2) (Ty.dflt (Ty.pair (Ty.int IntKind.u8) (Ty.pair (Ty.int IntKind.u8) (Ty.int IntKind.u8))))))) (2 : Int)))) (IntKind.wrap .i64 (Int.tmod (Prod.fst (Prod.snd (List.getD l0 (Int.toNat n2) (Ty.dflt (Ty.pair (Ty.int IntKind.u8) (Ty.pair (Ty.int IntKind.u8) (Ty.int IntKind.u8))))))) (2 : Int)), (0 : Int), (0 : Int))) 0 (Ty.dflt (Ty.pair (Ty.int IntKind.i64) (Ty.pair (Ty.int IntKind.i64) (Ty.int IntKind.i64))))))), .n (Prod.snd (Prod.snd (List.getD (List.set l7 (Int.toNat (IntKind.wrap .i64 (Int.tmod (Prod.fst (Prod.snd (List.getD l0 (Int.toNat n2) (Ty.dflt (Ty.pair (Ty.int IntKind.u8) (Ty.pair (Ty.int IntKind.u8) (Ty.int IntKind.u8))))))) (2 : Int)))) (IntKind.wrap .i64 (Int.tmod (Prod.fst (Prod.snd (List.getD l0 (Int.toNat n2) (Ty.dflt (Ty.pair (Ty.int IntKind.u8) (Ty.pair (Ty.int IntKind.u8) (Ty.int IntKind.u8))))))) (2 : Int)), (0 : Int), (0 : Int))) 0 (Ty.dflt (Ty.pair (Ty.int IntKind.i64) (Ty.pair (Ty.int IntKind.i64) (Ty.int IntKind.i64))))))), .n (IntKind.wrap .i64 (n1 - (List.getD l6 0 (0 : Int) : Int)))]);
                            (.node (isK 0 [HK.b] r4)
                             (.node (gb (dOf r4) 0)
                              (.node (inR (1 : Int) (List.length (List.set l7 (Int.toNat (IntKind.wrap .i64 (Int.tmod (Prod.fst (Prod.snd (List.getD l0 (Int.toNat n2) (Ty.dflt (Ty.pair (Ty.int IntKind.u8) (Ty.pair (Ty.int IntKind.u8) (Ty.int IntKind.u8))))))) (2 : Int)))) (IntKind.wrap .i64 (Int.tmod (Prod.fst (Prod.snd (List.getD l0 (Int.toNat n2) (Ty.dflt (Ty.pair (Ty.int IntKind.u8) (Ty.pair (Ty.int IntKind.u8) (Ty.int IntKind.u8))))))) (2 : Int)), (0 : Int), (0 : Int)))))
                               (.node (inR (1 : Int) (List.length l6))
                                (let r5 : Option (Nat × List Dat) := (op_50 [.n (Prod.fst (List.getD (List.set l7 (Int.toNat (IntKind.wrap .i64 (Int.tmod (Prod.fst (Prod.snd (List.getD l0 (Int.toNat n2) (Ty.dflt (Ty.pair (Ty.int IntKind.u8) (Ty.pair (Ty.int IntKind.u8) (Ty.int IntKind.u8))))))) (2 : Int)))) (IntKind.wrap .i64 (Int.tmod (Prod.fst (Prod.snd (List.getD l0 (Int.toNat n2) (Ty.dflt (Ty.pair (Ty.int IntKind.u8) (Ty.pair (Ty.int IntKind.u8) (Ty.int IntKind.u8))))))) (2 : Int)), (0 : Int), (0 : Int))) 1 (Ty.dflt (Ty.pair (Ty.int IntKind.i64) (Ty.pair (Ty.int IntKind.i64) (Ty.int IntKind.i64)))))), .n (Prod.fst (Prod.snd (List.getD (List.set l7 (Int.toNat (IntKind.wrap .i64 (Int.tmod (Prod.fst (Prod.snd (List.getD l0 (Int.toNat n2) (Ty.dflt (Ty.pair (Ty.int IntKind.u8) (Ty.pair (Ty.int IntKind.u8) (Ty.int IntKind.u8))))))) (2 : Int)))) (IntKind.wrap .i64 (Int.tmod (Prod.fst (Prod.snd (List.getD l0 (Int.toNat n2) (Ty.dflt (Ty.pair (Ty.int IntKind.u8) (Ty.pair (Ty.int IntKind.u8) (Ty.int IntKind.u8))))))) (2 : Int)), (0 : Int), (0 : Int))) 1 (Ty.dflt (Ty.pair (Ty.int IntKind.i64) (Ty.pair (Ty.int IntKind.i64) (Ty.int IntKind.i64))))))), .n (Prod.snd (Prod.snd (List.getD (List.set l7 (Int.toNat (IntKind.wrap .i64 (Int.tmod (Prod.fst (Prod.snd (List.getD l0 (Int.toNat n2) (Ty.dflt (Ty.pair (Ty.int IntKind.u8) (Ty.pair (Ty.int IntKind.u8) (Ty.int IntKind.u8))))))) (2 : Int)))) (IntKind.wrap .i64 (Int.tmod (Prod.fst (Prod.snd (List.getD l0 (Int.toNat n2) (Ty.dflt (Ty.pair (Ty.int IntKind.u8) (Ty.pair (Ty.int IntKind.u8) (Ty.int IntKind.u8))))))) (2 : Int)), (0 : Int), (0 : Int))) 1 (Ty.dflt (Ty.pair (Ty.int IntKind.i64) (Ty.pair (Ty.int IntKind.i64) (Ty.int IntKind.i64))))))), .n (IntKind.wrap .i64 (n1 - (List.getD l6 1 (0 : Int) : Int)))]);
                                 (.node (isK 0 [HK.b] r5)
                                  (.node (gb (dOf r5) 0)
                                   (.leaf (Step.stop 1 [.b false]))
                                   (.leaf (Step.go [.k 0, .l (Ty.pair (Ty.int IntKind.u8) (Ty.pair (Ty.int IntKind.u8) (Ty.int IntKind.u8))) l0, .n n1, .n (IntKind.wrap .i64 (n2 + (1 : Int))), .n (gn (dOf r2) 0), .n (gn (dOf r2) 1), .n (gn (dOf r2) 2), .l (Ty.int IntKind.i64) l6, .l (Ty.pair (Ty.int IntKind.i64) (Ty.pair (Ty.int IntKind.i64) (Ty.int IntKind.i64))) (List.set l7 (Int.toNat (IntKind.wrap .i64 (Int.tmod (Prod.fst (Prod.snd (List.getD l0 (Int.toNat n2) (Ty.dflt (Ty.pair (Ty.int IntKind.u8) (Ty.pair (Ty.int IntKind.u8) (Ty.int IntKind.u8))))))) (2 : Int)))) (IntKind.wrap .i64 (Int.tmod (Prod.fst (Prod.snd (List.getD l0 (Int.toNat n2) (Ty.dflt (Ty.pair (Ty.int IntKind.u8) (Ty.pair (Ty.int IntKind.u8) (Ty.int IntKind.u8))))))) (2 : Int)), (0 : Int), (0 : Int))), .l (Ty.int IntKind.i64) l8])))
                                  (.bad 351)))
                                (.bad 12))
                               (.bad 12))
                              (.leaf (Step.go [.k 0, .l (Ty.pair (Ty.int IntKind.u8) (Ty.pair (Ty.int IntKind.u8) (Ty.int IntKind.u8))) l0, .n n1, .n (IntKind.wrap .i64 (n2 + (1 : Int))), .n (gn (dOf r2) 0), .n (gn (dOf r2) 1), .n (gn (dOf r2) 2), .l (Ty.int IntKind.i64) l6, .l (Ty.pair (Ty.int IntKind.i64) (Ty.pair (Ty.int IntKind.i64) (Ty.int IntKind.i64))) (List.set l7 (Int.toNat (IntKind.wrap .i64 (Int.tmod (Prod.fst (Prod.snd (List.getD l0 (Int.toNat n2) (Ty.dflt (Ty.pair (Ty.int IntKind.u8) (Ty.pair (Ty.int IntKind.u8) (Ty.int IntKind.u8))))))) (2 : Int)))) (IntKind.wrap .i64 (Int.tmod (Prod.fst (Prod.snd (List.getD l0 (Int.toNat n2) (Ty.dflt (Ty.pair (Ty.int IntKind.u8) (Ty.pair (Ty.int IntKind.u8) (Ty.int IntKind.u8))))))) (2 : Int)), (0 : Int), (0 : Int))), .l (Ty.int IntKind.i64) l8])))
                             (.bad 351)))
                           (.bad 12))
                          (.bad 12)))
                        (.bad 351)))))
                    (.bad 12))
                   (.node (decide (gn (dOf r2) 0 < n3))
                    (.leaf (Step.stop 1 [.b false]))
                    (.node (decide (gn (dOf r2) 0 > IntKind.wrap .i64 (n3 + (1 : Int))))
                     (.leaf (Step.stop 1 [.b false]))
                     (let r3 : Option (Nat × List Dat) := (op_42 [.n (gn (dOf r2) 0), .n (gn (dOf r2) 1), .n (gn (dOf r2) 2)]);
                      (.node (isK 0 [HK.b] r3)
                       (.node (!gb (dOf r3) 0)
                        (.leaf (Step.stop 1 [.b false]))
                        (.node (inR (0 : Int) (List.length l7))
                         (.node (inR (0 : Int) (List.length l6))
                          (let r4 : Option (Nat × List Dat) := (op_50 [.n (Prod.fst (List.getD l7 0 (Ty.dflt (Ty.pair (Ty.int IntKind.i64) (Ty.pair (Ty.int IntKind.i64) (Ty.int IntKind.i64)))))), .n (Prod.fst (Prod.snd (List.getD l7 0 (Ty.dflt (Ty.pair (Ty.int IntKind.i64) (Ty.pair (Ty.int IntKind.i64) (Ty.int IntKind.i64))))))), .n (Prod.snd (Prod.snd (List.getD l7 0 (Ty.dflt (Ty.pair (Ty.int IntKind.i64) (Ty.pair (Ty.int IntKind.i64) (Ty.int IntKind.i64))))))), .n (IntKind.wrap .i64 (n1 - (List.getD l6 0 (0 : Int) : Int)))]);
                           (.node (isK 0 [HK.b] r4)
                            (.node (gb (dOf r4) 0)
                             (.node (inR (1 : Int) (List.length l7))
                              (.node (inR (1 : Int) (List.length l6))
                               (let r5 : Option (Nat × List Dat) := (op_50 [.n (Prod.fst (List.getD l7 1 (Ty.dflt (Ty.pair (Ty.int IntKind.i64) (Ty.pair (Ty.int IntKind.i64) (Ty.int IntKind.i64)))))), .n (Prod.fst (Prod.snd (List.getD l7 1 (Ty.dflt (Ty.pair (Ty.int IntKind.i64) (Ty.pair (Ty.int IntKind.i64) (Ty.int IntKind.i64))))))), .n (Prod.snd (Prod.snd (List.getD l7 1 (Ty.dflt (Ty.pair (Ty.int IntKind.i64) (Ty.pair (Ty.int IntKind.i64) (Ty.int IntKind.i64))))))), .n (IntKind.wrap .i64 (n1 - (List.getD l6 1 (0 : Int) : Int)))]);
                                (.node (isK 0 [HK.b] r5)
                                 (.node (gb (dOf r5) 0)
                                  (.leaf (Step.stop 1 [.b false]))
                                  (.leaf (Step.go [.k 0, .l (Ty.pair (Ty.int IntKind.u8) (Ty.pair (Ty.int IntKind.u8) (Ty.int IntKind.u8))) l0, .n n1, .n (IntKind.wrap .i64 (n2 + (1 : Int))), .n (gn (dOf r2) 0), .n (gn (dOf r2) 1), .n (gn (dOf r2) 2), .l (Ty.int IntKind.i64) l6, .l (Ty.pair (Ty.int IntKind.i64) (Ty.pair (Ty.int IntKind.i64) (Ty.int IntKind.i64))) l7, .l (Ty.int IntKind.i64) l8])))
                                 (.bad 351)))
                               (.bad 12))
                              (.bad 12))
                             (.leaf (Step.go [.k 0, .l (Ty.pair (Ty.int IntKind.u8) (Ty.pair (Ty.int IntKind.u8) (Ty.int IntKind.u8))) l0, .n n1, .n (IntKind.wrap .i64 (n2 + (1 : Int))), .n (gn (dOf r2) 0), .n (gn (dOf r2) 1), .n (gn (dOf r2) 2), .l (Ty.int IntKind.i64) l6, .l (Ty.pair (Ty.int IntKind.i64) (Ty.pair (Ty.int IntKind.i64) (Ty.int IntKind.i64))) l7, .l (Ty.int IntKind.i64) l8])))
                            (.bad 351)))
                          (.bad 12))
                         (.bad 12)))
                       (.bad 351))))))
                  (.bad 351)))
                (.bad 12))))))
           (.bad 10))
          (.bad 351)))
        (.bad 12))
       (.bad 12))
      (.bad 10))
     (.leaf (Step.stop 0 [])))
  | _ => .bad 0
theorem fr_L13_9_0_eq (l0 : List (Ty.den (Ty.pair (Ty.int IntKind.u8) (Ty.pair (Ty.int IntKind.u8) (Ty.int IntKind.u8))))) (n1 : Int) (n2 : Int) (n3 : Int) (n4 : Int) (n5 : Int) (l6 : List (Ty.den (Ty.int IntKind.i64))) (l7 : List (Ty.den (Ty.pair (Ty.int IntKind.i64) (Ty.pair (Ty.int IntKind.i64) (Ty.int IntKind.i64))))) (l8 : List (Ty.den (Ty.int IntKind.i64))) : ((fun (d : List Dat) => stepMC false Try.prog cs_51 13 9 (lsM [(31, L13_31)] 0) (mkM 0 [] [(sh 205 [(0, .imm TSt 0), (7, .ptr 0 0), (8, .int .i64 1), (9, .own 1), (10, .own 2), (11, .own 3), (12, .int .i64 2)], [.cells [.int .i64 3, .int .i64 4, .int .i64 5], .arr TI 6, .arr TTen 7, .arr TI 8])] [(11, TI)] [(.exit 0, sh 205 [], []), (.ret, sh 205 [(6, .bool 0)], [])] fun _ => none) (.k 0 :: d)) [.l (Ty.pair (Ty.int IntKind.u8) (Ty.pair (Ty.int IntKind.u8) (Ty.int IntKind.u8))) l0, .n n1, .n n2, .n n3, .n n4, .n n5, .l (Ty.int IntKind.i64) l6, .l (Ty.pair (Ty.int IntKind.i64) (Ty.pair (Ty.int IntKind.i64) (Ty.int IntKind.i64))) l7, .l (Ty.int IntKind.i64) l8]).sel = (fr_L13_9_0 [.l (Ty.pair (Ty.int IntKind.u8) (Ty.pair (Ty.int IntKind.u8) (Ty.int IntKind.u8))) l0, .n n1, .n n2, .n n3, .n n4, .n n5, .l (Ty.int IntKind.i64) l6, .l (Ty.pair (Ty.int IntKind.i64) (Ty.pair (Ty.int IntKind.i64) (Ty.int IntKind.i64))) l7, .l (Ty.int IntKind.i64) l8]).sel := by kernel_rfl
theorem fr_L13_9_0_pr (l0 : List (Ty.den (Ty.pair (Ty.int IntKind.u8) (Ty.pair (Ty.int IntKind.u8) (Ty.int IntKind.u8))))) (n1 : Int) (n2 : Int) (n3 : Int) (n4 : Int) (n5 : Int) (l6 : List (Ty.den (Ty.int IntKind.i64))) (l7 : List (Ty.den (Ty.pair (Ty.int IntKind.i64) (Ty.pair (Ty.int IntKind.i64) (Ty.int IntKind.i64))))) (l8 : List (Ty.den (Ty.int IntKind.i64))) : (fr_L13_9_0 [.l (Ty.pair (Ty.int IntKind.u8) (Ty.pair (Ty.int IntKind.u8) (Ty.int IntKind.u8))) l0, .n n1, .n n2, .n n3, .n n4, .n n5, .l (Ty.int IntKind.i64) l6, .l (Ty.pair (Ty.int IntKind.i64) (Ty.pair (Ty.int IntKind.i64) (Ty.int IntKind.i64))) l7, .l (Ty.int IntKind.i64) l8]).sel = (fn_L13_9_0 [.l (Ty.pair (Ty.int IntKind.u8) (Ty.pair (Ty.int IntKind.u8) (Ty.int IntKind.u8))) l0, .n n1, .n n2, .n n3, .n n4, .n n5, .l (Ty.int IntKind.i64) l6, .l (Ty.pair (Ty.int IntKind.i64) (Ty.pair (Ty.int IntKind.i64) (Ty.int IntKind.i64))) l7, .l (Ty.int IntKind.i64) l8]).sel := (sel_c (fun h0 => (sel_c (fun h1 => (sel_c (fun h2 => (sel_c (fun h3 => (sel_c (fun h4 => (sel_t h1 (sel_c (fun h5 => (sel_t h5 (sel_t h1 rfl))) (fun h5 => (sel_c (fun h6 => (sel_t h1 rfl)) (fun h6 => (sel_c (fun h7 => (sel_c (fun h8 => (sel_c (fun _ => rfl) (fun h9 => (sel_c (fun _ => rfl) (fun h10 => (sel_c (fun h11 => (sel_c (fun _ => rfl) (fun h12 => (sel_c (fun h13 => (sel_c (fun h14 => (sel_c (fun h15 => (sel_c (fun h16 => (sel_c (fun _ => rfl) (fun h17 => (sel_c (fun h18 => (sel_c (fun _ => rfl) (fun h19 => (sel_c (fun _ => rfl) (fun h20 => (sel_t h15 rfl)))))) (fun _ => rfl))))) (fun _ => rfl))) (fun _ => rfl))) (fun _ => rfl))) (fun _ => rfl))))) (fun _ => rfl))))))) (fun _ => rfl))) (fun h7 => (sel_c (fun h8 => (sel_c (fun h9 => (sel_c (fun h10 => (sel_c (fun _ => rfl) (fun h11 => (sel_c (fun _ => rfl) (fun h12 => (sel_c (fun h13 => (sel_c (fun _ => rfl) (fun h14 => (sel_c (fun h15 => (sel_c (fun h16 => (sel_c (fun h17 => (sel_c (fun h18 => (sel_c (fun _ => rfl) (fun h19 => (sel_c (fun h20 => (sel_c (fun _ => rfl) (fun h21 => (sel_c (fun _ => rfl) (fun h22 => (sel_t h17 rfl)))))) (fun _ => rfl))))) (fun _ => rfl))) (fun _ => rfl))) (fun _ => rfl))) (fun _ => rfl))))) (fun _ => rfl))))))) (fun _ => rfl))) (fun _ => rfl))) (fun h8 => (sel_c (fun h9 => (sel_c (fun h10 => (sel_c (fun h11 => (sel_t h9 rfl)) (fun _ => rfl))) (fun _ => rfl))) (fun _ => rfl)))))))))))) (fun _ => rfl))) (fun _ => rfl))) (fun _ => rfl))) (fun _ => rfl))) (fun _ => rfl))
theorem fn_L13_9_0_eq (l0 : List (Ty.den (Ty.pair (Ty.int IntKind.u8) (Ty.pair (Ty.int IntKind.u8) (Ty.int IntKind.u8))))) (n1 : Int) (n2 : Int) (n3 : Int) (n4 : Int) (n5 : Int) (l6 : List (Ty.den (Ty.int IntKind.i64))) (l7 : List (Ty.den (Ty.pair (Ty.int IntKind.i64) (Ty.pair (Ty.int IntKind.i64) (Ty.int IntKind.i64))))) (l8 : List (Ty.den (Ty.int IntKind.i64))) : ((fun (d : List Dat) => stepMC false Try.prog cs_51 13 9 (lsM [(31, L13_31)] 0) (mkM 0 [] [(sh 205 [(0, .imm TSt 0), (7, .ptr 0 0), (8, .int .i64 1), (9, .own 1), (10, .own 2), (11, .own 3), (12, .int .i64 2)], [.cells [.int .i64 3, .int .i64 4, .int .i64 5], .arr TI 6, .arr TTen 7, .arr TI 8])] [(11, TI)] [(.exit 0, sh 205 [], []), (.ret, sh 205 [(6, .bool 0)], [])] fun _ => none) (.k 0 :: d)) [.l (Ty.pair (Ty.int IntKind.u8) (Ty.pair (Ty.int IntKind.u8) (Ty.int IntKind.u8))) l0, .n n1, .n n2, .n n3, .n n4, .n n5, .l (Ty.int IntKind.i64) l6, .l (Ty.pair (Ty.int IntKind.i64) (Ty.pair (Ty.int IntKind.i64) (Ty.int IntKind.i64))) l7, .l (Ty.int IntKind.i64) l8]).sel = (fn_L13_9_0 [.l (Ty.pair (Ty.int IntKind.u8) (Ty.pair (Ty.int IntKind.u8) (Ty.int IntKind.u8))) l0, .n n1, .n n2, .n n3, .n n4, .n n5, .l (Ty.int IntKind.i64) l6, .l (Ty.pair (Ty.int IntKind.i64) (Ty.pair (Ty.int IntKind.i64) (Ty.int IntKind.i64))) l7, .l (Ty.int IntKind.i64) l8]).sel := (fr_L13_9_0_eq l0 n1 n2 n3 n4 n5 l6 l7 l8).trans (fr_L13_9_0_pr l0 n1 n2 n3 n4 n5 l6 l7 l8)
theorem fn_L13_9_0_ok (env : List Dat) (y : Step) (h : (fn_L13_9_0 env).sel = some y) : ((fun (d : List Dat) => stepMC false Try.prog cs_51 13 9 (lsM [(31, L13_31)] 0) (mkM 0 [] [(sh 205 [(0, .imm TSt 0), (7, .ptr 0 0), (8, .int .i64 1), (9, .own 1), (10, .own 2), (11, .own 3), (12, .int .i64 2)], [.cells [.int .i64 3, .int .i64 4, .int .i64 5], .arr TI 6, .arr TTen 7, .arr TI 8])] [(11, TI)] [(.exit 0, sh 205 [], []), (.ret, sh 205 [(6, .bool 0)], [])] fun _ => none) (.k 0 :: d)) env).sel = some y := by
  unfold fn_L13_9_0 at h
  split at h
  · rw [fn_L13_9_0_eq]; exact h
  · cases h
theorem fn_L13_9_ok (env : List Dat) (y : Step) (h : (fn_L13_9 env).sel = some y) : (stepMC false Try.prog cs_51 13 9 (lsM [(31, L13_31)] 0) (mkM 0 [] [(sh 205 [(0, .imm TSt 0), (7, .ptr 0 0), (8, .int .i64 1), (9, .own 1), (10, .own 2), (11, .own 3), (12, .int .i64 2)], [.cells [.int .i64 3, .int .i64 4, .int .i64 5], .arr TI 6, .arr TTen 7, .arr TI 8])] [(11, TI)] [(.exit 0, sh 205 [], []), (.ret, sh 205 [(6, .bool 0)], [])] fun _ => none) env).sel = some y := by
  unfold fn_L13_9 at h
  split at h
  · exact fn_L13_9_0_ok _ _ h
  · cases h
theorem L13_9_in : LsOk Try.prog 0 (lsM [(31, L13_31)] 0) (cAt Try.prog 13 9) := LsOk.many fun j B hB hk c hc hi => by
  simp only [lookM] at hB
  split at hB
  · rename_i e; have := Nat.eq_of_beq_eq_true e; subst this; cases hB
    have e1 : loopsAt (cAt Try.prog 13 9) 31 = [cAt Try.prog 13 31] := by kernel_rfl
    have e2 := loopsAt_mem hc hi
    rw [e1] at e2; cases List.mem_singleton.1 e2; exact L13_31_run
  cases hB
theorem L13_9_run : ∀ t s x, (manyRun L13_9 t s).sel = some x → CodeOk Try.prog 0 (.loop (cAt Try.prog 13 9)) t s x := mkM_ok (st := fn_L13_9) (m := FU) cs_51_ok hmix false (L13_9_in) (by kernel_rfl) fn_L13_9_ok

theorem ls_13_ok : LsOk Try.prog (0) (lsM [(9, L13_9)] (0)) (bodyOf Try.prog 13) := LsOk.many fun j B hB hk c hc hi => by
  simp only [lookM] at hB
  split at hB
  · rename_i e; have := Nat.eq_of_beq_eq_true e; subst this; cases hB
    have e1 : loopAt Try.prog 13 9 = [cAt Try.prog 13 9] := loopAt_one (by kernel_rfl)
    have e2 : c ∈ loopAt Try.prog 13 9 := loopsAt_mem hc hi
    rw [e1] at e2; cases List.mem_singleton.1 e2; exact L13_9_run
  cases hB

def fn_W13 : List Dat → Tree Bool
  | [.l (Ty.pair (Ty.int IntKind.u8) (Ty.pair (Ty.int IntKind.u8) (Ty.int IntKind.u8))) l0, .n n1, .n n2] =>
    (.node (decide ((↑(List.length l0) : Int) > (300 : Int)))
     (.leaf (true))
     (let r1 : Option (Nat × List Dat) := (op_L13_9 [.k 0, .l (Ty.pair (Ty.int IntKind.u8) (Ty.pair (Ty.int IntKind.u8) (Ty.int IntKind.u8))) l0, .n (2 : Int), .n (0 : Int), .n (0 : Int), .n (-1 : Int), .n (0 : Int), .l (Ty.int IntKind.i64) (List.set (List.set (List.replicate 2 (0 : Int)) 0 (IntKind.wrap .i64 (Int.tmod n1 (3 : Int)))) 1 (IntKind.wrap .i64 (Int.tmod n2 (3 : Int)))), .l (Ty.pair (Ty.int IntKind.i64) (Ty.pair (Ty.int IntKind.i64) (Ty.int IntKind.i64))) (List.set (List.set (List.replicate 2 (Ty.dflt (Ty.pair (Ty.int IntKind.i64) (Ty.pair (Ty.int IntKind.i64) (Ty.int IntKind.i64))))) 0 ((0 : Int), (0 : Int), (0 : Int))) 1 ((1 : Int), (0 : Int), (0 : Int))), .l (Ty.int IntKind.i64) []]);
      (.node (isK 0 [] r1)
       (.leaf (true))
       (.node (isK 1 [HK.b] r1)
        (.leaf (gb (dOf r1) 0))
        (.bad 351)))))
  | _ => .bad 0
theorem fn_W13_eq (l0 : List (Ty.den (Ty.pair (Ty.int IntKind.u8) (Ty.pair (Ty.int IntKind.u8) (Ty.int IntKind.u8))))) (n1 : Int) (n2 : Int) : ((fun (d : List Dat) => lawB false Try.prog cs_51 13 (lsM [(9, L13_9)] (0)) (instL [.imm TSt 0, .int .u8 1, .int .u8 2] d)) [.l (Ty.pair (Ty.int IntKind.u8) (Ty.pair (Ty.int IntKind.u8) (Ty.int IntKind.u8))) l0, .n n1, .n n2]).sel = (fn_W13 [.l (Ty.pair (Ty.int IntKind.u8) (Ty.pair (Ty.int IntKind.u8) (Ty.int IntKind.u8))) l0, .n n1, .n n2]).sel := by kernel_rfl
theorem W13_law (env : List Dat) (h : (fn_W13 env).sel = some true) {w : World} {args : Array Value} (ha : LRel R0 (snapOf w) (instL [.imm TSt 0, .int .u8 1, .int .u8 2] env) args) :
    Calls Try.prog 13 args w fun e w' => e = .returned (.bool true) ∧ Below w.heap.size w w' := by
  refine lawB_ok cs_51_ok hmix false (ls := (lsM [(9, L13_9)] (0))) (ls_13_ok) ?_ ha
  unfold fn_W13 at h
  split at h
  · exact (fn_W13_eq _ _ _).trans h
  · cases h
end Go.Proofs.Ytchedebomjmehaa.Vx
