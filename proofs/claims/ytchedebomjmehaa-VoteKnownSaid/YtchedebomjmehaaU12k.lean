import Derived.Test.YtchedebomjmehaaVxMany
import Derived.Test.YtchedebomjmehaaProg
import Derived.KernelRfl
import Derived.Test.YtchedebomjmehaaVxAid
namespace Go.Proofs.Ytchedebomjmehaa.Vx.Un
open Go Go.RowKit
set_option linter.unusedVariables false
set_option maxRecDepth 100000
set_option maxHeartbeats 0

def frV (h : Nat) : PV := .agg [.int .i64 h, .int .i64 (h+1), .int .u64 (h+2), .int .u32 (h+3)]
def frB (h : Nat) : PB := .cells [.int .i64 h, .int .i64 (h+1), .int .u64 (h+2), .int .u32 (h+3)]
def vtB (a b c : PV) (h : Nat) : PB := .cells [a, b, c, .bool h, .int .i64 (h+1)]
theorem hmix : Try.prog.follows .mixedOrders = true := by kernel_rfl
theorem csNone_ok0 : CsOk Try.prog csNone := csNone_ok _

def op_14 : List Dat → Option (Nat × List Dat) := fun _ => some (0, [.b true])
def B14 : FBox := (mkF [] [] [] [(.bool 0, [])] op_14)
def cs_14 : FuncId → Option CSpec := csAdd 14 [B14] csNone
theorem fn_14_ok (env : List Dat) (y : Nat × List Dat) (h : op_14 env = some y) : (boxC true Try.prog csNone 14 ls0 (mkF [] [] [] [(.bool 0, [])] fun _ => none) env).sel = some y := by
  cases h
  kernel_rfl
theorem B14_ok : RunOk Try.prog 14 (boxRun B14) := mkF_ok (op := op_14) csNone_ok0 hmix true (LsOk.none _ _ _) fn_14_ok
theorem cs_14_ok : CsOk Try.prog cs_14 := csAdd_ok csNone_ok0 fun B hB => by
  cases List.mem_singleton.1 hB
  exact B14_ok

def fn_25a : List Dat → Tree (Nat × List Dat)
  | [.n n0, .n n1, .n n2, .n n3, .n n4, .b b5, .n n6] =>
    (.node (decide (n0 < (0 : Int)))
     (.leaf ((nat_lit 0, [Dat.n (2 : Int), Dat.b b5, Dat.n n6])))
     (.node (decide (n0 ≥ (2 : Int)))
      (.leaf ((nat_lit 0, [Dat.n (2 : Int), Dat.b b5, Dat.n n6])))
      (.node (decide (IntKind.wrap IntKind.i64 ((1 : Int) - n0) = (0 : Int)))
       (.node (b5)
        (.leaf ((nat_lit 0, [Dat.n (220 : Int), Dat.b true, Dat.n n6])))
        (.node (decide (n0 = (0 : Int)))
         (.node (decide (n1 ≤ n6))
          (.leaf ((nat_lit 0, [Dat.n (220 : Int), Dat.b true, Dat.n n6])))
          (.leaf ((nat_lit 1, [Dat.n (0 : Int), Dat.b b5, Dat.n n6, Dat.n n1, Dat.n n2, Dat.n n3, Dat.n n4]))))
         (.node (decide (n0 = (1 : Int)))
          (.node (decide (n1 ≤ n6))
           (.leaf ((nat_lit 0, [Dat.n (220 : Int), Dat.b true, Dat.n n6])))
           (.leaf ((nat_lit 2, [Dat.n (0 : Int), Dat.b b5, Dat.n n6, Dat.n n1, Dat.n n2, Dat.n n3, Dat.n n4]))))
          (.bad 70))))
       (.node (decide (IntKind.wrap IntKind.i64 ((1 : Int) - n0) = (1 : Int)))
        (.node (b5)
         (.leaf ((nat_lit 0, [Dat.n (220 : Int), Dat.b true, Dat.n n6])))
         (.node (decide (n0 = (0 : Int)))
          (.node (decide (n1 ≤ n6))
           (.leaf ((nat_lit 0, [Dat.n (220 : Int), Dat.b true, Dat.n n6])))
           (.leaf ((nat_lit 1, [Dat.n (0 : Int), Dat.b b5, Dat.n n6, Dat.n n1, Dat.n n2, Dat.n n3, Dat.n n4]))))
          (.node (decide (n0 = (1 : Int)))
           (.node (decide (n1 ≤ n6))
            (.leaf ((nat_lit 0, [Dat.n (220 : Int), Dat.b true, Dat.n n6])))
            (.leaf ((nat_lit 2, [Dat.n (0 : Int), Dat.b b5, Dat.n n6, Dat.n n1, Dat.n n2, Dat.n n3, Dat.n n4]))))
           (.bad 70))))
        (.bad 70)))))
  | _ => .bad 0
def op_25a : List Dat → Option (Nat × List Dat) := fun env => (fn_25a env).sel
def B25a : FBox := (mkF [.ptr 0 0, .int .i64 0, frV 1] [(vtB (.nilptr) (.nilptr) (.nilptr) 5)] [0] [(.int .i64 0, [(vtB (.nilptr) (.nilptr) (.nilptr) 1)]), (.int .i64 0, [(vtB (.ptr 1 0) (.nilptr) (.nilptr) 1), frB 3]), (.int .i64 0, [(vtB (.nilptr) (.ptr 1 0) (.nilptr) 1), frB 3])] op_25a)
def fr_25a : List Dat → Tree (Nat × List Dat)
  | [.n n0, .n n1, .n n2, .n n3, .n n4, .b b5, .n n6] =>
    (.node (decide (n0 < (0 : Int)))
     (.leaf ((nat_lit 0, [Dat.n (2 : Int), Dat.b b5, Dat.n n6])))
     (.node (decide (n0 ≥ (2 : Int)))
      (.leaf ((nat_lit 0, [Dat.n (2 : Int), Dat.b b5, Dat.n n6])))
      (.node (decide (IntKind.wrap IntKind.i64 ((1 : Int) - n0) = (0 : Int)))
       (.node (b5)
        (.leaf ((nat_lit 0, [Dat.n (220 : Int), Dat.b true, Dat.n n6])))
        (.node (decide (n0 = (0 : Int)))
         (.node (decide (n1 ≤ n6))
          (.leaf ((nat_lit 0, [Dat.n (220 : Int), Dat.b true, Dat.n n6])))
          (.node (decide (n0 = (0 : Int)))
           (.leaf ((nat_lit 1, [Dat.n (0 : Int), Dat.b b5, Dat.n n6, Dat.n n1, Dat.n n2, Dat.n n3, Dat.n n4])))
           (.node (decide (n0 = (1 : Int)))
            (.leaf ((nat_lit 2, [Dat.n (0 : Int), Dat.b b5, Dat.n n6, Dat.n n1, Dat.n n2, Dat.n n3, Dat.n n4])))
            (.bad 70))))
         (.node (decide (n0 = (1 : Int)))
          (.node (decide (n1 ≤ n6))
           (.leaf ((nat_lit 0, [Dat.n (220 : Int), Dat.b true, Dat.n n6])))
           (.node (decide (n0 = (0 : Int)))
            (.leaf ((nat_lit 1, [Dat.n (0 : Int), Dat.b b5, Dat.n n6, Dat.n n1, Dat.n n2, Dat.n n3, Dat.n n4])))
            (.node (decide (n0 = (1 : Int)))
             (.leaf ((nat_lit 2, [Dat.n (0 : Int), Dat.b b5, Dat.n n6, Dat.n n1, Dat.n n2, Dat.n n3, Dat.n n4])))
             (.bad 70))))
          (.bad 70))))
       (.node (decide (IntKind.wrap IntKind.i64 ((1 : Int) - n0) = (1 : Int)))
        (.node (b5)
         (.leaf ((nat_lit 0, [Dat.n (220 : Int), Dat.b true, Dat.n n6])))
         (.node (decide (n0 = (0 : Int)))
          (.node (decide (n1 ≤ n6))
           (.leaf ((nat_lit 0, [Dat.n (220 : Int), Dat.b true, Dat.n n6])))
           (.node (decide (n0 = (0 : Int)))
            (.leaf ((nat_lit 1, [Dat.n (0 : Int), Dat.b b5, Dat.n n6, Dat.n n1, Dat.n n2, Dat.n n3, Dat.n n4])))
            (.node (decide (n0 = (1 : Int)))
             (.leaf ((nat_lit 2, [Dat.n (0 : Int), Dat.b b5, Dat.n n6, Dat.n n1, Dat.n n2, Dat.n n3, Dat.n n4])))
             (.bad 70))))
          (.node (decide (n0 = (1 : Int)))
           (.node (decide (n1 ≤ n6))
            (.leaf ((nat_lit 0, [Dat.n (220 : Int), Dat.b true, Dat.n n6])))
            (.node (decide (n0 = (0 : Int)))
             (.leaf ((nat_lit 1, [Dat.n (0 : Int), Dat.b b5, Dat.n n6, Dat.n n1, Dat.n n2, Dat.n n3, Dat.n n4])))
             (.node (decide (n0 = (1 : Int)))
              (.leaf ((nat_lit 2, [Dat.n (0 : Int), Dat.b b5, Dat.n n6, Dat.n n1, Dat.n n2, Dat.n n3, Dat.n n4])))
              (.bad 70))))
           (.bad 70))))
        (.bad 70)))))
  | _ => .bad 0
theorem fr_25a_eq (n0 : Int) (n1 : Int) (n2 : Int) (n3 : Int) (n4 : Int) (b5 : Bool) (n6 : Int) : (boxC false Try.prog cs_14 25 ls0 (mkF [.ptr 0 0, .int .i64 0, frV 1] [(vtB (.nilptr) (.nilptr) (.nilptr) 5)] [0] [(.int .i64 0, [(vtB (.nilptr) (.nilptr) (.nilptr) 1)]), (.int .i64 0, [(vtB (.ptr 1 0) (.nilptr) (.nilptr) 1), frB 3]), (.int .i64 0, [(vtB (.nilptr) (.ptr 1 0) (.nilptr) 1), frB 3])] fun _ => none) [.n n0, .n n1, .n n2, .n n3, .n n4, .b b5, .n n6]).sel = (fr_25a [.n n0, .n n1, .n n2, .n n3, .n n4, .b b5, .n n6]).sel := by kernel_rfl
theorem fr_25a_pr (n0 : Int) (n1 : Int) (n2 : Int) (n3 : Int) (n4 : Int) (b5 : Bool) (n6 : Int) : (fr_25a [.n n0, .n n1, .n n2, .n n3, .n n4, .b b5, .n n6]).sel = (fn_25a [.n n0, .n n1, .n n2, .n n3, .n n4, .b b5, .n n6]).sel := (sel_c (fun _ => rfl) (fun h0 => (sel_c (fun _ => rfl) (fun h1 => (sel_c (fun h2 => (sel_c (fun _ => rfl) (fun h3 => (sel_c (fun h4 => (sel_c (fun _ => rfl) (fun h5 => (sel_t h4 rfl)))) (fun h4 => (sel_c (fun h5 => (sel_c (fun _ => rfl) (fun h6 => (sel_f h4 (sel_t h5 rfl))))) (fun _ => rfl))))))) (fun h2 => (sel_c (fun h3 => (sel_c (fun _ => rfl) (fun h4 => (sel_c (fun h5 => (sel_c (fun _ => rfl) (fun h6 => (sel_t h5 rfl)))) (fun h5 => (sel_c (fun h6 => (sel_c (fun _ => rfl) (fun h7 => (sel_f h5 (sel_t h6 rfl))))) (fun _ => rfl))))))) (fun _ => rfl))))))))
theorem fn_25a_eq (n0 : Int) (n1 : Int) (n2 : Int) (n3 : Int) (n4 : Int) (b5 : Bool) (n6 : Int) : (boxC false Try.prog cs_14 25 ls0 (mkF [.ptr 0 0, .int .i64 0, frV 1] [(vtB (.nilptr) (.nilptr) (.nilptr) 5)] [0] [(.int .i64 0, [(vtB (.nilptr) (.nilptr) (.nilptr) 1)]), (.int .i64 0, [(vtB (.ptr 1 0) (.nilptr) (.nilptr) 1), frB 3]), (.int .i64 0, [(vtB (.nilptr) (.ptr 1 0) (.nilptr) 1), frB 3])] fun _ => none) [.n n0, .n n1, .n n2, .n n3, .n n4, .b b5, .n n6]).sel = (fn_25a [.n n0, .n n1, .n n2, .n n3, .n n4, .b b5, .n n6]).sel := (fr_25a_eq n0 n1 n2 n3 n4 b5 n6).trans (fr_25a_pr n0 n1 n2 n3 n4 b5 n6)
theorem fn_25a_ok (env : List Dat) (y : Nat × List Dat) (h : (fn_25a env).sel = some y) : (boxC false Try.prog cs_14 25 ls0 (mkF [.ptr 0 0, .int .i64 0, frV 1] [(vtB (.nilptr) (.nilptr) (.nilptr) 5)] [0] [(.int .i64 0, [(vtB (.nilptr) (.nilptr) (.nilptr) 1)]), (.int .i64 0, [(vtB (.ptr 1 0) (.nilptr) (.nilptr) 1), frB 3]), (.int .i64 0, [(vtB (.nilptr) (.ptr 1 0) (.nilptr) 1), frB 3])] fun _ => none) env).sel = some y := by
  unfold fn_25a at h
  split at h
  · rw [fn_25a_eq]; exact h
  · cases h
theorem B25a_ok : RunOk Try.prog 25 (boxRun B25a) := mkF_ok (op := op_25a) cs_14_ok hmix false (LsOk.none _ _ _) fn_25a_ok

def fn_25b : List Dat → Tree (Nat × List Dat)
  | [.n n0, .n n1, .n n2, .n n3, .n n4, .b b5, .n n6, .n n7, .n n8, .n n9, .n n10] =>
    (.node (decide (n0 < (0 : Int)))
     (.leaf ((nat_lit 1, [Dat.n (2 : Int), Dat.b b5, Dat.n n6, Dat.n n7, Dat.n n8, Dat.n n9, Dat.n n10])))
     (.node (decide (n0 ≥ (2 : Int)))
      (.leaf ((nat_lit 1, [Dat.n (2 : Int), Dat.b b5, Dat.n n6, Dat.n n7, Dat.n n8, Dat.n n9, Dat.n n10])))
      (.node (decide (IntKind.wrap IntKind.i64 ((1 : Int) - n0) = (0 : Int)))
       (.node (b5)
        (.leaf ((nat_lit 0, [Dat.n (220 : Int), Dat.b true, Dat.n n6])))
        (.node (decide (n0 = (0 : Int)))
         (.leaf ((nat_lit 0, [Dat.n (220 : Int), Dat.b true, Dat.n n6])))
         (.node (decide (n0 = (1 : Int)))
          (.node (decide (n1 ≤ n6))
           (.leaf ((nat_lit 0, [Dat.n (220 : Int), Dat.b true, Dat.n n6])))
           (.node (!(n7 == n1 && (n8 == n2 && (n9 == n3 && (n10 == n4 && true) && true))))
            (.leaf ((nat_lit 0, [Dat.n (220 : Int), Dat.b true, Dat.n n6])))
            (.leaf ((nat_lit 2, [Dat.n (0 : Int), Dat.b false, Dat.n n1, Dat.n n1, Dat.n n2, Dat.n n3, Dat.n n4])))))
          (.bad 70))))
       (.node (decide (IntKind.wrap IntKind.i64 ((1 : Int) - n0) = (1 : Int)))
        (.node (b5)
         (.leaf ((nat_lit 0, [Dat.n (220 : Int), Dat.b true, Dat.n n6])))
         (.node (decide (n0 = (0 : Int)))
          (.leaf ((nat_lit 0, [Dat.n (220 : Int), Dat.b true, Dat.n n6])))
          (.node (decide (n0 = (1 : Int)))
           (.node (decide (n1 ≤ n6))
            (.leaf ((nat_lit 0, [Dat.n (220 : Int), Dat.b true, Dat.n n6])))
            (.bad 322))
           (.bad 70))))
        (.bad 70)))))
  | _ => .bad 0
def op_25b : List Dat → Option (Nat × List Dat) := fun env => (fn_25b env).sel
def B25b : FBox := (mkF [.ptr 0 0, .int .i64 0, frV 1] [(vtB (.ptr 1 0) (.nilptr) (.nilptr) 5), frB 7] [0] [(.int .i64 0, [(vtB (.nilptr) (.nilptr) (.nilptr) 1), .gone]), (.int .i64 0, [(vtB (.ptr 1 0) (.nilptr) (.nilptr) 1), frB 3]), (.int .i64 0, [(vtB (.nilptr) (.nilptr) (.ptr 2 0) 1), .gone, frB 3])] op_25b)
def fr_25b : List Dat → Tree (Nat × List Dat)
  | [.n n0, .n n1, .n n2, .n n3, .n n4, .b b5, .n n6, .n n7, .n n8, .n n9, .n n10] =>
    (.node (decide (n0 < (0 : Int)))
     (.leaf ((nat_lit 1, [Dat.n (2 : Int), Dat.b b5, Dat.n n6, Dat.n n7, Dat.n n8, Dat.n n9, Dat.n n10])))
     (.node (decide (n0 ≥ (2 : Int)))
      (.leaf ((nat_lit 1, [Dat.n (2 : Int), Dat.b b5, Dat.n n6, Dat.n n7, Dat.n n8, Dat.n n9, Dat.n n10])))
      (.node (decide (IntKind.wrap IntKind.i64 ((1 : Int) - n0) = (0 : Int)))
       (.node (b5)
        (.leaf ((nat_lit 0, [Dat.n (220 : Int), Dat.b true, Dat.n n6])))
        (.node (decide (n0 = (0 : Int)))
         (.leaf ((nat_lit 0, [Dat.n (220 : Int), Dat.b true, Dat.n n6])))
         (.node (decide (n0 = (1 : Int)))
          (.node (decide (n1 ≤ n6))
           (.leaf ((nat_lit 0, [Dat.n (220 : Int), Dat.b true, Dat.n n6])))
           (.node (!(n7 == n1 && (n8 == n2 && (n9 == n3 && (n10 == n4 && true) && true))))
            (.leaf ((nat_lit 0, [Dat.n (220 : Int), Dat.b true, Dat.n n6])))
            (.leaf ((nat_lit 2, [Dat.n (0 : Int), Dat.b false, Dat.n n1, Dat.n n1, Dat.n n2, Dat.n n3, Dat.n n4])))))
          (.bad 70))))
       (.node (decide (IntKind.wrap IntKind.i64 ((1 : Int) - n0) = (1 : Int)))
        (.node (b5)
         (.leaf ((nat_lit 0, [Dat.n (220 : Int), Dat.b true, Dat.n n6])))
         (.node (decide (n0 = (0 : Int)))
          (.leaf ((nat_lit 0, [Dat.n (220 : Int), Dat.b true, Dat.n n6])))
          (.node (decide (n0 = (1 : Int)))
           (.node (decide (n1 ≤ n6))
            (.leaf ((nat_lit 0, [Dat.n (220 : Int), Dat.b true, Dat.n n6])))
            (.node (decide (n0 = (0 : Int)))
             (.bad 322)
             (.node (decide (n0 = (1 : Int)))
              (.bad 322)
              (.bad 70))))
           (.bad 70))))
        (.bad 70)))))
  | _ => .bad 0
theorem fr_25b_eq (n0 : Int) (n1 : Int) (n2 : Int) (n3 : Int) (n4 : Int) (b5 : Bool) (n6 : Int) (n7 : Int) (n8 : Int) (n9 : Int) (n10 : Int) : (boxC false Try.prog cs_14 25 ls0 (mkF [.ptr 0 0, .int .i64 0, frV 1] [(vtB (.ptr 1 0) (.nilptr) (.nilptr) 5), frB 7] [0] [(.int .i64 0, [(vtB (.nilptr) (.nilptr) (.nilptr) 1), .gone]), (.int .i64 0, [(vtB (.ptr 1 0) (.nilptr) (.nilptr) 1), frB 3]), (.int .i64 0, [(vtB (.nilptr) (.nilptr) (.ptr 2 0) 1), .gone, frB 3])] fun _ => none) [.n n0, .n n1, .n n2, .n n3, .n n4, .b b5, .n n6, .n n7, .n n8, .n n9, .n n10]).sel = (fr_25b [.n n0, .n n1, .n n2, .n n3, .n n4, .b b5, .n n6, .n n7, .n n8, .n n9, .n n10]).sel := by kernel_rfl
theorem fr_25b_pr (n0 : Int) (n1 : Int) (n2 : Int) (n3 : Int) (n4 : Int) (b5 : Bool) (n6 : Int) (n7 : Int) (n8 : Int) (n9 : Int) (n10 : Int) : (fr_25b [.n n0, .n n1, .n n2, .n n3, .n n4, .b b5, .n n6, .n n7, .n n8, .n n9, .n n10]).sel = (fn_25b [.n n0, .n n1, .n n2, .n n3, .n n4, .b b5, .n n6, .n n7, .n n8, .n n9, .n n10]).sel := (sel_c (fun _ => rfl) (fun h0 => (sel_c (fun _ => rfl) (fun h1 => (sel_c (fun _ => rfl) (fun h2 => (sel_c (fun h3 => (sel_c (fun _ => rfl) (fun h4 => (sel_c (fun _ => rfl) (fun h5 => (sel_c (fun h6 => (sel_c (fun _ => rfl) (fun h7 => (sel_f h5 (sel_t h6 rfl))))) (fun _ => rfl))))))) (fun _ => rfl))))))))
theorem fn_25b_eq (n0 : Int) (n1 : Int) (n2 : Int) (n3 : Int) (n4 : Int) (b5 : Bool) (n6 : Int) (n7 : Int) (n8 : Int) (n9 : Int) (n10 : Int) : (boxC false Try.prog cs_14 25 ls0 (mkF [.ptr 0 0, .int .i64 0, frV 1] [(vtB (.ptr 1 0) (.nilptr) (.nilptr) 5), frB 7] [0] [(.int .i64 0, [(vtB (.nilptr) (.nilptr) (.nilptr) 1), .gone]), (.int .i64 0, [(vtB (.ptr 1 0) (.nilptr) (.nilptr) 1), frB 3]), (.int .i64 0, [(vtB (.nilptr) (.nilptr) (.ptr 2 0) 1), .gone, frB 3])] fun _ => none) [.n n0, .n n1, .n n2, .n n3, .n n4, .b b5, .n n6, .n n7, .n n8, .n n9, .n n10]).sel = (fn_25b [.n n0, .n n1, .n n2, .n n3, .n n4, .b b5, .n n6, .n n7, .n n8, .n n9, .n n10]).sel := (fr_25b_eq n0 n1 n2 n3 n4 b5 n6 n7 n8 n9 n10).trans (fr_25b_pr n0 n1 n2 n3 n4 b5 n6 n7 n8 n9 n10)
theorem fn_25b_ok (env : List Dat) (y : Nat × List Dat) (h : (fn_25b env).sel = some y) : (boxC false Try.prog cs_14 25 ls0 (mkF [.ptr 0 0, .int .i64 0, frV 1] [(vtB (.ptr 1 0) (.nilptr) (.nilptr) 5), frB 7] [0] [(.int .i64 0, [(vtB (.nilptr) (.nilptr) (.nilptr) 1), .gone]), (.int .i64 0, [(vtB (.ptr 1 0) (.nilptr) (.nilptr) 1), frB 3]), (.int .i64 0, [(vtB (.nilptr) (.nilptr) (.ptr 2 0) 1), .gone, frB 3])] fun _ => none) env).sel = some y := by
  unfold fn_25b at h
  split at h
  · rw [fn_25b_eq]; exact h
  · cases h
theorem B25b_ok : RunOk Try.prog 25 (boxRun B25b) := mkF_ok (op := op_25b) cs_14_ok hmix false (LsOk.none _ _ _) fn_25b_ok

def fn_25c : List Dat → Tree (Nat × List Dat)
  | [.n n0, .n n1, .n n2, .n n3, .n n4, .b b5, .n n6, .n n7, .n n8, .n n9, .n n10] =>
    (.node (decide (n0 < (0 : Int)))
     (.leaf ((nat_lit 1, [Dat.n (2 : Int), Dat.b b5, Dat.n n6, Dat.n n7, Dat.n n8, Dat.n n9, Dat.n n10])))
     (.node (decide (n0 ≥ (2 : Int)))
      (.leaf ((nat_lit 1, [Dat.n (2 : Int), Dat.b b5, Dat.n n6, Dat.n n7, Dat.n n8, Dat.n n9, Dat.n n10])))
      (.node (decide (IntKind.wrap IntKind.i64 ((1 : Int) - n0) = (0 : Int)))
       (.node (b5)
        (.leaf ((nat_lit 0, [Dat.n (220 : Int), Dat.b true, Dat.n n6])))
        (.node (decide (n0 = (0 : Int)))
         (.node (decide (n1 ≤ n6))
          (.leaf ((nat_lit 0, [Dat.n (220 : Int), Dat.b true, Dat.n n6])))
          (.bad 322))
         (.node (decide (n0 = (1 : Int)))
          (.leaf ((nat_lit 0, [Dat.n (220 : Int), Dat.b true, Dat.n n6])))
          (.bad 70))))
       (.node (decide (IntKind.wrap IntKind.i64 ((1 : Int) - n0) = (1 : Int)))
        (.node (b5)
         (.leaf ((nat_lit 0, [Dat.n (220 : Int), Dat.b true, Dat.n n6])))
         (.node (decide (n0 = (0 : Int)))
          (.node (decide (n1 ≤ n6))
           (.leaf ((nat_lit 0, [Dat.n (220 : Int), Dat.b true, Dat.n n6])))
           (.node (!(n7 == n1 && (n8 == n2 && (n9 == n3 && (n10 == n4 && true) && true))))
            (.leaf ((nat_lit 0, [Dat.n (220 : Int), Dat.b true, Dat.n n6])))
            (.leaf ((nat_lit 2, [Dat.n (0 : Int), Dat.b false, Dat.n n1, Dat.n n1, Dat.n n2, Dat.n n3, Dat.n n4])))))
          (.node (decide (n0 = (1 : Int)))
           (.leaf ((nat_lit 0, [Dat.n (220 : Int), Dat.b true, Dat.n n6])))
           (.bad 70))))
        (.bad 70)))))
  | _ => .bad 0
def op_25c : List Dat → Option (Nat × List Dat) := fun env => (fn_25c env).sel
def B25c : FBox := (mkF [.ptr 0 0, .int .i64 0, frV 1] [(vtB (.nilptr) (.ptr 1 0) (.nilptr) 5), frB 7] [0] [(.int .i64 0, [(vtB (.nilptr) (.nilptr) (.nilptr) 1), .gone]), (.int .i64 0, [(vtB (.nilptr) (.ptr 1 0) (.nilptr) 1), frB 3]), (.int .i64 0, [(vtB (.nilptr) (.nilptr) (.ptr 2 0) 1), .gone, frB 3])] op_25c)
def cs_25c : FuncId → Option CSpec := csAdd 25 [B25a, B25b, B25c] cs_14
def fr_25c : List Dat → Tree (Nat × List Dat)
  | [.n n0, .n n1, .n n2, .n n3, .n n4, .b b5, .n n6, .n n7, .n n8, .n n9, .n n10] =>
    (.node (decide (n0 < (0 : Int)))
     (.leaf ((nat_lit 1, [Dat.n (2 : Int), Dat.b b5, Dat.n n6, Dat.n n7, Dat.n n8, Dat.n n9, Dat.n n10])))
     (.node (decide (n0 ≥ (2 : Int)))
      (.leaf ((nat_lit 1, [Dat.n (2 : Int), Dat.b b5, Dat.n n6, Dat.n n7, Dat.n n8, Dat.n n9, Dat.n n10])))
      (.node (decide (IntKind.wrap IntKind.i64 ((1 : Int) - n0) = (0 : Int)))
       (.node (b5)
        (.leaf ((nat_lit 0, [Dat.n (220 : Int), Dat.b true, Dat.n n6])))
        (.node (decide (n0 = (0 : Int)))
         (.node (decide (n1 ≤ n6))
          (.leaf ((nat_lit 0, [Dat.n (220 : Int), Dat.b true, Dat.n n6])))
          (.node (decide (n0 = (0 : Int)))
           (.bad 322)
           (.node (decide (n0 = (1 : Int)))
            (.bad 322)
            (.bad 70))))
         (.node (decide (n0 = (1 : Int)))
          (.leaf ((nat_lit 0, [Dat.n (220 : Int), Dat.b true, Dat.n n6])))
          (.bad 70))))
       (.node (decide (IntKind.wrap IntKind.i64 ((1 : Int) - n0) = (1 : Int)))
        (.node (b5)
         (.leaf ((nat_lit 0, [Dat.n (220 : Int), Dat.b true, Dat.n n6])))
         (.node (decide (n0 = (0 : Int)))
          (.node (decide (n1 ≤ n6))
           (.leaf ((nat_lit 0, [Dat.n (220 : Int), Dat.b true, Dat.n n6])))
           (.node (!(n7 == n1 && (n8 == n2 && (n9 == n3 && (n10 == n4 && true) && true))))
            (.leaf ((nat_lit 0, [Dat.n (220 : Int), Dat.b true, Dat.n n6])))
            (.leaf ((nat_lit 2, [Dat.n (0 : Int), Dat.b false, Dat.n n1, Dat.n n1, Dat.n n2, Dat.n n3, Dat.n n4])))))
          (.node (decide (n0 = (1 : Int)))
           (.leaf ((nat_lit 0, [Dat.n (220 : Int), Dat.b true, Dat.n n6])))
           (.bad 70))))
        (.bad 70)))))
  | _ => .bad 0
theorem fr_25c_eq (n0 : Int) (n1 : Int) (n2 : Int) (n3 : Int) (n4 : Int) (b5 : Bool) (n6 : Int) (n7 : Int) (n8 : Int) (n9 : Int) (n10 : Int) : (boxC false Try.prog cs_14 25 ls0 (mkF [.ptr 0 0, .int .i64 0, frV 1] [(vtB (.nilptr) (.ptr 1 0) (.nilptr) 5), frB 7] [0] [(.int .i64 0, [(vtB (.nilptr) (.nilptr) (.nilptr) 1), .gone]), (.int .i64 0, [(vtB (.nilptr) (.ptr 1 0) (.nilptr) 1), frB 3]), (.int .i64 0, [(vtB (.nilptr) (.nilptr) (.ptr 2 0) 1), .gone, frB 3])] fun _ => none) [.n n0, .n n1, .n n2, .n n3, .n n4, .b b5, .n n6, .n n7, .n n8, .n n9, .n n10]).sel = (fr_25c [.n n0, .n n1, .n n2, .n n3, .n n4, .b b5, .n n6, .n n7, .n n8, .n n9, .n n10]).sel := by kernel_rfl
theorem fr_25c_pr (n0 : Int) (n1 : Int) (n2 : Int) (n3 : Int) (n4 : Int) (b5 : Bool) (n6 : Int) (n7 : Int) (n8 : Int) (n9 : Int) (n10 : Int) : (fr_25c [.n n0, .n n1, .n n2, .n n3, .n n4, .b b5, .n n6, .n n7, .n n8, .n n9, .n n10]).sel = (fn_25c [.n n0, .n n1, .n n2, .n n3, .n n4, .b b5, .n n6, .n n7, .n n8, .n n9, .n n10]).sel := (sel_c (fun _ => rfl) (fun h0 => (sel_c (fun _ => rfl) (fun h1 => (sel_c (fun h2 => (sel_c (fun _ => rfl) (fun h3 => (sel_c (fun h4 => (sel_c (fun _ => rfl) (fun h5 => (sel_t h4 rfl)))) (fun _ => rfl))))) (fun _ => rfl))))))
theorem fn_25c_eq (n0 : Int) (n1 : Int) (n2 : Int) (n3 : Int) (n4 : Int) (b5 : Bool) (n6 : Int) (n7 : Int) (n8 : Int) (n9 : Int) (n10 : Int) : (boxC false Try.prog cs_14 25 ls0 (mkF [.ptr 0 0, .int .i64 0, frV 1] [(vtB (.nilptr) (.ptr 1 0) (.nilptr) 5), frB 7] [0] [(.int .i64 0, [(vtB (.nilptr) (.nilptr) (.nilptr) 1), .gone]), (.int .i64 0, [(vtB (.nilptr) (.ptr 1 0) (.nilptr) 1), frB 3]), (.int .i64 0, [(vtB (.nilptr) (.nilptr) (.ptr 2 0) 1), .gone, frB 3])] fun _ => none) [.n n0, .n n1, .n n2, .n n3, .n n4, .b b5, .n n6, .n n7, .n n8, .n n9, .n n10]).sel = (fn_25c [.n n0, .n n1, .n n2, .n n3, .n n4, .b b5, .n n6, .n n7, .n n8, .n n9, .n n10]).sel := (fr_25c_eq n0 n1 n2 n3 n4 b5 n6 n7 n8 n9 n10).trans (fr_25c_pr n0 n1 n2 n3 n4 b5 n6 n7 n8 n9 n10)
theorem fn_25c_ok (env : List Dat) (y : Nat × List Dat) (h : (fn_25c env).sel = some y) : (boxC false Try.prog cs_14 25 ls0 (mkF [.ptr 0 0, .int .i64 0, frV 1] [(vtB (.nilptr) (.ptr 1 0) (.nilptr) 5), frB 7] [0] [(.int .i64 0, [(vtB (.nilptr) (.nilptr) (.nilptr) 1), .gone]), (.int .i64 0, [(vtB (.nilptr) (.ptr 1 0) (.nilptr) 1), frB 3]), (.int .i64 0, [(vtB (.nilptr) (.nilptr) (.ptr 2 0) 1), .gone, frB 3])] fun _ => none) env).sel = some y := by
  unfold fn_25c at h
  split at h
  · rw [fn_25c_eq]; exact h
  · cases h
theorem B25c_ok : RunOk Try.prog 25 (boxRun B25c) := mkF_ok (op := op_25c) cs_14_ok hmix false (LsOk.none _ _ _) fn_25c_ok
theorem cs_25c_ok : CsOk Try.prog cs_25c := csAdd_ok cs_14_ok fun B hB => by
  simp only [List.mem_cons, List.not_mem_nil, or_false] at hB
  rcases hB with rfl | rfl | rfl
  · exact B25a_ok
  · exact B25b_ok
  · exact B25c_ok

def fn_W5 : List Dat → Tree Bool
  | [.n n0, .n n1, .n n2, .n n3, .n n4, .n n5, .n n6, .n n7, .n n8] =>
    (.node (decide (n0 < (1 : Int)))
     (.leaf (true))
     (.node (decide (n4 < (1 : Int)))
      (.leaf (true))
      (.node (isK (nat_lit 0) [HK.n, HK.b, HK.n] (op_25a [Dat.n (Int.tmod (IntKind.wrap IntKind.i64 (Int.tmod n8 (2 : Int) + (2 : Int))) (2 : Int)), Dat.n n0, Dat.n n1, Dat.n n2, Dat.n n3, Dat.b false, Dat.n (0 : Int)]))
       (.node (isK (nat_lit 0) [HK.n, HK.b, HK.n] (op_25a [Dat.n (IntKind.wrap IntKind.i64 ((1 : Int) - Int.tmod (IntKind.wrap IntKind.i64 (Int.tmod n8 (2 : Int) + (2 : Int))) (2 : Int))), Dat.n n4, Dat.n n5, Dat.n n6, Dat.n n7, Dat.b (gb (dOf (op_25a [Dat.n (Int.tmod (IntKind.wrap IntKind.i64 (Int.tmod n8 (2 : Int) + (2 : Int))) (2 : Int)), Dat.n n0, Dat.n n1, Dat.n n2, Dat.n n3, Dat.b false, Dat.n (0 : Int)])) (nat_lit 1)), Dat.n (gn (dOf (op_25a [Dat.n (Int.tmod (IntKind.wrap IntKind.i64 (Int.tmod n8 (2 : Int) + (2 : Int))) (2 : Int)), Dat.n n0, Dat.n n1, Dat.n n2, Dat.n n3, Dat.b false, Dat.n (0 : Int)])) (nat_lit 2))]))
        (.node (gn (dOf (op_25a [Dat.n (Int.tmod (IntKind.wrap IntKind.i64 (Int.tmod n8 (2 : Int) + (2 : Int))) (2 : Int)), Dat.n n0, Dat.n n1, Dat.n n2, Dat.n n3, Dat.b false, Dat.n (0 : Int)])) (nat_lit 0) != (0 : Int))
         (.leaf (false))
         (.node (!false == (n0 == n4 && (n1 == n5 && (n2 == n6 && (n3 == n7 && true) && true))))
          (.leaf (false))
          (.node (gb (dOf (op_25a [Dat.n (IntKind.wrap IntKind.i64 ((1 : Int) - Int.tmod (IntKind.wrap IntKind.i64 (Int.tmod n8 (2 : Int) + (2 : Int))) (2 : Int))), Dat.n n4, Dat.n n5, Dat.n n6, Dat.n n7, Dat.b (gb (dOf (op_25a [Dat.n (Int.tmod (IntKind.wrap IntKind.i64 (Int.tmod n8 (2 : Int) + (2 : Int))) (2 : Int)), Dat.n n0, Dat.n n1, Dat.n n2, Dat.n n3, Dat.b false, Dat.n (0 : Int)])) (nat_lit 1)), Dat.n (gn (dOf (op_25a [Dat.n (Int.tmod (IntKind.wrap IntKind.i64 (Int.tmod n8 (2 : Int) + (2 : Int))) (2 : Int)), Dat.n n0, Dat.n n1, Dat.n n2, Dat.n n3, Dat.b false, Dat.n (0 : Int)])) (nat_lit 2))])) (nat_lit 1) == false)
           (.leaf (false))
           (.node (!(gn (dOf (op_25a [Dat.n (IntKind.wrap IntKind.i64 ((1 : Int) - Int.tmod (IntKind.wrap IntKind.i64 (Int.tmod n8 (2 : Int) + (2 : Int))) (2 : Int))), Dat.n n4, Dat.n n5, Dat.n n6, Dat.n n7, Dat.b (gb (dOf (op_25a [Dat.n (Int.tmod (IntKind.wrap IntKind.i64 (Int.tmod n8 (2 : Int) + (2 : Int))) (2 : Int)), Dat.n n0, Dat.n n1, Dat.n n2, Dat.n n3, Dat.b false, Dat.n (0 : Int)])) (nat_lit 1)), Dat.n (gn (dOf (op_25a [Dat.n (Int.tmod (IntKind.wrap IntKind.i64 (Int.tmod n8 (2 : Int) + (2 : Int))) (2 : Int)), Dat.n n0, Dat.n n1, Dat.n n2, Dat.n n3, Dat.b false, Dat.n (0 : Int)])) (nat_lit 2))])) (nat_lit 0) == (0 : Int)) == false)
            (.leaf (false))
            (.leaf (true))))))
        (.node (isK (nat_lit 1) [HK.n, HK.b, HK.n, HK.n, HK.n, HK.n, HK.n] (op_25a [Dat.n (IntKind.wrap IntKind.i64 ((1 : Int) - Int.tmod (IntKind.wrap IntKind.i64 (Int.tmod n8 (2 : Int) + (2 : Int))) (2 : Int))), Dat.n n4, Dat.n n5, Dat.n n6, Dat.n n7, Dat.b (gb (dOf (op_25a [Dat.n (Int.tmod (IntKind.wrap IntKind.i64 (Int.tmod n8 (2 : Int) + (2 : Int))) (2 : Int)), Dat.n n0, Dat.n n1, Dat.n n2, Dat.n n3, Dat.b false, Dat.n (0 : Int)])) (nat_lit 1)), Dat.n (gn (dOf (op_25a [Dat.n (Int.tmod (IntKind.wrap IntKind.i64 (Int.tmod n8 (2 : Int) + (2 : Int))) (2 : Int)), Dat.n n0, Dat.n n1, Dat.n n2, Dat.n n3, Dat.b false, Dat.n (0 : Int)])) (nat_lit 2))]))
         (.node (gn (dOf (op_25a [Dat.n (Int.tmod (IntKind.wrap IntKind.i64 (Int.tmod n8 (2 : Int) + (2 : Int))) (2 : Int)), Dat.n n0, Dat.n n1, Dat.n n2, Dat.n n3, Dat.b false, Dat.n (0 : Int)])) (nat_lit 0) != (0 : Int))
          (.leaf (false))
          (.node (!false == (n0 == n4 && (n1 == n5 && (n2 == n6 && (n3 == n7 && true) && true))))
           (.leaf (false))
           (.node (gb (dOf (op_25a [Dat.n (IntKind.wrap IntKind.i64 ((1 : Int) - Int.tmod (IntKind.wrap IntKind.i64 (Int.tmod n8 (2 : Int) + (2 : Int))) (2 : Int))), Dat.n n4, Dat.n n5, Dat.n n6, Dat.n n7, Dat.b (gb (dOf (op_25a [Dat.n (Int.tmod (IntKind.wrap IntKind.i64 (Int.tmod n8 (2 : Int) + (2 : Int))) (2 : Int)), Dat.n n0, Dat.n n1, Dat.n n2, Dat.n n3, Dat.b false, Dat.n (0 : Int)])) (nat_lit 1)), Dat.n (gn (dOf (op_25a [Dat.n (Int.tmod (IntKind.wrap IntKind.i64 (Int.tmod n8 (2 : Int) + (2 : Int))) (2 : Int)), Dat.n n0, Dat.n n1, Dat.n n2, Dat.n n3, Dat.b false, Dat.n (0 : Int)])) (nat_lit 2))])) (nat_lit 1) == false)
            (.leaf (false))
            (.node (!(gn (dOf (op_25a [Dat.n (IntKind.wrap IntKind.i64 ((1 : Int) - Int.tmod (IntKind.wrap IntKind.i64 (Int.tmod n8 (2 : Int) + (2 : Int))) (2 : Int))), Dat.n n4, Dat.n n5, Dat.n n6, Dat.n n7, Dat.b (gb (dOf (op_25a [Dat.n (Int.tmod (IntKind.wrap IntKind.i64 (Int.tmod n8 (2 : Int) + (2 : Int))) (2 : Int)), Dat.n n0, Dat.n n1, Dat.n n2, Dat.n n3, Dat.b false, Dat.n (0 : Int)])) (nat_lit 1)), Dat.n (gn (dOf (op_25a [Dat.n (Int.tmod (IntKind.wrap IntKind.i64 (Int.tmod n8 (2 : Int) + (2 : Int))) (2 : Int)), Dat.n n0, Dat.n n1, Dat.n n2, Dat.n n3, Dat.b false, Dat.n (0 : Int)])) (nat_lit 2))])) (nat_lit 0) == (0 : Int)) == false)
             (.leaf (false))
             (.leaf (true))))))
         (.node (isK (nat_lit 2) [HK.n, HK.b, HK.n, HK.n, HK.n, HK.n, HK.n] (op_25a [Dat.n (IntKind.wrap IntKind.i64 ((1 : Int) - Int.tmod (IntKind.wrap IntKind.i64 (Int.tmod n8 (2 : Int) + (2 : Int))) (2 : Int))), Dat.n n4, Dat.n n5, Dat.n n6, Dat.n n7, Dat.b (gb (dOf (op_25a [Dat.n (Int.tmod (IntKind.wrap IntKind.i64 (Int.tmod n8 (2 : Int) + (2 : Int))) (2 : Int)), Dat.n n0, Dat.n n1, Dat.n n2, Dat.n n3, Dat.b false, Dat.n (0 : Int)])) (nat_lit 1)), Dat.n (gn (dOf (op_25a [Dat.n (Int.tmod (IntKind.wrap IntKind.i64 (Int.tmod n8 (2 : Int) + (2 : Int))) (2 : Int)), Dat.n n0, Dat.n n1, Dat.n n2, Dat.n n3, Dat.b false, Dat.n (0 : Int)])) (nat_lit 2))]))
          (.node (gn (dOf (op_25a [Dat.n (Int.tmod (IntKind.wrap IntKind.i64 (Int.tmod n8 (2 : Int) + (2 : Int))) (2 : Int)), Dat.n n0, Dat.n n1, Dat.n n2, Dat.n n3, Dat.b false, Dat.n (0 : Int)])) (nat_lit 0) != (0 : Int))
           (.leaf (false))
           (.node (!false == (n0 == n4 && (n1 == n5 && (n2 == n6 && (n3 == n7 && true) && true))))
            (.leaf (false))
            (.node (gb (dOf (op_25a [Dat.n (IntKind.wrap IntKind.i64 ((1 : Int) - Int.tmod (IntKind.wrap IntKind.i64 (Int.tmod n8 (2 : Int) + (2 : Int))) (2 : Int))), Dat.n n4, Dat.n n5, Dat.n n6, Dat.n n7, Dat.b (gb (dOf (op_25a [Dat.n (Int.tmod (IntKind.wrap IntKind.i64 (Int.tmod n8 (2 : Int) + (2 : Int))) (2 : Int)), Dat.n n0, Dat.n n1, Dat.n n2, Dat.n n3, Dat.b false, Dat.n (0 : Int)])) (nat_lit 1)), Dat.n (gn (dOf (op_25a [Dat.n (Int.tmod (IntKind.wrap IntKind.i64 (Int.tmod n8 (2 : Int) + (2 : Int))) (2 : Int)), Dat.n n0, Dat.n n1, Dat.n n2, Dat.n n3, Dat.b false, Dat.n (0 : Int)])) (nat_lit 2))])) (nat_lit 1) == false)
             (.leaf (false))
             (.node (!(gn (dOf (op_25a [Dat.n (IntKind.wrap IntKind.i64 ((1 : Int) - Int.tmod (IntKind.wrap IntKind.i64 (Int.tmod n8 (2 : Int) + (2 : Int))) (2 : Int))), Dat.n n4, Dat.n n5, Dat.n n6, Dat.n n7, Dat.b (gb (dOf (op_25a [Dat.n (Int.tmod (IntKind.wrap IntKind.i64 (Int.tmod n8 (2 : Int) + (2 : Int))) (2 : Int)), Dat.n n0, Dat.n n1, Dat.n n2, Dat.n n3, Dat.b false, Dat.n (0 : Int)])) (nat_lit 1)), Dat.n (gn (dOf (op_25a [Dat.n (Int.tmod (IntKind.wrap IntKind.i64 (Int.tmod n8 (2 : Int) + (2 : Int))) (2 : Int)), Dat.n n0, Dat.n n1, Dat.n n2, Dat.n n3, Dat.b false, Dat.n (0 : Int)])) (nat_lit 2))])) (nat_lit 0) == (0 : Int)) == false)
              (.leaf (false))
              (.leaf (true))))))
          (.bad 351))))
       (.node (isK (nat_lit 1) [HK.n, HK.b, HK.n, HK.n, HK.n, HK.n, HK.n] (op_25a [Dat.n (Int.tmod (IntKind.wrap IntKind.i64 (Int.tmod n8 (2 : Int) + (2 : Int))) (2 : Int)), Dat.n n0, Dat.n n1, Dat.n n2, Dat.n n3, Dat.b false, Dat.n (0 : Int)]))
        (.node (isK (nat_lit 0) [HK.n, HK.b, HK.n] (op_25b [Dat.n (IntKind.wrap IntKind.i64 ((1 : Int) - Int.tmod (IntKind.wrap IntKind.i64 (Int.tmod n8 (2 : Int) + (2 : Int))) (2 : Int))), Dat.n n4, Dat.n n5, Dat.n n6, Dat.n n7, Dat.b (gb (dOf (op_25a [Dat.n (Int.tmod (IntKind.wrap IntKind.i64 (Int.tmod n8 (2 : Int) + (2 : Int))) (2 : Int)), Dat.n n0, Dat.n n1, Dat.n n2, Dat.n n3, Dat.b false, Dat.n (0 : Int)])) (nat_lit 1)), Dat.n (gn (dOf (op_25a [Dat.n (Int.tmod (IntKind.wrap IntKind.i64 (Int.tmod n8 (2 : Int) + (2 : Int))) (2 : Int)), Dat.n n0, Dat.n n1, Dat.n n2, Dat.n n3, Dat.b false, Dat.n (0 : Int)])) (nat_lit 2)), Dat.n (gn (dOf (op_25a [Dat.n (Int.tmod (IntKind.wrap IntKind.i64 (Int.tmod n8 (2 : Int) + (2 : Int))) (2 : Int)), Dat.n n0, Dat.n n1, Dat.n n2, Dat.n n3, Dat.b false, Dat.n (0 : Int)])) (nat_lit 3)), Dat.n (gn (dOf (op_25a [Dat.n (Int.tmod (IntKind.wrap IntKind.i64 (Int.tmod n8 (2 : Int) + (2 : Int))) (2 : Int)), Dat.n n0, Dat.n n1, Dat.n n2, Dat.n n3, Dat.b false, Dat.n (0 : Int)])) (nat_lit 4)), Dat.n (gn (dOf (op_25a [Dat.n (Int.tmod (IntKind.wrap IntKind.i64 (Int.tmod n8 (2 : Int) + (2 : Int))) (2 : Int)), Dat.n n0, Dat.n n1, Dat.n n2, Dat.n n3, Dat.b false, Dat.n (0 : Int)])) (nat_lit 5)), Dat.n (gn (dOf (op_25a [Dat.n (Int.tmod (IntKind.wrap IntKind.i64 (Int.tmod n8 (2 : Int) + (2 : Int))) (2 : Int)), Dat.n n0, Dat.n n1, Dat.n n2, Dat.n n3, Dat.b false, Dat.n (0 : Int)])) (nat_lit 6))]))
         (.node (gn (dOf (op_25a [Dat.n (Int.tmod (IntKind.wrap IntKind.i64 (Int.tmod n8 (2 : Int) + (2 : Int))) (2 : Int)), Dat.n n0, Dat.n n1, Dat.n n2, Dat.n n3, Dat.b false, Dat.n (0 : Int)])) (nat_lit 0) != (0 : Int))
          (.leaf (false))
          (.node (!false == (n0 == n4 && (n1 == n5 && (n2 == n6 && (n3 == n7 && true) && true))))
           (.leaf (false))
           (.node (gb (dOf (op_25b [Dat.n (IntKind.wrap IntKind.i64 ((1 : Int) - Int.tmod (IntKind.wrap IntKind.i64 (Int.tmod n8 (2 : Int) + (2 : Int))) (2 : Int))), Dat.n n4, Dat.n n5, Dat.n n6, Dat.n n7, Dat.b (gb (dOf (op_25a [Dat.n (Int.tmod (IntKind.wrap IntKind.i64 (Int.tmod n8 (2 : Int) + (2 : Int))) (2 : Int)), Dat.n n0, Dat.n n1, Dat.n n2, Dat.n n3, Dat.b false, Dat.n (0 : Int)])) (nat_lit 1)), Dat.n (gn (dOf (op_25a [Dat.n (Int.tmod (IntKind.wrap IntKind.i64 (Int.tmod n8 (2 : Int) + (2 : Int))) (2 : Int)), Dat.n n0, Dat.n n1, Dat.n n2, Dat.n n3, Dat.b false, Dat.n (0 : Int)])) (nat_lit 2)), Dat.n (gn (dOf (op_25a [Dat.n (Int.tmod (IntKind.wrap IntKind.i64 (Int.tmod n8 (2 : Int) + (2 : Int))) (2 : Int)), Dat.n n0, Dat.n n1, Dat.n n2, Dat.n n3, Dat.b false, Dat.n (0 : Int)])) (nat_lit 3)), Dat.n (gn (dOf (op_25a [Dat.n (Int.tmod (IntKind.wrap IntKind.i64 (Int.tmod n8 (2 : Int) + (2 : Int))) (2 : Int)), Dat.n n0, Dat.n n1, Dat.n n2, Dat.n n3, Dat.b false, Dat.n (0 : Int)])) (nat_lit 4)), Dat.n (gn (dOf (op_25a [Dat.n (Int.tmod (IntKind.wrap IntKind.i64 (Int.tmod n8 (2 : Int) + (2 : Int))) (2 : Int)), Dat.n n0, Dat.n n1, Dat.n n2, Dat.n n3, Dat.b false, Dat.n (0 : Int)])) (nat_lit 5)), Dat.n (gn (dOf (op_25a [Dat.n (Int.tmod (IntKind.wrap IntKind.i64 (Int.tmod n8 (2 : Int) + (2 : Int))) (2 : Int)), Dat.n n0, Dat.n n1, Dat.n n2, Dat.n n3, Dat.b false, Dat.n (0 : Int)])) (nat_lit 6))])) (nat_lit 1) == false)
            (.leaf (false))
            (.node (!(gn (dOf (op_25b [Dat.n (IntKind.wrap IntKind.i64 ((1 : Int) - Int.tmod (IntKind.wrap IntKind.i64 (Int.tmod n8 (2 : Int) + (2 : Int))) (2 : Int))), Dat.n n4, Dat.n n5, Dat.n n6, Dat.n n7, Dat.b (gb (dOf (op_25a [Dat.n (Int.tmod (IntKind.wrap IntKind.i64 (Int.tmod n8 (2 : Int) + (2 : Int))) (2 : Int)), Dat.n n0, Dat.n n1, Dat.n n2, Dat.n n3, Dat.b false, Dat.n (0 : Int)])) (nat_lit 1)), Dat.n (gn (dOf (op_25a [Dat.n (Int.tmod (IntKind.wrap IntKind.i64 (Int.tmod n8 (2 : Int) + (2 : Int))) (2 : Int)), Dat.n n0, Dat.n n1, Dat.n n2, Dat.n n3, Dat.b false, Dat.n (0 : Int)])) (nat_lit 2)), Dat.n (gn (dOf (op_25a [Dat.n (Int.tmod (IntKind.wrap IntKind.i64 (Int.tmod n8 (2 : Int) + (2 : Int))) (2 : Int)), Dat.n n0, Dat.n n1, Dat.n n2, Dat.n n3, Dat.b false, Dat.n (0 : Int)])) (nat_lit 3)), Dat.n (gn (dOf (op_25a [Dat.n (Int.tmod (IntKind.wrap IntKind.i64 (Int.tmod n8 (2 : Int) + (2 : Int))) (2 : Int)), Dat.n n0, Dat.n n1, Dat.n n2, Dat.n n3, Dat.b false, Dat.n (0 : Int)])) (nat_lit 4)), Dat.n (gn (dOf (op_25a [Dat.n (Int.tmod (IntKind.wrap IntKind.i64 (Int.tmod n8 (2 : Int) + (2 : Int))) (2 : Int)), Dat.n n0, Dat.n n1, Dat.n n2, Dat.n n3, Dat.b false, Dat.n (0 : Int)])) (nat_lit 5)), Dat.n (gn (dOf (op_25a [Dat.n (Int.tmod (IntKind.wrap IntKind.i64 (Int.tmod n8 (2 : Int) + (2 : Int))) (2 : Int)), Dat.n n0, Dat.n n1, Dat.n n2, Dat.n n3, Dat.b false, Dat.n (0 : Int)])) (nat_lit 6))])) (nat_lit 0) == (0 : Int)) == false)
             (.leaf (false))
             (.leaf (true))))))
         (.node (isK (nat_lit 1) [HK.n, HK.b, HK.n, HK.n, HK.n, HK.n, HK.n] (op_25b [Dat.n (IntKind.wrap IntKind.i64 ((1 : Int) - Int.tmod (IntKind.wrap IntKind.i64 (Int.tmod n8 (2 : Int) + (2 : Int))) (2 : Int))), Dat.n n4, Dat.n n5, Dat.n n6, Dat.n n7, Dat.b (gb (dOf (op_25a [Dat.n (Int.tmod (IntKind.wrap IntKind.i64 (Int.tmod n8 (2 : Int) + (2 : Int))) (2 : Int)), Dat.n n0, Dat.n n1, Dat.n n2, Dat.n n3, Dat.b false, Dat.n (0 : Int)])) (nat_lit 1)), Dat.n (gn (dOf (op_25a [Dat.n (Int.tmod (IntKind.wrap IntKind.i64 (Int.tmod n8 (2 : Int) + (2 : Int))) (2 : Int)), Dat.n n0, Dat.n n1, Dat.n n2, Dat.n n3, Dat.b false, Dat.n (0 : Int)])) (nat_lit 2)), Dat.n (gn (dOf (op_25a [Dat.n (Int.tmod (IntKind.wrap IntKind.i64 (Int.tmod n8 (2 : Int) + (2 : Int))) (2 : Int)), Dat.n n0, Dat.n n1, Dat.n n2, Dat.n n3, Dat.b false, Dat.n (0 : Int)])) (nat_lit 3)), Dat.n (gn (dOf (op_25a [Dat.n (Int.tmod (IntKind.wrap IntKind.i64 (Int.tmod n8 (2 : Int) + (2 : Int))) (2 : Int)), Dat.n n0, Dat.n n1, Dat.n n2, Dat.n n3, Dat.b false, Dat.n (0 : Int)])) (nat_lit 4)), Dat.n (gn (dOf (op_25a [Dat.n (Int.tmod (IntKind.wrap IntKind.i64 (Int.tmod n8 (2 : Int) + (2 : Int))) (2 : Int)), Dat.n n0, Dat.n n1, Dat.n n2, Dat.n n3, Dat.b false, Dat.n (0 : Int)])) (nat_lit 5)), Dat.n (gn (dOf (op_25a [Dat.n (Int.tmod (IntKind.wrap IntKind.i64 (Int.tmod n8 (2 : Int) + (2 : Int))) (2 : Int)), Dat.n n0, Dat.n n1, Dat.n n2, Dat.n n3, Dat.b false, Dat.n (0 : Int)])) (nat_lit 6))]))
          (.node (gn (dOf (op_25a [Dat.n (Int.tmod (IntKind.wrap IntKind.i64 (Int.tmod n8 (2 : Int) + (2 : Int))) (2 : Int)), Dat.n n0, Dat.n n1, Dat.n n2, Dat.n n3, Dat.b false, Dat.n (0 : Int)])) (nat_lit 0) != (0 : Int))
           (.leaf (false))
           (.node (!false == (n0 == n4 && (n1 == n5 && (n2 == n6 && (n3 == n7 && true) && true))))
            (.leaf (false))
            (.node (gb (dOf (op_25b [Dat.n (IntKind.wrap IntKind.i64 ((1 : Int) - Int.tmod (IntKind.wrap IntKind.i64 (Int.tmod n8 (2 : Int) + (2 : Int))) (2 : Int))), Dat.n n4, Dat.n n5, Dat.n n6, Dat.n n7, Dat.b (gb (dOf (op_25a [Dat.n (Int.tmod (IntKind.wrap IntKind.i64 (Int.tmod n8 (2 : Int) + (2 : Int))) (2 : Int)), Dat.n n0, Dat.n n1, Dat.n n2, Dat.n n3, Dat.b false, Dat.n (0 : Int)])) (nat_lit 1)), Dat.n (gn (dOf (op_25a [Dat.n (Int.tmod (IntKind.wrap IntKind.i64 (Int.tmod n8 (2 : Int) + (2 : Int))) (2 : Int)), Dat.n n0, Dat.n n1, Dat.n n2, Dat.n n3, Dat.b false, Dat.n (0 : Int)])) (nat_lit 2)), Dat.n (gn (dOf (op_25a [Dat.n (Int.tmod (IntKind.wrap IntKind.i64 (Int.tmod n8 (2 : Int) + (2 : Int))) (2 : Int)), Dat.n n0, Dat.n n1, Dat.n n2, Dat.n n3, Dat.b false, Dat.n (0 : Int)])) (nat_lit 3)), Dat.n (gn (dOf (op_25a [Dat.n (Int.tmod (IntKind.wrap IntKind.i64 (Int.tmod n8 (2 : Int) + (2 : Int))) (2 : Int)), Dat.n n0, Dat.n n1, Dat.n n2, Dat.n n3, Dat.b false, Dat.n (0 : Int)])) (nat_lit 4)), Dat.n (gn (dOf (op_25a [Dat.n (Int.tmod (IntKind.wrap IntKind.i64 (Int.tmod n8 (2 : Int) + (2 : Int))) (2 : Int)), Dat.n n0, Dat.n n1, Dat.n n2, Dat.n n3, Dat.b false, Dat.n (0 : Int)])) (nat_lit 5)), Dat.n (gn (dOf (op_25a [Dat.n (Int.tmod (IntKind.wrap IntKind.i64 (Int.tmod n8 (2 : Int) + (2 : Int))) (2 : Int)), Dat.n n0, Dat.n n1, Dat.n n2, Dat.n n3, Dat.b false, Dat.n (0 : Int)])) (nat_lit 6))])) (nat_lit 1) == false)
             (.leaf (false))
             (.node (!(gn (dOf (op_25b [Dat.n (IntKind.wrap IntKind.i64 ((1 : Int) - Int.tmod (IntKind.wrap IntKind.i64 (Int.tmod n8 (2 : Int) + (2 : Int))) (2 : Int))), Dat.n n4, Dat.n n5, Dat.n n6, Dat.n n7, Dat.b (gb (dOf (op_25a [Dat.n (Int.tmod (IntKind.wrap IntKind.i64 (Int.tmod n8 (2 : Int) + (2 : Int))) (2 : Int)), Dat.n n0, Dat.n n1, Dat.n n2, Dat.n n3, Dat.b false, Dat.n (0 : Int)])) (nat_lit 1)), Dat.n (gn (dOf (op_25a [Dat.n (Int.tmod (IntKind.wrap IntKind.i64 (Int.tmod n8 (2 : Int) + (2 : Int))) (2 : Int)), Dat.n n0, Dat.n n1, Dat.n n2, Dat.n n3, Dat.b false, Dat.n (0 : Int)])) (nat_lit 2)), Dat.n (gn (dOf (op_25a [Dat.n (Int.tmod (IntKind.wrap IntKind.i64 (Int.tmod n8 (2 : Int) + (2 : Int))) (2 : Int)), Dat.n n0, Dat.n n1, Dat.n n2, Dat.n n3, Dat.b false, Dat.n (0 : Int)])) (nat_lit 3)), Dat.n (gn (dOf (op_25a [Dat.n (Int.tmod (IntKind.wrap IntKind.i64 (Int.tmod n8 (2 : Int) + (2 : Int))) (2 : Int)), Dat.n n0, Dat.n n1, Dat.n n2, Dat.n n3, Dat.b false, Dat.n (0 : Int)])) (nat_lit 4)), Dat.n (gn (dOf (op_25a [Dat.n (Int.tmod (IntKind.wrap IntKind.i64 (Int.tmod n8 (2 : Int) + (2 : Int))) (2 : Int)), Dat.n n0, Dat.n n1, Dat.n n2, Dat.n n3, Dat.b false, Dat.n (0 : Int)])) (nat_lit 5)), Dat.n (gn (dOf (op_25a [Dat.n (Int.tmod (IntKind.wrap IntKind.i64 (Int.tmod n8 (2 : Int) + (2 : Int))) (2 : Int)), Dat.n n0, Dat.n n1, Dat.n n2, Dat.n n3, Dat.b false, Dat.n (0 : Int)])) (nat_lit 6))])) (nat_lit 0) == (0 : Int)) == false)
              (.leaf (false))
              (.leaf (true))))))
          (.node (isK (nat_lit 2) [HK.n, HK.b, HK.n, HK.n, HK.n, HK.n, HK.n] (op_25b [Dat.n (IntKind.wrap IntKind.i64 ((1 : Int) - Int.tmod (IntKind.wrap IntKind.i64 (Int.tmod n8 (2 : Int) + (2 : Int))) (2 : Int))), Dat.n n4, Dat.n n5, Dat.n n6, Dat.n n7, Dat.b (gb (dOf (op_25a [Dat.n (Int.tmod (IntKind.wrap IntKind.i64 (Int.tmod n8 (2 : Int) + (2 : Int))) (2 : Int)), Dat.n n0, Dat.n n1, Dat.n n2, Dat.n n3, Dat.b false, Dat.n (0 : Int)])) (nat_lit 1)), Dat.n (gn (dOf (op_25a [Dat.n (Int.tmod (IntKind.wrap IntKind.i64 (Int.tmod n8 (2 : Int) + (2 : Int))) (2 : Int)), Dat.n n0, Dat.n n1, Dat.n n2, Dat.n n3, Dat.b false, Dat.n (0 : Int)])) (nat_lit 2)), Dat.n (gn (dOf (op_25a [Dat.n (Int.tmod (IntKind.wrap IntKind.i64 (Int.tmod n8 (2 : Int) + (2 : Int))) (2 : Int)), Dat.n n0, Dat.n n1, Dat.n n2, Dat.n n3, Dat.b false, Dat.n (0 : Int)])) (nat_lit 3)), Dat.n (gn (dOf (op_25a [Dat.n (Int.tmod (IntKind.wrap IntKind.i64 (Int.tmod n8 (2 : Int) + (2 : Int))) (2 : Int)), Dat.n n0, Dat.n n1, Dat.n n2, Dat.n n3, Dat.b false, Dat.n (0 : Int)])) (nat_lit 4)), Dat.n (gn (dOf (op_25a [Dat.n (Int.tmod (IntKind.wrap IntKind.i64 (Int.tmod n8 (2 : Int) + (2 : Int))) (2 : Int)), Dat.n n0, Dat.n n1, Dat.n n2, Dat.n n3, Dat.b false, Dat.n (0 : Int)])) (nat_lit 5)), Dat.n (gn (dOf (op_25a [Dat.n (Int.tmod (IntKind.wrap IntKind.i64 (Int.tmod n8 (2 : Int) + (2 : Int))) (2 : Int)), Dat.n n0, Dat.n n1, Dat.n n2, Dat.n n3, Dat.b false, Dat.n (0 : Int)])) (nat_lit 6))]))
           (.node (gn (dOf (op_25a [Dat.n (Int.tmod (IntKind.wrap IntKind.i64 (Int.tmod n8 (2 : Int) + (2 : Int))) (2 : Int)), Dat.n n0, Dat.n n1, Dat.n n2, Dat.n n3, Dat.b false, Dat.n (0 : Int)])) (nat_lit 0) != (0 : Int))
            (.leaf (false))
            (.node (!true == (n0 == n4 && (n1 == n5 && (n2 == n6 && (n3 == n7 && true) && true))))
             (.leaf (false))
             (.node (gb (dOf (op_25b [Dat.n (IntKind.wrap IntKind.i64 ((1 : Int) - Int.tmod (IntKind.wrap IntKind.i64 (Int.tmod n8 (2 : Int) + (2 : Int))) (2 : Int))), Dat.n n4, Dat.n n5, Dat.n n6, Dat.n n7, Dat.b (gb (dOf (op_25a [Dat.n (Int.tmod (IntKind.wrap IntKind.i64 (Int.tmod n8 (2 : Int) + (2 : Int))) (2 : Int)), Dat.n n0, Dat.n n1, Dat.n n2, Dat.n n3, Dat.b false, Dat.n (0 : Int)])) (nat_lit 1)), Dat.n (gn (dOf (op_25a [Dat.n (Int.tmod (IntKind.wrap IntKind.i64 (Int.tmod n8 (2 : Int) + (2 : Int))) (2 : Int)), Dat.n n0, Dat.n n1, Dat.n n2, Dat.n n3, Dat.b false, Dat.n (0 : Int)])) (nat_lit 2)), Dat.n (gn (dOf (op_25a [Dat.n (Int.tmod (IntKind.wrap IntKind.i64 (Int.tmod n8 (2 : Int) + (2 : Int))) (2 : Int)), Dat.n n0, Dat.n n1, Dat.n n2, Dat.n n3, Dat.b false, Dat.n (0 : Int)])) (nat_lit 3)), Dat.n (gn (dOf (op_25a [Dat.n (Int.tmod (IntKind.wrap IntKind.i64 (Int.tmod n8 (2 : Int) + (2 : Int))) (2 : Int)), Dat.n n0, Dat.n n1, Dat.n n2, Dat.n n3, Dat.b false, Dat.n (0 : Int)])) (nat_lit 4)), Dat.n (gn (dOf (op_25a [Dat.n (Int.tmod (IntKind.wrap IntKind.i64 (Int.tmod n8 (2 : Int) + (2 : Int))) (2 : Int)), Dat.n n0, Dat.n n1, Dat.n n2, Dat.n n3, Dat.b false, Dat.n (0 : Int)])) (nat_lit 5)), Dat.n (gn (dOf (op_25a [Dat.n (Int.tmod (IntKind.wrap IntKind.i64 (Int.tmod n8 (2 : Int) + (2 : Int))) (2 : Int)), Dat.n n0, Dat.n n1, Dat.n n2, Dat.n n3, Dat.b false, Dat.n (0 : Int)])) (nat_lit 6))])) (nat_lit 1) == true)
              (.leaf (false))
              (.node (!(gn (dOf (op_25b [Dat.n (IntKind.wrap IntKind.i64 ((1 : Int) - Int.tmod (IntKind.wrap IntKind.i64 (Int.tmod n8 (2 : Int) + (2 : Int))) (2 : Int))), Dat.n n4, Dat.n n5, Dat.n n6, Dat.n n7, Dat.b (gb (dOf (op_25a [Dat.n (Int.tmod (IntKind.wrap IntKind.i64 (Int.tmod n8 (2 : Int) + (2 : Int))) (2 : Int)), Dat.n n0, Dat.n n1, Dat.n n2, Dat.n n3, Dat.b false, Dat.n (0 : Int)])) (nat_lit 1)), Dat.n (gn (dOf (op_25a [Dat.n (Int.tmod (IntKind.wrap IntKind.i64 (Int.tmod n8 (2 : Int) + (2 : Int))) (2 : Int)), Dat.n n0, Dat.n n1, Dat.n n2, Dat.n n3, Dat.b false, Dat.n (0 : Int)])) (nat_lit 2)), Dat.n (gn (dOf (op_25a [Dat.n (Int.tmod (IntKind.wrap IntKind.i64 (Int.tmod n8 (2 : Int) + (2 : Int))) (2 : Int)), Dat.n n0, Dat.n n1, Dat.n n2, Dat.n n3, Dat.b false, Dat.n (0 : Int)])) (nat_lit 3)), Dat.n (gn (dOf (op_25a [Dat.n (Int.tmod (IntKind.wrap IntKind.i64 (Int.tmod n8 (2 : Int) + (2 : Int))) (2 : Int)), Dat.n n0, Dat.n n1, Dat.n n2, Dat.n n3, Dat.b false, Dat.n (0 : Int)])) (nat_lit 4)), Dat.n (gn (dOf (op_25a [Dat.n (Int.tmod (IntKind.wrap IntKind.i64 (Int.tmod n8 (2 : Int) + (2 : Int))) (2 : Int)), Dat.n n0, Dat.n n1, Dat.n n2, Dat.n n3, Dat.b false, Dat.n (0 : Int)])) (nat_lit 5)), Dat.n (gn (dOf (op_25a [Dat.n (Int.tmod (IntKind.wrap IntKind.i64 (Int.tmod n8 (2 : Int) + (2 : Int))) (2 : Int)), Dat.n n0, Dat.n n1, Dat.n n2, Dat.n n3, Dat.b false, Dat.n (0 : Int)])) (nat_lit 6))])) (nat_lit 0) == (0 : Int)) == true)
               (.leaf (false))
               (.node (!(gn (dOf (op_25b [Dat.n (IntKind.wrap IntKind.i64 ((1 : Int) - Int.tmod (IntKind.wrap IntKind.i64 (Int.tmod n8 (2 : Int) + (2 : Int))) (2 : Int))), Dat.n n4, Dat.n n5, Dat.n n6, Dat.n n7, Dat.b (gb (dOf (op_25a [Dat.n (Int.tmod (IntKind.wrap IntKind.i64 (Int.tmod n8 (2 : Int) + (2 : Int))) (2 : Int)), Dat.n n0, Dat.n n1, Dat.n n2, Dat.n n3, Dat.b false, Dat.n (0 : Int)])) (nat_lit 1)), Dat.n (gn (dOf (op_25a [Dat.n (Int.tmod (IntKind.wrap IntKind.i64 (Int.tmod n8 (2 : Int) + (2 : Int))) (2 : Int)), Dat.n n0, Dat.n n1, Dat.n n2, Dat.n n3, Dat.b false, Dat.n (0 : Int)])) (nat_lit 2)), Dat.n (gn (dOf (op_25a [Dat.n (Int.tmod (IntKind.wrap IntKind.i64 (Int.tmod n8 (2 : Int) + (2 : Int))) (2 : Int)), Dat.n n0, Dat.n n1, Dat.n n2, Dat.n n3, Dat.b false, Dat.n (0 : Int)])) (nat_lit 3)), Dat.n (gn (dOf (op_25a [Dat.n (Int.tmod (IntKind.wrap IntKind.i64 (Int.tmod n8 (2 : Int) + (2 : Int))) (2 : Int)), Dat.n n0, Dat.n n1, Dat.n n2, Dat.n n3, Dat.b false, Dat.n (0 : Int)])) (nat_lit 4)), Dat.n (gn (dOf (op_25a [Dat.n (Int.tmod (IntKind.wrap IntKind.i64 (Int.tmod n8 (2 : Int) + (2 : Int))) (2 : Int)), Dat.n n0, Dat.n n1, Dat.n n2, Dat.n n3, Dat.b false, Dat.n (0 : Int)])) (nat_lit 5)), Dat.n (gn (dOf (op_25a [Dat.n (Int.tmod (IntKind.wrap IntKind.i64 (Int.tmod n8 (2 : Int) + (2 : Int))) (2 : Int)), Dat.n n0, Dat.n n1, Dat.n n2, Dat.n n3, Dat.b false, Dat.n (0 : Int)])) (nat_lit 6))])) (nat_lit 3) == n0 && (gn (dOf (op_25b [Dat.n (IntKind.wrap IntKind.i64 ((1 : Int) - Int.tmod (IntKind.wrap IntKind.i64 (Int.tmod n8 (2 : Int) + (2 : Int))) (2 : Int))), Dat.n n4, Dat.n n5, Dat.n n6, Dat.n n7, Dat.b (gb (dOf (op_25a [Dat.n (Int.tmod (IntKind.wrap IntKind.i64 (Int.tmod n8 (2 : Int) + (2 : Int))) (2 : Int)), Dat.n n0, Dat.n n1, Dat.n n2, Dat.n n3, Dat.b false, Dat.n (0 : Int)])) (nat_lit 1)), Dat.n (gn (dOf (op_25a [Dat.n (Int.tmod (IntKind.wrap IntKind.i64 (Int.tmod n8 (2 : Int) + (2 : Int))) (2 : Int)), Dat.n n0, Dat.n n1, Dat.n n2, Dat.n n3, Dat.b false, Dat.n (0 : Int)])) (nat_lit 2)), Dat.n (gn (dOf (op_25a [Dat.n (Int.tmod (IntKind.wrap IntKind.i64 (Int.tmod n8 (2 : Int) + (2 : Int))) (2 : Int)), Dat.n n0, Dat.n n1, Dat.n n2, Dat.n n3, Dat.b false, Dat.n (0 : Int)])) (nat_lit 3)), Dat.n (gn (dOf (op_25a [Dat.n (Int.tmod (IntKind.wrap IntKind.i64 (Int.tmod n8 (2 : Int) + (2 : Int))) (2 : Int)), Dat.n n0, Dat.n n1, Dat.n n2, Dat.n n3, Dat.b false, Dat.n (0 : Int)])) (nat_lit 4)), Dat.n (gn (dOf (op_25a [Dat.n (Int.tmod (IntKind.wrap IntKind.i64 (Int.tmod n8 (2 : Int) + (2 : Int))) (2 : Int)), Dat.n n0, Dat.n n1, Dat.n n2, Dat.n n3, Dat.b false, Dat.n (0 : Int)])) (nat_lit 5)), Dat.n (gn (dOf (op_25a [Dat.n (Int.tmod (IntKind.wrap IntKind.i64 (Int.tmod n8 (2 : Int) + (2 : Int))) (2 : Int)), Dat.n n0, Dat.n n1, Dat.n n2, Dat.n n3, Dat.b false, Dat.n (0 : Int)])) (nat_lit 6))])) (nat_lit 4) == n1 && (gn (dOf (op_25b [Dat.n (IntKind.wrap IntKind.i64 ((1 : Int) - Int.tmod (IntKind.wrap IntKind.i64 (Int.tmod n8 (2 : Int) + (2 : Int))) (2 : Int))), Dat.n n4, Dat.n n5, Dat.n n6, Dat.n n7, Dat.b (gb (dOf (op_25a [Dat.n (Int.tmod (IntKind.wrap IntKind.i64 (Int.tmod n8 (2 : Int) + (2 : Int))) (2 : Int)), Dat.n n0, Dat.n n1, Dat.n n2, Dat.n n3, Dat.b false, Dat.n (0 : Int)])) (nat_lit 1)), Dat.n (gn (dOf (op_25a [Dat.n (Int.tmod (IntKind.wrap IntKind.i64 (Int.tmod n8 (2 : Int) + (2 : Int))) (2 : Int)), Dat.n n0, Dat.n n1, Dat.n n2, Dat.n n3, Dat.b false, Dat.n (0 : Int)])) (nat_lit 2)), Dat.n (gn (dOf (op_25a [Dat.n (Int.tmod (IntKind.wrap IntKind.i64 (Int.tmod n8 (2 : Int) + (2 : Int))) (2 : Int)), Dat.n n0, Dat.n n1, Dat.n n2, Dat.n n3, Dat.b false, Dat.n (0 : Int)])) (nat_lit 3)), Dat.n (gn (dOf (op_25a [Dat.n (Int.tmod (IntKind.wrap IntKind.i64 (Int.tmod n8 (2 : Int) + (2 : Int))) (2 : Int)), Dat.n n0, Dat.n n1, Dat.n n2, Dat.n n3, Dat.b false, Dat.n (0 : Int)])) (nat_lit 4)), Dat.n (gn (dOf (op_25a [Dat.n (Int.tmod (IntKind.wrap IntKind.i64 (Int.tmod n8 (2 : Int) + (2 : Int))) (2 : Int)), Dat.n n0, Dat.n n1, Dat.n n2, Dat.n n3, Dat.b false, Dat.n (0 : Int)])) (nat_lit 5)), Dat.n (gn (dOf (op_25a [Dat.n (Int.tmod (IntKind.wrap IntKind.i64 (Int.tmod n8 (2 : Int) + (2 : Int))) (2 : Int)), Dat.n n0, Dat.n n1, Dat.n n2, Dat.n n3, Dat.b false, Dat.n (0 : Int)])) (nat_lit 6))])) (nat_lit 5) == n2 && (gn (dOf (op_25b [Dat.n (IntKind.wrap IntKind.i64 ((1 : Int) - Int.tmod (IntKind.wrap IntKind.i64 (Int.tmod n8 (2 : Int) + (2 : Int))) (2 : Int))), Dat.n n4, Dat.n n5, Dat.n n6, Dat.n n7, Dat.b (gb (dOf (op_25a [Dat.n (Int.tmod (IntKind.wrap IntKind.i64 (Int.tmod n8 (2 : Int) + (2 : Int))) (2 : Int)), Dat.n n0, Dat.n n1, Dat.n n2, Dat.n n3, Dat.b false, Dat.n (0 : Int)])) (nat_lit 1)), Dat.n (gn (dOf (op_25a [Dat.n (Int.tmod (IntKind.wrap IntKind.i64 (Int.tmod n8 (2 : Int) + (2 : Int))) (2 : Int)), Dat.n n0, Dat.n n1, Dat.n n2, Dat.n n3, Dat.b false, Dat.n (0 : Int)])) (nat_lit 2)), Dat.n (gn (dOf (op_25a [Dat.n (Int.tmod (IntKind.wrap IntKind.i64 (Int.tmod n8 (2 : Int) + (2 : Int))) (2 : Int)), Dat.n n0, Dat.n n1, Dat.n n2, Dat.n n3, Dat.b false, Dat.n (0 : Int)])) (nat_lit 3)), Dat.n (gn (dOf (op_25a [Dat.n (Int.tmod (IntKind.wrap IntKind.i64 (Int.tmod n8 (2 : Int) + (2 : Int))) (2 : Int)), Dat.n n0, Dat.n n1, Dat.n n2, Dat.n n3, Dat.b false, Dat.n (0 : Int)])) (nat_lit 4)), Dat.n (gn (dOf (op_25a [Dat.n (Int.tmod (IntKind.wrap IntKind.i64 (Int.tmod n8 (2 : Int) + (2 : Int))) (2 : Int)), Dat.n n0, Dat.n n1, Dat.n n2, Dat.n n3, Dat.b false, Dat.n (0 : Int)])) (nat_lit 5)), Dat.n (gn (dOf (op_25a [Dat.n (Int.tmod (IntKind.wrap IntKind.i64 (Int.tmod n8 (2 : Int) + (2 : Int))) (2 : Int)), Dat.n n0, Dat.n n1, Dat.n n2, Dat.n n3, Dat.b false, Dat.n (0 : Int)])) (nat_lit 6))])) (nat_lit 6) == n3 && true) && true))))
                (.leaf (false))
                (.leaf (true)))))))
           (.bad 351))))
        (.node (isK (nat_lit 2) [HK.n, HK.b, HK.n, HK.n, HK.n, HK.n, HK.n] (op_25a [Dat.n (Int.tmod (IntKind.wrap IntKind.i64 (Int.tmod n8 (2 : Int) + (2 : Int))) (2 : Int)), Dat.n n0, Dat.n n1, Dat.n n2, Dat.n n3, Dat.b false, Dat.n (0 : Int)]))
         (.node (isK (nat_lit 0) [HK.n, HK.b, HK.n] (op_25c [Dat.n (IntKind.wrap IntKind.i64 ((1 : Int) - Int.tmod (IntKind.wrap IntKind.i64 (Int.tmod n8 (2 : Int) + (2 : Int))) (2 : Int))), Dat.n n4, Dat.n n5, Dat.n n6, Dat.n n7, Dat.b (gb (dOf (op_25a [Dat.n (Int.tmod (IntKind.wrap IntKind.i64 (Int.tmod n8 (2 : Int) + (2 : Int))) (2 : Int)), Dat.n n0, Dat.n n1, Dat.n n2, Dat.n n3, Dat.b false, Dat.n (0 : Int)])) (nat_lit 1)), Dat.n (gn (dOf (op_25a [Dat.n (Int.tmod (IntKind.wrap IntKind.i64 (Int.tmod n8 (2 : Int) + (2 : Int))) (2 : Int)), Dat.n n0, Dat.n n1, Dat.n n2, Dat.n n3, Dat.b false, Dat.n (0 : Int)])) (nat_lit 2)), Dat.n (gn (dOf (op_25a [Dat.n (Int.tmod (IntKind.wrap IntKind.i64 (Int.tmod n8 (2 : Int) + (2 : Int))) (2 : Int)), Dat.n n0, Dat.n n1, Dat.n n2, Dat.n n3, Dat.b false, Dat.n (0 : Int)])) (nat_lit 3)), Dat.n (gn (dOf (op_25a [Dat.n (Int.tmod (IntKind.wrap IntKind.i64 (Int.tmod n8 (2 : Int) + (2 : Int))) (2 : Int)), Dat.n n0, Dat.n n1, Dat.n n2, Dat.n n3, Dat.b false, Dat.n (0 : Int)])) (nat_lit 4)), Dat.n (gn (dOf (op_25a [Dat.n (Int.tmod (IntKind.wrap IntKind.i64 (Int.tmod n8 (2 : Int) + (2 : Int))) (2 : Int)), Dat.n n0, Dat.n n1, Dat.n n2, Dat.n n3, Dat.b false, Dat.n (0 : Int)])) (nat_lit 5)), Dat.n (gn (dOf (op_25a [Dat.n (Int.tmod (IntKind.wrap IntKind.i64 (Int.tmod n8 (2 : Int) + (2 : Int))) (2 : Int)), Dat.n n0, Dat.n n1, Dat.n n2, Dat.n n3, Dat.b false, Dat.n (0 : Int)])) (nat_lit 6))]))
          (.node (gn (dOf (op_25a [Dat.n (Int.tmod (IntKind.wrap IntKind.i64 (Int.tmod n8 (2 : Int) + (2 : Int))) (2 : Int)), Dat.n n0, Dat.n n1, Dat.n n2, Dat.n n3, Dat.b false, Dat.n (0 : Int)])) (nat_lit 0) != (0 : Int))
           (.leaf (false))
           (.node (!false == (n0 == n4 && (n1 == n5 && (n2 == n6 && (n3 == n7 && true) && true))))
            (.leaf (false))
            (.node (gb (dOf (op_25c [Dat.n (IntKind.wrap IntKind.i64 ((1 : Int) - Int.tmod (IntKind.wrap IntKind.i64 (Int.tmod n8 (2 : Int) + (2 : Int))) (2 : Int))), Dat.n n4, Dat.n n5, Dat.n n6, Dat.n n7, Dat.b (gb (dOf (op_25a [Dat.n (Int.tmod (IntKind.wrap IntKind.i64 (Int.tmod n8 (2 : Int) + (2 : Int))) (2 : Int)), Dat.n n0, Dat.n n1, Dat.n n2, Dat.n n3, Dat.b false, Dat.n (0 : Int)])) (nat_lit 1)), Dat.n (gn (dOf (op_25a [Dat.n (Int.tmod (IntKind.wrap IntKind.i64 (Int.tmod n8 (2 : Int) + (2 : Int))) (2 : Int)), Dat.n n0, Dat.n n1, Dat.n n2, Dat.n n3, Dat.b false, Dat.n (0 : Int)])) (nat_lit 2)), Dat.n (gn (dOf (op_25a [Dat.n (Int.tmod (IntKind.wrap IntKind.i64 (Int.tmod n8 (2 : Int) + (2 : Int))) (2 : Int)), Dat.n n0, Dat.n n1, Dat.n n2, Dat.n n3, Dat.b false, Dat.n (0 : Int)])) (nat_lit 3)), Dat.n (gn (dOf (op_25a [Dat.n (Int.tmod (IntKind.wrap IntKind.i64 (Int.tmod n8 (2 : Int) + (2 : Int))) (2 : Int)), Dat.n n0, Dat.n n1, Dat.n n2, Dat.n n3, Dat.b false, Dat.n (0 : Int)])) (nat_lit 4)), Dat.n (gn (dOf (op_25a [Dat.n (Int.tmod (IntKind.wrap IntKind.i64 (Int.tmod n8 (2 : Int) + (2 : Int))) (2 : Int)), Dat.n n0, Dat.n n1, Dat.n n2, Dat.n n3, Dat.b false, Dat.n (0 : Int)])) (nat_lit 5)), Dat.n (gn (dOf (op_25a [Dat.n (Int.tmod (IntKind.wrap IntKind.i64 (Int.tmod n8 (2 : Int) + (2 : Int))) (2 : Int)), Dat.n n0, Dat.n n1, Dat.n n2, Dat.n n3, Dat.b false, Dat.n (0 : Int)])) (nat_lit 6))])) (nat_lit 1) == false)
             (.leaf (false))
             (.node (!(gn (dOf (op_25c [Dat.n (IntKind.wrap IntKind.i64 ((1 : Int) - Int.tmod (IntKind.wrap IntKind.i64 (Int.tmod n8 (2 : Int) + (2 : Int))) (2 : Int))), Dat.n n4, Dat.n n5, Dat.n n6, Dat.n n7, Dat.b (gb (dOf (op_25a [Dat.n (Int.tmod (IntKind.wrap IntKind.i64 (Int.tmod n8 (2 : Int) + (2 : Int))) (2 : Int)), Dat.n n0, Dat.n n1, Dat.n n2, Dat.n n3, Dat.b false, Dat.n (0 : Int)])) (nat_lit 1)), Dat.n (gn (dOf (op_25a [Dat.n (Int.tmod (IntKind.wrap IntKind.i64 (Int.tmod n8 (2 : Int) + (2 : Int))) (2 : Int)), Dat.n n0, Dat.n n1, Dat.n n2, Dat.n n3, Dat.b false, Dat.n (0 : Int)])) (nat_lit 2)), Dat.n (gn (dOf (op_25a [Dat.n (Int.tmod (IntKind.wrap IntKind.i64 (Int.tmod n8 (2 : Int) + (2 : Int))) (2 : Int)), Dat.n n0, Dat.n n1, Dat.n n2, Dat.n n3, Dat.b false, Dat.n (0 : Int)])) (nat_lit 3)), Dat.n (gn (dOf (op_25a [Dat.n (Int.tmod (IntKind.wrap IntKind.i64 (Int.tmod n8 (2 : Int) + (2 : Int))) (2 : Int)), Dat.n n0, Dat.n n1, Dat.n n2, Dat.n n3, Dat.b false, Dat.n (0 : Int)])) (nat_lit 4)), Dat.n (gn (dOf (op_25a [Dat.n (Int.tmod (IntKind.wrap IntKind.i64 (Int.tmod n8 (2 : Int) + (2 : Int))) (2 : Int)), Dat.n n0, Dat.n n1, Dat.n n2, Dat.n n3, Dat.b false, Dat.n (0 : Int)])) (nat_lit 5)), Dat.n (gn (dOf (op_25a [Dat.n (Int.tmod (IntKind.wrap IntKind.i64 (Int.tmod n8 (2 : Int) + (2 : Int))) (2 : Int)), Dat.n n0, Dat.n n1, Dat.n n2, Dat.n n3, Dat.b false, Dat.n (0 : Int)])) (nat_lit 6))])) (nat_lit 0) == (0 : Int)) == false)
              (.leaf (false))
              (.leaf (true))))))
          (.node (isK (nat_lit 1) [HK.n, HK.b, HK.n, HK.n, HK.n, HK.n, HK.n] (op_25c [Dat.n (IntKind.wrap IntKind.i64 ((1 : Int) - Int.tmod (IntKind.wrap IntKind.i64 (Int.tmod n8 (2 : Int) + (2 : Int))) (2 : Int))), Dat.n n4, Dat.n n5, Dat.n n6, Dat.n n7, Dat.b (gb (dOf (op_25a [Dat.n (Int.tmod (IntKind.wrap IntKind.i64 (Int.tmod n8 (2 : Int) + (2 : Int))) (2 : Int)), Dat.n n0, Dat.n n1, Dat.n n2, Dat.n n3, Dat.b false, Dat.n (0 : Int)])) (nat_lit 1)), Dat.n (gn (dOf (op_25a [Dat.n (Int.tmod (IntKind.wrap IntKind.i64 (Int.tmod n8 (2 : Int) + (2 : Int))) (2 : Int)), Dat.n n0, Dat.n n1, Dat.n n2, Dat.n n3, Dat.b false, Dat.n (0 : Int)])) (nat_lit 2)), Dat.n (gn (dOf (op_25a [Dat.n (Int.tmod (IntKind.wrap IntKind.i64 (Int.tmod n8 (2 : Int) + (2 : Int))) (2 : Int)), Dat.n n0, Dat.n n1, Dat.n n2, Dat.n n3, Dat.b false, Dat.n (0 : Int)])) (nat_lit 3)), Dat.n (gn (dOf (op_25a [Dat.n (Int.tmod (IntKind.wrap IntKind.i64 (Int.tmod n8 (2 : Int) + (2 : Int))) (2 : Int)), Dat.n n0, Dat.n n1, Dat.n n2, Dat.n n3, Dat.b false, Dat.n (0 : Int)])) (nat_lit 4)), Dat.n (gn (dOf (op_25a [Dat.n (Int.tmod (IntKind.wrap IntKind.i64 (Int.tmod n8 (2 : Int) + (2 : Int))) (2 : Int)), Dat.n n0, Dat.n n1, Dat.n n2, Dat.n n3, Dat.b false, Dat.n (0 : Int)])) (nat_lit 5)), Dat.n (gn (dOf (op_25a [Dat.n (Int.tmod (IntKind.wrap IntKind.i64 (Int.tmod n8 (2 : Int) + (2 : Int))) (2 : Int)), Dat.n n0, Dat.n n1, Dat.n n2, Dat.n n3, Dat.b false, Dat.n (0 : Int)])) (nat_lit 6))]))
           (.node (gn (dOf (op_25a [Dat.n (Int.tmod (IntKind.wrap IntKind.i64 (Int.tmod n8 (2 : Int) + (2 : Int))) (2 : Int)), Dat.n n0, Dat.n n1, Dat.n n2, Dat.n n3, Dat.b false, Dat.n (0 : Int)])) (nat_lit 0) != (0 : Int))
            (.leaf (false))
            (.node (!false == (n0 == n4 && (n1 == n5 && (n2 == n6 && (n3 == n7 && true) && true))))
             (.leaf (false))
             (.node (gb (dOf (op_25c [Dat.n (IntKind.wrap IntKind.i64 ((1 : Int) - Int.tmod (IntKind.wrap IntKind.i64 (Int.tmod n8 (2 : Int) + (2 : Int))) (2 : Int))), Dat.n n4, Dat.n n5, Dat.n n6, Dat.n n7, Dat.b (gb (dOf (op_25a [Dat.n (Int.tmod (IntKind.wrap IntKind.i64 (Int.tmod n8 (2 : Int) + (2 : Int))) (2 : Int)), Dat.n n0, Dat.n n1, Dat.n n2, Dat.n n3, Dat.b false, Dat.n (0 : Int)])) (nat_lit 1)), Dat.n (gn (dOf (op_25a [Dat.n (Int.tmod (IntKind.wrap IntKind.i64 (Int.tmod n8 (2 : Int) + (2 : Int))) (2 : Int)), Dat.n n0, Dat.n n1, Dat.n n2, Dat.n n3, Dat.b false, Dat.n (0 : Int)])) (nat_lit 2)), Dat.n (gn (dOf (op_25a [Dat.n (Int.tmod (IntKind.wrap IntKind.i64 (Int.tmod n8 (2 : Int) + (2 : Int))) (2 : Int)), Dat.n n0, Dat.n n1, Dat.n n2, Dat.n n3, Dat.b false, Dat.n (0 : Int)])) (nat_lit 3)), Dat.n (gn (dOf (op_25a [Dat.n (Int.tmod (IntKind.wrap IntKind.i64 (Int.tmod n8 (2 : Int) + (2 : Int))) (2 : Int)), Dat.n n0, Dat.n n1, Dat.n n2, Dat.n n3, Dat.b false, Dat.n (0 : Int)])) (nat_lit 4)), Dat.n (gn (dOf (op_25a [Dat.n (Int.tmod (IntKind.wrap IntKind.i64 (Int.tmod n8 (2 : Int) + (2 : Int))) (2 : Int)), Dat.n n0, Dat.n n1, Dat.n n2, Dat.n n3, Dat.b false, Dat.n (0 : Int)])) (nat_lit 5)), Dat.n (gn (dOf (op_25a [Dat.n (Int.tmod (IntKind.wrap IntKind.i64 (Int.tmod n8 (2 : Int) + (2 : Int))) (2 : Int)), Dat.n n0, Dat.n n1, Dat.n n2, Dat.n n3, Dat.b false, Dat.n (0 : Int)])) (nat_lit 6))])) (nat_lit 1) == false)
              (.leaf (false))
              (.node (!(gn (dOf (op_25c [Dat.n (IntKind.wrap IntKind.i64 ((1 : Int) - Int.tmod (IntKind.wrap IntKind.i64 (Int.tmod n8 (2 : Int) + (2 : Int))) (2 : Int))), Dat.n n4, Dat.n n5, Dat.n n6, Dat.n n7, Dat.b (gb (dOf (op_25a [Dat.n (Int.tmod (IntKind.wrap IntKind.i64 (Int.tmod n8 (2 : Int) + (2 : Int))) (2 : Int)), Dat.n n0, Dat.n n1, Dat.n n2, Dat.n n3, Dat.b false, Dat.n (0 : Int)])) (nat_lit 1)), Dat.n (gn (dOf (op_25a [Dat.n (Int.tmod (IntKind.wrap IntKind.i64 (Int.tmod n8 (2 : Int) + (2 : Int))) (2 : Int)), Dat.n n0, Dat.n n1, Dat.n n2, Dat.n n3, Dat.b false, Dat.n (0 : Int)])) (nat_lit 2)), Dat.n (gn (dOf (op_25a [Dat.n (Int.tmod (IntKind.wrap IntKind.i64 (Int.tmod n8 (2 : Int) + (2 : Int))) (2 : Int)), Dat.n n0, Dat.n n1, Dat.n n2, Dat.n n3, Dat.b false, Dat.n (0 : Int)])) (nat_lit 3)), Dat.n (gn (dOf (op_25a [Dat.n (Int.tmod (IntKind.wrap IntKind.i64 (Int.tmod n8 (2 : Int) + (2 : Int))) (2 : Int)), Dat.n n0, Dat.n n1, Dat.n n2, Dat.n n3, Dat.b false, Dat.n (0 : Int)])) (nat_lit 4)), Dat.n (gn (dOf (op_25a [Dat.n (Int.tmod (IntKind.wrap IntKind.i64 (Int.tmod n8 (2 : Int) + (2 : Int))) (2 : Int)), Dat.n n0, Dat.n n1, Dat.n n2, Dat.n n3, Dat.b false, Dat.n (0 : Int)])) (nat_lit 5)), Dat.n (gn (dOf (op_25a [Dat.n (Int.tmod (IntKind.wrap IntKind.i64 (Int.tmod n8 (2 : Int) + (2 : Int))) (2 : Int)), Dat.n n0, Dat.n n1, Dat.n n2, Dat.n n3, Dat.b false, Dat.n (0 : Int)])) (nat_lit 6))])) (nat_lit 0) == (0 : Int)) == false)
               (.leaf (false))
               (.leaf (true))))))
           (.node (isK (nat_lit 2) [HK.n, HK.b, HK.n, HK.n, HK.n, HK.n, HK.n] (op_25c [Dat.n (IntKind.wrap IntKind.i64 ((1 : Int) - Int.tmod (IntKind.wrap IntKind.i64 (Int.tmod n8 (2 : Int) + (2 : Int))) (2 : Int))), Dat.n n4, Dat.n n5, Dat.n n6, Dat.n n7, Dat.b (gb (dOf (op_25a [Dat.n (Int.tmod (IntKind.wrap IntKind.i64 (Int.tmod n8 (2 : Int) + (2 : Int))) (2 : Int)), Dat.n n0, Dat.n n1, Dat.n n2, Dat.n n3, Dat.b false, Dat.n (0 : Int)])) (nat_lit 1)), Dat.n (gn (dOf (op_25a [Dat.n (Int.tmod (IntKind.wrap IntKind.i64 (Int.tmod n8 (2 : Int) + (2 : Int))) (2 : Int)), Dat.n n0, Dat.n n1, Dat.n n2, Dat.n n3, Dat.b false, Dat.n (0 : Int)])) (nat_lit 2)), Dat.n (gn (dOf (op_25a [Dat.n (Int.tmod (IntKind.wrap IntKind.i64 (Int.tmod n8 (2 : Int) + (2 : Int))) (2 : Int)), Dat.n n0, Dat.n n1, Dat.n n2, Dat.n n3, Dat.b false, Dat.n (0 : Int)])) (nat_lit 3)), Dat.n (gn (dOf (op_25a [Dat.n (Int.tmod (IntKind.wrap IntKind.i64 (Int.tmod n8 (2 : Int) + (2 : Int))) (2 : Int)), Dat.n n0, Dat.n n1, Dat.n n2, Dat.n n3, Dat.b false, Dat.n (0 : Int)])) (nat_lit 4)), Dat.n (gn (dOf (op_25a [Dat.n (Int.tmod (IntKind.wrap IntKind.i64 (Int.tmod n8 (2 : Int) + (2 : Int))) (2 : Int)), Dat.n n0, Dat.n n1, Dat.n n2, Dat.n n3, Dat.b false, Dat.n (0 : Int)])) (nat_lit 5)), Dat.n (gn (dOf (op_25a [Dat.n (Int.tmod (IntKind.wrap IntKind.i64 (Int.tmod n8 (2 : Int) + (2 : Int))) (2 : Int)), Dat.n n0, Dat.n n1, Dat.n n2, Dat.n n3, Dat.b false, Dat.n (0 : Int)])) (nat_lit 6))]))
            (.node (gn (dOf (op_25a [Dat.n (Int.tmod (IntKind.wrap IntKind.i64 (Int.tmod n8 (2 : Int) + (2 : Int))) (2 : Int)), Dat.n n0, Dat.n n1, Dat.n n2, Dat.n n3, Dat.b false, Dat.n (0 : Int)])) (nat_lit 0) != (0 : Int))
             (.leaf (false))
             (.node (!true == (n0 == n4 && (n1 == n5 && (n2 == n6 && (n3 == n7 && true) && true))))
              (.leaf (false))
              (.node (gb (dOf (op_25c [Dat.n (IntKind.wrap IntKind.i64 ((1 : Int) - Int.tmod (IntKind.wrap IntKind.i64 (Int.tmod n8 (2 : Int) + (2 : Int))) (2 : Int))), Dat.n n4, Dat.n n5, Dat.n n6, Dat.n n7, Dat.b (gb (dOf (op_25a [Dat.n (Int.tmod (IntKind.wrap IntKind.i64 (Int.tmod n8 (2 : Int) + (2 : Int))) (2 : Int)), Dat.n n0, Dat.n n1, Dat.n n2, Dat.n n3, Dat.b false, Dat.n (0 : Int)])) (nat_lit 1)), Dat.n (gn (dOf (op_25a [Dat.n (Int.tmod (IntKind.wrap IntKind.i64 (Int.tmod n8 (2 : Int) + (2 : Int))) (2 : Int)), Dat.n n0, Dat.n n1, Dat.n n2, Dat.n n3, Dat.b false, Dat.n (0 : Int)])) (nat_lit 2)), Dat.n (gn (dOf (op_25a [Dat.n (Int.tmod (IntKind.wrap IntKind.i64 (Int.tmod n8 (2 : Int) + (2 : Int))) (2 : Int)), Dat.n n0, Dat.n n1, Dat.n n2, Dat.n n3, Dat.b false, Dat.n (0 : Int)])) (nat_lit 3)), Dat.n (gn (dOf (op_25a [Dat.n (Int.tmod (IntKind.wrap IntKind.i64 (Int.tmod n8 (2 : Int) + (2 : Int))) (2 : Int)), Dat.n n0, Dat.n n1, Dat.n n2, Dat.n n3, Dat.b false, Dat.n (0 : Int)])) (nat_lit 4)), Dat.n (gn (dOf (op_25a [Dat.n (Int.tmod (IntKind.wrap IntKind.i64 (Int.tmod n8 (2 : Int) + (2 : Int))) (2 : Int)), Dat.n n0, Dat.n n1, Dat.n n2, Dat.n n3, Dat.b false, Dat.n (0 : Int)])) (nat_lit 5)), Dat.n (gn (dOf (op_25a [Dat.n (Int.tmod (IntKind.wrap IntKind.i64 (Int.tmod n8 (2 : Int) + (2 : Int))) (2 : Int)), Dat.n n0, Dat.n n1, Dat.n n2, Dat.n n3, Dat.b false, Dat.n (0 : Int)])) (nat_lit 6))])) (nat_lit 1) == true)
               (.leaf (false))
               (.node (!(gn (dOf (op_25c [Dat.n (IntKind.wrap IntKind.i64 ((1 : Int) - Int.tmod (IntKind.wrap IntKind.i64 (Int.tmod n8 (2 : Int) + (2 : Int))) (2 : Int))), Dat.n n4, Dat.n n5, Dat.n n6, Dat.n n7, Dat.b (gb (dOf (op_25a [Dat.n (Int.tmod (IntKind.wrap IntKind.i64 (Int.tmod n8 (2 : Int) + (2 : Int))) (2 : Int)), Dat.n n0, Dat.n n1, Dat.n n2, Dat.n n3, Dat.b false, Dat.n (0 : Int)])) (nat_lit 1)), Dat.n (gn (dOf (op_25a [Dat.n (Int.tmod (IntKind.wrap IntKind.i64 (Int.tmod n8 (2 : Int) + (2 : Int))) (2 : Int)), Dat.n n0, Dat.n n1, Dat.n n2, Dat.n n3, Dat.b false, Dat.n (0 : Int)])) (nat_lit 2)), Dat.n (gn (dOf (op_25a [Dat.n (Int.tmod (IntKind.wrap IntKind.i64 (Int.tmod n8 (2 : Int) + (2 : Int))) (2 : Int)), Dat.n n0, Dat.n n1, Dat.n n2, Dat.n n3, Dat.b false, Dat.n (0 : Int)])) (nat_lit 3)), Dat.n (gn (dOf (op_25a [Dat.n (Int.tmod (IntKind.wrap IntKind.i64 (Int.tmod n8 (2 : Int) + (2 : Int))) (2 : Int)), Dat.n n0, Dat.n n1, Dat.n n2, Dat.n n3, Dat.b false, Dat.n (0 : Int)])) (nat_lit 4)), Dat.n (gn (dOf (op_25a [Dat.n (Int.tmod (IntKind.wrap IntKind.i64 (Int.tmod n8 (2 : Int) + (2 : Int))) (2 : Int)), Dat.n n0, Dat.n n1, Dat.n n2, Dat.n n3, Dat.b false, Dat.n (0 : Int)])) (nat_lit 5)), Dat.n (gn (dOf (op_25a [Dat.n (Int.tmod (IntKind.wrap IntKind.i64 (Int.tmod n8 (2 : Int) + (2 : Int))) (2 : Int)), Dat.n n0, Dat.n n1, Dat.n n2, Dat.n n3, Dat.b false, Dat.n (0 : Int)])) (nat_lit 6))])) (nat_lit 0) == (0 : Int)) == true)
                (.leaf (false))
                (.node (!(gn (dOf (op_25c [Dat.n (IntKind.wrap IntKind.i64 ((1 : Int) - Int.tmod (IntKind.wrap IntKind.i64 (Int.tmod n8 (2 : Int) + (2 : Int))) (2 : Int))), Dat.n n4, Dat.n n5, Dat.n n6, Dat.n n7, Dat.b (gb (dOf (op_25a [Dat.n (Int.tmod (IntKind.wrap IntKind.i64 (Int.tmod n8 (2 : Int) + (2 : Int))) (2 : Int)), Dat.n n0, Dat.n n1, Dat.n n2, Dat.n n3, Dat.b false, Dat.n (0 : Int)])) (nat_lit 1)), Dat.n (gn (dOf (op_25a [Dat.n (Int.tmod (IntKind.wrap IntKind.i64 (Int.tmod n8 (2 : Int) + (2 : Int))) (2 : Int)), Dat.n n0, Dat.n n1, Dat.n n2, Dat.n n3, Dat.b false, Dat.n (0 : Int)])) (nat_lit 2)), Dat.n (gn (dOf (op_25a [Dat.n (Int.tmod (IntKind.wrap IntKind.i64 (Int.tmod n8 (2 : Int) + (2 : Int))) (2 : Int)), Dat.n n0, Dat.n n1, Dat.n n2, Dat.n n3, Dat.b false, Dat.n (0 : Int)])) (nat_lit 3)), Dat.n (gn (dOf (op_25a [Dat.n (Int.tmod (IntKind.wrap IntKind.i64 (Int.tmod n8 (2 : Int) + (2 : Int))) (2 : Int)), Dat.n n0, Dat.n n1, Dat.n n2, Dat.n n3, Dat.b false, Dat.n (0 : Int)])) (nat_lit 4)), Dat.n (gn (dOf (op_25a [Dat.n (Int.tmod (IntKind.wrap IntKind.i64 (Int.tmod n8 (2 : Int) + (2 : Int))) (2 : Int)), Dat.n n0, Dat.n n1, Dat.n n2, Dat.n n3, Dat.b false, Dat.n (0 : Int)])) (nat_lit 5)), Dat.n (gn (dOf (op_25a [Dat.n (Int.tmod (IntKind.wrap IntKind.i64 (Int.tmod n8 (2 : Int) + (2 : Int))) (2 : Int)), Dat.n n0, Dat.n n1, Dat.n n2, Dat.n n3, Dat.b false, Dat.n (0 : Int)])) (nat_lit 6))])) (nat_lit 3) == n0 && (gn (dOf (op_25c [Dat.n (IntKind.wrap IntKind.i64 ((1 : Int) - Int.tmod (IntKind.wrap IntKind.i64 (Int.tmod n8 (2 : Int) + (2 : Int))) (2 : Int))), Dat.n n4, Dat.n n5, Dat.n n6, Dat.n n7, Dat.b (gb (dOf (op_25a [Dat.n (Int.tmod (IntKind.wrap IntKind.i64 (Int.tmod n8 (2 : Int) + (2 : Int))) (2 : Int)), Dat.n n0, Dat.n n1, Dat.n n2, Dat.n n3, Dat.b false, Dat.n (0 : Int)])) (nat_lit 1)), Dat.n (gn (dOf (op_25a [Dat.n (Int.tmod (IntKind.wrap IntKind.i64 (Int.tmod n8 (2 : Int) + (2 : Int))) (2 : Int)), Dat.n n0, Dat.n n1, Dat.n n2, Dat.n n3, Dat.b false, Dat.n (0 : Int)])) (nat_lit 2)), Dat.n (gn (dOf (op_25a [Dat.n (Int.tmod (IntKind.wrap IntKind.i64 (Int.tmod n8 (2 : Int) + (2 : Int))) (2 : Int)), Dat.n n0, Dat.n n1, Dat.n n2, Dat.n n3, Dat.b false, Dat.n (0 : Int)])) (nat_lit 3)), Dat.n (gn (dOf (op_25a [Dat.n (Int.tmod (IntKind.wrap IntKind.i64 (Int.tmod n8 (2 : Int) + (2 : Int))) (2 : Int)), Dat.n n0, Dat.n n1, Dat.n n2, Dat.n n3, Dat.b false, Dat.n (0 : Int)])) (nat_lit 4)), Dat.n (gn (dOf (op_25a [Dat.n (Int.tmod (IntKind.wrap IntKind.i64 (Int.tmod n8 (2 : Int) + (2 : Int))) (2 : Int)), Dat.n n0, Dat.n n1, Dat.n n2, Dat.n n3, Dat.b false, Dat.n (0 : Int)])) (nat_lit 5)), Dat.n (gn (dOf (op_25a [Dat.n (Int.tmod (IntKind.wrap IntKind.i64 (Int.tmod n8 (2 : Int) + (2 : Int))) (2 : Int)), Dat.n n0, Dat.n n1, Dat.n n2, Dat.n n3, Dat.b false, Dat.n (0 : Int)])) (nat_lit 6))])) (nat_lit 4) == n1 && (gn (dOf (op_25c [Dat.n (IntKind.wrap IntKind.i64 ((1 : Int) - Int.tmod (IntKind.wrap IntKind.i64 (Int.tmod n8 (2 : Int) + (2 : Int))) (2 : Int))), Dat.n n4, Dat.n n5, Dat.n n6, Dat.n n7, Dat.b (gb (dOf (op_25a [Dat.n (Int.tmod (IntKind.wrap IntKind.i64 (Int.tmod n8 (2 : Int) + (2 : Int))) (2 : Int)), Dat.n n0, Dat.n n1, Dat.n n2, Dat.n n3, Dat.b false, Dat.n (0 : Int)])) (nat_lit 1)), Dat.n (gn (dOf (op_25a [Dat.n (Int.tmod (IntKind.wrap IntKind.i64 (Int.tmod n8 (2 : Int) + (2 : Int))) (2 : Int)), Dat.n n0, Dat.n n1, Dat.n n2, Dat.n n3, Dat.b false, Dat.n (0 : Int)])) (nat_lit 2)), Dat.n (gn (dOf (op_25a [Dat.n (Int.tmod (IntKind.wrap IntKind.i64 (Int.tmod n8 (2 : Int) + (2 : Int))) (2 : Int)), Dat.n n0, Dat.n n1, Dat.n n2, Dat.n n3, Dat.b false, Dat.n (0 : Int)])) (nat_lit 3)), Dat.n (gn (dOf (op_25a [Dat.n (Int.tmod (IntKind.wrap IntKind.i64 (Int.tmod n8 (2 : Int) + (2 : Int))) (2 : Int)), Dat.n n0, Dat.n n1, Dat.n n2, Dat.n n3, Dat.b false, Dat.n (0 : Int)])) (nat_lit 4)), Dat.n (gn (dOf (op_25a [Dat.n (Int.tmod (IntKind.wrap IntKind.i64 (Int.tmod n8 (2 : Int) + (2 : Int))) (2 : Int)), Dat.n n0, Dat.n n1, Dat.n n2, Dat.n n3, Dat.b false, Dat.n (0 : Int)])) (nat_lit 5)), Dat.n (gn (dOf (op_25a [Dat.n (Int.tmod (IntKind.wrap IntKind.i64 (Int.tmod n8 (2 : Int) + (2 : Int))) (2 : Int)), Dat.n n0, Dat.n n1, Dat.n n2, Dat.n n3, Dat.b false, Dat.n (0 : Int)])) (nat_lit 6))])) (nat_lit 5) == n2 && (gn (dOf (op_25c [Dat.n (IntKind.wrap IntKind.i64 ((1 : Int) - Int.tmod (IntKind.wrap IntKind.i64 (Int.tmod n8 (2 : Int) + (2 : Int))) (2 : Int))), Dat.n n4, Dat.n n5, Dat.n n6, Dat.n n7, Dat.b (gb (dOf (op_25a [Dat.n (Int.tmod (IntKind.wrap IntKind.i64 (Int.tmod n8 (2 : Int) + (2 : Int))) (2 : Int)), Dat.n n0, Dat.n n1, Dat.n n2, Dat.n n3, Dat.b false, Dat.n (0 : Int)])) (nat_lit 1)), Dat.n (gn (dOf (op_25a [Dat.n (Int.tmod (IntKind.wrap IntKind.i64 (Int.tmod n8 (2 : Int) + (2 : Int))) (2 : Int)), Dat.n n0, Dat.n n1, Dat.n n2, Dat.n n3, Dat.b false, Dat.n (0 : Int)])) (nat_lit 2)), Dat.n (gn (dOf (op_25a [Dat.n (Int.tmod (IntKind.wrap IntKind.i64 (Int.tmod n8 (2 : Int) + (2 : Int))) (2 : Int)), Dat.n n0, Dat.n n1, Dat.n n2, Dat.n n3, Dat.b false, Dat.n (0 : Int)])) (nat_lit 3)), Dat.n (gn (dOf (op_25a [Dat.n (Int.tmod (IntKind.wrap IntKind.i64 (Int.tmod n8 (2 : Int) + (2 : Int))) (2 : Int)), Dat.n n0, Dat.n n1, Dat.n n2, Dat.n n3, Dat.b false, Dat.n (0 : Int)])) (nat_lit 4)), Dat.n (gn (dOf (op_25a [Dat.n (Int.tmod (IntKind.wrap IntKind.i64 (Int.tmod n8 (2 : Int) + (2 : Int))) (2 : Int)), Dat.n n0, Dat.n n1, Dat.n n2, Dat.n n3, Dat.b false, Dat.n (0 : Int)])) (nat_lit 5)), Dat.n (gn (dOf (op_25a [Dat.n (Int.tmod (IntKind.wrap IntKind.i64 (Int.tmod n8 (2 : Int) + (2 : Int))) (2 : Int)), Dat.n n0, Dat.n n1, Dat.n n2, Dat.n n3, Dat.b false, Dat.n (0 : Int)])) (nat_lit 6))])) (nat_lit 6) == n3 && true) && true))))
                 (.leaf (false))
                 (.leaf (true)))))))
            (.bad 351))))
         (.bad 351))))))
  | _ => .bad 0
theorem fn_W5_eq (n0 : Int) (n1 : Int) (n2 : Int) (n3 : Int) (n4 : Int) (n5 : Int) (n6 : Int) (n7 : Int) (n8 : Int) : ((fun (d : List Dat) => lawB false Try.prog cs_25c 5 ls0 (instL [frV 0, frV 4, .int .i64 8] d)) [.n n0, .n n1, .n n2, .n n3, .n n4, .n n5, .n n6, .n n7, .n n8]).sel = (fn_W5 [.n n0, .n n1, .n n2, .n n3, .n n4, .n n5, .n n6, .n n7, .n n8]).sel := by kernel_rfl
theorem W5_law (env : List Dat) (h : (fn_W5 env).sel = some true) {w : World} {args : Array Value} (ha : LRel R0 (snapOf w) (instL [frV 0, frV 4, .int .i64 8] env) args) :
    Calls Try.prog 5 args w fun e w' => e = .returned (.bool true) ∧ Below w.heap.size w w' := by
  refine lawB_ok cs_25c_ok hmix false (ls := ls0) (LsOk.none _ _ _) ?_ ha
  unfold fn_W5 at h
  split at h
  · exact (fn_W5_eq _ _ _ _ _ _ _ _ _).trans h
  · cases h
end Go.Proofs.Ytchedebomjmehaa.Vx.Un
namespace Go.Proofs.Ytchedebomjmehaa.Vx.Un
open Go Go.RowKit
set_option linter.unusedVariables false
set_option maxRecDepth 100000
def fr4 (c e a b : Int) : List Dat := [.n c, .n e, .n a, .n b]
theorem eq4 (n0 n1 n2 n3 n4 n5 n6 n7 : Int) : (n0 == n4 && (n1 == n5 && (n2 == n6 && (n3 == n7 && true) && true))) = true → n0 = n4 ∧ n1 = n5 ∧ n2 = n6 ∧ n3 = n7 := by
  intro h; simpa using h
theorem put0 (c e a b : Int) (h : ¬ c < 1) : op_25a [.n 0, .n c, .n e, .n a, .n b, .b false, .n 0] = some (1, [.n 0, .b false, .n 0, .n c, .n e, .n a, .n b]) :=
  (selF rfl).trans ((selF rfl).trans ((selF rfl).trans ((selT rfl).trans ((selF rfl).trans ((selT rfl).trans (selF (df (by omega))))))))
theorem put1 (c e a b : Int) (h : ¬ c < 1) : op_25a [.n 1, .n c, .n e, .n a, .n b, .b false, .n 0] = some (2, [.n 0, .b false, .n 0, .n c, .n e, .n a, .n b]) :=
  (selF rfl).trans ((selF rfl).trans ((selT rfl).trans ((selF rfl).trans ((selF rfl).trans ((selT rfl).trans (selF (df (by omega))))))))
theorem then1 (c e a b c' e' a' b' : Int) (h : ¬ c < 1) : op_25b [.n 1, .n c, .n e, .n a, .n b, .b false, .n 0, .n c', .n e', .n a', .n b'] =
    if (c' == c && (e' == e && (a' == a && (b' == b && true) && true))) = true then some (2, [.n 0, .b false, .n c, .n c, .n e, .n a, .n b]) else some (0, [.n 220, .b true, .n 0]) := by
  refine (selF rfl).trans ((selF rfl).trans ((selT rfl).trans ((selF rfl).trans ((selF rfl).trans ((selT rfl).trans ((selF (df (by omega))).trans ?_))))))
  cases hE : (c' == c && (e' == e && (a' == a && (b' == b && true) && true))) with
  | true => rw [if_pos rfl]; exact selF rfl
  | false => rw [if_neg (by simp)]; exact selT rfl
theorem then0 (c e a b c' e' a' b' : Int) (h : ¬ c < 1) : op_25c [.n 0, .n c, .n e, .n a, .n b, .b false, .n 0, .n c', .n e', .n a', .n b'] =
    if (c' == c && (e' == e && (a' == a && (b' == b && true) && true))) = true then some (2, [.n 0, .b false, .n c, .n c, .n e, .n a, .n b]) else some (0, [.n 220, .b true, .n 0]) := by
  refine (selF rfl).trans ((selF rfl).trans ((selF rfl).trans ((selT rfl).trans ((selF rfl).trans ((selT rfl).trans ((selF (df (by omega))).trans ?_))))))
  cases hE : (c' == c && (e' == e && (a' == a && (b' == b && true) && true))) with
  | true => rw [if_pos rfl]; exact selF rfl
  | false => rw [if_neg (by simp)]; exact selT rfl
theorem t5 (n0 n1 n2 n3 n4 n5 n6 n7 n8 : Int) : (fn_W5 [.n n0, .n n1, .n n2, .n n3, .n n4, .n n5, .n n6, .n n7, .n n8]).sel = some true := by
  unfold fn_W5
  have hp := pick2 n8
  dsimp only
  generalize Int.tmod (IntKind.wrap IntKind.i64 (Int.tmod n8 (2 : Int) + (2 : Int))) (2 : Int) = A at hp ⊢
  by_cases a1 : n0 < 1
  · exact selT (dt a1)
  refine (selF (df a1)).trans ?_
  by_cases a2 : n4 < 1
  · exact selT (dt a2)
  refine (selF (df a2)).trans ?_
  rcases hp with rfl | rfl
  · have e1 := put0 n0 n1 n2 n3 a1
    have e2 := then1 n4 n5 n6 n7 n0 n1 n2 n3 a2
    have w : IntKind.wrap IntKind.i64 ((1 : Int) - 0) = 1 := rfl
    rw [e1, w]
    refine (selF rfl).trans ((selT rfl).trans ?_)
    have e2' : op_25b [Dat.n 1, Dat.n n4, Dat.n n5, Dat.n n6, Dat.n n7, Dat.b (gb (dOf (some (1, [Dat.n 0, Dat.b false, Dat.n 0, Dat.n n0, Dat.n n1, Dat.n n2, Dat.n n3]))) 1), Dat.n (gn (dOf (some (1, [Dat.n 0, Dat.b false, Dat.n 0, Dat.n n0, Dat.n n1, Dat.n n2, Dat.n n3]))) 2), Dat.n (gn (dOf (some (1, [Dat.n 0, Dat.b false, Dat.n 0, Dat.n n0, Dat.n n1, Dat.n n2, Dat.n n3]))) 3), Dat.n (gn (dOf (some (1, [Dat.n 0, Dat.b false, Dat.n 0, Dat.n n0, Dat.n n1, Dat.n n2, Dat.n n3]))) 4), Dat.n (gn (dOf (some (1, [Dat.n 0, Dat.b false, Dat.n 0, Dat.n n0, Dat.n n1, Dat.n n2, Dat.n n3]))) 5), Dat.n (gn (dOf (some (1, [Dat.n 0, Dat.b false, Dat.n 0, Dat.n n0, Dat.n n1, Dat.n n2, Dat.n n3]))) 6)] = _ := e2
    rw [e2']
    cases hE : (n0 == n4 && (n1 == n5 && (n2 == n6 && (n3 == n7 && true) && true))) with
    | false => rw [if_neg (by simp)]; exact (selT rfl).trans ((selF rfl).trans ((selF rfl).trans ((selF rfl).trans (selF rfl))))
    | true =>
      obtain ⟨rfl, rfl, rfl, rfl⟩ := eq4 _ _ _ _ _ _ _ _ hE
      rw [if_pos rfl]
      exact (selF rfl).trans ((selF rfl).trans ((selT rfl).trans ((selF rfl).trans ((selF rfl).trans ((selF rfl).trans ((selF rfl).trans (selF (nt hE))))))))
  · have e1 := put1 n0 n1 n2 n3 a1
    have e2 := then0 n4 n5 n6 n7 n0 n1 n2 n3 a2
    have w : IntKind.wrap IntKind.i64 ((1 : Int) - 1) = 0 := rfl
    rw [e1, w]
    refine (selF rfl).trans ((selF rfl).trans ((selT rfl).trans ?_))
    have e2' : op_25c [Dat.n 0, Dat.n n4, Dat.n n5, Dat.n n6, Dat.n n7, Dat.b (gb (dOf (some (2, [Dat.n 0, Dat.b false, Dat.n 0, Dat.n n0, Dat.n n1, Dat.n n2, Dat.n n3]))) 1), Dat.n (gn (dOf (some (2, [Dat.n 0, Dat.b false, Dat.n 0, Dat.n n0, Dat.n n1, Dat.n n2, Dat.n n3]))) 2), Dat.n (gn (dOf (some (2, [Dat.n 0, Dat.b false, Dat.n 0, Dat.n n0, Dat.n n1, Dat.n n2, Dat.n n3]))) 3), Dat.n (gn (dOf (some (2, [Dat.n 0, Dat.b false, Dat.n 0, Dat.n n0, Dat.n n1, Dat.n n2, Dat.n n3]))) 4), Dat.n (gn (dOf (some (2, [Dat.n 0, Dat.b false, Dat.n 0, Dat.n n0, Dat.n n1, Dat.n n2, Dat.n n3]))) 5), Dat.n (gn (dOf (some (2, [Dat.n 0, Dat.b false, Dat.n 0, Dat.n n0, Dat.n n1, Dat.n n2, Dat.n n3]))) 6)] = _ := e2
    rw [e2']
    cases hE : (n0 == n4 && (n1 == n5 && (n2 == n6 && (n3 == n7 && true) && true))) with
    | false => rw [if_neg (by simp)]; exact (selT rfl).trans ((selF rfl).trans ((selF rfl).trans ((selF rfl).trans (selF rfl))))
    | true =>
      obtain ⟨rfl, rfl, rfl, rfl⟩ := eq4 _ _ _ _ _ _ _ _ hE
      rw [if_pos rfl]
      exact (selF rfl).trans ((selF rfl).trans ((selT rfl).trans ((selF rfl).trans ((selF rfl).trans ((selF rfl).trans ((selF rfl).trans (selF (nt hE))))))))
end Go.Proofs.Ytchedebomjmehaa.Vx.Un
