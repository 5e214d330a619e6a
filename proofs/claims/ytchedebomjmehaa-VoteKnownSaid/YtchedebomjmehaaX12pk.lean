import Derived.Test.YtchedebomjmehaaVxIm
import Derived.Test.YtchedebomjmehaaVxLk
import Derived.KernelRfl
namespace Go.Proofs.Ytchedebomjmehaa.Vx.Pl
open Go Go.RowKit
set_option linter.unusedVariables false
set_option linter.unusedSimpArgs false
set_option maxRecDepth 100000
set_option maxHeartbeats 0

abbrev TFr : Ty := .pair (.int .i64) (.pair (.int .i64) (.pair (.int .u64) (.int .u32)))
abbrev TCl : Ty := .pair (.int .i64) (.pair (.int .i64) TFr)
def frV (h : Nat) : PV := .agg [.int .i64 h, .int .i64 (h+1), .int .u64 (h+2), .int .u32 (h+3)]
def clV (h : Nat) : PV := .agg [.int .i64 h, .int .i64 (h+1), .int .i64 (h+2), .int .i64 (h+3), .int .u64 (h+4), .int .u32 (h+5)]
def frB (h : Nat) : PB := .cells [.int .i64 h, .int .i64 (h+1), .int .u64 (h+2), .int .u32 (h+3)]
def vtB (a b c : PV) (h : Nat) : PB := .cells [a, b, c, .bool h, .int .i64 (h+1)]
def reB (h : Nat) : PB := .cells [.arrd .bool 2 h, .arrd TFr 2 (h+1), .bool (h+2), .int .i64 (h+3), .int .i64 (h+4), .int .u64 (h+5), .int .u32 (h+6), .int .i64 (h+7), .bool (h+8)]
abbrev D := List Dat
def fro (c e a b : Int) : Ty.den TFr := (c, e, a, b)
def fr0 : Ty.den TFr := ((0 : Int), (0 : Int), (0 : Int), (0 : Int))
def B2 (a b : Bool) : List (Ty.den .bool) := [a, b]
def F2 (a b : Ty.den TFr) : List (Ty.den TFr) := [a, b]
/-- A frame's data. -/
def frD (c e a b : Int) : D := [.n c, .n e, .n a, .n b]
/-- A state: the comparator's, the reference's, the frames'. -/
def sd0 (st : Bool) (n : Int) : D := [.b st, .n n, .l .bool (B2 false false), .l TFr (F2 fr0 fr0), .b false, .n 0, .n 0, .n 0, .n 0, .n n, .b st]
def sd1 (n c e a b : Int) : D := [.b false, .n n, .l .bool (B2 true false), .l TFr (F2 (fro c e a b) fr0), .b false, .n 0, .n 0, .n 0, .n 0, .n n, .b false, .n c, .n e, .n a, .n b]
def sd2 (n c e a b : Int) : D := [.b false, .n n, .l .bool (B2 false true), .l TFr (F2 fr0 (fro c e a b)), .b false, .n 0, .n 0, .n 0, .n 0, .n n, .b false, .n c, .n e, .n a, .n b]
def sd3 (n c e a b : Int) : D := [.b false, .n n, .l .bool (B2 false false), .l TFr (F2 fr0 fr0), .b true, .n c, .n e, .n a, .n b, .n n, .b false, .n c, .n e, .n a, .n b]
def sd4 (n c e a b x y z u : Int) : D := [.b false, .n n, .l .bool (B2 true false), .l TFr (F2 (fro x y z u) fr0), .b true, .n c, .n e, .n a, .n b, .n n, .b false, .n x, .n y, .n z, .n u, .n c, .n e, .n a, .n b]
def sd5 (n c e a b x y z u : Int) : D := [.b false, .n n, .l .bool (B2 false true), .l TFr (F2 fr0 (fro x y z u)), .b true, .n c, .n e, .n a, .n b, .n n, .b false, .n x, .n y, .n z, .n u, .n c, .n e, .n a, .n b]
theorem hmix : Try.prog.follows .mixedOrders = true := by kernel_rfl
theorem csNone_ok0 : CsOk Try.prog csNone := csNone_ok _

def op_14 : List Dat → Option (Nat × List Dat) := fun _ => some (0, [.b true])
def B14 : FBox := mkF [] [] [] [(.bool 0, [])] op_14
theorem fn_14_ok (env : List Dat) (y : Nat × List Dat) (h : op_14 env = some y) : (boxC true Try.prog csNone 14 ls0 (mkF [] [] [] [(.bool 0, [])] fun _ => none) env).sel = some y := by
  cases h
  rw [← boxC_lk]
  kernel_rfl
theorem B14_ok : RunOk Try.prog 14 (boxRun B14) := mkF_ok (op := op_14) csNone_ok0 hmix true (LsOk.none _ _ _) fn_14_ok

noncomputable def cs_14 : FuncId → Option CSpec := csAdd 14 [B14] csNone
theorem cs_14_ok : CsOk Try.prog cs_14 := csAdd_ok csNone_ok0 fun B hB => by
  cases List.mem_singleton.1 hB
  exact B14_ok

noncomputable def ev_16a (env : List Dat) : Tree (Nat × List Dat) := Lk.boxC false LK cs_14 16 ls0 (mkF [.ptr 0 0, .ptr 1 0, clV 0] [vtB (.nilptr) (.nilptr) (.nilptr) 6, reB 8] [0, 1] [(.bool 0, [vtB (.nilptr) (.nilptr) (.nilptr) 1, reB 3]), (.bool 0, [vtB (.ptr 2 0) (.nilptr) (.nilptr) 1, reB 3, frB 12]), (.bool 0, [vtB (.nilptr) (.ptr 2 0) (.nilptr) 1, reB 3, frB 12])] fun _ => none) env
noncomputable def op_16a : List Dat → Option (Nat × List Dat) := fun env => (ev_16a env).sel
noncomputable def B16a : FBox := mkF [.ptr 0 0, .ptr 1 0, clV 0] [vtB (.nilptr) (.nilptr) (.nilptr) 6, reB 8] [0, 1] [(.bool 0, [vtB (.nilptr) (.nilptr) (.nilptr) 1, reB 3]), (.bool 0, [vtB (.ptr 2 0) (.nilptr) (.nilptr) 1, reB 3, frB 12]), (.bool 0, [vtB (.nilptr) (.ptr 2 0) (.nilptr) 1, reB 3, frB 12])] op_16a
theorem B16a_ok : RunOk Try.prog 16 (boxRun B16a) := mkF_ok (op := op_16a) cs_14_ok hmix false (LsOk.none _ _ _) (fun env x h => by rw [← boxC_lk]; exact h)
theorem op_16a_eq (env : List Dat) : op_16a env = (ev_16a env).sel := by kernel_rfl
theorem op_16a_good {p : Nat × List Dat → Prop} {T : Tree (Nat × List Dat)} {env : List Dat} (h : Imp T (ev_16a env)) (g : Good p T.sel) : Good p (op_16a env) := by
  rw [op_16a_eq]
  exact h.good g

noncomputable def fn_16a_a : List Dat → Tree (Nat × List Dat)
  | [.n n0, .n n1, .n n2, .n n3, .n n4, .b b5, .n n6] =>
    (.node (Int.tmod (IntKind.wrap .i64 (Int.tmod n0 (6 : Int) + (6 : Int))) (6 : Int) == (3 : Int))
     (.node (b5)
      (.leaf ((0, [.b true, .b true, .n n6, .l Ty.bool [false, false], .l (Ty.pair (Ty.int IntKind.i64) (Ty.pair (Ty.int IntKind.i64) (Ty.pair (Ty.int IntKind.u64) (Ty.int IntKind.u32)))) [((0 : Int), (0 : Int), (0 : Int), (0 : Int)), ((0 : Int), (0 : Int), (0 : Int), (0 : Int))], .b false, .n (0 : Int), .n (0 : Int), .n (0 : Int), .n (0 : Int), .n n6, .b b5])))
      (.leaf ((0, [.b true, .b b5, .n n6, .l Ty.bool [false, false], .l (Ty.pair (Ty.int IntKind.i64) (Ty.pair (Ty.int IntKind.i64) (Ty.pair (Ty.int IntKind.u64) (Ty.int IntKind.u32)))) [((0 : Int), (0 : Int), (0 : Int), (0 : Int)), ((0 : Int), (0 : Int), (0 : Int), (0 : Int))], .b false, .n (0 : Int), .n (0 : Int), .n (0 : Int), .n (0 : Int), .n n6, .b b5]))))
     (.node (Int.tmod (IntKind.wrap .i64 (Int.tmod n0 (6 : Int) + (6 : Int))) (6 : Int) == (4 : Int))
      (.leaf ((0, [.b true, .b false, .n n6, .l Ty.bool (List.replicate 2 false), .l (Ty.pair (Ty.int IntKind.i64) (Ty.pair (Ty.int IntKind.i64) (Ty.pair (Ty.int IntKind.u64) (Ty.int IntKind.u32)))) (List.replicate 2 (Ty.dflt (Ty.pair (Ty.int IntKind.i64) (Ty.pair (Ty.int IntKind.i64) (Ty.pair (Ty.int IntKind.u64) (Ty.int IntKind.u32)))))), .b false, .n (0 : Int), .n (0 : Int), .n (0 : Int), .n (0 : Int), .n n6, .b false])))
      (.node (Int.tmod (IntKind.wrap .i64 (Int.tmod n0 (6 : Int) + (6 : Int))) (6 : Int) == (5 : Int))
       (.leaf ((0, [.b true, .b true, .n n6, .l Ty.bool (List.replicate 2 false), .l (Ty.pair (Ty.int IntKind.i64) (Ty.pair (Ty.int IntKind.i64) (Ty.pair (Ty.int IntKind.u64) (Ty.int IntKind.u32)))) (List.replicate 2 (Ty.dflt (Ty.pair (Ty.int IntKind.i64) (Ty.pair (Ty.int IntKind.i64) (Ty.pair (Ty.int IntKind.u64) (Ty.int IntKind.u32)))))), .b false, .n (0 : Int), .n (0 : Int), .n (0 : Int), .n (0 : Int), .n n6, .b true])))
       (.node (b5)
        (.leaf ((0, [.b true, .b true, .n n6, .l Ty.bool [false, false], .l (Ty.pair (Ty.int IntKind.i64) (Ty.pair (Ty.int IntKind.i64) (Ty.pair (Ty.int IntKind.u64) (Ty.int IntKind.u32)))) [((0 : Int), (0 : Int), (0 : Int), (0 : Int)), ((0 : Int), (0 : Int), (0 : Int), (0 : Int))], .b false, .n (0 : Int), .n (0 : Int), .n (0 : Int), .n (0 : Int), .n n6, .b b5])))
        (.node (decide (n1 ≤ n6))
         (.leaf ((0, [.b true, .b true, .n n6, .l Ty.bool (List.replicate 2 false), .l (Ty.pair (Ty.int IntKind.i64) (Ty.pair (Ty.int IntKind.i64) (Ty.pair (Ty.int IntKind.u64) (Ty.int IntKind.u32)))) (List.replicate 2 (Ty.dflt (Ty.pair (Ty.int IntKind.i64) (Ty.pair (Ty.int IntKind.i64) (Ty.pair (Ty.int IntKind.u64) (Ty.int IntKind.u32)))))), .b false, .n (0 : Int), .n (0 : Int), .n (0 : Int), .n (0 : Int), .n n6, .b true])))
         (.leaf ((1, [.b true, .b b5, .n n6, .l Ty.bool (List.set [false, false] 0 true), .l (Ty.pair (Ty.int IntKind.i64) (Ty.pair (Ty.int IntKind.i64) (Ty.pair (Ty.int IntKind.u64) (Ty.int IntKind.u32)))) (List.set [((0 : Int), (0 : Int), (0 : Int), (0 : Int)), ((0 : Int), (0 : Int), (0 : Int), (0 : Int))] 0 (n1, n2, n3, n4)), .b false, .n (0 : Int), .n (0 : Int), .n (0 : Int), .n (0 : Int), .n n6, .b b5, .n n1, .n n2, .n n3, .n n4]))))))))
  | _ => .bad 0
theorem fn_16a_a_im (n0 : Int) (n1 : Int) (n2 : Int) (n3 : Int) (n4 : Int) (b5 : Bool) (n6 : Int) : Imp (fn_16a_a [.n n0, .n n1, .n n2, .n n3, .n n4, .b b5, .n n6]) (ev_16a ([.n n0, .n 0, .n n1, .n n2, .n n3, .n n4] ++ sd0 b5 n6)) :=
(((((.path [1,0,1,1,1] (by kernel_rfl)
(.node (by kernel_rfl) (by kernel_rfl) (fun h0 =>
((.path [1,0] (by kernel_rfl)
(.node (by kernel_rfl) (by kernel_rfl) (fun h1 =>
(((((((((((((.path [1,1,1,1,1,1,1,1,1,1,0,1,0] (by kernel_rfl)
(.pt (by kernel_rfl) (by kernel_rfl) h1
((.path [1,1] (by kernel_rfl)
(.leaf (by kernel_rfl))))))))))))))))))) (fun h1 =>
(((((((((((.path [1,0,0,1,0,1,1,1,0,1,0] (by kernel_rfl)
(.pf (by kernel_rfl) (by kernel_rfl) h1
((.path [1,1] (by kernel_rfl)
(.leaf (by kernel_rfl))))))))))))))))))))) (fun h0 =>
(.node (by kernel_rfl) (by kernel_rfl) (fun h1 =>
((((((.path [1,1,1,1,1,1] (by kernel_rfl)
(.leaf (by kernel_rfl))))))))) (fun h1 =>
(.node (by kernel_rfl) (by kernel_rfl) (fun h2 =>
((((((.path [1,1,1,1,1,1] (by kernel_rfl)
(.leaf (by kernel_rfl))))))))) (fun h2 =>
((((((.path [1,0,0,0,0,1] (by kernel_rfl)
(.node (by kernel_rfl) (by kernel_rfl) (fun h3 =>
(((((((((((((((((.path [1,1,1,1,1,1,1,1,1,1,1,1,1,1,0,0,0] (by kernel_rfl)
(.pt (by kernel_rfl) (by kernel_rfl) h3
(((.path [1,1,1] (by kernel_rfl)
(.leaf (by kernel_rfl)))))))))))))))))))))))) (fun h3 =>
((.path [1,0] (by kernel_rfl)
(.node (by kernel_rfl) (by kernel_rfl) (fun h4 =>
(((((((((((((.path [1,1,1,1,1,1,1,1,1,1,0,0,0] (by kernel_rfl)
(.pf (by kernel_rfl) (by kernel_rfl) h3
((.path [1,0] (by kernel_rfl)
(.pt (by kernel_rfl) (by kernel_rfl) h4
((((((((.path [1,1,1,1,1,1,1,1] (by kernel_rfl)
(.leaf (by kernel_rfl)))))))))))))))))))))))))))) (fun h4 =>
(((((((((((((.path [0,0,1,0,1,1,1,1,1,1,0,0,0] (by kernel_rfl)
(.pf (by kernel_rfl) (by kernel_rfl) h3
((.path [1,0] (by kernel_rfl)
(.pf (by kernel_rfl) (by kernel_rfl) h4
(((((((((((((.path [1,0,0,1,0,1,1,1,1,1,1,1,1] (by kernel_rfl)
(.leaf (by kernel_rfl)))))))))))))))))))))))))))))))))))))))))))))))))))))))

noncomputable def fn_16a_b : List Dat → Tree (Nat × List Dat)
  | [.n n0, .n n1, .n n2, .n n3, .n n4, .b b5, .n n6] =>
    (.node (Int.tmod (IntKind.wrap .i64 (Int.tmod n0 (6 : Int) + (6 : Int))) (6 : Int) == (3 : Int))
     (.node (b5)
      (.leaf ((0, [.b true, .b true, .n n6, .l Ty.bool [false, false], .l (Ty.pair (Ty.int IntKind.i64) (Ty.pair (Ty.int IntKind.i64) (Ty.pair (Ty.int IntKind.u64) (Ty.int IntKind.u32)))) [((0 : Int), (0 : Int), (0 : Int), (0 : Int)), ((0 : Int), (0 : Int), (0 : Int), (0 : Int))], .b false, .n (0 : Int), .n (0 : Int), .n (0 : Int), .n (0 : Int), .n n6, .b b5])))
      (.leaf ((0, [.b true, .b b5, .n n6, .l Ty.bool [false, false], .l (Ty.pair (Ty.int IntKind.i64) (Ty.pair (Ty.int IntKind.i64) (Ty.pair (Ty.int IntKind.u64) (Ty.int IntKind.u32)))) [((0 : Int), (0 : Int), (0 : Int), (0 : Int)), ((0 : Int), (0 : Int), (0 : Int), (0 : Int))], .b false, .n (0 : Int), .n (0 : Int), .n (0 : Int), .n (0 : Int), .n n6, .b b5]))))
     (.node (Int.tmod (IntKind.wrap .i64 (Int.tmod n0 (6 : Int) + (6 : Int))) (6 : Int) == (4 : Int))
      (.leaf ((0, [.b true, .b false, .n n6, .l Ty.bool (List.replicate 2 false), .l (Ty.pair (Ty.int IntKind.i64) (Ty.pair (Ty.int IntKind.i64) (Ty.pair (Ty.int IntKind.u64) (Ty.int IntKind.u32)))) (List.replicate 2 (Ty.dflt (Ty.pair (Ty.int IntKind.i64) (Ty.pair (Ty.int IntKind.i64) (Ty.pair (Ty.int IntKind.u64) (Ty.int IntKind.u32)))))), .b false, .n (0 : Int), .n (0 : Int), .n (0 : Int), .n (0 : Int), .n n6, .b false])))
      (.node (Int.tmod (IntKind.wrap .i64 (Int.tmod n0 (6 : Int) + (6 : Int))) (6 : Int) == (5 : Int))
       (.leaf ((0, [.b true, .b true, .n n6, .l Ty.bool (List.replicate 2 false), .l (Ty.pair (Ty.int IntKind.i64) (Ty.pair (Ty.int IntKind.i64) (Ty.pair (Ty.int IntKind.u64) (Ty.int IntKind.u32)))) (List.replicate 2 (Ty.dflt (Ty.pair (Ty.int IntKind.i64) (Ty.pair (Ty.int IntKind.i64) (Ty.pair (Ty.int IntKind.u64) (Ty.int IntKind.u32)))))), .b false, .n (0 : Int), .n (0 : Int), .n (0 : Int), .n (0 : Int), .n n6, .b true])))
       (.node (b5)
        (.leaf ((0, [.b true, .b true, .n n6, .l Ty.bool [false, false], .l (Ty.pair (Ty.int IntKind.i64) (Ty.pair (Ty.int IntKind.i64) (Ty.pair (Ty.int IntKind.u64) (Ty.int IntKind.u32)))) [((0 : Int), (0 : Int), (0 : Int), (0 : Int)), ((0 : Int), (0 : Int), (0 : Int), (0 : Int))], .b false, .n (0 : Int), .n (0 : Int), .n (0 : Int), .n (0 : Int), .n n6, .b b5])))
        (.node (decide (n1 ≤ n6))
         (.leaf ((0, [.b true, .b true, .n n6, .l Ty.bool (List.replicate 2 false), .l (Ty.pair (Ty.int IntKind.i64) (Ty.pair (Ty.int IntKind.i64) (Ty.pair (Ty.int IntKind.u64) (Ty.int IntKind.u32)))) (List.replicate 2 (Ty.dflt (Ty.pair (Ty.int IntKind.i64) (Ty.pair (Ty.int IntKind.i64) (Ty.pair (Ty.int IntKind.u64) (Ty.int IntKind.u32)))))), .b false, .n (0 : Int), .n (0 : Int), .n (0 : Int), .n (0 : Int), .n n6, .b true])))
         (.leaf ((2, [.b true, .b b5, .n n6, .l Ty.bool (List.set [false, false] 1 true), .l (Ty.pair (Ty.int IntKind.i64) (Ty.pair (Ty.int IntKind.i64) (Ty.pair (Ty.int IntKind.u64) (Ty.int IntKind.u32)))) (List.set [((0 : Int), (0 : Int), (0 : Int), (0 : Int)), ((0 : Int), (0 : Int), (0 : Int), (0 : Int))] 1 (n1, n2, n3, n4)), .b false, .n (0 : Int), .n (0 : Int), .n (0 : Int), .n (0 : Int), .n n6, .b b5, .n n1, .n n2, .n n3, .n n4]))))))))
  | _ => .bad 0
theorem fn_16a_b_im (n0 : Int) (n1 : Int) (n2 : Int) (n3 : Int) (n4 : Int) (b5 : Bool) (n6 : Int) : Imp (fn_16a_b [.n n0, .n n1, .n n2, .n n3, .n n4, .b b5, .n n6]) (ev_16a ([.n n0, .n 1, .n n1, .n n2, .n n3, .n n4] ++ sd0 b5 n6)) :=
(((((.path [1,0,1,1,1] (by kernel_rfl)
(.node (by kernel_rfl) (by kernel_rfl) (fun h0 =>
((.path [1,0] (by kernel_rfl)
(.node (by kernel_rfl) (by kernel_rfl) (fun h1 =>
(((((((((((((.path [1,1,1,1,1,1,1,1,1,1,0,1,0] (by kernel_rfl)
(.pt (by kernel_rfl) (by kernel_rfl) h1
((.path [1,1] (by kernel_rfl)
(.leaf (by kernel_rfl))))))))))))))))))) (fun h1 =>
(((((((((((.path [1,0,0,1,0,1,1,1,0,1,0] (by kernel_rfl)
(.pf (by kernel_rfl) (by kernel_rfl) h1
((.path [1,1] (by kernel_rfl)
(.leaf (by kernel_rfl))))))))))))))))))))) (fun h0 =>
(.node (by kernel_rfl) (by kernel_rfl) (fun h1 =>
((((((.path [1,1,1,1,1,1] (by kernel_rfl)
(.leaf (by kernel_rfl))))))))) (fun h1 =>
(.node (by kernel_rfl) (by kernel_rfl) (fun h2 =>
((((((.path [1,1,1,1,1,1] (by kernel_rfl)
(.leaf (by kernel_rfl))))))))) (fun h2 =>
(((((.path [1,0,0,0,1] (by kernel_rfl)
(.node (by kernel_rfl) (by kernel_rfl) (fun h3 =>
((((((((((((((((.path [1,1,1,1,1,1,1,1,1,1,1,1,1,1,1,0] (by kernel_rfl)
(.pt (by kernel_rfl) (by kernel_rfl) h3
(((.path [1,1,1] (by kernel_rfl)
(.leaf (by kernel_rfl))))))))))))))))))))))) (fun h3 =>
(((.path [0,1,0] (by kernel_rfl)
(.node (by kernel_rfl) (by kernel_rfl) (fun h4 =>
((((((((((((.path [1,1,1,1,1,1,1,1,1,1,1,0] (by kernel_rfl)
(.pf (by kernel_rfl) (by kernel_rfl) h3
((.path [1,0] (by kernel_rfl)
(.pt (by kernel_rfl) (by kernel_rfl) h4
((((((((.path [1,1,1,1,1,1,1,1] (by kernel_rfl)
(.leaf (by kernel_rfl))))))))))))))))))))))))))) (fun h4 =>
(((((((((((((.path [0,0,1,0,1,0,1,1,1,1,1,1,0] (by kernel_rfl)
(.pf (by kernel_rfl) (by kernel_rfl) h3
((.path [1,0] (by kernel_rfl)
(.pf (by kernel_rfl) (by kernel_rfl) h4
(((((((((((((.path [1,0,0,1,0,1,1,1,1,1,1,1,1] (by kernel_rfl)
(.leaf (by kernel_rfl)))))))))))))))))))))))))))))))))))))))))))))))))))))))

noncomputable def fn_16a_c : List Dat → Tree (Nat × List Dat)
  | [.n n0, .n n1, .n n2, .n n3, .n n4, .n n5, .b b6, .n n7] =>
    (.node (Int.tmod (IntKind.wrap .i64 (Int.tmod n0 (6 : Int) + (6 : Int))) (6 : Int) == (3 : Int))
     (.node (b6)
      (.leaf ((0, [.b true, .b true, .n n7, .l Ty.bool [false, false], .l (Ty.pair (Ty.int IntKind.i64) (Ty.pair (Ty.int IntKind.i64) (Ty.pair (Ty.int IntKind.u64) (Ty.int IntKind.u32)))) [((0 : Int), (0 : Int), (0 : Int), (0 : Int)), ((0 : Int), (0 : Int), (0 : Int), (0 : Int))], .b false, .n (0 : Int), .n (0 : Int), .n (0 : Int), .n (0 : Int), .n n7, .b b6])))
      (.leaf ((0, [.b true, .b b6, .n n7, .l Ty.bool [false, false], .l (Ty.pair (Ty.int IntKind.i64) (Ty.pair (Ty.int IntKind.i64) (Ty.pair (Ty.int IntKind.u64) (Ty.int IntKind.u32)))) [((0 : Int), (0 : Int), (0 : Int), (0 : Int)), ((0 : Int), (0 : Int), (0 : Int), (0 : Int))], .b false, .n (0 : Int), .n (0 : Int), .n (0 : Int), .n (0 : Int), .n n7, .b b6]))))
     (.node (Int.tmod (IntKind.wrap .i64 (Int.tmod n0 (6 : Int) + (6 : Int))) (6 : Int) == (4 : Int))
      (.leaf ((0, [.b true, .b false, .n n7, .l Ty.bool (List.replicate 2 false), .l (Ty.pair (Ty.int IntKind.i64) (Ty.pair (Ty.int IntKind.i64) (Ty.pair (Ty.int IntKind.u64) (Ty.int IntKind.u32)))) (List.replicate 2 (Ty.dflt (Ty.pair (Ty.int IntKind.i64) (Ty.pair (Ty.int IntKind.i64) (Ty.pair (Ty.int IntKind.u64) (Ty.int IntKind.u32)))))), .b false, .n (0 : Int), .n (0 : Int), .n (0 : Int), .n (0 : Int), .n n7, .b false])))
      (.node (Int.tmod (IntKind.wrap .i64 (Int.tmod n0 (6 : Int) + (6 : Int))) (6 : Int) == (5 : Int))
       (.leaf ((0, [.b true, .b true, .n n7, .l Ty.bool (List.replicate 2 false), .l (Ty.pair (Ty.int IntKind.i64) (Ty.pair (Ty.int IntKind.i64) (Ty.pair (Ty.int IntKind.u64) (Ty.int IntKind.u32)))) (List.replicate 2 (Ty.dflt (Ty.pair (Ty.int IntKind.i64) (Ty.pair (Ty.int IntKind.i64) (Ty.pair (Ty.int IntKind.u64) (Ty.int IntKind.u32)))))), .b false, .n (0 : Int), .n (0 : Int), .n (0 : Int), .n (0 : Int), .n n7, .b true])))
       (.node (decide (n1 < (0 : Int)))
        (.leaf ((0, [.b true, .b b6, .n n7, .l Ty.bool [false, false], .l (Ty.pair (Ty.int IntKind.i64) (Ty.pair (Ty.int IntKind.i64) (Ty.pair (Ty.int IntKind.u64) (Ty.int IntKind.u32)))) [((0 : Int), (0 : Int), (0 : Int), (0 : Int)), ((0 : Int), (0 : Int), (0 : Int), (0 : Int))], .b false, .n (0 : Int), .n (0 : Int), .n (0 : Int), .n (0 : Int), .n n7, .b b6])))
        (.leaf ((0, [.b true, .b b6, .n n7, .l Ty.bool [false, false], .l (Ty.pair (Ty.int IntKind.i64) (Ty.pair (Ty.int IntKind.i64) (Ty.pair (Ty.int IntKind.u64) (Ty.int IntKind.u32)))) [((0 : Int), (0 : Int), (0 : Int), (0 : Int)), ((0 : Int), (0 : Int), (0 : Int), (0 : Int))], .b false, .n (0 : Int), .n (0 : Int), .n (0 : Int), .n (0 : Int), .n n7, .b b6])))))))
  | _ => .bad 0
theorem fn_16a_c_im (n0 : Int) (n1 : Int) (n2 : Int) (n3 : Int) (n4 : Int) (n5 : Int) (b6 : Bool) (n7 : Int) (g0 : n1 ≠ 0) (g1 :  n1 ≠ 1) : Imp (fn_16a_c [.n n0, .n n1, .n n2, .n n3, .n n4, .n n5, .b b6, .n n7]) (ev_16a ([.n n0, .n n1, .n n2, .n n3, .n n4, .n n5] ++ sd0 b6 n7)) :=
(((((.path [1,0,1,1,1] (by kernel_rfl)
(.node (by kernel_rfl) (by kernel_rfl) (fun h0 =>
((.path [1,0] (by kernel_rfl)
(.node (by kernel_rfl) (by kernel_rfl) (fun h1 =>
(((((((((((((.path [1,1,1,1,1,1,1,1,1,1,0,1,0] (by kernel_rfl)
(.pt (by kernel_rfl) (by kernel_rfl) h1
((.path [1,1] (by kernel_rfl)
(.leaf (by kernel_rfl))))))))))))))))))) (fun h1 =>
(((((((((((.path [1,0,0,1,0,1,1,1,0,1,0] (by kernel_rfl)
(.pf (by kernel_rfl) (by kernel_rfl) h1
((.path [1,1] (by kernel_rfl)
(.leaf (by kernel_rfl))))))))))))))))))))) (fun h0 =>
(.node (by kernel_rfl) (by kernel_rfl) (fun h1 =>
((((((.path [1,1,1,1,1,1] (by kernel_rfl)
(.leaf (by kernel_rfl))))))))) (fun h1 =>
(.node (by kernel_rfl) (by kernel_rfl) (fun h2 =>
((((((.path [1,1,1,1,1,1] (by kernel_rfl)
(.leaf (by kernel_rfl))))))))) (fun h2 =>
((.path [1,0] (by kernel_rfl)
(.node (by kernel_rfl) (by kernel_rfl) (fun h3 =>
((((((.path [1,1,1,1,1,1] (by kernel_rfl)
(.pt (c := (n1 != (0 : Int))) (by kernel_rfl) (by kernel_rfl) (by (simp [*]; done))
(.pt (c := (n1 != (1 : Int))) (by kernel_rfl) (by kernel_rfl) (by (simp [*]; done))
(((.path [1,1,1] (by kernel_rfl)
(.leaf (by kernel_rfl)))))))))))))) (fun h3 =>
(.pt (c := (decide (n1 ≥ (2 : Int)))) (by kernel_rfl) (by kernel_rfl) (by (simp only [decide_eq_true_eq, decide_eq_false_iff_not, beq_iff_eq, beq_eq_false_iff_ne, bne_iff_ne, ne_eq, inR, Bool.and_eq_true, Bool.and_eq_false_iff, Bool.not_eq_true', Bool.not_eq_false', Bool.not_eq_eq_eq_not, Bool.not_true, Bool.not_false] at *; omega))
((((.path [1,1,1,1] (by kernel_rfl)
(.pt (c := (n1 != (0 : Int))) (by kernel_rfl) (by kernel_rfl) (by (simp [*]; done))
(.pt (c := (n1 != (1 : Int))) (by kernel_rfl) (by kernel_rfl) (by (simp [*]; done))
(((.path [1,1,1] (by kernel_rfl)
(.leaf (by kernel_rfl)))))))))))))))))))))))))))

noncomputable def ev_16b (env : List Dat) : Tree (Nat × List Dat) := Lk.boxC false LK cs_14 16 ls0 (mkF [.ptr 0 0, .ptr 1 0, clV 0] [vtB (.ptr 2 0) (.nilptr) (.nilptr) 6, reB 8, frB 17] [0, 1] [(.bool 0, [vtB (.nilptr) (.nilptr) (.nilptr) 1, reB 3, .gone]), (.bool 0, [vtB (.ptr 2 0) (.nilptr) (.nilptr) 1, reB 3, frB 12]), (.bool 0, [vtB (.nilptr) (.nilptr) (.ptr 3 0) 1, reB 3, .gone, frB 12])] fun _ => none) env
noncomputable def op_16b : List Dat → Option (Nat × List Dat) := fun env => (ev_16b env).sel
noncomputable def B16b : FBox := mkF [.ptr 0 0, .ptr 1 0, clV 0] [vtB (.ptr 2 0) (.nilptr) (.nilptr) 6, reB 8, frB 17] [0, 1] [(.bool 0, [vtB (.nilptr) (.nilptr) (.nilptr) 1, reB 3, .gone]), (.bool 0, [vtB (.ptr 2 0) (.nilptr) (.nilptr) 1, reB 3, frB 12]), (.bool 0, [vtB (.nilptr) (.nilptr) (.ptr 3 0) 1, reB 3, .gone, frB 12])] op_16b
theorem B16b_ok : RunOk Try.prog 16 (boxRun B16b) := mkF_ok (op := op_16b) cs_14_ok hmix false (LsOk.none _ _ _) (fun env x h => by rw [← boxC_lk]; exact h)
theorem op_16b_eq (env : List Dat) : op_16b env = (ev_16b env).sel := by kernel_rfl
theorem op_16b_good {p : Nat × List Dat → Prop} {T : Tree (Nat × List Dat)} {env : List Dat} (h : Imp T (ev_16b env)) (g : Good p T.sel) : Good p (op_16b env) := by
  rw [op_16b_eq]
  exact h.good g

noncomputable def fn_16b_a : List Dat → Tree (Nat × List Dat)
  | [.n n0, .n n1, .n n2, .n n3, .n n4, .n n5, .n n6, .n n7, .n n8, .n n9] =>
    (.node (Int.tmod (IntKind.wrap .i64 (Int.tmod n0 (6 : Int) + (6 : Int))) (6 : Int) == (3 : Int))
     (.leaf ((0, [.b true, .b true, .n n5, .l Ty.bool (List.replicate 2 false), .l (Ty.pair (Ty.int IntKind.i64) (Ty.pair (Ty.int IntKind.i64) (Ty.pair (Ty.int IntKind.u64) (Ty.int IntKind.u32)))) (List.replicate 2 (Ty.dflt (Ty.pair (Ty.int IntKind.i64) (Ty.pair (Ty.int IntKind.i64) (Ty.pair (Ty.int IntKind.u64) (Ty.int IntKind.u32)))))), .b false, .n (0 : Int), .n (0 : Int), .n (0 : Int), .n (0 : Int), .n n5, .b true])))
     (.node (Int.tmod (IntKind.wrap .i64 (Int.tmod n0 (6 : Int) + (6 : Int))) (6 : Int) == (4 : Int))
      (.leaf ((0, [.b true, .b false, .n n5, .l Ty.bool (List.replicate 2 false), .l (Ty.pair (Ty.int IntKind.i64) (Ty.pair (Ty.int IntKind.i64) (Ty.pair (Ty.int IntKind.u64) (Ty.int IntKind.u32)))) (List.replicate 2 (Ty.dflt (Ty.pair (Ty.int IntKind.i64) (Ty.pair (Ty.int IntKind.i64) (Ty.pair (Ty.int IntKind.u64) (Ty.int IntKind.u32)))))), .b false, .n (0 : Int), .n (0 : Int), .n (0 : Int), .n (0 : Int), .n n5, .b false])))
      (.node (Int.tmod (IntKind.wrap .i64 (Int.tmod n0 (6 : Int) + (6 : Int))) (6 : Int) == (5 : Int))
       (.leaf ((0, [.b true, .b true, .n n5, .l Ty.bool (List.replicate 2 false), .l (Ty.pair (Ty.int IntKind.i64) (Ty.pair (Ty.int IntKind.i64) (Ty.pair (Ty.int IntKind.u64) (Ty.int IntKind.u32)))) (List.replicate 2 (Ty.dflt (Ty.pair (Ty.int IntKind.i64) (Ty.pair (Ty.int IntKind.i64) (Ty.pair (Ty.int IntKind.u64) (Ty.int IntKind.u32)))))), .b false, .n (0 : Int), .n (0 : Int), .n (0 : Int), .n (0 : Int), .n n5, .b true])))
       (.leaf ((0, [.b true, .b true, .n n5, .l Ty.bool (List.replicate 2 false), .l (Ty.pair (Ty.int IntKind.i64) (Ty.pair (Ty.int IntKind.i64) (Ty.pair (Ty.int IntKind.u64) (Ty.int IntKind.u32)))) (List.replicate 2 (Ty.dflt (Ty.pair (Ty.int IntKind.i64) (Ty.pair (Ty.int IntKind.i64) (Ty.pair (Ty.int IntKind.u64) (Ty.int IntKind.u32)))))), .b false, .n (0 : Int), .n (0 : Int), .n (0 : Int), .n (0 : Int), .n n5, .b true]))))))
  | _ => .bad 0
theorem fn_16b_a_im (n0 : Int) (n1 : Int) (n2 : Int) (n3 : Int) (n4 : Int) (n5 : Int) (n6 : Int) (n7 : Int) (n8 : Int) (n9 : Int) : Imp (fn_16b_a [.n n0, .n n1, .n n2, .n n3, .n n4, .n n5, .n n6, .n n7, .n n8, .n n9]) (ev_16b ([.n n0, .n 0, .n n1, .n n2, .n n3, .n n4] ++ sd1 n5 n6 n7 n8 n9)) :=
(((((.path [1,0,1,1,1] (by kernel_rfl)
(.node (by kernel_rfl) (by kernel_rfl) (fun h0 =>
(((((((((((((((((((((.path [1,0,0,1,1,1,1,1,1,1,1,1,1,1,1,1,1,1,1,1,1] (by kernel_rfl)
(.leaf (by kernel_rfl)))))))))))))))))))))))) (fun h0 =>
(.node (by kernel_rfl) (by kernel_rfl) (fun h1 =>
((((((.path [1,1,1,1,1,1] (by kernel_rfl)
(.leaf (by kernel_rfl))))))))) (fun h1 =>
(.node (by kernel_rfl) (by kernel_rfl) (fun h2 =>
((((((.path [1,1,1,1,1,1] (by kernel_rfl)
(.leaf (by kernel_rfl))))))))) (fun h2 =>
(((((((((((((((((((((((((((((((((((((.path (1 ::0 ::0 ::0 ::0 ::1 ::0 ::1 ::1 ::1 ::1 ::1 ::1 ::1 ::1 ::1 ::1 ::1 ::1 ::1 ::1 ::0 ::0 ::0 ::0 ::1 ::1 ::1 ::1 ::1 ::1 ::1 ::1 ::1 ::1 ::1 ::1 :: []) (by kernel_rfl)
(.leaf (by kernel_rfl))))))))))))))))))))))))))))))))))))))))))))))))))

noncomputable def fn_16b_b : List Dat → Tree (Nat × List Dat)
  | [.n n0, .n n1, .n n2, .n n3, .n n4, .n n5, .n n6, .n n7, .n n8, .n n9] =>
    (.node (Int.tmod (IntKind.wrap .i64 (Int.tmod n0 (6 : Int) + (6 : Int))) (6 : Int) == (3 : Int))
     (.leaf ((0, [.b true, .b true, .n n5, .l Ty.bool (List.replicate 2 false), .l (Ty.pair (Ty.int IntKind.i64) (Ty.pair (Ty.int IntKind.i64) (Ty.pair (Ty.int IntKind.u64) (Ty.int IntKind.u32)))) (List.replicate 2 (Ty.dflt (Ty.pair (Ty.int IntKind.i64) (Ty.pair (Ty.int IntKind.i64) (Ty.pair (Ty.int IntKind.u64) (Ty.int IntKind.u32)))))), .b false, .n (0 : Int), .n (0 : Int), .n (0 : Int), .n (0 : Int), .n n5, .b true])))
     (.node (Int.tmod (IntKind.wrap .i64 (Int.tmod n0 (6 : Int) + (6 : Int))) (6 : Int) == (4 : Int))
      (.leaf ((0, [.b true, .b false, .n n5, .l Ty.bool (List.replicate 2 false), .l (Ty.pair (Ty.int IntKind.i64) (Ty.pair (Ty.int IntKind.i64) (Ty.pair (Ty.int IntKind.u64) (Ty.int IntKind.u32)))) (List.replicate 2 (Ty.dflt (Ty.pair (Ty.int IntKind.i64) (Ty.pair (Ty.int IntKind.i64) (Ty.pair (Ty.int IntKind.u64) (Ty.int IntKind.u32)))))), .b false, .n (0 : Int), .n (0 : Int), .n (0 : Int), .n (0 : Int), .n n5, .b false])))
      (.node (Int.tmod (IntKind.wrap .i64 (Int.tmod n0 (6 : Int) + (6 : Int))) (6 : Int) == (5 : Int))
       (.leaf ((0, [.b true, .b true, .n n5, .l Ty.bool (List.replicate 2 false), .l (Ty.pair (Ty.int IntKind.i64) (Ty.pair (Ty.int IntKind.i64) (Ty.pair (Ty.int IntKind.u64) (Ty.int IntKind.u32)))) (List.replicate 2 (Ty.dflt (Ty.pair (Ty.int IntKind.i64) (Ty.pair (Ty.int IntKind.i64) (Ty.pair (Ty.int IntKind.u64) (Ty.int IntKind.u32)))))), .b false, .n (0 : Int), .n (0 : Int), .n (0 : Int), .n (0 : Int), .n n5, .b true])))
       (.node (decide (n1 ≤ n5))
        (.leaf ((0, [.b true, .b true, .n n5, .l Ty.bool (List.replicate 2 false), .l (Ty.pair (Ty.int IntKind.i64) (Ty.pair (Ty.int IntKind.i64) (Ty.pair (Ty.int IntKind.u64) (Ty.int IntKind.u32)))) (List.replicate 2 (Ty.dflt (Ty.pair (Ty.int IntKind.i64) (Ty.pair (Ty.int IntKind.i64) (Ty.pair (Ty.int IntKind.u64) (Ty.int IntKind.u32)))))), .b false, .n (0 : Int), .n (0 : Int), .n (0 : Int), .n (0 : Int), .n n5, .b true])))
        (.node (!(n6 == n1 && (n7 == n2 && (n8 == n3 && (n9 == n4 && true) && true))))
         (.node (!(Prod.fst (List.getD [(n6, n7, n8, n9), ((0 : Int), (0 : Int), (0 : Int), (0 : Int))] 0 (Ty.dflt (Ty.pair (Ty.int IntKind.i64) (Ty.pair (Ty.int IntKind.i64) (Ty.pair (Ty.int IntKind.u64) (Ty.int IntKind.u32)))))) == n1 && (Prod.fst (Prod.snd (List.getD [(n6, n7, n8, n9), ((0 : Int), (0 : Int), (0 : Int), (0 : Int))] 0 (Ty.dflt (Ty.pair (Ty.int IntKind.i64) (Ty.pair (Ty.int IntKind.i64) (Ty.pair (Ty.int IntKind.u64) (Ty.int IntKind.u32))))))) == n2 && (Prod.fst (Prod.snd (Prod.snd (List.getD [(n6, n7, n8, n9), ((0 : Int), (0 : Int), (0 : Int), (0 : Int))] 0 (Ty.dflt (Ty.pair (Ty.int IntKind.i64) (Ty.pair (Ty.int IntKind.i64) (Ty.pair (Ty.int IntKind.u64) (Ty.int IntKind.u32)))))))) == n3 && (Prod.snd (Prod.snd (Prod.snd (List.getD [(n6, n7, n8, n9), ((0 : Int), (0 : Int), (0 : Int), (0 : Int))] 0 (Ty.dflt (Ty.pair (Ty.int IntKind.i64) (Ty.pair (Ty.int IntKind.i64) (Ty.pair (Ty.int IntKind.u64) (Ty.int IntKind.u32)))))))) == n4 && true) && true))))
          (.leaf ((0, [.b true, .b true, .n n5, .l Ty.bool (List.replicate 2 false), .l (Ty.pair (Ty.int IntKind.i64) (Ty.pair (Ty.int IntKind.i64) (Ty.pair (Ty.int IntKind.u64) (Ty.int IntKind.u32)))) (List.replicate 2 (Ty.dflt (Ty.pair (Ty.int IntKind.i64) (Ty.pair (Ty.int IntKind.i64) (Ty.pair (Ty.int IntKind.u64) (Ty.int IntKind.u32)))))), .b false, .n (0 : Int), .n (0 : Int), .n (0 : Int), .n (0 : Int), .n n5, .b true])))
          (.leaf ((0, [.b false, .b true, .n n5, .l Ty.bool (List.replicate 2 false), .l (Ty.pair (Ty.int IntKind.i64) (Ty.pair (Ty.int IntKind.i64) (Ty.pair (Ty.int IntKind.u64) (Ty.int IntKind.u32)))) (List.replicate 2 (Ty.dflt (Ty.pair (Ty.int IntKind.i64) (Ty.pair (Ty.int IntKind.i64) (Ty.pair (Ty.int IntKind.u64) (Ty.int IntKind.u32)))))), .b true, .n n1, .n n2, .n n3, .n n4, .n n1, .b false]))))
         (.node (!(Prod.fst (List.getD [(n6, n7, n8, n9), ((0 : Int), (0 : Int), (0 : Int), (0 : Int))] 0 (Ty.dflt (Ty.pair (Ty.int IntKind.i64) (Ty.pair (Ty.int IntKind.i64) (Ty.pair (Ty.int IntKind.u64) (Ty.int IntKind.u32)))))) == n1 && (Prod.fst (Prod.snd (List.getD [(n6, n7, n8, n9), ((0 : Int), (0 : Int), (0 : Int), (0 : Int))] 0 (Ty.dflt (Ty.pair (Ty.int IntKind.i64) (Ty.pair (Ty.int IntKind.i64) (Ty.pair (Ty.int IntKind.u64) (Ty.int IntKind.u32))))))) == n2 && (Prod.fst (Prod.snd (Prod.snd (List.getD [(n6, n7, n8, n9), ((0 : Int), (0 : Int), (0 : Int), (0 : Int))] 0 (Ty.dflt (Ty.pair (Ty.int IntKind.i64) (Ty.pair (Ty.int IntKind.i64) (Ty.pair (Ty.int IntKind.u64) (Ty.int IntKind.u32)))))))) == n3 && (Prod.snd (Prod.snd (Prod.snd (List.getD [(n6, n7, n8, n9), ((0 : Int), (0 : Int), (0 : Int), (0 : Int))] 0 (Ty.dflt (Ty.pair (Ty.int IntKind.i64) (Ty.pair (Ty.int IntKind.i64) (Ty.pair (Ty.int IntKind.u64) (Ty.int IntKind.u32)))))))) == n4 && true) && true))))
          (.leaf ((2, [.b false, .b false, .n n1, .l Ty.bool (List.replicate 2 false), .l (Ty.pair (Ty.int IntKind.i64) (Ty.pair (Ty.int IntKind.i64) (Ty.pair (Ty.int IntKind.u64) (Ty.int IntKind.u32)))) (List.replicate 2 (Ty.dflt (Ty.pair (Ty.int IntKind.i64) (Ty.pair (Ty.int IntKind.i64) (Ty.pair (Ty.int IntKind.u64) (Ty.int IntKind.u32)))))), .b false, .n (0 : Int), .n (0 : Int), .n (0 : Int), .n (0 : Int), .n n5, .b true, .n n1, .n n2, .n n3, .n n4])))
          (.leaf ((2, [.b true, .b false, .n n1, .l Ty.bool (List.replicate 2 false), .l (Ty.pair (Ty.int IntKind.i64) (Ty.pair (Ty.int IntKind.i64) (Ty.pair (Ty.int IntKind.u64) (Ty.int IntKind.u32)))) (List.replicate 2 (Ty.dflt (Ty.pair (Ty.int IntKind.i64) (Ty.pair (Ty.int IntKind.i64) (Ty.pair (Ty.int IntKind.u64) (Ty.int IntKind.u32)))))), .b true, .n n1, .n n2, .n n3, .n n4, .n n1, .b false, .n n1, .n n2, .n n3, .n n4])))))))))
  | _ => .bad 0
theorem fn_16b_b_im (n0 : Int) (n1 : Int) (n2 : Int) (n3 : Int) (n4 : Int) (n5 : Int) (n6 : Int) (n7 : Int) (n8 : Int) (n9 : Int) : Imp (fn_16b_b [.n n0, .n n1, .n n2, .n n3, .n n4, .n n5, .n n6, .n n7, .n n8, .n n9]) (ev_16b ([.n n0, .n 1, .n n1, .n n2, .n n3, .n n4] ++ sd1 n5 n6 n7 n8 n9)) :=
(((((.path [1,0,1,1,1] (by kernel_rfl)
(.node (by kernel_rfl) (by kernel_rfl) (fun h0 =>
(((((((((((((((((((((.path [1,0,0,1,1,1,1,1,1,1,1,1,1,1,1,1,1,1,1,1,1] (by kernel_rfl)
(.leaf (by kernel_rfl)))))))))))))))))))))))) (fun h0 =>
(.node (by kernel_rfl) (by kernel_rfl) (fun h1 =>
((((((.path [1,1,1,1,1,1] (by kernel_rfl)
(.leaf (by kernel_rfl))))))))) (fun h1 =>
(.node (by kernel_rfl) (by kernel_rfl) (fun h2 =>
((((((.path [1,1,1,1,1,1] (by kernel_rfl)
(.leaf (by kernel_rfl))))))))) (fun h2 =>
(((((((((.path [1,0,0,0,1,0,0,1,0] (by kernel_rfl)
(.node (by kernel_rfl) (by kernel_rfl) (fun h3 =>
(((((((((((((((.path [1,1,1,1,1,1,1,1,1,1,1,0,0,1,0] (by kernel_rfl)
(.pt (by kernel_rfl) (by kernel_rfl) h3
((((((((.path [1,1,1,1,1,1,1,1] (by kernel_rfl)
(.leaf (by kernel_rfl))))))))))))))))))))))))))) (fun h3 =>
((.path [1,1] (by kernel_rfl)
(.node (by kernel_rfl) (by kernel_rfl) (fun h4 =>
((((((((((((.path [1,1,1,1,1,1,1,1,0,0,1,0] (by kernel_rfl)
(.pf (by kernel_rfl) (by kernel_rfl) h3
((((.path [1,1,1,1] (by kernel_rfl)
(.node (by kernel_rfl) (by kernel_rfl) (fun h5 =>
(((((.path [1,1,1,1,1] (by kernel_rfl)
(.leaf (by kernel_rfl)))))))) (fun h5 =>
(((((.path [1,0,1,1,1] (by kernel_rfl)
(.leaf (by kernel_rfl))))))))))))))))))))))))))) (fun h4 =>
((((((((((.path [0,1,1,1,1,1,0,0,1,0] (by kernel_rfl)
(.pf (by kernel_rfl) (by kernel_rfl) h3
((((.path [1,1,1,1] (by kernel_rfl)
(.node (by kernel_rfl) (by kernel_rfl) (fun h5 =>
(((((.path [1,1,1,1,1] (by kernel_rfl)
(.leaf (by kernel_rfl)))))))) (fun h5 =>
(((((.path [1,0,1,1,1] (by kernel_rfl)
(.leaf (by kernel_rfl))))))))))))))))))))))))))))))))))))))))))))))))))

noncomputable def fn_16b_c : List Dat → Tree (Nat × List Dat)
  | [.n n0, .n n1, .n n2, .n n3, .n n4, .n n5, .n n6, .n n7, .n n8, .n n9, .n n10] =>
    (.node (Int.tmod (IntKind.wrap .i64 (Int.tmod n0 (6 : Int) + (6 : Int))) (6 : Int) == (3 : Int))
     (.leaf ((0, [.b true, .b true, .n n6, .l Ty.bool (List.replicate 2 false), .l (Ty.pair (Ty.int IntKind.i64) (Ty.pair (Ty.int IntKind.i64) (Ty.pair (Ty.int IntKind.u64) (Ty.int IntKind.u32)))) (List.replicate 2 (Ty.dflt (Ty.pair (Ty.int IntKind.i64) (Ty.pair (Ty.int IntKind.i64) (Ty.pair (Ty.int IntKind.u64) (Ty.int IntKind.u32)))))), .b false, .n (0 : Int), .n (0 : Int), .n (0 : Int), .n (0 : Int), .n n6, .b true])))
     (.node (Int.tmod (IntKind.wrap .i64 (Int.tmod n0 (6 : Int) + (6 : Int))) (6 : Int) == (4 : Int))
      (.leaf ((0, [.b true, .b false, .n n6, .l Ty.bool (List.replicate 2 false), .l (Ty.pair (Ty.int IntKind.i64) (Ty.pair (Ty.int IntKind.i64) (Ty.pair (Ty.int IntKind.u64) (Ty.int IntKind.u32)))) (List.replicate 2 (Ty.dflt (Ty.pair (Ty.int IntKind.i64) (Ty.pair (Ty.int IntKind.i64) (Ty.pair (Ty.int IntKind.u64) (Ty.int IntKind.u32)))))), .b false, .n (0 : Int), .n (0 : Int), .n (0 : Int), .n (0 : Int), .n n6, .b false])))
      (.node (Int.tmod (IntKind.wrap .i64 (Int.tmod n0 (6 : Int) + (6 : Int))) (6 : Int) == (5 : Int))
       (.leaf ((0, [.b true, .b true, .n n6, .l Ty.bool (List.replicate 2 false), .l (Ty.pair (Ty.int IntKind.i64) (Ty.pair (Ty.int IntKind.i64) (Ty.pair (Ty.int IntKind.u64) (Ty.int IntKind.u32)))) (List.replicate 2 (Ty.dflt (Ty.pair (Ty.int IntKind.i64) (Ty.pair (Ty.int IntKind.i64) (Ty.pair (Ty.int IntKind.u64) (Ty.int IntKind.u32)))))), .b false, .n (0 : Int), .n (0 : Int), .n (0 : Int), .n (0 : Int), .n n6, .b true])))
       (.node (decide (n1 < (0 : Int)))
        (.leaf ((1, [.b true, .b false, .n n6, .l Ty.bool [true, false], .l (Ty.pair (Ty.int IntKind.i64) (Ty.pair (Ty.int IntKind.i64) (Ty.pair (Ty.int IntKind.u64) (Ty.int IntKind.u32)))) [(n7, n8, n9, n10), ((0 : Int), (0 : Int), (0 : Int), (0 : Int))], .b false, .n (0 : Int), .n (0 : Int), .n (0 : Int), .n (0 : Int), .n n6, .b false, .n n7, .n n8, .n n9, .n n10])))
        (.leaf ((1, [.b true, .b false, .n n6, .l Ty.bool [true, false], .l (Ty.pair (Ty.int IntKind.i64) (Ty.pair (Ty.int IntKind.i64) (Ty.pair (Ty.int IntKind.u64) (Ty.int IntKind.u32)))) [(n7, n8, n9, n10), ((0 : Int), (0 : Int), (0 : Int), (0 : Int))], .b false, .n (0 : Int), .n (0 : Int), .n (0 : Int), .n (0 : Int), .n n6, .b false, .n n7, .n n8, .n n9, .n n10])))))))
  | _ => .bad 0
theorem fn_16b_c_im (n0 : Int) (n1 : Int) (n2 : Int) (n3 : Int) (n4 : Int) (n5 : Int) (n6 : Int) (n7 : Int) (n8 : Int) (n9 : Int) (n10 : Int) (g0 : n1 ≠ 0) (g1 :  n1 ≠ 1) : Imp (fn_16b_c [.n n0, .n n1, .n n2, .n n3, .n n4, .n n5, .n n6, .n n7, .n n8, .n n9, .n n10]) (ev_16b ([.n n0, .n n1, .n n2, .n n3, .n n4, .n n5] ++ sd1 n6 n7 n8 n9 n10)) :=
(((((.path [1,0,1,1,1] (by kernel_rfl)
(.node (by kernel_rfl) (by kernel_rfl) (fun h0 =>
(((((((((((((((((((((.path [1,0,0,1,1,1,1,1,1,1,1,1,1,1,1,1,1,1,1,1,1] (by kernel_rfl)
(.leaf (by kernel_rfl)))))))))))))))))))))))) (fun h0 =>
(.node (by kernel_rfl) (by kernel_rfl) (fun h1 =>
((((((.path [1,1,1,1,1,1] (by kernel_rfl)
(.leaf (by kernel_rfl))))))))) (fun h1 =>
(.node (by kernel_rfl) (by kernel_rfl) (fun h2 =>
((((((.path [1,1,1,1,1,1] (by kernel_rfl)
(.leaf (by kernel_rfl))))))))) (fun h2 =>
((.path [1,0] (by kernel_rfl)
(.node (by kernel_rfl) (by kernel_rfl) (fun h3 =>
((((((.path [1,1,1,1,1,1] (by kernel_rfl)
(.pt (c := (n1 != (0 : Int))) (by kernel_rfl) (by kernel_rfl) (by (simp [*]; done))
(.pt (c := (n1 != (1 : Int))) (by kernel_rfl) (by kernel_rfl) (by (simp [*]; done))
(((.path [1,1,1] (by kernel_rfl)
(.leaf (by kernel_rfl)))))))))))))) (fun h3 =>
(.pt (c := (decide (n1 ≥ (2 : Int)))) (by kernel_rfl) (by kernel_rfl) (by (simp only [decide_eq_true_eq, decide_eq_false_iff_not, beq_iff_eq, beq_eq_false_iff_ne, bne_iff_ne, ne_eq, inR, Bool.and_eq_true, Bool.and_eq_false_iff, Bool.not_eq_true', Bool.not_eq_false', Bool.not_eq_eq_eq_not, Bool.not_true, Bool.not_false] at *; omega))
((((.path [1,1,1,1] (by kernel_rfl)
(.pt (c := (n1 != (0 : Int))) (by kernel_rfl) (by kernel_rfl) (by (simp [*]; done))
(.pt (c := (n1 != (1 : Int))) (by kernel_rfl) (by kernel_rfl) (by (simp [*]; done))
(((.path [1,1,1] (by kernel_rfl)
(.leaf (by kernel_rfl)))))))))))))))))))))))))))

noncomputable def ev_16c (env : List Dat) : Tree (Nat × List Dat) := Lk.boxC false LK cs_14 16 ls0 (mkF [.ptr 0 0, .ptr 1 0, clV 0] [vtB (.nilptr) (.ptr 2 0) (.nilptr) 6, reB 8, frB 17] [0, 1] [(.bool 0, [vtB (.nilptr) (.nilptr) (.nilptr) 1, reB 3, .gone]), (.bool 0, [vtB (.nilptr) (.ptr 2 0) (.nilptr) 1, reB 3, frB 12]), (.bool 0, [vtB (.nilptr) (.nilptr) (.ptr 3 0) 1, reB 3, .gone, frB 12])] fun _ => none) env
noncomputable def op_16c : List Dat → Option (Nat × List Dat) := fun env => (ev_16c env).sel
noncomputable def B16c : FBox := mkF [.ptr 0 0, .ptr 1 0, clV 0] [vtB (.nilptr) (.ptr 2 0) (.nilptr) 6, reB 8, frB 17] [0, 1] [(.bool 0, [vtB (.nilptr) (.nilptr) (.nilptr) 1, reB 3, .gone]), (.bool 0, [vtB (.nilptr) (.ptr 2 0) (.nilptr) 1, reB 3, frB 12]), (.bool 0, [vtB (.nilptr) (.nilptr) (.ptr 3 0) 1, reB 3, .gone, frB 12])] op_16c
theorem B16c_ok : RunOk Try.prog 16 (boxRun B16c) := mkF_ok (op := op_16c) cs_14_ok hmix false (LsOk.none _ _ _) (fun env x h => by rw [← boxC_lk]; exact h)
theorem op_16c_eq (env : List Dat) : op_16c env = (ev_16c env).sel := by kernel_rfl
theorem op_16c_good {p : Nat × List Dat → Prop} {T : Tree (Nat × List Dat)} {env : List Dat} (h : Imp T (ev_16c env)) (g : Good p T.sel) : Good p (op_16c env) := by
  rw [op_16c_eq]
  exact h.good g

noncomputable def fn_16c_a : List Dat → Tree (Nat × List Dat)
  | [.n n0, .n n1, .n n2, .n n3, .n n4, .n n5, .n n6, .n n7, .n n8, .n n9] =>
    (.node (Int.tmod (IntKind.wrap .i64 (Int.tmod n0 (6 : Int) + (6 : Int))) (6 : Int) == (3 : Int))
     (.leaf ((0, [.b true, .b true, .n n5, .l Ty.bool (List.replicate 2 false), .l (Ty.pair (Ty.int IntKind.i64) (Ty.pair (Ty.int IntKind.i64) (Ty.pair (Ty.int IntKind.u64) (Ty.int IntKind.u32)))) (List.replicate 2 (Ty.dflt (Ty.pair (Ty.int IntKind.i64) (Ty.pair (Ty.int IntKind.i64) (Ty.pair (Ty.int IntKind.u64) (Ty.int IntKind.u32)))))), .b false, .n (0 : Int), .n (0 : Int), .n (0 : Int), .n (0 : Int), .n n5, .b true])))
     (.node (Int.tmod (IntKind.wrap .i64 (Int.tmod n0 (6 : Int) + (6 : Int))) (6 : Int) == (4 : Int))
      (.leaf ((0, [.b true, .b false, .n n5, .l Ty.bool (List.replicate 2 false), .l (Ty.pair (Ty.int IntKind.i64) (Ty.pair (Ty.int IntKind.i64) (Ty.pair (Ty.int IntKind.u64) (Ty.int IntKind.u32)))) (List.replicate 2 (Ty.dflt (Ty.pair (Ty.int IntKind.i64) (Ty.pair (Ty.int IntKind.i64) (Ty.pair (Ty.int IntKind.u64) (Ty.int IntKind.u32)))))), .b false, .n (0 : Int), .n (0 : Int), .n (0 : Int), .n (0 : Int), .n n5, .b false])))
      (.node (Int.tmod (IntKind.wrap .i64 (Int.tmod n0 (6 : Int) + (6 : Int))) (6 : Int) == (5 : Int))
       (.leaf ((0, [.b true, .b true, .n n5, .l Ty.bool (List.replicate 2 false), .l (Ty.pair (Ty.int IntKind.i64) (Ty.pair (Ty.int IntKind.i64) (Ty.pair (Ty.int IntKind.u64) (Ty.int IntKind.u32)))) (List.replicate 2 (Ty.dflt (Ty.pair (Ty.int IntKind.i64) (Ty.pair (Ty.int IntKind.i64) (Ty.pair (Ty.int IntKind.u64) (Ty.int IntKind.u32)))))), .b false, .n (0 : Int), .n (0 : Int), .n (0 : Int), .n (0 : Int), .n n5, .b true])))
       (.node (decide (n1 ≤ n5))
        (.leaf ((0, [.b true, .b true, .n n5, .l Ty.bool (List.replicate 2 false), .l (Ty.pair (Ty.int IntKind.i64) (Ty.pair (Ty.int IntKind.i64) (Ty.pair (Ty.int IntKind.u64) (Ty.int IntKind.u32)))) (List.replicate 2 (Ty.dflt (Ty.pair (Ty.int IntKind.i64) (Ty.pair (Ty.int IntKind.i64) (Ty.pair (Ty.int IntKind.u64) (Ty.int IntKind.u32)))))), .b false, .n (0 : Int), .n (0 : Int), .n (0 : Int), .n (0 : Int), .n n5, .b true])))
        (.node (!(n6 == n1 && (n7 == n2 && (n8 == n3 && (n9 == n4 && true) && true))))
         (.node (!(Prod.fst (List.getD [((0 : Int), (0 : Int), (0 : Int), (0 : Int)), (n6, n7, n8, n9)] 1 (Ty.dflt (Ty.pair (Ty.int IntKind.i64) (Ty.pair (Ty.int IntKind.i64) (Ty.pair (Ty.int IntKind.u64) (Ty.int IntKind.u32)))))) == n1 && (Prod.fst (Prod.snd (List.getD [((0 : Int), (0 : Int), (0 : Int), (0 : Int)), (n6, n7, n8, n9)] 1 (Ty.dflt (Ty.pair (Ty.int IntKind.i64) (Ty.pair (Ty.int IntKind.i64) (Ty.pair (Ty.int IntKind.u64) (Ty.int IntKind.u32))))))) == n2 && (Prod.fst (Prod.snd (Prod.snd (List.getD [((0 : Int), (0 : Int), (0 : Int), (0 : Int)), (n6, n7, n8, n9)] 1 (Ty.dflt (Ty.pair (Ty.int IntKind.i64) (Ty.pair (Ty.int IntKind.i64) (Ty.pair (Ty.int IntKind.u64) (Ty.int IntKind.u32)))))))) == n3 && (Prod.snd (Prod.snd (Prod.snd (List.getD [((0 : Int), (0 : Int), (0 : Int), (0 : Int)), (n6, n7, n8, n9)] 1 (Ty.dflt (Ty.pair (Ty.int IntKind.i64) (Ty.pair (Ty.int IntKind.i64) (Ty.pair (Ty.int IntKind.u64) (Ty.int IntKind.u32)))))))) == n4 && true) && true))))
          (.leaf ((0, [.b true, .b true, .n n5, .l Ty.bool (List.replicate 2 false), .l (Ty.pair (Ty.int IntKind.i64) (Ty.pair (Ty.int IntKind.i64) (Ty.pair (Ty.int IntKind.u64) (Ty.int IntKind.u32)))) (List.replicate 2 (Ty.dflt (Ty.pair (Ty.int IntKind.i64) (Ty.pair (Ty.int IntKind.i64) (Ty.pair (Ty.int IntKind.u64) (Ty.int IntKind.u32)))))), .b false, .n (0 : Int), .n (0 : Int), .n (0 : Int), .n (0 : Int), .n n5, .b true])))
          (.leaf ((0, [.b false, .b true, .n n5, .l Ty.bool (List.replicate 2 false), .l (Ty.pair (Ty.int IntKind.i64) (Ty.pair (Ty.int IntKind.i64) (Ty.pair (Ty.int IntKind.u64) (Ty.int IntKind.u32)))) (List.replicate 2 (Ty.dflt (Ty.pair (Ty.int IntKind.i64) (Ty.pair (Ty.int IntKind.i64) (Ty.pair (Ty.int IntKind.u64) (Ty.int IntKind.u32)))))), .b true, .n n1, .n n2, .n n3, .n n4, .n n1, .b false]))))
         (.node (!(Prod.fst (List.getD [((0 : Int), (0 : Int), (0 : Int), (0 : Int)), (n6, n7, n8, n9)] 1 (Ty.dflt (Ty.pair (Ty.int IntKind.i64) (Ty.pair (Ty.int IntKind.i64) (Ty.pair (Ty.int IntKind.u64) (Ty.int IntKind.u32)))))) == n1 && (Prod.fst (Prod.snd (List.getD [((0 : Int), (0 : Int), (0 : Int), (0 : Int)), (n6, n7, n8, n9)] 1 (Ty.dflt (Ty.pair (Ty.int IntKind.i64) (Ty.pair (Ty.int IntKind.i64) (Ty.pair (Ty.int IntKind.u64) (Ty.int IntKind.u32))))))) == n2 && (Prod.fst (Prod.snd (Prod.snd (List.getD [((0 : Int), (0 : Int), (0 : Int), (0 : Int)), (n6, n7, n8, n9)] 1 (Ty.dflt (Ty.pair (Ty.int IntKind.i64) (Ty.pair (Ty.int IntKind.i64) (Ty.pair (Ty.int IntKind.u64) (Ty.int IntKind.u32)))))))) == n3 && (Prod.snd (Prod.snd (Prod.snd (List.getD [((0 : Int), (0 : Int), (0 : Int), (0 : Int)), (n6, n7, n8, n9)] 1 (Ty.dflt (Ty.pair (Ty.int IntKind.i64) (Ty.pair (Ty.int IntKind.i64) (Ty.pair (Ty.int IntKind.u64) (Ty.int IntKind.u32)))))))) == n4 && true) && true))))
          (.leaf ((2, [.b false, .b false, .n n1, .l Ty.bool (List.replicate 2 false), .l (Ty.pair (Ty.int IntKind.i64) (Ty.pair (Ty.int IntKind.i64) (Ty.pair (Ty.int IntKind.u64) (Ty.int IntKind.u32)))) (List.replicate 2 (Ty.dflt (Ty.pair (Ty.int IntKind.i64) (Ty.pair (Ty.int IntKind.i64) (Ty.pair (Ty.int IntKind.u64) (Ty.int IntKind.u32)))))), .b false, .n (0 : Int), .n (0 : Int), .n (0 : Int), .n (0 : Int), .n n5, .b true, .n n1, .n n2, .n n3, .n n4])))
          (.leaf ((2, [.b true, .b false, .n n1, .l Ty.bool (List.replicate 2 false), .l (Ty.pair (Ty.int IntKind.i64) (Ty.pair (Ty.int IntKind.i64) (Ty.pair (Ty.int IntKind.u64) (Ty.int IntKind.u32)))) (List.replicate 2 (Ty.dflt (Ty.pair (Ty.int IntKind.i64) (Ty.pair (Ty.int IntKind.i64) (Ty.pair (Ty.int IntKind.u64) (Ty.int IntKind.u32)))))), .b true, .n n1, .n n2, .n n3, .n n4, .n n1, .b false, .n n1, .n n2, .n n3, .n n4])))))))))
  | _ => .bad 0
theorem fn_16c_a_im (n0 : Int) (n1 : Int) (n2 : Int) (n3 : Int) (n4 : Int) (n5 : Int) (n6 : Int) (n7 : Int) (n8 : Int) (n9 : Int) : Imp (fn_16c_a [.n n0, .n n1, .n n2, .n n3, .n n4, .n n5, .n n6, .n n7, .n n8, .n n9]) (ev_16c ([.n n0, .n 0, .n n1, .n n2, .n n3, .n n4] ++ sd2 n5 n6 n7 n8 n9)) :=
(((((.path [1,0,1,1,1] (by kernel_rfl)
(.node (by kernel_rfl) (by kernel_rfl) (fun h0 =>
((((((((((((((((((((((.path [1,0,0,1,0,0,1,1,1,1,1,1,1,1,0,1,1,1,1,1,1,1] (by kernel_rfl)
(.leaf (by kernel_rfl))))))))))))))))))))))))) (fun h0 =>
(.node (by kernel_rfl) (by kernel_rfl) (fun h1 =>
((((((.path [1,1,1,1,1,1] (by kernel_rfl)
(.leaf (by kernel_rfl))))))))) (fun h1 =>
(.node (by kernel_rfl) (by kernel_rfl) (fun h2 =>
((((((.path [1,1,1,1,1,1] (by kernel_rfl)
(.leaf (by kernel_rfl))))))))) (fun h2 =>
(((((((((.path [1,0,0,0,0,1,0,1,0] (by kernel_rfl)
(.node (by kernel_rfl) (by kernel_rfl) (fun h3 =>
((((((((((((((((.path [1,1,1,1,1,1,1,1,1,1,0,0,0,0,1,0] (by kernel_rfl)
(.pt (by kernel_rfl) (by kernel_rfl) h3
((((((((.path [1,1,1,1,1,1,1,1] (by kernel_rfl)
(.leaf (by kernel_rfl)))))))))))))))))))))))))))) (fun h3 =>
((.path [1,1] (by kernel_rfl)
(.node (by kernel_rfl) (by kernel_rfl) (fun h4 =>
(((((((((((((.path [1,1,1,1,1,1,1,0,0,0,0,1,0] (by kernel_rfl)
(.pf (by kernel_rfl) (by kernel_rfl) h3
((((.path [1,1,1,1] (by kernel_rfl)
(.node (by kernel_rfl) (by kernel_rfl) (fun h5 =>
(((((.path [1,1,1,1,1] (by kernel_rfl)
(.leaf (by kernel_rfl)))))))) (fun h5 =>
(((((.path [1,0,1,1,1] (by kernel_rfl)
(.leaf (by kernel_rfl)))))))))))))))))))))))))))) (fun h4 =>
(((((((((((.path [0,1,1,1,1,0,0,0,0,1,0] (by kernel_rfl)
(.pf (by kernel_rfl) (by kernel_rfl) h3
((((.path [1,1,1,1] (by kernel_rfl)
(.node (by kernel_rfl) (by kernel_rfl) (fun h5 =>
(((((.path [1,1,1,1,1] (by kernel_rfl)
(.leaf (by kernel_rfl)))))))) (fun h5 =>
(((((.path [1,0,1,1,1] (by kernel_rfl)
(.leaf (by kernel_rfl)))))))))))))))))))))))))))))))))))))))))))))))))))

noncomputable def fn_16c_b : List Dat → Tree (Nat × List Dat)
  | [.n n0, .n n1, .n n2, .n n3, .n n4, .n n5, .n n6, .n n7, .n n8, .n n9] =>
    (.node (Int.tmod (IntKind.wrap .i64 (Int.tmod n0 (6 : Int) + (6 : Int))) (6 : Int) == (3 : Int))
     (.leaf ((0, [.b true, .b true, .n n5, .l Ty.bool (List.replicate 2 false), .l (Ty.pair (Ty.int IntKind.i64) (Ty.pair (Ty.int IntKind.i64) (Ty.pair (Ty.int IntKind.u64) (Ty.int IntKind.u32)))) (List.replicate 2 (Ty.dflt (Ty.pair (Ty.int IntKind.i64) (Ty.pair (Ty.int IntKind.i64) (Ty.pair (Ty.int IntKind.u64) (Ty.int IntKind.u32)))))), .b false, .n (0 : Int), .n (0 : Int), .n (0 : Int), .n (0 : Int), .n n5, .b true])))
     (.node (Int.tmod (IntKind.wrap .i64 (Int.tmod n0 (6 : Int) + (6 : Int))) (6 : Int) == (4 : Int))
      (.leaf ((0, [.b true, .b false, .n n5, .l Ty.bool (List.replicate 2 false), .l (Ty.pair (Ty.int IntKind.i64) (Ty.pair (Ty.int IntKind.i64) (Ty.pair (Ty.int IntKind.u64) (Ty.int IntKind.u32)))) (List.replicate 2 (Ty.dflt (Ty.pair (Ty.int IntKind.i64) (Ty.pair (Ty.int IntKind.i64) (Ty.pair (Ty.int IntKind.u64) (Ty.int IntKind.u32)))))), .b false, .n (0 : Int), .n (0 : Int), .n (0 : Int), .n (0 : Int), .n n5, .b false])))
      (.node (Int.tmod (IntKind.wrap .i64 (Int.tmod n0 (6 : Int) + (6 : Int))) (6 : Int) == (5 : Int))
       (.leaf ((0, [.b true, .b true, .n n5, .l Ty.bool (List.replicate 2 false), .l (Ty.pair (Ty.int IntKind.i64) (Ty.pair (Ty.int IntKind.i64) (Ty.pair (Ty.int IntKind.u64) (Ty.int IntKind.u32)))) (List.replicate 2 (Ty.dflt (Ty.pair (Ty.int IntKind.i64) (Ty.pair (Ty.int IntKind.i64) (Ty.pair (Ty.int IntKind.u64) (Ty.int IntKind.u32)))))), .b false, .n (0 : Int), .n (0 : Int), .n (0 : Int), .n (0 : Int), .n n5, .b true])))
       (.leaf ((0, [.b true, .b true, .n n5, .l Ty.bool (List.replicate 2 false), .l (Ty.pair (Ty.int IntKind.i64) (Ty.pair (Ty.int IntKind.i64) (Ty.pair (Ty.int IntKind.u64) (Ty.int IntKind.u32)))) (List.replicate 2 (Ty.dflt (Ty.pair (Ty.int IntKind.i64) (Ty.pair (Ty.int IntKind.i64) (Ty.pair (Ty.int IntKind.u64) (Ty.int IntKind.u32)))))), .b false, .n (0 : Int), .n (0 : Int), .n (0 : Int), .n (0 : Int), .n n5, .b true]))))))
  | _ => .bad 0
theorem fn_16c_b_im (n0 : Int) (n1 : Int) (n2 : Int) (n3 : Int) (n4 : Int) (n5 : Int) (n6 : Int) (n7 : Int) (n8 : Int) (n9 : Int) : Imp (fn_16c_b [.n n0, .n n1, .n n2, .n n3, .n n4, .n n5, .n n6, .n n7, .n n8, .n n9]) (ev_16c ([.n n0, .n 1, .n n1, .n n2, .n n3, .n n4] ++ sd2 n5 n6 n7 n8 n9)) :=
(((((.path [1,0,1,1,1] (by kernel_rfl)
(.node (by kernel_rfl) (by kernel_rfl) (fun h0 =>
((((((((((((((((((((((.path [1,0,0,1,0,0,1,1,1,1,1,1,1,1,0,1,1,1,1,1,1,1] (by kernel_rfl)
(.leaf (by kernel_rfl))))))))))))))))))))))))) (fun h0 =>
(.node (by kernel_rfl) (by kernel_rfl) (fun h1 =>
((((((.path [1,1,1,1,1,1] (by kernel_rfl)
(.leaf (by kernel_rfl))))))))) (fun h1 =>
(.node (by kernel_rfl) (by kernel_rfl) (fun h2 =>
((((((.path [1,1,1,1,1,1] (by kernel_rfl)
(.leaf (by kernel_rfl))))))))) (fun h2 =>
((((((((((((((((((((((((((((((((((((.path (1 ::0 ::0 ::0 ::1 ::0 ::0 ::1 ::1 ::1 ::1 ::1 ::1 ::1 ::1 ::1 ::1 ::1 ::1 ::1 ::1 ::1 ::0 ::0 ::1 ::1 ::1 ::1 ::1 ::1 ::1 ::1 ::1 ::1 ::1 ::1 :: []) (by kernel_rfl)
(.leaf (by kernel_rfl)))))))))))))))))))))))))))))))))))))))))))))))))

noncomputable def fn_16c_c : List Dat → Tree (Nat × List Dat)
  | [.n n0, .n n1, .n n2, .n n3, .n n4, .n n5, .n n6, .n n7, .n n8, .n n9, .n n10] =>
    (.node (Int.tmod (IntKind.wrap .i64 (Int.tmod n0 (6 : Int) + (6 : Int))) (6 : Int) == (3 : Int))
     (.leaf ((0, [.b true, .b true, .n n6, .l Ty.bool (List.replicate 2 false), .l (Ty.pair (Ty.int IntKind.i64) (Ty.pair (Ty.int IntKind.i64) (Ty.pair (Ty.int IntKind.u64) (Ty.int IntKind.u32)))) (List.replicate 2 (Ty.dflt (Ty.pair (Ty.int IntKind.i64) (Ty.pair (Ty.int IntKind.i64) (Ty.pair (Ty.int IntKind.u64) (Ty.int IntKind.u32)))))), .b false, .n (0 : Int), .n (0 : Int), .n (0 : Int), .n (0 : Int), .n n6, .b true])))
     (.node (Int.tmod (IntKind.wrap .i64 (Int.tmod n0 (6 : Int) + (6 : Int))) (6 : Int) == (4 : Int))
      (.leaf ((0, [.b true, .b false, .n n6, .l Ty.bool (List.replicate 2 false), .l (Ty.pair (Ty.int IntKind.i64) (Ty.pair (Ty.int IntKind.i64) (Ty.pair (Ty.int IntKind.u64) (Ty.int IntKind.u32)))) (List.replicate 2 (Ty.dflt (Ty.pair (Ty.int IntKind.i64) (Ty.pair (Ty.int IntKind.i64) (Ty.pair (Ty.int IntKind.u64) (Ty.int IntKind.u32)))))), .b false, .n (0 : Int), .n (0 : Int), .n (0 : Int), .n (0 : Int), .n n6, .b false])))
      (.node (Int.tmod (IntKind.wrap .i64 (Int.tmod n0 (6 : Int) + (6 : Int))) (6 : Int) == (5 : Int))
       (.leaf ((0, [.b true, .b true, .n n6, .l Ty.bool (List.replicate 2 false), .l (Ty.pair (Ty.int IntKind.i64) (Ty.pair (Ty.int IntKind.i64) (Ty.pair (Ty.int IntKind.u64) (Ty.int IntKind.u32)))) (List.replicate 2 (Ty.dflt (Ty.pair (Ty.int IntKind.i64) (Ty.pair (Ty.int IntKind.i64) (Ty.pair (Ty.int IntKind.u64) (Ty.int IntKind.u32)))))), .b false, .n (0 : Int), .n (0 : Int), .n (0 : Int), .n (0 : Int), .n n6, .b true])))
       (.node (decide (n1 < (0 : Int)))
        (.leaf ((1, [.b true, .b false, .n n6, .l Ty.bool [false, true], .l (Ty.pair (Ty.int IntKind.i64) (Ty.pair (Ty.int IntKind.i64) (Ty.pair (Ty.int IntKind.u64) (Ty.int IntKind.u32)))) [((0 : Int), (0 : Int), (0 : Int), (0 : Int)), (n7, n8, n9, n10)], .b false, .n (0 : Int), .n (0 : Int), .n (0 : Int), .n (0 : Int), .n n6, .b false, .n n7, .n n8, .n n9, .n n10])))
        (.leaf ((1, [.b true, .b false, .n n6, .l Ty.bool [false, true], .l (Ty.pair (Ty.int IntKind.i64) (Ty.pair (Ty.int IntKind.i64) (Ty.pair (Ty.int IntKind.u64) (Ty.int IntKind.u32)))) [((0 : Int), (0 : Int), (0 : Int), (0 : Int)), (n7, n8, n9, n10)], .b false, .n (0 : Int), .n (0 : Int), .n (0 : Int), .n (0 : Int), .n n6, .b false, .n n7, .n n8, .n n9, .n n10])))))))
  | _ => .bad 0
theorem fn_16c_c_im (n0 : Int) (n1 : Int) (n2 : Int) (n3 : Int) (n4 : Int) (n5 : Int) (n6 : Int) (n7 : Int) (n8 : Int) (n9 : Int) (n10 : Int) (g0 : n1 ≠ 0) (g1 :  n1 ≠ 1) : Imp (fn_16c_c [.n n0, .n n1, .n n2, .n n3, .n n4, .n n5, .n n6, .n n7, .n n8, .n n9, .n n10]) (ev_16c ([.n n0, .n n1, .n n2, .n n3, .n n4, .n n5] ++ sd2 n6 n7 n8 n9 n10)) :=
(((((.path [1,0,1,1,1] (by kernel_rfl)
(.node (by kernel_rfl) (by kernel_rfl) (fun h0 =>
((((((((((((((((((((((.path [1,0,0,1,0,0,1,1,1,1,1,1,1,1,0,1,1,1,1,1,1,1] (by kernel_rfl)
(.leaf (by kernel_rfl))))))))))))))))))))))))) (fun h0 =>
(.node (by kernel_rfl) (by kernel_rfl) (fun h1 =>
((((((.path [1,1,1,1,1,1] (by kernel_rfl)
(.leaf (by kernel_rfl))))))))) (fun h1 =>
(.node (by kernel_rfl) (by kernel_rfl) (fun h2 =>
((((((.path [1,1,1,1,1,1] (by kernel_rfl)
(.leaf (by kernel_rfl))))))))) (fun h2 =>
((.path [1,0] (by kernel_rfl)
(.node (by kernel_rfl) (by kernel_rfl) (fun h3 =>
((((((.path [1,1,1,1,1,1] (by kernel_rfl)
(.pt (c := (n1 != (0 : Int))) (by kernel_rfl) (by kernel_rfl) (by (simp [*]; done))
(.pt (c := (n1 != (1 : Int))) (by kernel_rfl) (by kernel_rfl) (by (simp [*]; done))
(((.path [1,1,1] (by kernel_rfl)
(.leaf (by kernel_rfl)))))))))))))) (fun h3 =>
(.pt (c := (decide (n1 ≥ (2 : Int)))) (by kernel_rfl) (by kernel_rfl) (by (simp only [decide_eq_true_eq, decide_eq_false_iff_not, beq_iff_eq, beq_eq_false_iff_ne, bne_iff_ne, ne_eq, inR, Bool.and_eq_true, Bool.and_eq_false_iff, Bool.not_eq_true', Bool.not_eq_false', Bool.not_eq_eq_eq_not, Bool.not_true, Bool.not_false] at *; omega))
((((.path [1,1,1,1] (by kernel_rfl)
(.pt (c := (n1 != (0 : Int))) (by kernel_rfl) (by kernel_rfl) (by (simp [*]; done))
(.pt (c := (n1 != (1 : Int))) (by kernel_rfl) (by kernel_rfl) (by (simp [*]; done))
(((.path [1,1,1] (by kernel_rfl)
(.leaf (by kernel_rfl)))))))))))))))))))))))))))

noncomputable def ev_16d (env : List Dat) : Tree (Nat × List Dat) := Lk.boxC false LK cs_14 16 ls0 (mkF [.ptr 0 0, .ptr 1 0, clV 0] [vtB (.nilptr) (.nilptr) (.ptr 2 0) 6, reB 8, frB 17] [0, 1] [(.bool 0, [vtB (.nilptr) (.nilptr) (.nilptr) 1, reB 3, .gone]), (.bool 0, [vtB (.nilptr) (.nilptr) (.ptr 2 0) 1, reB 3, frB 12]), (.bool 0, [vtB (.ptr 3 0) (.nilptr) (.ptr 2 0) 1, reB 3, frB 12, frB 16]), (.bool 0, [vtB (.nilptr) (.ptr 3 0) (.ptr 2 0) 1, reB 3, frB 12, frB 16])] fun _ => none) env
noncomputable def op_16d : List Dat → Option (Nat × List Dat) := fun env => (ev_16d env).sel
noncomputable def B16d : FBox := mkF [.ptr 0 0, .ptr 1 0, clV 0] [vtB (.nilptr) (.nilptr) (.ptr 2 0) 6, reB 8, frB 17] [0, 1] [(.bool 0, [vtB (.nilptr) (.nilptr) (.nilptr) 1, reB 3, .gone]), (.bool 0, [vtB (.nilptr) (.nilptr) (.ptr 2 0) 1, reB 3, frB 12]), (.bool 0, [vtB (.ptr 3 0) (.nilptr) (.ptr 2 0) 1, reB 3, frB 12, frB 16]), (.bool 0, [vtB (.nilptr) (.ptr 3 0) (.ptr 2 0) 1, reB 3, frB 12, frB 16])] op_16d
theorem B16d_ok : RunOk Try.prog 16 (boxRun B16d) := mkF_ok (op := op_16d) cs_14_ok hmix false (LsOk.none _ _ _) (fun env x h => by rw [← boxC_lk]; exact h)
theorem op_16d_eq (env : List Dat) : op_16d env = (ev_16d env).sel := by kernel_rfl
theorem op_16d_good {p : Nat × List Dat → Prop} {T : Tree (Nat × List Dat)} {env : List Dat} (h : Imp T (ev_16d env)) (g : Good p T.sel) : Good p (op_16d env) := by
  rw [op_16d_eq]
  exact h.good g

noncomputable def fn_16d_a : List Dat → Tree (Nat × List Dat)
  | [.n n0, .n n1, .n n2, .n n3, .n n4, .n n5, .n n6, .n n7, .n n8, .n n9] =>
    (.node (Int.tmod (IntKind.wrap .i64 (Int.tmod n0 (6 : Int) + (6 : Int))) (6 : Int) == (3 : Int))
     (.leaf ((1, [.b true, .b false, .n n5, .l Ty.bool [false, false], .l (Ty.pair (Ty.int IntKind.i64) (Ty.pair (Ty.int IntKind.i64) (Ty.pair (Ty.int IntKind.u64) (Ty.int IntKind.u32)))) [((0 : Int), (0 : Int), (0 : Int), (0 : Int)), ((0 : Int), (0 : Int), (0 : Int), (0 : Int))], .b true, .n n6, .n n7, .n n8, .n n9, .n n5, .b false, .n n6, .n n7, .n n8, .n n9])))
     (.node (Int.tmod (IntKind.wrap .i64 (Int.tmod n0 (6 : Int) + (6 : Int))) (6 : Int) == (4 : Int))
      (.leaf ((0, [.b true, .b false, .n n5, .l Ty.bool (List.replicate 2 false), .l (Ty.pair (Ty.int IntKind.i64) (Ty.pair (Ty.int IntKind.i64) (Ty.pair (Ty.int IntKind.u64) (Ty.int IntKind.u32)))) (List.replicate 2 (Ty.dflt (Ty.pair (Ty.int IntKind.i64) (Ty.pair (Ty.int IntKind.i64) (Ty.pair (Ty.int IntKind.u64) (Ty.int IntKind.u32)))))), .b false, .n (0 : Int), .n (0 : Int), .n (0 : Int), .n (0 : Int), .n n5, .b false])))
      (.node (Int.tmod (IntKind.wrap .i64 (Int.tmod n0 (6 : Int) + (6 : Int))) (6 : Int) == (5 : Int))
       (.leaf ((0, [.b true, .b true, .n n5, .l Ty.bool (List.replicate 2 false), .l (Ty.pair (Ty.int IntKind.i64) (Ty.pair (Ty.int IntKind.i64) (Ty.pair (Ty.int IntKind.u64) (Ty.int IntKind.u32)))) (List.replicate 2 (Ty.dflt (Ty.pair (Ty.int IntKind.i64) (Ty.pair (Ty.int IntKind.i64) (Ty.pair (Ty.int IntKind.u64) (Ty.int IntKind.u32)))))), .b false, .n (0 : Int), .n (0 : Int), .n (0 : Int), .n (0 : Int), .n n5, .b true])))
       (.node (decide (n1 ≤ n5))
        (.leaf ((0, [.b true, .b true, .n n5, .l Ty.bool (List.replicate 2 false), .l (Ty.pair (Ty.int IntKind.i64) (Ty.pair (Ty.int IntKind.i64) (Ty.pair (Ty.int IntKind.u64) (Ty.int IntKind.u32)))) (List.replicate 2 (Ty.dflt (Ty.pair (Ty.int IntKind.i64) (Ty.pair (Ty.int IntKind.i64) (Ty.pair (Ty.int IntKind.u64) (Ty.int IntKind.u32)))))), .b false, .n (0 : Int), .n (0 : Int), .n (0 : Int), .n (0 : Int), .n n5, .b true])))
        (.leaf ((2, [.b true, .b false, .n n5, .l Ty.bool (List.set [false, false] 0 true), .l (Ty.pair (Ty.int IntKind.i64) (Ty.pair (Ty.int IntKind.i64) (Ty.pair (Ty.int IntKind.u64) (Ty.int IntKind.u32)))) (List.set [((0 : Int), (0 : Int), (0 : Int), (0 : Int)), ((0 : Int), (0 : Int), (0 : Int), (0 : Int))] 0 (n1, n2, n3, n4)), .b true, .n n6, .n n7, .n n8, .n n9, .n n5, .b false, .n n6, .n n7, .n n8, .n n9, .n n1, .n n2, .n n3, .n n4])))))))
  | _ => .bad 0
theorem fn_16d_a_im (n0 : Int) (n1 : Int) (n2 : Int) (n3 : Int) (n4 : Int) (n5 : Int) (n6 : Int) (n7 : Int) (n8 : Int) (n9 : Int) : Imp (fn_16d_a [.n n0, .n n1, .n n2, .n n3, .n n4, .n n5, .n n6, .n n7, .n n8, .n n9]) (ev_16d ([.n n0, .n 0, .n n1, .n n2, .n n3, .n n4] ++ sd3 n5 n6 n7 n8 n9)) :=
(((((.path [1,0,1,1,1] (by kernel_rfl)
(.node (by kernel_rfl) (by kernel_rfl) (fun h0 =>
(((((((((((((((((.path [1,0,0,1,0,0,1,0,1,1,1,0,1,0,0,1,1] (by kernel_rfl)
(.leaf (by kernel_rfl)))))))))))))))))))) (fun h0 =>
(.node (by kernel_rfl) (by kernel_rfl) (fun h1 =>
((((((.path [1,1,1,1,1,1] (by kernel_rfl)
(.leaf (by kernel_rfl))))))))) (fun h1 =>
(.node (by kernel_rfl) (by kernel_rfl) (fun h2 =>
((((((.path [1,1,1,1,1,1] (by kernel_rfl)
(.leaf (by kernel_rfl))))))))) (fun h2 =>
(((((((((.path [1,0,0,0,0,1,0,1,0] (by kernel_rfl)
(.node (by kernel_rfl) (by kernel_rfl) (fun h3 =>
((((((((((((((((.path [1,1,1,1,1,1,1,1,1,1,0,0,0,0,1,0] (by kernel_rfl)
(.pt (by kernel_rfl) (by kernel_rfl) h3
((((((((.path [1,1,1,1,1,1,1,1] (by kernel_rfl)
(.leaf (by kernel_rfl)))))))))))))))))))))))))))) (fun h3 =>
((((((((((((((((.path [0,0,1,0,1,1,1,1,1,1,0,0,0,0,1,0] (by kernel_rfl)
(.pf (by kernel_rfl) (by kernel_rfl) h3
(((((((((((((.path [1,0,0,1,0,1,1,1,1,1,1,1,1] (by kernel_rfl)
(.leaf (by kernel_rfl))))))))))))))))))))))))))))))))))))))))))))))))))))))

noncomputable def fn_16d_b : List Dat → Tree (Nat × List Dat)
  | [.n n0, .n n1, .n n2, .n n3, .n n4, .n n5, .n n6, .n n7, .n n8, .n n9] =>
    (.node (Int.tmod (IntKind.wrap .i64 (Int.tmod n0 (6 : Int) + (6 : Int))) (6 : Int) == (3 : Int))
     (.leaf ((1, [.b true, .b false, .n n5, .l Ty.bool [false, false], .l (Ty.pair (Ty.int IntKind.i64) (Ty.pair (Ty.int IntKind.i64) (Ty.pair (Ty.int IntKind.u64) (Ty.int IntKind.u32)))) [((0 : Int), (0 : Int), (0 : Int), (0 : Int)), ((0 : Int), (0 : Int), (0 : Int), (0 : Int))], .b true, .n n6, .n n7, .n n8, .n n9, .n n5, .b false, .n n6, .n n7, .n n8, .n n9])))
     (.node (Int.tmod (IntKind.wrap .i64 (Int.tmod n0 (6 : Int) + (6 : Int))) (6 : Int) == (4 : Int))
      (.leaf ((0, [.b true, .b false, .n n5, .l Ty.bool (List.replicate 2 false), .l (Ty.pair (Ty.int IntKind.i64) (Ty.pair (Ty.int IntKind.i64) (Ty.pair (Ty.int IntKind.u64) (Ty.int IntKind.u32)))) (List.replicate 2 (Ty.dflt (Ty.pair (Ty.int IntKind.i64) (Ty.pair (Ty.int IntKind.i64) (Ty.pair (Ty.int IntKind.u64) (Ty.int IntKind.u32)))))), .b false, .n (0 : Int), .n (0 : Int), .n (0 : Int), .n (0 : Int), .n n5, .b false])))
      (.node (Int.tmod (IntKind.wrap .i64 (Int.tmod n0 (6 : Int) + (6 : Int))) (6 : Int) == (5 : Int))
       (.leaf ((0, [.b true, .b true, .n n5, .l Ty.bool (List.replicate 2 false), .l (Ty.pair (Ty.int IntKind.i64) (Ty.pair (Ty.int IntKind.i64) (Ty.pair (Ty.int IntKind.u64) (Ty.int IntKind.u32)))) (List.replicate 2 (Ty.dflt (Ty.pair (Ty.int IntKind.i64) (Ty.pair (Ty.int IntKind.i64) (Ty.pair (Ty.int IntKind.u64) (Ty.int IntKind.u32)))))), .b false, .n (0 : Int), .n (0 : Int), .n (0 : Int), .n (0 : Int), .n n5, .b true])))
       (.node (decide (n1 ≤ n5))
        (.leaf ((0, [.b true, .b true, .n n5, .l Ty.bool (List.replicate 2 false), .l (Ty.pair (Ty.int IntKind.i64) (Ty.pair (Ty.int IntKind.i64) (Ty.pair (Ty.int IntKind.u64) (Ty.int IntKind.u32)))) (List.replicate 2 (Ty.dflt (Ty.pair (Ty.int IntKind.i64) (Ty.pair (Ty.int IntKind.i64) (Ty.pair (Ty.int IntKind.u64) (Ty.int IntKind.u32)))))), .b false, .n (0 : Int), .n (0 : Int), .n (0 : Int), .n (0 : Int), .n n5, .b true])))
        (.leaf ((3, [.b true, .b false, .n n5, .l Ty.bool (List.set [false, false] 1 true), .l (Ty.pair (Ty.int IntKind.i64) (Ty.pair (Ty.int IntKind.i64) (Ty.pair (Ty.int IntKind.u64) (Ty.int IntKind.u32)))) (List.set [((0 : Int), (0 : Int), (0 : Int), (0 : Int)), ((0 : Int), (0 : Int), (0 : Int), (0 : Int))] 1 (n1, n2, n3, n4)), .b true, .n n6, .n n7, .n n8, .n n9, .n n5, .b false, .n n6, .n n7, .n n8, .n n9, .n n1, .n n2, .n n3, .n n4])))))))
  | _ => .bad 0
theorem fn_16d_b_im (n0 : Int) (n1 : Int) (n2 : Int) (n3 : Int) (n4 : Int) (n5 : Int) (n6 : Int) (n7 : Int) (n8 : Int) (n9 : Int) : Imp (fn_16d_b [.n n0, .n n1, .n n2, .n n3, .n n4, .n n5, .n n6, .n n7, .n n8, .n n9]) (ev_16d ([.n n0, .n 1, .n n1, .n n2, .n n3, .n n4] ++ sd3 n5 n6 n7 n8 n9)) :=
(((((.path [1,0,1,1,1] (by kernel_rfl)
(.node (by kernel_rfl) (by kernel_rfl) (fun h0 =>
(((((((((((((((((.path [1,0,0,1,0,0,1,0,1,1,1,0,1,0,0,1,1] (by kernel_rfl)
(.leaf (by kernel_rfl)))))))))))))))))))) (fun h0 =>
(.node (by kernel_rfl) (by kernel_rfl) (fun h1 =>
((((((.path [1,1,1,1,1,1] (by kernel_rfl)
(.leaf (by kernel_rfl))))))))) (fun h1 =>
(.node (by kernel_rfl) (by kernel_rfl) (fun h2 =>
((((((.path [1,1,1,1,1,1] (by kernel_rfl)
(.leaf (by kernel_rfl))))))))) (fun h2 =>
(((((((((.path [1,0,0,0,1,0,0,1,0] (by kernel_rfl)
(.node (by kernel_rfl) (by kernel_rfl) (fun h3 =>
(((((((((((((((.path [1,1,1,1,1,1,1,1,1,1,1,0,0,1,0] (by kernel_rfl)
(.pt (by kernel_rfl) (by kernel_rfl) h3
((((((((.path [1,1,1,1,1,1,1,1] (by kernel_rfl)
(.leaf (by kernel_rfl))))))))))))))))))))))))))) (fun h3 =>
((((((((((((((((.path [0,0,1,0,1,0,1,1,1,1,1,1,0,0,1,0] (by kernel_rfl)
(.pf (by kernel_rfl) (by kernel_rfl) h3
(((((((((((((.path [1,0,0,1,0,1,1,1,1,1,1,1,1] (by kernel_rfl)
(.leaf (by kernel_rfl))))))))))))))))))))))))))))))))))))))))))))))))))))))

noncomputable def fn_16d_c : List Dat → Tree (Nat × List Dat)
  | [.n n0, .n n1, .n n2, .n n3, .n n4, .n n5, .n n6, .n n7, .n n8, .n n9, .n n10] =>
    (.node (Int.tmod (IntKind.wrap .i64 (Int.tmod n0 (6 : Int) + (6 : Int))) (6 : Int) == (3 : Int))
     (.leaf ((1, [.b true, .b false, .n n6, .l Ty.bool [false, false], .l (Ty.pair (Ty.int IntKind.i64) (Ty.pair (Ty.int IntKind.i64) (Ty.pair (Ty.int IntKind.u64) (Ty.int IntKind.u32)))) [((0 : Int), (0 : Int), (0 : Int), (0 : Int)), ((0 : Int), (0 : Int), (0 : Int), (0 : Int))], .b true, .n n7, .n n8, .n n9, .n n10, .n n6, .b false, .n n7, .n n8, .n n9, .n n10])))
     (.node (Int.tmod (IntKind.wrap .i64 (Int.tmod n0 (6 : Int) + (6 : Int))) (6 : Int) == (4 : Int))
      (.leaf ((0, [.b true, .b false, .n n6, .l Ty.bool (List.replicate 2 false), .l (Ty.pair (Ty.int IntKind.i64) (Ty.pair (Ty.int IntKind.i64) (Ty.pair (Ty.int IntKind.u64) (Ty.int IntKind.u32)))) (List.replicate 2 (Ty.dflt (Ty.pair (Ty.int IntKind.i64) (Ty.pair (Ty.int IntKind.i64) (Ty.pair (Ty.int IntKind.u64) (Ty.int IntKind.u32)))))), .b false, .n (0 : Int), .n (0 : Int), .n (0 : Int), .n (0 : Int), .n n6, .b false])))
      (.node (Int.tmod (IntKind.wrap .i64 (Int.tmod n0 (6 : Int) + (6 : Int))) (6 : Int) == (5 : Int))
       (.leaf ((0, [.b true, .b true, .n n6, .l Ty.bool (List.replicate 2 false), .l (Ty.pair (Ty.int IntKind.i64) (Ty.pair (Ty.int IntKind.i64) (Ty.pair (Ty.int IntKind.u64) (Ty.int IntKind.u32)))) (List.replicate 2 (Ty.dflt (Ty.pair (Ty.int IntKind.i64) (Ty.pair (Ty.int IntKind.i64) (Ty.pair (Ty.int IntKind.u64) (Ty.int IntKind.u32)))))), .b false, .n (0 : Int), .n (0 : Int), .n (0 : Int), .n (0 : Int), .n n6, .b true])))
       (.node (decide (n1 < (0 : Int)))
        (.leaf ((1, [.b true, .b false, .n n6, .l Ty.bool [false, false], .l (Ty.pair (Ty.int IntKind.i64) (Ty.pair (Ty.int IntKind.i64) (Ty.pair (Ty.int IntKind.u64) (Ty.int IntKind.u32)))) [((0 : Int), (0 : Int), (0 : Int), (0 : Int)), ((0 : Int), (0 : Int), (0 : Int), (0 : Int))], .b true, .n n7, .n n8, .n n9, .n n10, .n n6, .b false, .n n7, .n n8, .n n9, .n n10])))
        (.leaf ((1, [.b true, .b false, .n n6, .l Ty.bool [false, false], .l (Ty.pair (Ty.int IntKind.i64) (Ty.pair (Ty.int IntKind.i64) (Ty.pair (Ty.int IntKind.u64) (Ty.int IntKind.u32)))) [((0 : Int), (0 : Int), (0 : Int), (0 : Int)), ((0 : Int), (0 : Int), (0 : Int), (0 : Int))], .b true, .n n7, .n n8, .n n9, .n n10, .n n6, .b false, .n n7, .n n8, .n n9, .n n10])))))))
  | _ => .bad 0
theorem fn_16d_c_im (n0 : Int) (n1 : Int) (n2 : Int) (n3 : Int) (n4 : Int) (n5 : Int) (n6 : Int) (n7 : Int) (n8 : Int) (n9 : Int) (n10 : Int) (g0 : n1 ≠ 0) (g1 :  n1 ≠ 1) : Imp (fn_16d_c [.n n0, .n n1, .n n2, .n n3, .n n4, .n n5, .n n6, .n n7, .n n8, .n n9, .n n10]) (ev_16d ([.n n0, .n n1, .n n2, .n n3, .n n4, .n n5] ++ sd3 n6 n7 n8 n9 n10)) :=
(((((.path [1,0,1,1,1] (by kernel_rfl)
(.node (by kernel_rfl) (by kernel_rfl) (fun h0 =>
(((((((((((((((((.path [1,0,0,1,0,0,1,0,1,1,1,0,1,0,0,1,1] (by kernel_rfl)
(.leaf (by kernel_rfl)))))))))))))))))))) (fun h0 =>
(.node (by kernel_rfl) (by kernel_rfl) (fun h1 =>
((((((.path [1,1,1,1,1,1] (by kernel_rfl)
(.leaf (by kernel_rfl))))))))) (fun h1 =>
(.node (by kernel_rfl) (by kernel_rfl) (fun h2 =>
((((((.path [1,1,1,1,1,1] (by kernel_rfl)
(.leaf (by kernel_rfl))))))))) (fun h2 =>
((.path [1,0] (by kernel_rfl)
(.node (by kernel_rfl) (by kernel_rfl) (fun h3 =>
((((((.path [1,1,1,1,1,1] (by kernel_rfl)
(.pt (c := (n1 != (0 : Int))) (by kernel_rfl) (by kernel_rfl) (by (simp [*]; done))
(.pt (c := (n1 != (1 : Int))) (by kernel_rfl) (by kernel_rfl) (by (simp [*]; done))
(((.path [1,1,1] (by kernel_rfl)
(.leaf (by kernel_rfl)))))))))))))) (fun h3 =>
(.pt (c := (decide (n1 ≥ (2 : Int)))) (by kernel_rfl) (by kernel_rfl) (by (simp only [decide_eq_true_eq, decide_eq_false_iff_not, beq_iff_eq, beq_eq_false_iff_ne, bne_iff_ne, ne_eq, inR, Bool.and_eq_true, Bool.and_eq_false_iff, Bool.not_eq_true', Bool.not_eq_false', Bool.not_eq_eq_eq_not, Bool.not_true, Bool.not_false] at *; omega))
((((.path [1,1,1,1] (by kernel_rfl)
(.pt (c := (n1 != (0 : Int))) (by kernel_rfl) (by kernel_rfl) (by (simp [*]; done))
(.pt (c := (n1 != (1 : Int))) (by kernel_rfl) (by kernel_rfl) (by (simp [*]; done))
(((.path [1,1,1] (by kernel_rfl)
(.leaf (by kernel_rfl)))))))))))))))))))))))))))

noncomputable def ev_16e (env : List Dat) : Tree (Nat × List Dat) := Lk.boxC false LK cs_14 16 ls0 (mkF [.ptr 0 0, .ptr 1 0, clV 0] [vtB (.ptr 2 0) (.nilptr) (.ptr 3 0) 6, reB 8, frB 17, frB 21] [0, 1] [(.bool 0, [vtB (.nilptr) (.nilptr) (.nilptr) 1, reB 3, .gone, .gone]), (.bool 0, [vtB (.ptr 2 0) (.nilptr) (.ptr 3 0) 1, reB 3, frB 12, frB 16]), (.bool 0, [vtB (.nilptr) (.nilptr) (.ptr 4 0) 1, reB 3, .gone, .gone, frB 12])] fun _ => none) env
noncomputable def op_16e : List Dat → Option (Nat × List Dat) := fun env => (ev_16e env).sel
noncomputable def B16e : FBox := mkF [.ptr 0 0, .ptr 1 0, clV 0] [vtB (.ptr 2 0) (.nilptr) (.ptr 3 0) 6, reB 8, frB 17, frB 21] [0, 1] [(.bool 0, [vtB (.nilptr) (.nilptr) (.nilptr) 1, reB 3, .gone, .gone]), (.bool 0, [vtB (.ptr 2 0) (.nilptr) (.ptr 3 0) 1, reB 3, frB 12, frB 16]), (.bool 0, [vtB (.nilptr) (.nilptr) (.ptr 4 0) 1, reB 3, .gone, .gone, frB 12])] op_16e
theorem B16e_ok : RunOk Try.prog 16 (boxRun B16e) := mkF_ok (op := op_16e) cs_14_ok hmix false (LsOk.none _ _ _) (fun env x h => by rw [← boxC_lk]; exact h)
theorem op_16e_eq (env : List Dat) : op_16e env = (ev_16e env).sel := by kernel_rfl
theorem op_16e_good {p : Nat × List Dat → Prop} {T : Tree (Nat × List Dat)} {env : List Dat} (h : Imp T (ev_16e env)) (g : Good p T.sel) : Good p (op_16e env) := by
  rw [op_16e_eq]
  exact h.good g

noncomputable def fn_16e_a : List Dat → Tree (Nat × List Dat)
  | [.n n0, .n n1, .n n2, .n n3, .n n4, .n n5, .n n6, .n n7, .n n8, .n n9, .n n10, .n n11, .n n12, .n n13] =>
    (.node (Int.tmod (IntKind.wrap .i64 (Int.tmod n0 (6 : Int) + (6 : Int))) (6 : Int) == (3 : Int))
     (.leaf ((0, [.b true, .b true, .n n5, .l Ty.bool (List.replicate 2 false), .l (Ty.pair (Ty.int IntKind.i64) (Ty.pair (Ty.int IntKind.i64) (Ty.pair (Ty.int IntKind.u64) (Ty.int IntKind.u32)))) (List.replicate 2 (Ty.dflt (Ty.pair (Ty.int IntKind.i64) (Ty.pair (Ty.int IntKind.i64) (Ty.pair (Ty.int IntKind.u64) (Ty.int IntKind.u32)))))), .b false, .n (0 : Int), .n (0 : Int), .n (0 : Int), .n (0 : Int), .n n5, .b true])))
     (.node (Int.tmod (IntKind.wrap .i64 (Int.tmod n0 (6 : Int) + (6 : Int))) (6 : Int) == (4 : Int))
      (.leaf ((0, [.b true, .b false, .n n5, .l Ty.bool (List.replicate 2 false), .l (Ty.pair (Ty.int IntKind.i64) (Ty.pair (Ty.int IntKind.i64) (Ty.pair (Ty.int IntKind.u64) (Ty.int IntKind.u32)))) (List.replicate 2 (Ty.dflt (Ty.pair (Ty.int IntKind.i64) (Ty.pair (Ty.int IntKind.i64) (Ty.pair (Ty.int IntKind.u64) (Ty.int IntKind.u32)))))), .b false, .n (0 : Int), .n (0 : Int), .n (0 : Int), .n (0 : Int), .n n5, .b false])))
      (.node (Int.tmod (IntKind.wrap .i64 (Int.tmod n0 (6 : Int) + (6 : Int))) (6 : Int) == (5 : Int))
       (.leaf ((0, [.b true, .b true, .n n5, .l Ty.bool (List.replicate 2 false), .l (Ty.pair (Ty.int IntKind.i64) (Ty.pair (Ty.int IntKind.i64) (Ty.pair (Ty.int IntKind.u64) (Ty.int IntKind.u32)))) (List.replicate 2 (Ty.dflt (Ty.pair (Ty.int IntKind.i64) (Ty.pair (Ty.int IntKind.i64) (Ty.pair (Ty.int IntKind.u64) (Ty.int IntKind.u32)))))), .b false, .n (0 : Int), .n (0 : Int), .n (0 : Int), .n (0 : Int), .n n5, .b true])))
       (.leaf ((0, [.b true, .b true, .n n5, .l Ty.bool (List.replicate 2 false), .l (Ty.pair (Ty.int IntKind.i64) (Ty.pair (Ty.int IntKind.i64) (Ty.pair (Ty.int IntKind.u64) (Ty.int IntKind.u32)))) (List.replicate 2 (Ty.dflt (Ty.pair (Ty.int IntKind.i64) (Ty.pair (Ty.int IntKind.i64) (Ty.pair (Ty.int IntKind.u64) (Ty.int IntKind.u32)))))), .b false, .n (0 : Int), .n (0 : Int), .n (0 : Int), .n (0 : Int), .n n5, .b true]))))))
  | _ => .bad 0
theorem fn_16e_a_im (n0 : Int) (n1 : Int) (n2 : Int) (n3 : Int) (n4 : Int) (n5 : Int) (n6 : Int) (n7 : Int) (n8 : Int) (n9 : Int) (n10 : Int) (n11 : Int) (n12 : Int) (n13 : Int) : Imp (fn_16e_a [.n n0, .n n1, .n n2, .n n3, .n n4, .n n5, .n n6, .n n7, .n n8, .n n9, .n n10, .n n11, .n n12, .n n13]) (ev_16e ([.n n0, .n 0, .n n1, .n n2, .n n3, .n n4] ++ sd4 n5 n6 n7 n8 n9 n10 n11 n12 n13)) :=
(((((.path [1,0,1,1,1] (by kernel_rfl)
(.node (by kernel_rfl) (by kernel_rfl) (fun h0 =>
(((((((((((((((((((((.path [1,0,0,1,1,1,1,1,1,1,1,1,1,1,1,1,1,1,1,1,1] (by kernel_rfl)
(.leaf (by kernel_rfl)))))))))))))))))))))))) (fun h0 =>
(.node (by kernel_rfl) (by kernel_rfl) (fun h1 =>
((((((.path [1,1,1,1,1,1] (by kernel_rfl)
(.leaf (by kernel_rfl))))))))) (fun h1 =>
(.node (by kernel_rfl) (by kernel_rfl) (fun h2 =>
((((((.path [1,1,1,1,1,1] (by kernel_rfl)
(.leaf (by kernel_rfl))))))))) (fun h2 =>
(((((((((((((((((((((((((((((((((((((.path (1 ::0 ::0 ::0 ::0 ::1 ::0 ::1 ::1 ::1 ::1 ::1 ::1 ::1 ::1 ::1 ::1 ::1 ::1 ::1 ::1 ::0 ::0 ::0 ::0 ::1 ::1 ::1 ::1 ::1 ::1 ::1 ::1 ::1 ::1 ::1 ::1 :: []) (by kernel_rfl)
(.leaf (by kernel_rfl))))))))))))))))))))))))))))))))))))))))))))))))))

noncomputable def fn_16e_b : List Dat → Tree (Nat × List Dat)
  | [.n n0, .n n1, .n n2, .n n3, .n n4, .n n5, .n n6, .n n7, .n n8, .n n9, .n n10, .n n11, .n n12, .n n13] =>
    (.node (Int.tmod (IntKind.wrap .i64 (Int.tmod n0 (6 : Int) + (6 : Int))) (6 : Int) == (3 : Int))
     (.leaf ((0, [.b true, .b true, .n n5, .l Ty.bool (List.replicate 2 false), .l (Ty.pair (Ty.int IntKind.i64) (Ty.pair (Ty.int IntKind.i64) (Ty.pair (Ty.int IntKind.u64) (Ty.int IntKind.u32)))) (List.replicate 2 (Ty.dflt (Ty.pair (Ty.int IntKind.i64) (Ty.pair (Ty.int IntKind.i64) (Ty.pair (Ty.int IntKind.u64) (Ty.int IntKind.u32)))))), .b false, .n (0 : Int), .n (0 : Int), .n (0 : Int), .n (0 : Int), .n n5, .b true])))
     (.node (Int.tmod (IntKind.wrap .i64 (Int.tmod n0 (6 : Int) + (6 : Int))) (6 : Int) == (4 : Int))
      (.leaf ((0, [.b true, .b false, .n n5, .l Ty.bool (List.replicate 2 false), .l (Ty.pair (Ty.int IntKind.i64) (Ty.pair (Ty.int IntKind.i64) (Ty.pair (Ty.int IntKind.u64) (Ty.int IntKind.u32)))) (List.replicate 2 (Ty.dflt (Ty.pair (Ty.int IntKind.i64) (Ty.pair (Ty.int IntKind.i64) (Ty.pair (Ty.int IntKind.u64) (Ty.int IntKind.u32)))))), .b false, .n (0 : Int), .n (0 : Int), .n (0 : Int), .n (0 : Int), .n n5, .b false])))
      (.node (Int.tmod (IntKind.wrap .i64 (Int.tmod n0 (6 : Int) + (6 : Int))) (6 : Int) == (5 : Int))
       (.leaf ((0, [.b true, .b true, .n n5, .l Ty.bool (List.replicate 2 false), .l (Ty.pair (Ty.int IntKind.i64) (Ty.pair (Ty.int IntKind.i64) (Ty.pair (Ty.int IntKind.u64) (Ty.int IntKind.u32)))) (List.replicate 2 (Ty.dflt (Ty.pair (Ty.int IntKind.i64) (Ty.pair (Ty.int IntKind.i64) (Ty.pair (Ty.int IntKind.u64) (Ty.int IntKind.u32)))))), .b false, .n (0 : Int), .n (0 : Int), .n (0 : Int), .n (0 : Int), .n n5, .b true])))
       (.node (decide (n1 ≤ n5))
        (.leaf ((0, [.b true, .b true, .n n5, .l Ty.bool (List.replicate 2 false), .l (Ty.pair (Ty.int IntKind.i64) (Ty.pair (Ty.int IntKind.i64) (Ty.pair (Ty.int IntKind.u64) (Ty.int IntKind.u32)))) (List.replicate 2 (Ty.dflt (Ty.pair (Ty.int IntKind.i64) (Ty.pair (Ty.int IntKind.i64) (Ty.pair (Ty.int IntKind.u64) (Ty.int IntKind.u32)))))), .b false, .n (0 : Int), .n (0 : Int), .n (0 : Int), .n (0 : Int), .n n5, .b true])))
        (.node (!(n10 == n1 && (n11 == n2 && (n12 == n3 && (n13 == n4 && true) && true))))
         (.node (!(Prod.fst (List.getD [(n10, n11, n12, n13), ((0 : Int), (0 : Int), (0 : Int), (0 : Int))] 0 (Ty.dflt (Ty.pair (Ty.int IntKind.i64) (Ty.pair (Ty.int IntKind.i64) (Ty.pair (Ty.int IntKind.u64) (Ty.int IntKind.u32)))))) == n1 && (Prod.fst (Prod.snd (List.getD [(n10, n11, n12, n13), ((0 : Int), (0 : Int), (0 : Int), (0 : Int))] 0 (Ty.dflt (Ty.pair (Ty.int IntKind.i64) (Ty.pair (Ty.int IntKind.i64) (Ty.pair (Ty.int IntKind.u64) (Ty.int IntKind.u32))))))) == n2 && (Prod.fst (Prod.snd (Prod.snd (List.getD [(n10, n11, n12, n13), ((0 : Int), (0 : Int), (0 : Int), (0 : Int))] 0 (Ty.dflt (Ty.pair (Ty.int IntKind.i64) (Ty.pair (Ty.int IntKind.i64) (Ty.pair (Ty.int IntKind.u64) (Ty.int IntKind.u32)))))))) == n3 && (Prod.snd (Prod.snd (Prod.snd (List.getD [(n10, n11, n12, n13), ((0 : Int), (0 : Int), (0 : Int), (0 : Int))] 0 (Ty.dflt (Ty.pair (Ty.int IntKind.i64) (Ty.pair (Ty.int IntKind.i64) (Ty.pair (Ty.int IntKind.u64) (Ty.int IntKind.u32)))))))) == n4 && true) && true))))
          (.leaf ((0, [.b true, .b true, .n n5, .l Ty.bool (List.replicate 2 false), .l (Ty.pair (Ty.int IntKind.i64) (Ty.pair (Ty.int IntKind.i64) (Ty.pair (Ty.int IntKind.u64) (Ty.int IntKind.u32)))) (List.replicate 2 (Ty.dflt (Ty.pair (Ty.int IntKind.i64) (Ty.pair (Ty.int IntKind.i64) (Ty.pair (Ty.int IntKind.u64) (Ty.int IntKind.u32)))))), .b false, .n (0 : Int), .n (0 : Int), .n (0 : Int), .n (0 : Int), .n n5, .b true])))
          (.leaf ((0, [.b false, .b true, .n n5, .l Ty.bool (List.replicate 2 false), .l (Ty.pair (Ty.int IntKind.i64) (Ty.pair (Ty.int IntKind.i64) (Ty.pair (Ty.int IntKind.u64) (Ty.int IntKind.u32)))) (List.replicate 2 (Ty.dflt (Ty.pair (Ty.int IntKind.i64) (Ty.pair (Ty.int IntKind.i64) (Ty.pair (Ty.int IntKind.u64) (Ty.int IntKind.u32)))))), .b true, .n n1, .n n2, .n n3, .n n4, .n n1, .b false]))))
         (.node (!(Prod.fst (List.getD [(n10, n11, n12, n13), ((0 : Int), (0 : Int), (0 : Int), (0 : Int))] 0 (Ty.dflt (Ty.pair (Ty.int IntKind.i64) (Ty.pair (Ty.int IntKind.i64) (Ty.pair (Ty.int IntKind.u64) (Ty.int IntKind.u32)))))) == n1 && (Prod.fst (Prod.snd (List.getD [(n10, n11, n12, n13), ((0 : Int), (0 : Int), (0 : Int), (0 : Int))] 0 (Ty.dflt (Ty.pair (Ty.int IntKind.i64) (Ty.pair (Ty.int IntKind.i64) (Ty.pair (Ty.int IntKind.u64) (Ty.int IntKind.u32))))))) == n2 && (Prod.fst (Prod.snd (Prod.snd (List.getD [(n10, n11, n12, n13), ((0 : Int), (0 : Int), (0 : Int), (0 : Int))] 0 (Ty.dflt (Ty.pair (Ty.int IntKind.i64) (Ty.pair (Ty.int IntKind.i64) (Ty.pair (Ty.int IntKind.u64) (Ty.int IntKind.u32)))))))) == n3 && (Prod.snd (Prod.snd (Prod.snd (List.getD [(n10, n11, n12, n13), ((0 : Int), (0 : Int), (0 : Int), (0 : Int))] 0 (Ty.dflt (Ty.pair (Ty.int IntKind.i64) (Ty.pair (Ty.int IntKind.i64) (Ty.pair (Ty.int IntKind.u64) (Ty.int IntKind.u32)))))))) == n4 && true) && true))))
          (.leaf ((2, [.b false, .b false, .n n1, .l Ty.bool (List.replicate 2 false), .l (Ty.pair (Ty.int IntKind.i64) (Ty.pair (Ty.int IntKind.i64) (Ty.pair (Ty.int IntKind.u64) (Ty.int IntKind.u32)))) (List.replicate 2 (Ty.dflt (Ty.pair (Ty.int IntKind.i64) (Ty.pair (Ty.int IntKind.i64) (Ty.pair (Ty.int IntKind.u64) (Ty.int IntKind.u32)))))), .b false, .n (0 : Int), .n (0 : Int), .n (0 : Int), .n (0 : Int), .n n5, .b true, .n n1, .n n2, .n n3, .n n4])))
          (.leaf ((2, [.b true, .b false, .n n1, .l Ty.bool (List.replicate 2 false), .l (Ty.pair (Ty.int IntKind.i64) (Ty.pair (Ty.int IntKind.i64) (Ty.pair (Ty.int IntKind.u64) (Ty.int IntKind.u32)))) (List.replicate 2 (Ty.dflt (Ty.pair (Ty.int IntKind.i64) (Ty.pair (Ty.int IntKind.i64) (Ty.pair (Ty.int IntKind.u64) (Ty.int IntKind.u32)))))), .b true, .n n1, .n n2, .n n3, .n n4, .n n1, .b false, .n n1, .n n2, .n n3, .n n4])))))))))
  | _ => .bad 0
theorem fn_16e_b_im (n0 : Int) (n1 : Int) (n2 : Int) (n3 : Int) (n4 : Int) (n5 : Int) (n6 : Int) (n7 : Int) (n8 : Int) (n9 : Int) (n10 : Int) (n11 : Int) (n12 : Int) (n13 : Int) : Imp (fn_16e_b [.n n0, .n n1, .n n2, .n n3, .n n4, .n n5, .n n6, .n n7, .n n8, .n n9, .n n10, .n n11, .n n12, .n n13]) (ev_16e ([.n n0, .n 1, .n n1, .n n2, .n n3, .n n4] ++ sd4 n5 n6 n7 n8 n9 n10 n11 n12 n13)) :=
(((((.path [1,0,1,1,1] (by kernel_rfl)
(.node (by kernel_rfl) (by kernel_rfl) (fun h0 =>
(((((((((((((((((((((.path [1,0,0,1,1,1,1,1,1,1,1,1,1,1,1,1,1,1,1,1,1] (by kernel_rfl)
(.leaf (by kernel_rfl)))))))))))))))))))))))) (fun h0 =>
(.node (by kernel_rfl) (by kernel_rfl) (fun h1 =>
((((((.path [1,1,1,1,1,1] (by kernel_rfl)
(.leaf (by kernel_rfl))))))))) (fun h1 =>
(.node (by kernel_rfl) (by kernel_rfl) (fun h2 =>
((((((.path [1,1,1,1,1,1] (by kernel_rfl)
(.leaf (by kernel_rfl))))))))) (fun h2 =>
(((((((((.path [1,0,0,0,1,0,0,1,0] (by kernel_rfl)
(.node (by kernel_rfl) (by kernel_rfl) (fun h3 =>
(((((((((((((((.path [1,1,1,1,1,1,1,1,1,1,1,0,0,1,0] (by kernel_rfl)
(.pt (by kernel_rfl) (by kernel_rfl) h3
((((((((.path [1,1,1,1,1,1,1,1] (by kernel_rfl)
(.leaf (by kernel_rfl))))))))))))))))))))))))))) (fun h3 =>
((.path [1,1] (by kernel_rfl)
(.node (by kernel_rfl) (by kernel_rfl) (fun h4 =>
((((((((((((.path [1,1,1,1,1,1,1,1,0,0,1,0] (by kernel_rfl)
(.pf (by kernel_rfl) (by kernel_rfl) h3
((((.path [1,1,1,1] (by kernel_rfl)
(.node (by kernel_rfl) (by kernel_rfl) (fun h5 =>
(((((.path [1,1,1,1,1] (by kernel_rfl)
(.leaf (by kernel_rfl)))))))) (fun h5 =>
(((((.path [1,0,1,1,1] (by kernel_rfl)
(.leaf (by kernel_rfl))))))))))))))))))))))))))) (fun h4 =>
((((((((((.path [0,1,1,1,1,1,0,0,1,0] (by kernel_rfl)
(.pf (by kernel_rfl) (by kernel_rfl) h3
((((.path [1,1,1,1] (by kernel_rfl)
(.node (by kernel_rfl) (by kernel_rfl) (fun h5 =>
(((((.path [1,1,1,1,1] (by kernel_rfl)
(.leaf (by kernel_rfl)))))))) (fun h5 =>
(((((.path [1,0,1,1,1] (by kernel_rfl)
(.leaf (by kernel_rfl))))))))))))))))))))))))))))))))))))))))))))))))))

noncomputable def fn_16e_c : List Dat → Tree (Nat × List Dat)
  | [.n n0, .n n1, .n n2, .n n3, .n n4, .n n5, .n n6, .n n7, .n n8, .n n9, .n n10, .n n11, .n n12, .n n13, .n n14] =>
    (.node (Int.tmod (IntKind.wrap .i64 (Int.tmod n0 (6 : Int) + (6 : Int))) (6 : Int) == (3 : Int))
     (.leaf ((0, [.b true, .b true, .n n6, .l Ty.bool (List.replicate 2 false), .l (Ty.pair (Ty.int IntKind.i64) (Ty.pair (Ty.int IntKind.i64) (Ty.pair (Ty.int IntKind.u64) (Ty.int IntKind.u32)))) (List.replicate 2 (Ty.dflt (Ty.pair (Ty.int IntKind.i64) (Ty.pair (Ty.int IntKind.i64) (Ty.pair (Ty.int IntKind.u64) (Ty.int IntKind.u32)))))), .b false, .n (0 : Int), .n (0 : Int), .n (0 : Int), .n (0 : Int), .n n6, .b true])))
     (.node (Int.tmod (IntKind.wrap .i64 (Int.tmod n0 (6 : Int) + (6 : Int))) (6 : Int) == (4 : Int))
      (.leaf ((0, [.b true, .b false, .n n6, .l Ty.bool (List.replicate 2 false), .l (Ty.pair (Ty.int IntKind.i64) (Ty.pair (Ty.int IntKind.i64) (Ty.pair (Ty.int IntKind.u64) (Ty.int IntKind.u32)))) (List.replicate 2 (Ty.dflt (Ty.pair (Ty.int IntKind.i64) (Ty.pair (Ty.int IntKind.i64) (Ty.pair (Ty.int IntKind.u64) (Ty.int IntKind.u32)))))), .b false, .n (0 : Int), .n (0 : Int), .n (0 : Int), .n (0 : Int), .n n6, .b false])))
      (.node (Int.tmod (IntKind.wrap .i64 (Int.tmod n0 (6 : Int) + (6 : Int))) (6 : Int) == (5 : Int))
       (.leaf ((0, [.b true, .b true, .n n6, .l Ty.bool (List.replicate 2 false), .l (Ty.pair (Ty.int IntKind.i64) (Ty.pair (Ty.int IntKind.i64) (Ty.pair (Ty.int IntKind.u64) (Ty.int IntKind.u32)))) (List.replicate 2 (Ty.dflt (Ty.pair (Ty.int IntKind.i64) (Ty.pair (Ty.int IntKind.i64) (Ty.pair (Ty.int IntKind.u64) (Ty.int IntKind.u32)))))), .b false, .n (0 : Int), .n (0 : Int), .n (0 : Int), .n (0 : Int), .n n6, .b true])))
       (.node (decide (n1 < (0 : Int)))
        (.leaf ((1, [.b true, .b false, .n n6, .l Ty.bool [true, false], .l (Ty.pair (Ty.int IntKind.i64) (Ty.pair (Ty.int IntKind.i64) (Ty.pair (Ty.int IntKind.u64) (Ty.int IntKind.u32)))) [(n11, n12, n13, n14), ((0 : Int), (0 : Int), (0 : Int), (0 : Int))], .b true, .n n7, .n n8, .n n9, .n n10, .n n6, .b false, .n n11, .n n12, .n n13, .n n14, .n n7, .n n8, .n n9, .n n10])))
        (.leaf ((1, [.b true, .b false, .n n6, .l Ty.bool [true, false], .l (Ty.pair (Ty.int IntKind.i64) (Ty.pair (Ty.int IntKind.i64) (Ty.pair (Ty.int IntKind.u64) (Ty.int IntKind.u32)))) [(n11, n12, n13, n14), ((0 : Int), (0 : Int), (0 : Int), (0 : Int))], .b true, .n n7, .n n8, .n n9, .n n10, .n n6, .b false, .n n11, .n n12, .n n13, .n n14, .n n7, .n n8, .n n9, .n n10])))))))
  | _ => .bad 0
theorem fn_16e_c_im (n0 : Int) (n1 : Int) (n2 : Int) (n3 : Int) (n4 : Int) (n5 : Int) (n6 : Int) (n7 : Int) (n8 : Int) (n9 : Int) (n10 : Int) (n11 : Int) (n12 : Int) (n13 : Int) (n14 : Int) (g0 : n1 ≠ 0) (g1 :  n1 ≠ 1) : Imp (fn_16e_c [.n n0, .n n1, .n n2, .n n3, .n n4, .n n5, .n n6, .n n7, .n n8, .n n9, .n n10, .n n11, .n n12, .n n13, .n n14]) (ev_16e ([.n n0, .n n1, .n n2, .n n3, .n n4, .n n5] ++ sd4 n6 n7 n8 n9 n10 n11 n12 n13 n14)) :=
(((((.path [1,0,1,1,1] (by kernel_rfl)
(.node (by kernel_rfl) (by kernel_rfl) (fun h0 =>
(((((((((((((((((((((.path [1,0,0,1,1,1,1,1,1,1,1,1,1,1,1,1,1,1,1,1,1] (by kernel_rfl)
(.leaf (by kernel_rfl)))))))))))))))))))))))) (fun h0 =>
(.node (by kernel_rfl) (by kernel_rfl) (fun h1 =>
((((((.path [1,1,1,1,1,1] (by kernel_rfl)
(.leaf (by kernel_rfl))))))))) (fun h1 =>
(.node (by kernel_rfl) (by kernel_rfl) (fun h2 =>
((((((.path [1,1,1,1,1,1] (by kernel_rfl)
(.leaf (by kernel_rfl))))))))) (fun h2 =>
((.path [1,0] (by kernel_rfl)
(.node (by kernel_rfl) (by kernel_rfl) (fun h3 =>
((((((.path [1,1,1,1,1,1] (by kernel_rfl)
(.pt (c := (n1 != (0 : Int))) (by kernel_rfl) (by kernel_rfl) (by (simp [*]; done))
(.pt (c := (n1 != (1 : Int))) (by kernel_rfl) (by kernel_rfl) (by (simp [*]; done))
(((.path [1,1,1] (by kernel_rfl)
(.leaf (by kernel_rfl)))))))))))))) (fun h3 =>
(.pt (c := (decide (n1 ≥ (2 : Int)))) (by kernel_rfl) (by kernel_rfl) (by (simp only [decide_eq_true_eq, decide_eq_false_iff_not, beq_iff_eq, beq_eq_false_iff_ne, bne_iff_ne, ne_eq, inR, Bool.and_eq_true, Bool.and_eq_false_iff, Bool.not_eq_true', Bool.not_eq_false', Bool.not_eq_eq_eq_not, Bool.not_true, Bool.not_false] at *; omega))
((((.path [1,1,1,1] (by kernel_rfl)
(.pt (c := (n1 != (0 : Int))) (by kernel_rfl) (by kernel_rfl) (by (simp [*]; done))
(.pt (c := (n1 != (1 : Int))) (by kernel_rfl) (by kernel_rfl) (by (simp [*]; done))
(((.path [1,1,1] (by kernel_rfl)
(.leaf (by kernel_rfl)))))))))))))))))))))))))))

noncomputable def ev_16f (env : List Dat) : Tree (Nat × List Dat) := Lk.boxC false LK cs_14 16 ls0 (mkF [.ptr 0 0, .ptr 1 0, clV 0] [vtB (.nilptr) (.ptr 2 0) (.ptr 3 0) 6, reB 8, frB 17, frB 21] [0, 1] [(.bool 0, [vtB (.nilptr) (.nilptr) (.nilptr) 1, reB 3, .gone, .gone]), (.bool 0, [vtB (.nilptr) (.ptr 2 0) (.ptr 3 0) 1, reB 3, frB 12, frB 16]), (.bool 0, [vtB (.nilptr) (.nilptr) (.ptr 4 0) 1, reB 3, .gone, .gone, frB 12])] fun _ => none) env
noncomputable def op_16f : List Dat → Option (Nat × List Dat) := fun env => (ev_16f env).sel
noncomputable def B16f : FBox := mkF [.ptr 0 0, .ptr 1 0, clV 0] [vtB (.nilptr) (.ptr 2 0) (.ptr 3 0) 6, reB 8, frB 17, frB 21] [0, 1] [(.bool 0, [vtB (.nilptr) (.nilptr) (.nilptr) 1, reB 3, .gone, .gone]), (.bool 0, [vtB (.nilptr) (.ptr 2 0) (.ptr 3 0) 1, reB 3, frB 12, frB 16]), (.bool 0, [vtB (.nilptr) (.nilptr) (.ptr 4 0) 1, reB 3, .gone, .gone, frB 12])] op_16f
theorem B16f_ok : RunOk Try.prog 16 (boxRun B16f) := mkF_ok (op := op_16f) cs_14_ok hmix false (LsOk.none _ _ _) (fun env x h => by rw [← boxC_lk]; exact h)
theorem op_16f_eq (env : List Dat) : op_16f env = (ev_16f env).sel := by kernel_rfl
theorem op_16f_good {p : Nat × List Dat → Prop} {T : Tree (Nat × List Dat)} {env : List Dat} (h : Imp T (ev_16f env)) (g : Good p T.sel) : Good p (op_16f env) := by
  rw [op_16f_eq]
  exact h.good g

noncomputable def fn_16f_a : List Dat → Tree (Nat × List Dat)
  | [.n n0, .n n1, .n n2, .n n3, .n n4, .n n5, .n n6, .n n7, .n n8, .n n9, .n n10, .n n11, .n n12, .n n13] =>
    (.node (Int.tmod (IntKind.wrap .i64 (Int.tmod n0 (6 : Int) + (6 : Int))) (6 : Int) == (3 : Int))
     (.leaf ((0, [.b true, .b true, .n n5, .l Ty.bool (List.replicate 2 false), .l (Ty.pair (Ty.int IntKind.i64) (Ty.pair (Ty.int IntKind.i64) (Ty.pair (Ty.int IntKind.u64) (Ty.int IntKind.u32)))) (List.replicate 2 (Ty.dflt (Ty.pair (Ty.int IntKind.i64) (Ty.pair (Ty.int IntKind.i64) (Ty.pair (Ty.int IntKind.u64) (Ty.int IntKind.u32)))))), .b false, .n (0 : Int), .n (0 : Int), .n (0 : Int), .n (0 : Int), .n n5, .b true])))
     (.node (Int.tmod (IntKind.wrap .i64 (Int.tmod n0 (6 : Int) + (6 : Int))) (6 : Int) == (4 : Int))
      (.leaf ((0, [.b true, .b false, .n n5, .l Ty.bool (List.replicate 2 false), .l (Ty.pair (Ty.int IntKind.i64) (Ty.pair (Ty.int IntKind.i64) (Ty.pair (Ty.int IntKind.u64) (Ty.int IntKind.u32)))) (List.replicate 2 (Ty.dflt (Ty.pair (Ty.int IntKind.i64) (Ty.pair (Ty.int IntKind.i64) (Ty.pair (Ty.int IntKind.u64) (Ty.int IntKind.u32)))))), .b false, .n (0 : Int), .n (0 : Int), .n (0 : Int), .n (0 : Int), .n n5, .b false])))
      (.node (Int.tmod (IntKind.wrap .i64 (Int.tmod n0 (6 : Int) + (6 : Int))) (6 : Int) == (5 : Int))
       (.leaf ((0, [.b true, .b true, .n n5, .l Ty.bool (List.replicate 2 false), .l (Ty.pair (Ty.int IntKind.i64) (Ty.pair (Ty.int IntKind.i64) (Ty.pair (Ty.int IntKind.u64) (Ty.int IntKind.u32)))) (List.replicate 2 (Ty.dflt (Ty.pair (Ty.int IntKind.i64) (Ty.pair (Ty.int IntKind.i64) (Ty.pair (Ty.int IntKind.u64) (Ty.int IntKind.u32)))))), .b false, .n (0 : Int), .n (0 : Int), .n (0 : Int), .n (0 : Int), .n n5, .b true])))
       (.node (decide (n1 ≤ n5))
        (.leaf ((0, [.b true, .b true, .n n5, .l Ty.bool (List.replicate 2 false), .l (Ty.pair (Ty.int IntKind.i64) (Ty.pair (Ty.int IntKind.i64) (Ty.pair (Ty.int IntKind.u64) (Ty.int IntKind.u32)))) (List.replicate 2 (Ty.dflt (Ty.pair (Ty.int IntKind.i64) (Ty.pair (Ty.int IntKind.i64) (Ty.pair (Ty.int IntKind.u64) (Ty.int IntKind.u32)))))), .b false, .n (0 : Int), .n (0 : Int), .n (0 : Int), .n (0 : Int), .n n5, .b true])))
        (.node (!(n10 == n1 && (n11 == n2 && (n12 == n3 && (n13 == n4 && true) && true))))
         (.node (!(Prod.fst (List.getD [((0 : Int), (0 : Int), (0 : Int), (0 : Int)), (n10, n11, n12, n13)] 1 (Ty.dflt (Ty.pair (Ty.int IntKind.i64) (Ty.pair (Ty.int IntKind.i64) (Ty.pair (Ty.int IntKind.u64) (Ty.int IntKind.u32)))))) == n1 && (Prod.fst (Prod.snd (List.getD [((0 : Int), (0 : Int), (0 : Int), (0 : Int)), (n10, n11, n12, n13)] 1 (Ty.dflt (Ty.pair (Ty.int IntKind.i64) (Ty.pair (Ty.int IntKind.i64) (Ty.pair (Ty.int IntKind.u64) (Ty.int IntKind.u32))))))) == n2 && (Prod.fst (Prod.snd (Prod.snd (List.getD [((0 : Int), (0 : Int), (0 : Int), (0 : Int)), (n10, n11, n12, n13)] 1 (Ty.dflt (Ty.pair (Ty.int IntKind.i64) (Ty.pair (Ty.int IntKind.i64) (Ty.pair (Ty.int IntKind.u64) (Ty.int IntKind.u32)))))))) == n3 && (Prod.snd (Prod.snd (Prod.snd (List.getD [((0 : Int), (0 : Int), (0 : Int), (0 : Int)), (n10, n11, n12, n13)] 1 (Ty.dflt (Ty.pair (Ty.int IntKind.i64) (Ty.pair (Ty.int IntKind.i64) (Ty.pair (Ty.int IntKind.u64) (Ty.int IntKind.u32)))))))) == n4 && true) && true))))
          (.leaf ((0, [.b true, .b true, .n n5, .l Ty.bool (List.replicate 2 false), .l (Ty.pair (Ty.int IntKind.i64) (Ty.pair (Ty.int IntKind.i64) (Ty.pair (Ty.int IntKind.u64) (Ty.int IntKind.u32)))) (List.replicate 2 (Ty.dflt (Ty.pair (Ty.int IntKind.i64) (Ty.pair (Ty.int IntKind.i64) (Ty.pair (Ty.int IntKind.u64) (Ty.int IntKind.u32)))))), .b false, .n (0 : Int), .n (0 : Int), .n (0 : Int), .n (0 : Int), .n n5, .b true])))
          (.leaf ((0, [.b false, .b true, .n n5, .l Ty.bool (List.replicate 2 false), .l (Ty.pair (Ty.int IntKind.i64) (Ty.pair (Ty.int IntKind.i64) (Ty.pair (Ty.int IntKind.u64) (Ty.int IntKind.u32)))) (List.replicate 2 (Ty.dflt (Ty.pair (Ty.int IntKind.i64) (Ty.pair (Ty.int IntKind.i64) (Ty.pair (Ty.int IntKind.u64) (Ty.int IntKind.u32)))))), .b true, .n n1, .n n2, .n n3, .n n4, .n n1, .b false]))))
         (.node (!(Prod.fst (List.getD [((0 : Int), (0 : Int), (0 : Int), (0 : Int)), (n10, n11, n12, n13)] 1 (Ty.dflt (Ty.pair (Ty.int IntKind.i64) (Ty.pair (Ty.int IntKind.i64) (Ty.pair (Ty.int IntKind.u64) (Ty.int IntKind.u32)))))) == n1 && (Prod.fst (Prod.snd (List.getD [((0 : Int), (0 : Int), (0 : Int), (0 : Int)), (n10, n11, n12, n13)] 1 (Ty.dflt (Ty.pair (Ty.int IntKind.i64) (Ty.pair (Ty.int IntKind.i64) (Ty.pair (Ty.int IntKind.u64) (Ty.int IntKind.u32))))))) == n2 && (Prod.fst (Prod.snd (Prod.snd (List.getD [((0 : Int), (0 : Int), (0 : Int), (0 : Int)), (n10, n11, n12, n13)] 1 (Ty.dflt (Ty.pair (Ty.int IntKind.i64) (Ty.pair (Ty.int IntKind.i64) (Ty.pair (Ty.int IntKind.u64) (Ty.int IntKind.u32)))))))) == n3 && (Prod.snd (Prod.snd (Prod.snd (List.getD [((0 : Int), (0 : Int), (0 : Int), (0 : Int)), (n10, n11, n12, n13)] 1 (Ty.dflt (Ty.pair (Ty.int IntKind.i64) (Ty.pair (Ty.int IntKind.i64) (Ty.pair (Ty.int IntKind.u64) (Ty.int IntKind.u32)))))))) == n4 && true) && true))))
          (.leaf ((2, [.b false, .b false, .n n1, .l Ty.bool (List.replicate 2 false), .l (Ty.pair (Ty.int IntKind.i64) (Ty.pair (Ty.int IntKind.i64) (Ty.pair (Ty.int IntKind.u64) (Ty.int IntKind.u32)))) (List.replicate 2 (Ty.dflt (Ty.pair (Ty.int IntKind.i64) (Ty.pair (Ty.int IntKind.i64) (Ty.pair (Ty.int IntKind.u64) (Ty.int IntKind.u32)))))), .b false, .n (0 : Int), .n (0 : Int), .n (0 : Int), .n (0 : Int), .n n5, .b true, .n n1, .n n2, .n n3, .n n4])))
          (.leaf ((2, [.b true, .b false, .n n1, .l Ty.bool (List.replicate 2 false), .l (Ty.pair (Ty.int IntKind.i64) (Ty.pair (Ty.int IntKind.i64) (Ty.pair (Ty.int IntKind.u64) (Ty.int IntKind.u32)))) (List.replicate 2 (Ty.dflt (Ty.pair (Ty.int IntKind.i64) (Ty.pair (Ty.int IntKind.i64) (Ty.pair (Ty.int IntKind.u64) (Ty.int IntKind.u32)))))), .b true, .n n1, .n n2, .n n3, .n n4, .n n1, .b false, .n n1, .n n2, .n n3, .n n4])))))))))
  | _ => .bad 0
theorem fn_16f_a_im (n0 : Int) (n1 : Int) (n2 : Int) (n3 : Int) (n4 : Int) (n5 : Int) (n6 : Int) (n7 : Int) (n8 : Int) (n9 : Int) (n10 : Int) (n11 : Int) (n12 : Int) (n13 : Int) : Imp (fn_16f_a [.n n0, .n n1, .n n2, .n n3, .n n4, .n n5, .n n6, .n n7, .n n8, .n n9, .n n10, .n n11, .n n12, .n n13]) (ev_16f ([.n n0, .n 0, .n n1, .n n2, .n n3, .n n4] ++ sd5 n5 n6 n7 n8 n9 n10 n11 n12 n13)) :=
(((((.path [1,0,1,1,1] (by kernel_rfl)
(.node (by kernel_rfl) (by kernel_rfl) (fun h0 =>
((((((((((((((((((((((.path [1,0,0,1,0,0,1,1,1,1,1,1,1,1,0,1,1,1,1,1,1,1] (by kernel_rfl)
(.leaf (by kernel_rfl))))))))))))))))))))))))) (fun h0 =>
(.node (by kernel_rfl) (by kernel_rfl) (fun h1 =>
((((((.path [1,1,1,1,1,1] (by kernel_rfl)
(.leaf (by kernel_rfl))))))))) (fun h1 =>
(.node (by kernel_rfl) (by kernel_rfl) (fun h2 =>
((((((.path [1,1,1,1,1,1] (by kernel_rfl)
(.leaf (by kernel_rfl))))))))) (fun h2 =>
(((((((((.path [1,0,0,0,0,1,0,1,0] (by kernel_rfl)
(.node (by kernel_rfl) (by kernel_rfl) (fun h3 =>
((((((((((((((((.path [1,1,1,1,1,1,1,1,1,1,0,0,0,0,1,0] (by kernel_rfl)
(.pt (by kernel_rfl) (by kernel_rfl) h3
((((((((.path [1,1,1,1,1,1,1,1] (by kernel_rfl)
(.leaf (by kernel_rfl)))))))))))))))))))))))))))) (fun h3 =>
((.path [1,1] (by kernel_rfl)
(.node (by kernel_rfl) (by kernel_rfl) (fun h4 =>
(((((((((((((.path [1,1,1,1,1,1,1,0,0,0,0,1,0] (by kernel_rfl)
(.pf (by kernel_rfl) (by kernel_rfl) h3
((((.path [1,1,1,1] (by kernel_rfl)
(.node (by kernel_rfl) (by kernel_rfl) (fun h5 =>
(((((.path [1,1,1,1,1] (by kernel_rfl)
(.leaf (by kernel_rfl)))))))) (fun h5 =>
(((((.path [1,0,1,1,1] (by kernel_rfl)
(.leaf (by kernel_rfl)))))))))))))))))))))))))))) (fun h4 =>
(((((((((((.path [0,1,1,1,1,0,0,0,0,1,0] (by kernel_rfl)
(.pf (by kernel_rfl) (by kernel_rfl) h3
((((.path [1,1,1,1] (by kernel_rfl)
(.node (by kernel_rfl) (by kernel_rfl) (fun h5 =>
(((((.path [1,1,1,1,1] (by kernel_rfl)
(.leaf (by kernel_rfl)))))))) (fun h5 =>
(((((.path [1,0,1,1,1] (by kernel_rfl)
(.leaf (by kernel_rfl)))))))))))))))))))))))))))))))))))))))))))))))))))

noncomputable def fn_16f_b : List Dat → Tree (Nat × List Dat)
  | [.n n0, .n n1, .n n2, .n n3, .n n4, .n n5, .n n6, .n n7, .n n8, .n n9, .n n10, .n n11, .n n12, .n n13] =>
    (.node (Int.tmod (IntKind.wrap .i64 (Int.tmod n0 (6 : Int) + (6 : Int))) (6 : Int) == (3 : Int))
     (.leaf ((0, [.b true, .b true, .n n5, .l Ty.bool (List.replicate 2 false), .l (Ty.pair (Ty.int IntKind.i64) (Ty.pair (Ty.int IntKind.i64) (Ty.pair (Ty.int IntKind.u64) (Ty.int IntKind.u32)))) (List.replicate 2 (Ty.dflt (Ty.pair (Ty.int IntKind.i64) (Ty.pair (Ty.int IntKind.i64) (Ty.pair (Ty.int IntKind.u64) (Ty.int IntKind.u32)))))), .b false, .n (0 : Int), .n (0 : Int), .n (0 : Int), .n (0 : Int), .n n5, .b true])))
     (.node (Int.tmod (IntKind.wrap .i64 (Int.tmod n0 (6 : Int) + (6 : Int))) (6 : Int) == (4 : Int))
      (.leaf ((0, [.b true, .b false, .n n5, .l Ty.bool (List.replicate 2 false), .l (Ty.pair (Ty.int IntKind.i64) (Ty.pair (Ty.int IntKind.i64) (Ty.pair (Ty.int IntKind.u64) (Ty.int IntKind.u32)))) (List.replicate 2 (Ty.dflt (Ty.pair (Ty.int IntKind.i64) (Ty.pair (Ty.int IntKind.i64) (Ty.pair (Ty.int IntKind.u64) (Ty.int IntKind.u32)))))), .b false, .n (0 : Int), .n (0 : Int), .n (0 : Int), .n (0 : Int), .n n5, .b false])))
      (.node (Int.tmod (IntKind.wrap .i64 (Int.tmod n0 (6 : Int) + (6 : Int))) (6 : Int) == (5 : Int))
       (.leaf ((0, [.b true, .b true, .n n5, .l Ty.bool (List.replicate 2 false), .l (Ty.pair (Ty.int IntKind.i64) (Ty.pair (Ty.int IntKind.i64) (Ty.pair (Ty.int IntKind.u64) (Ty.int IntKind.u32)))) (List.replicate 2 (Ty.dflt (Ty.pair (Ty.int IntKind.i64) (Ty.pair (Ty.int IntKind.i64) (Ty.pair (Ty.int IntKind.u64) (Ty.int IntKind.u32)))))), .b false, .n (0 : Int), .n (0 : Int), .n (0 : Int), .n (0 : Int), .n n5, .b true])))
       (.leaf ((0, [.b true, .b true, .n n5, .l Ty.bool (List.replicate 2 false), .l (Ty.pair (Ty.int IntKind.i64) (Ty.pair (Ty.int IntKind.i64) (Ty.pair (Ty.int IntKind.u64) (Ty.int IntKind.u32)))) (List.replicate 2 (Ty.dflt (Ty.pair (Ty.int IntKind.i64) (Ty.pair (Ty.int IntKind.i64) (Ty.pair (Ty.int IntKind.u64) (Ty.int IntKind.u32)))))), .b false, .n (0 : Int), .n (0 : Int), .n (0 : Int), .n (0 : Int), .n n5, .b true]))))))
  | _ => .bad 0
theorem fn_16f_b_im (n0 : Int) (n1 : Int) (n2 : Int) (n3 : Int) (n4 : Int) (n5 : Int) (n6 : Int) (n7 : Int) (n8 : Int) (n9 : Int) (n10 : Int) (n11 : Int) (n12 : Int) (n13 : Int) : Imp (fn_16f_b [.n n0, .n n1, .n n2, .n n3, .n n4, .n n5, .n n6, .n n7, .n n8, .n n9, .n n10, .n n11, .n n12, .n n13]) (ev_16f ([.n n0, .n 1, .n n1, .n n2, .n n3, .n n4] ++ sd5 n5 n6 n7 n8 n9 n10 n11 n12 n13)) :=
(((((.path [1,0,1,1,1] (by kernel_rfl)
(.node (by kernel_rfl) (by kernel_rfl) (fun h0 =>
((((((((((((((((((((((.path [1,0,0,1,0,0,1,1,1,1,1,1,1,1,0,1,1,1,1,1,1,1] (by kernel_rfl)
(.leaf (by kernel_rfl))))))))))))))))))))))))) (fun h0 =>
(.node (by kernel_rfl) (by kernel_rfl) (fun h1 =>
((((((.path [1,1,1,1,1,1] (by kernel_rfl)
(.leaf (by kernel_rfl))))))))) (fun h1 =>
(.node (by kernel_rfl) (by kernel_rfl) (fun h2 =>
((((((.path [1,1,1,1,1,1] (by kernel_rfl)
(.leaf (by kernel_rfl))))))))) (fun h2 =>
((((((((((((((((((((((((((((((((((((.path (1 ::0 ::0 ::0 ::1 ::0 ::0 ::1 ::1 ::1 ::1 ::1 ::1 ::1 ::1 ::1 ::1 ::1 ::1 ::1 ::1 ::1 ::0 ::0 ::1 ::1 ::1 ::1 ::1 ::1 ::1 ::1 ::1 ::1 ::1 ::1 :: []) (by kernel_rfl)
(.leaf (by kernel_rfl)))))))))))))))))))))))))))))))))))))))))))))))))

noncomputable def fn_16f_c : List Dat → Tree (Nat × List Dat)
  | [.n n0, .n n1, .n n2, .n n3, .n n4, .n n5, .n n6, .n n7, .n n8, .n n9, .n n10, .n n11, .n n12, .n n13, .n n14] =>
    (.node (Int.tmod (IntKind.wrap .i64 (Int.tmod n0 (6 : Int) + (6 : Int))) (6 : Int) == (3 : Int))
     (.leaf ((0, [.b true, .b true, .n n6, .l Ty.bool (List.replicate 2 false), .l (Ty.pair (Ty.int IntKind.i64) (Ty.pair (Ty.int IntKind.i64) (Ty.pair (Ty.int IntKind.u64) (Ty.int IntKind.u32)))) (List.replicate 2 (Ty.dflt (Ty.pair (Ty.int IntKind.i64) (Ty.pair (Ty.int IntKind.i64) (Ty.pair (Ty.int IntKind.u64) (Ty.int IntKind.u32)))))), .b false, .n (0 : Int), .n (0 : Int), .n (0 : Int), .n (0 : Int), .n n6, .b true])))
     (.node (Int.tmod (IntKind.wrap .i64 (Int.tmod n0 (6 : Int) + (6 : Int))) (6 : Int) == (4 : Int))
      (.leaf ((0, [.b true, .b false, .n n6, .l Ty.bool (List.replicate 2 false), .l (Ty.pair (Ty.int IntKind.i64) (Ty.pair (Ty.int IntKind.i64) (Ty.pair (Ty.int IntKind.u64) (Ty.int IntKind.u32)))) (List.replicate 2 (Ty.dflt (Ty.pair (Ty.int IntKind.i64) (Ty.pair (Ty.int IntKind.i64) (Ty.pair (Ty.int IntKind.u64) (Ty.int IntKind.u32)))))), .b false, .n (0 : Int), .n (0 : Int), .n (0 : Int), .n (0 : Int), .n n6, .b false])))
      (.node (Int.tmod (IntKind.wrap .i64 (Int.tmod n0 (6 : Int) + (6 : Int))) (6 : Int) == (5 : Int))
       (.leaf ((0, [.b true, .b true, .n n6, .l Ty.bool (List.replicate 2 false), .l (Ty.pair (Ty.int IntKind.i64) (Ty.pair (Ty.int IntKind.i64) (Ty.pair (Ty.int IntKind.u64) (Ty.int IntKind.u32)))) (List.replicate 2 (Ty.dflt (Ty.pair (Ty.int IntKind.i64) (Ty.pair (Ty.int IntKind.i64) (Ty.pair (Ty.int IntKind.u64) (Ty.int IntKind.u32)))))), .b false, .n (0 : Int), .n (0 : Int), .n (0 : Int), .n (0 : Int), .n n6, .b true])))
       (.node (decide (n1 < (0 : Int)))
        (.leaf ((1, [.b true, .b false, .n n6, .l Ty.bool [false, true], .l (Ty.pair (Ty.int IntKind.i64) (Ty.pair (Ty.int IntKind.i64) (Ty.pair (Ty.int IntKind.u64) (Ty.int IntKind.u32)))) [((0 : Int), (0 : Int), (0 : Int), (0 : Int)), (n11, n12, n13, n14)], .b true, .n n7, .n n8, .n n9, .n n10, .n n6, .b false, .n n11, .n n12, .n n13, .n n14, .n n7, .n n8, .n n9, .n n10])))
        (.leaf ((1, [.b true, .b false, .n n6, .l Ty.bool [false, true], .l (Ty.pair (Ty.int IntKind.i64) (Ty.pair (Ty.int IntKind.i64) (Ty.pair (Ty.int IntKind.u64) (Ty.int IntKind.u32)))) [((0 : Int), (0 : Int), (0 : Int), (0 : Int)), (n11, n12, n13, n14)], .b true, .n n7, .n n8, .n n9, .n n10, .n n6, .b false, .n n11, .n n12, .n n13, .n n14, .n n7, .n n8, .n n9, .n n10])))))))
  | _ => .bad 0
theorem fn_16f_c_im (n0 : Int) (n1 : Int) (n2 : Int) (n3 : Int) (n4 : Int) (n5 : Int) (n6 : Int) (n7 : Int) (n8 : Int) (n9 : Int) (n10 : Int) (n11 : Int) (n12 : Int) (n13 : Int) (n14 : Int) (g0 : n1 ≠ 0) (g1 :  n1 ≠ 1) : Imp (fn_16f_c [.n n0, .n n1, .n n2, .n n3, .n n4, .n n5, .n n6, .n n7, .n n8, .n n9, .n n10, .n n11, .n n12, .n n13, .n n14]) (ev_16f ([.n n0, .n n1, .n n2, .n n3, .n n4, .n n5] ++ sd5 n6 n7 n8 n9 n10 n11 n12 n13 n14)) :=
(((((.path [1,0,1,1,1] (by kernel_rfl)
(.node (by kernel_rfl) (by kernel_rfl) (fun h0 =>
((((((((((((((((((((((.path [1,0,0,1,0,0,1,1,1,1,1,1,1,1,0,1,1,1,1,1,1,1] (by kernel_rfl)
(.leaf (by kernel_rfl))))))))))))))))))))))))) (fun h0 =>
(.node (by kernel_rfl) (by kernel_rfl) (fun h1 =>
((((((.path [1,1,1,1,1,1] (by kernel_rfl)
(.leaf (by kernel_rfl))))))))) (fun h1 =>
(.node (by kernel_rfl) (by kernel_rfl) (fun h2 =>
((((((.path [1,1,1,1,1,1] (by kernel_rfl)
(.leaf (by kernel_rfl))))))))) (fun h2 =>
((.path [1,0] (by kernel_rfl)
(.node (by kernel_rfl) (by kernel_rfl) (fun h3 =>
((((((.path [1,1,1,1,1,1] (by kernel_rfl)
(.pt (c := (n1 != (0 : Int))) (by kernel_rfl) (by kernel_rfl) (by (simp [*]; done))
(.pt (c := (n1 != (1 : Int))) (by kernel_rfl) (by kernel_rfl) (by (simp [*]; done))
(((.path [1,1,1] (by kernel_rfl)
(.leaf (by kernel_rfl)))))))))))))) (fun h3 =>
(.pt (c := (decide (n1 ≥ (2 : Int)))) (by kernel_rfl) (by kernel_rfl) (by (simp only [decide_eq_true_eq, decide_eq_false_iff_not, beq_iff_eq, beq_eq_false_iff_ne, bne_iff_ne, ne_eq, inR, Bool.and_eq_true, Bool.and_eq_false_iff, Bool.not_eq_true', Bool.not_eq_false', Bool.not_eq_eq_eq_not, Bool.not_true, Bool.not_false] at *; omega))
((((.path [1,1,1,1] (by kernel_rfl)
(.pt (c := (n1 != (0 : Int))) (by kernel_rfl) (by kernel_rfl) (by (simp [*]; done))
(.pt (c := (n1 != (1 : Int))) (by kernel_rfl) (by kernel_rfl) (by (simp [*]; done))
(((.path [1,1,1] (by kernel_rfl)
(.leaf (by kernel_rfl)))))))))))))))))))))))))))

noncomputable def cs_16f : FuncId → Option CSpec := csAdd 16 [B16a, B16b, B16c, B16d, B16e, B16f] cs_14
theorem cs_16f_ok : CsOk Try.prog cs_16f := csAdd_ok cs_14_ok fun B hB => by
  simp only [List.mem_cons, List.not_mem_nil, or_false] at hB
  rcases hB with rfl | rfl | rfl | rfl | rfl | rfl
  · exact B16a_ok
  · exact B16b_ok
  · exact B16c_ok
  · exact B16d_ok
  · exact B16e_ok
  · exact B16f_ok

noncomputable def st_L3_5 (env : List Dat) : Tree Step := Lk.stepMC false LK cs_16f 3 5 ls0 (mkM 0 [] [(sh 68 [(0, .imm TCl 0), (3, .ptr 0 0), (4, .ptr 1 0), (5, .int .i64 1)], [vtB (.nilptr) (.nilptr) (.nilptr) 2, reB 4]), (sh 68 [(0, .imm TCl 0), (3, .ptr 0 0), (4, .ptr 1 0), (5, .int .i64 1)], [vtB (.ptr 2 0) (.nilptr) (.nilptr) 2, reB 4, frB 13]), (sh 68 [(0, .imm TCl 0), (3, .ptr 0 0), (4, .ptr 1 0), (5, .int .i64 1)], [vtB (.nilptr) (.ptr 2 0) (.nilptr) 2, reB 4, frB 13]), (sh 68 [(0, .imm TCl 0), (3, .ptr 0 0), (4, .ptr 1 0), (5, .int .i64 1)], [vtB (.nilptr) (.nilptr) (.ptr 2 0) 2, reB 4, frB 13]), (sh 68 [(0, .imm TCl 0), (3, .ptr 0 0), (4, .ptr 1 0), (5, .int .i64 1)], [vtB (.ptr 2 0) (.nilptr) (.ptr 3 0) 2, reB 4, frB 13, frB 17]), (sh 68 [(0, .imm TCl 0), (3, .ptr 0 0), (4, .ptr 1 0), (5, .int .i64 1)], [vtB (.nilptr) (.ptr 2 0) (.ptr 3 0) 2, reB 4, frB 13, frB 17])] [] [(.exit 0, sh 68 [], []), (.ret, sh 68 [(2, .bool 0)], [])] fun _ => none) env
noncomputable def op_L3_5 : List Dat → Option (Nat × List Dat) := iterS st_L3_5 FU
noncomputable def L3_5 : MBox := mkM 0 [] [(sh 68 [(0, .imm TCl 0), (3, .ptr 0 0), (4, .ptr 1 0), (5, .int .i64 1)], [vtB (.nilptr) (.nilptr) (.nilptr) 2, reB 4]), (sh 68 [(0, .imm TCl 0), (3, .ptr 0 0), (4, .ptr 1 0), (5, .int .i64 1)], [vtB (.ptr 2 0) (.nilptr) (.nilptr) 2, reB 4, frB 13]), (sh 68 [(0, .imm TCl 0), (3, .ptr 0 0), (4, .ptr 1 0), (5, .int .i64 1)], [vtB (.nilptr) (.ptr 2 0) (.nilptr) 2, reB 4, frB 13]), (sh 68 [(0, .imm TCl 0), (3, .ptr 0 0), (4, .ptr 1 0), (5, .int .i64 1)], [vtB (.nilptr) (.nilptr) (.ptr 2 0) 2, reB 4, frB 13]), (sh 68 [(0, .imm TCl 0), (3, .ptr 0 0), (4, .ptr 1 0), (5, .int .i64 1)], [vtB (.ptr 2 0) (.nilptr) (.ptr 3 0) 2, reB 4, frB 13, frB 17]), (sh 68 [(0, .imm TCl 0), (3, .ptr 0 0), (4, .ptr 1 0), (5, .int .i64 1)], [vtB (.nilptr) (.ptr 2 0) (.ptr 3 0) 2, reB 4, frB 13, frB 17])] [] [(.exit 0, sh 68 [], []), (.ret, sh 68 [(2, .bool 0)], [])] op_L3_5
theorem L3_5_run : ∀ t s x, (manyRun L3_5 t s).sel = some x → CodeOk Try.prog 0 (.loop (cAt Try.prog 3 5)) t s x := mkM_ok (st := st_L3_5) (m := FU) cs_16f_ok hmix false (LsOk.none _ _ _) (by kernel_rfl) (fun env y h => by rw [← stepMC_lk]; exact h)
theorem op_L3_5_eq (env : List Dat) : op_L3_5 env = iterS st_L3_5 FU env := by kernel_rfl
theorem op_L3_5_good {p : Nat × List Dat → Prop} (Inv : List Dat → Prop) (μ : List Dat → Nat) (h : ∀ env, Inv env → Good (fun y => match y with | .go e => Inv e ∧ μ e < μ env | .stop k d => p (k, d)) (st_L3_5 env).sel) (env : List Dat) (hi : Inv env) (hm : μ env < FU) : Good p (op_L3_5 env) := by
  rw [op_L3_5_eq]
  exact iterS_good Inv μ p h FU env hi hm

noncomputable def fn_L3_5_t0 : List Dat → Tree Step
  | [.l (Ty.pair (Ty.int IntKind.i64) (Ty.pair (Ty.int IntKind.i64) (Ty.pair (Ty.int IntKind.i64) (Ty.pair (Ty.int IntKind.i64) (Ty.pair (Ty.int IntKind.u64) (Ty.int IntKind.u32)))))) l0, .n n1, .b b2, .n n3] =>
    (.node (decide (n1 < (↑(List.length l0) : Int)))
     (.node (inR n1 (List.length l0))
      (let r1 : Option (Nat × List Dat) := (op_16a [.n (Prod.fst (List.getD l0 (Int.toNat n1) (Ty.dflt (Ty.pair (Ty.int IntKind.i64) (Ty.pair (Ty.int IntKind.i64) (Ty.pair (Ty.int IntKind.i64) (Ty.pair (Ty.int IntKind.i64) (Ty.pair (Ty.int IntKind.u64) (Ty.int IntKind.u32))))))))), .n (Prod.fst (Prod.snd (List.getD l0 (Int.toNat n1) (Ty.dflt (Ty.pair (Ty.int IntKind.i64) (Ty.pair (Ty.int IntKind.i64) (Ty.pair (Ty.int IntKind.i64) (Ty.pair (Ty.int IntKind.i64) (Ty.pair (Ty.int IntKind.u64) (Ty.int IntKind.u32)))))))))), .n (Prod.fst (Prod.snd (Prod.snd (List.getD l0 (Int.toNat n1) (Ty.dflt (Ty.pair (Ty.int IntKind.i64) (Ty.pair (Ty.int IntKind.i64) (Ty.pair (Ty.int IntKind.i64) (Ty.pair (Ty.int IntKind.i64) (Ty.pair (Ty.int IntKind.u64) (Ty.int IntKind.u32))))))))))), .n (Prod.fst (Prod.snd (Prod.snd (Prod.snd (List.getD l0 (Int.toNat n1) (Ty.dflt (Ty.pair (Ty.int IntKind.i64) (Ty.pair (Ty.int IntKind.i64) (Ty.pair (Ty.int IntKind.i64) (Ty.pair (Ty.int IntKind.i64) (Ty.pair (Ty.int IntKind.u64) (Ty.int IntKind.u32)))))))))))), .n (Prod.fst (Prod.snd (Prod.snd (Prod.snd (Prod.snd (List.getD l0 (Int.toNat n1) (Ty.dflt (Ty.pair (Ty.int IntKind.i64) (Ty.pair (Ty.int IntKind.i64) (Ty.pair (Ty.int IntKind.i64) (Ty.pair (Ty.int IntKind.i64) (Ty.pair (Ty.int IntKind.u64) (Ty.int IntKind.u32))))))))))))), .n (Prod.snd (Prod.snd (Prod.snd (Prod.snd (Prod.snd (List.getD l0 (Int.toNat n1) (Ty.dflt (Ty.pair (Ty.int IntKind.i64) (Ty.pair (Ty.int IntKind.i64) (Ty.pair (Ty.int IntKind.i64) (Ty.pair (Ty.int IntKind.i64) (Ty.pair (Ty.int IntKind.u64) (Ty.int IntKind.u32))))))))))))), .b b2, .n n3, .l Ty.bool [false, false], .l (Ty.pair (Ty.int IntKind.i64) (Ty.pair (Ty.int IntKind.i64) (Ty.pair (Ty.int IntKind.u64) (Ty.int IntKind.u32)))) [((0 : Int), (0 : Int), (0 : Int), (0 : Int)), ((0 : Int), (0 : Int), (0 : Int), (0 : Int))], .b false, .n (0 : Int), .n (0 : Int), .n (0 : Int), .n (0 : Int), .n n3, .b b2]);
       (.node (isK 0 [HK.b, HK.b, HK.n, HK.l Ty.bool, HK.l (Ty.pair (Ty.int IntKind.i64) (Ty.pair (Ty.int IntKind.i64) (Ty.pair (Ty.int IntKind.u64) (Ty.int IntKind.u32)))), HK.b, HK.n, HK.n, HK.n, HK.n, HK.n, HK.b] r1)
        (.node (!gb (dOf r1) 0)
         (.leaf (Step.stop 1 [.b false]))
         (.node (!false == gb (dOf r1) 5)
          (.leaf (Step.stop 1 [.b false]))
          (.node (!((0 : Int) == gn (dOf r1) 6 && ((0 : Int) == gn (dOf r1) 7 && ((0 : Int) == gn (dOf r1) 8 && ((0 : Int) == gn (dOf r1) 9 && true) && true))))
           (.leaf (Step.stop 1 [.b false]))
           (.node (!gb (dOf r1) 1 == gb (dOf r1) 11)
            (.leaf (Step.stop 1 [.b false]))
            (.node (gn (dOf r1) 2 != gn (dOf r1) 10)
             (.leaf (Step.stop 1 [.b false]))
             (.leaf (Step.go [.k 0, .l (Ty.pair (Ty.int IntKind.i64) (Ty.pair (Ty.int IntKind.i64) (Ty.pair (Ty.int IntKind.i64) (Ty.pair (Ty.int IntKind.i64) (Ty.pair (Ty.int IntKind.u64) (Ty.int IntKind.u32)))))) l0, .n (IntKind.wrap .i64 (n1 + (1 : Int))), .b (gb (dOf r1) 1), .n (gn (dOf r1) 2), .l Ty.bool (gl Ty.bool (dOf r1) 3), .l (Ty.pair (Ty.int IntKind.i64) (Ty.pair (Ty.int IntKind.i64) (Ty.pair (Ty.int IntKind.u64) (Ty.int IntKind.u32)))) (gl (Ty.pair (Ty.int IntKind.i64) (Ty.pair (Ty.int IntKind.i64) (Ty.pair (Ty.int IntKind.u64) (Ty.int IntKind.u32)))) (dOf r1) 4), .b (gb (dOf r1) 5), .n (gn (dOf r1) 6), .n (gn (dOf r1) 7), .n (gn (dOf r1) 8), .n (gn (dOf r1) 9), .n (gn (dOf r1) 10), .b (gb (dOf r1) 11)])))))))
        (.node (isK 1 [HK.b, HK.b, HK.n, HK.l Ty.bool, HK.l (Ty.pair (Ty.int IntKind.i64) (Ty.pair (Ty.int IntKind.i64) (Ty.pair (Ty.int IntKind.u64) (Ty.int IntKind.u32)))), HK.b, HK.n, HK.n, HK.n, HK.n, HK.n, HK.b, HK.n, HK.n, HK.n, HK.n] r1)
         (.node (!gb (dOf r1) 0)
          (.leaf (Step.stop 1 [.b false]))
          (.node (!false == gb (dOf r1) 5)
           (.leaf (Step.stop 1 [.b false]))
           (.node (!((0 : Int) == gn (dOf r1) 6 && ((0 : Int) == gn (dOf r1) 7 && ((0 : Int) == gn (dOf r1) 8 && ((0 : Int) == gn (dOf r1) 9 && true) && true))))
            (.leaf (Step.stop 1 [.b false]))
            (.node (!gb (dOf r1) 1 == gb (dOf r1) 11)
             (.leaf (Step.stop 1 [.b false]))
             (.node (gn (dOf r1) 2 != gn (dOf r1) 10)
              (.leaf (Step.stop 1 [.b false]))
              (.leaf (Step.go [.k 1, .l (Ty.pair (Ty.int IntKind.i64) (Ty.pair (Ty.int IntKind.i64) (Ty.pair (Ty.int IntKind.i64) (Ty.pair (Ty.int IntKind.i64) (Ty.pair (Ty.int IntKind.u64) (Ty.int IntKind.u32)))))) l0, .n (IntKind.wrap .i64 (n1 + (1 : Int))), .b (gb (dOf r1) 1), .n (gn (dOf r1) 2), .l Ty.bool (gl Ty.bool (dOf r1) 3), .l (Ty.pair (Ty.int IntKind.i64) (Ty.pair (Ty.int IntKind.i64) (Ty.pair (Ty.int IntKind.u64) (Ty.int IntKind.u32)))) (gl (Ty.pair (Ty.int IntKind.i64) (Ty.pair (Ty.int IntKind.i64) (Ty.pair (Ty.int IntKind.u64) (Ty.int IntKind.u32)))) (dOf r1) 4), .b (gb (dOf r1) 5), .n (gn (dOf r1) 6), .n (gn (dOf r1) 7), .n (gn (dOf r1) 8), .n (gn (dOf r1) 9), .n (gn (dOf r1) 10), .b (gb (dOf r1) 11), .n (gn (dOf r1) 12), .n (gn (dOf r1) 13), .n (gn (dOf r1) 14), .n (gn (dOf r1) 15)])))))))
         (.node (isK 2 [HK.b, HK.b, HK.n, HK.l Ty.bool, HK.l (Ty.pair (Ty.int IntKind.i64) (Ty.pair (Ty.int IntKind.i64) (Ty.pair (Ty.int IntKind.u64) (Ty.int IntKind.u32)))), HK.b, HK.n, HK.n, HK.n, HK.n, HK.n, HK.b, HK.n, HK.n, HK.n, HK.n] r1)
          (.node (!gb (dOf r1) 0)
           (.leaf (Step.stop 1 [.b false]))
           (.node (!false == gb (dOf r1) 5)
            (.leaf (Step.stop 1 [.b false]))
            (.node (!((0 : Int) == gn (dOf r1) 6 && ((0 : Int) == gn (dOf r1) 7 && ((0 : Int) == gn (dOf r1) 8 && ((0 : Int) == gn (dOf r1) 9 && true) && true))))
             (.leaf (Step.stop 1 [.b false]))
             (.node (!gb (dOf r1) 1 == gb (dOf r1) 11)
              (.leaf (Step.stop 1 [.b false]))
              (.node (gn (dOf r1) 2 != gn (dOf r1) 10)
               (.leaf (Step.stop 1 [.b false]))
               (.leaf (Step.go [.k 2, .l (Ty.pair (Ty.int IntKind.i64) (Ty.pair (Ty.int IntKind.i64) (Ty.pair (Ty.int IntKind.i64) (Ty.pair (Ty.int IntKind.i64) (Ty.pair (Ty.int IntKind.u64) (Ty.int IntKind.u32)))))) l0, .n (IntKind.wrap .i64 (n1 + (1 : Int))), .b (gb (dOf r1) 1), .n (gn (dOf r1) 2), .l Ty.bool (gl Ty.bool (dOf r1) 3), .l (Ty.pair (Ty.int IntKind.i64) (Ty.pair (Ty.int IntKind.i64) (Ty.pair (Ty.int IntKind.u64) (Ty.int IntKind.u32)))) (gl (Ty.pair (Ty.int IntKind.i64) (Ty.pair (Ty.int IntKind.i64) (Ty.pair (Ty.int IntKind.u64) (Ty.int IntKind.u32)))) (dOf r1) 4), .b (gb (dOf r1) 5), .n (gn (dOf r1) 6), .n (gn (dOf r1) 7), .n (gn (dOf r1) 8), .n (gn (dOf r1) 9), .n (gn (dOf r1) 10), .b (gb (dOf r1) 11), .n (gn (dOf r1) 12), .n (gn (dOf r1) 13), .n (gn (dOf r1) 14), .n (gn (dOf r1) 15)])))))))
          (.bad 351)))))
      (.bad 10))
     (.leaf (Step.stop 0 [])))
  | _ => .bad 0
theorem fn_L3_5_t0_im (l0 : List (Ty.den (Ty.pair (Ty.int IntKind.i64) (Ty.pair (Ty.int IntKind.i64) (Ty.pair (Ty.int IntKind.i64) (Ty.pair (Ty.int IntKind.i64) (Ty.pair (Ty.int IntKind.u64) (Ty.int IntKind.u32)))))))) (n1 : Int) (b2 : Bool) (n3 : Int) : Imp (fn_L3_5_t0 [.l (Ty.pair (Ty.int IntKind.i64) (Ty.pair (Ty.int IntKind.i64) (Ty.pair (Ty.int IntKind.i64) (Ty.pair (Ty.int IntKind.i64) (Ty.pair (Ty.int IntKind.u64) (Ty.int IntKind.u32)))))) l0, .n n1, .b b2, .n n3]) (st_L3_5 ([.k 0, .l TCl l0, .n n1] ++ sd0 b2 n3)) :=
(.path [1] (by kernel_rfl)
(.node (by kernel_rfl) (by kernel_rfl) (fun h0 =>
(.node (by kernel_rfl) (by kernel_rfl) (fun h1 =>
(.path [1] (by kernel_rfl)
(.node (by kernel_rfl) (by kernel_rfl) (fun h2 =>
(.path [1] (by kernel_rfl)
(.node (by kernel_rfl) (by kernel_rfl) (fun h3 =>
(.path [1] (by kernel_rfl)
(.leaf (by kernel_rfl)))) (fun h3 =>
((((.path [1,0,1,1] (by kernel_rfl)
(.node (by kernel_rfl) (by kernel_rfl) (fun h4 =>
((((((((.path [1,1,1,1,1,1,1,1] (by kernel_rfl)
(.leaf (by kernel_rfl))))))))))) (fun h4 =>
((.path [1,1] (by kernel_rfl)
(.node (by kernel_rfl) (by kernel_rfl) (fun h5 =>
((((((.path [1,1,1,1,1,1] (by kernel_rfl)
(.leaf (by kernel_rfl))))))))) (fun h5 =>
(((.path [1,0,1] (by kernel_rfl)
(.node (by kernel_rfl) (by kernel_rfl) (fun h6 =>
((((.path [1,1,1,1] (by kernel_rfl)
(.leaf (by kernel_rfl))))))) (fun h6 =>
((((.path [1,0,1,1] (by kernel_rfl)
(.node (by kernel_rfl) (by kernel_rfl) (fun h7 =>
(.path [1] (by kernel_rfl)
(.leaf (by kernel_rfl)))) (fun h7 =>
(.path [1] (by kernel_rfl)
(.leaf (by kernel_rfl)))))))))))))))))))))))))))) (fun h2 =>
(.node (by kernel_rfl) (by kernel_rfl) (fun h3 =>
(.path [1] (by kernel_rfl)
(.node (by kernel_rfl) (by kernel_rfl) (fun h4 =>
(.path [1] (by kernel_rfl)
(.leaf (by kernel_rfl)))) (fun h4 =>
((((.path [1,0,1,1] (by kernel_rfl)
(.node (by kernel_rfl) (by kernel_rfl) (fun h5 =>
((((((((.path [1,1,1,1,1,1,1,1] (by kernel_rfl)
(.leaf (by kernel_rfl))))))))))) (fun h5 =>
((.path [1,1] (by kernel_rfl)
(.node (by kernel_rfl) (by kernel_rfl) (fun h6 =>
((((((.path [1,1,1,1,1,1] (by kernel_rfl)
(.leaf (by kernel_rfl))))))))) (fun h6 =>
(((.path [1,0,1] (by kernel_rfl)
(.node (by kernel_rfl) (by kernel_rfl) (fun h7 =>
((((.path [1,1,1,1] (by kernel_rfl)
(.leaf (by kernel_rfl))))))) (fun h7 =>
((((.path [1,0,1,1] (by kernel_rfl)
(.node (by kernel_rfl) (by kernel_rfl) (fun h8 =>
(.path [1] (by kernel_rfl)
(.leaf (by kernel_rfl)))) (fun h8 =>
(.path [1] (by kernel_rfl)
(.leaf (by kernel_rfl)))))))))))))))))))))))))))) (fun h3 =>
(.node (by kernel_rfl) (by kernel_rfl) (fun h4 =>
(.path [1] (by kernel_rfl)
(.node (by kernel_rfl) (by kernel_rfl) (fun h5 =>
(.path [1] (by kernel_rfl)
(.leaf (by kernel_rfl)))) (fun h5 =>
((((.path [1,0,1,1] (by kernel_rfl)
(.node (by kernel_rfl) (by kernel_rfl) (fun h6 =>
((((((((.path [1,1,1,1,1,1,1,1] (by kernel_rfl)
(.leaf (by kernel_rfl))))))))))) (fun h6 =>
((.path [1,1] (by kernel_rfl)
(.node (by kernel_rfl) (by kernel_rfl) (fun h7 =>
((((((.path [1,1,1,1,1,1] (by kernel_rfl)
(.leaf (by kernel_rfl))))))))) (fun h7 =>
(((.path [1,0,1] (by kernel_rfl)
(.node (by kernel_rfl) (by kernel_rfl) (fun h8 =>
((((.path [1,1,1,1] (by kernel_rfl)
(.leaf (by kernel_rfl))))))) (fun h8 =>
((((.path [1,0,1,1] (by kernel_rfl)
(.node (by kernel_rfl) (by kernel_rfl) (fun h9 =>
(.path [1] (by kernel_rfl)
(.leaf (by kernel_rfl)))) (fun h9 =>
(.path [1] (by kernel_rfl)
(.leaf (by kernel_rfl)))))))))))))))))))))))))))) (fun h4 =>
.none)))))))) (fun h1 =>
.none))) (fun h0 =>
(.path [1] (by kernel_rfl)
(.leaf (by kernel_rfl))))))

noncomputable def fn_L3_5_t1 : List Dat → Tree Step
  | [.l (Ty.pair (Ty.int IntKind.i64) (Ty.pair (Ty.int IntKind.i64) (Ty.pair (Ty.int IntKind.i64) (Ty.pair (Ty.int IntKind.i64) (Ty.pair (Ty.int IntKind.u64) (Ty.int IntKind.u32)))))) l0, .n n1, .n n2, .n n3, .n n4, .n n5, .n n6] =>
    (.node (decide (n1 < (↑(List.length l0) : Int)))
     (.node (inR n1 (List.length l0))
      (let r1 : Option (Nat × List Dat) := (op_16b [.n (Prod.fst (List.getD l0 (Int.toNat n1) (Ty.dflt (Ty.pair (Ty.int IntKind.i64) (Ty.pair (Ty.int IntKind.i64) (Ty.pair (Ty.int IntKind.i64) (Ty.pair (Ty.int IntKind.i64) (Ty.pair (Ty.int IntKind.u64) (Ty.int IntKind.u32))))))))), .n (Prod.fst (Prod.snd (List.getD l0 (Int.toNat n1) (Ty.dflt (Ty.pair (Ty.int IntKind.i64) (Ty.pair (Ty.int IntKind.i64) (Ty.pair (Ty.int IntKind.i64) (Ty.pair (Ty.int IntKind.i64) (Ty.pair (Ty.int IntKind.u64) (Ty.int IntKind.u32)))))))))), .n (Prod.fst (Prod.snd (Prod.snd (List.getD l0 (Int.toNat n1) (Ty.dflt (Ty.pair (Ty.int IntKind.i64) (Ty.pair (Ty.int IntKind.i64) (Ty.pair (Ty.int IntKind.i64) (Ty.pair (Ty.int IntKind.i64) (Ty.pair (Ty.int IntKind.u64) (Ty.int IntKind.u32))))))))))), .n (Prod.fst (Prod.snd (Prod.snd (Prod.snd (List.getD l0 (Int.toNat n1) (Ty.dflt (Ty.pair (Ty.int IntKind.i64) (Ty.pair (Ty.int IntKind.i64) (Ty.pair (Ty.int IntKind.i64) (Ty.pair (Ty.int IntKind.i64) (Ty.pair (Ty.int IntKind.u64) (Ty.int IntKind.u32)))))))))))), .n (Prod.fst (Prod.snd (Prod.snd (Prod.snd (Prod.snd (List.getD l0 (Int.toNat n1) (Ty.dflt (Ty.pair (Ty.int IntKind.i64) (Ty.pair (Ty.int IntKind.i64) (Ty.pair (Ty.int IntKind.i64) (Ty.pair (Ty.int IntKind.i64) (Ty.pair (Ty.int IntKind.u64) (Ty.int IntKind.u32))))))))))))), .n (Prod.snd (Prod.snd (Prod.snd (Prod.snd (Prod.snd (List.getD l0 (Int.toNat n1) (Ty.dflt (Ty.pair (Ty.int IntKind.i64) (Ty.pair (Ty.int IntKind.i64) (Ty.pair (Ty.int IntKind.i64) (Ty.pair (Ty.int IntKind.i64) (Ty.pair (Ty.int IntKind.u64) (Ty.int IntKind.u32))))))))))))), .b false, .n n2, .l Ty.bool [true, false], .l (Ty.pair (Ty.int IntKind.i64) (Ty.pair (Ty.int IntKind.i64) (Ty.pair (Ty.int IntKind.u64) (Ty.int IntKind.u32)))) [(n3, n4, n5, n6), ((0 : Int), (0 : Int), (0 : Int), (0 : Int))], .b false, .n (0 : Int), .n (0 : Int), .n (0 : Int), .n (0 : Int), .n n2, .b false, .n n3, .n n4, .n n5, .n n6]);
       (.node (isK 0 [HK.b, HK.b, HK.n, HK.l Ty.bool, HK.l (Ty.pair (Ty.int IntKind.i64) (Ty.pair (Ty.int IntKind.i64) (Ty.pair (Ty.int IntKind.u64) (Ty.int IntKind.u32)))), HK.b, HK.n, HK.n, HK.n, HK.n, HK.n, HK.b] r1)
        (.node (!gb (dOf r1) 0)
         (.leaf (Step.stop 1 [.b false]))
         (.node (!false == gb (dOf r1) 5)
          (.leaf (Step.stop 1 [.b false]))
          (.node (!((0 : Int) == gn (dOf r1) 6 && ((0 : Int) == gn (dOf r1) 7 && ((0 : Int) == gn (dOf r1) 8 && ((0 : Int) == gn (dOf r1) 9 && true) && true))))
           (.leaf (Step.stop 1 [.b false]))
           (.node (!gb (dOf r1) 1 == gb (dOf r1) 11)
            (.leaf (Step.stop 1 [.b false]))
            (.node (gn (dOf r1) 2 != gn (dOf r1) 10)
             (.leaf (Step.stop 1 [.b false]))
             (.leaf (Step.go [.k 0, .l (Ty.pair (Ty.int IntKind.i64) (Ty.pair (Ty.int IntKind.i64) (Ty.pair (Ty.int IntKind.i64) (Ty.pair (Ty.int IntKind.i64) (Ty.pair (Ty.int IntKind.u64) (Ty.int IntKind.u32)))))) l0, .n (IntKind.wrap .i64 (n1 + (1 : Int))), .b (gb (dOf r1) 1), .n (gn (dOf r1) 2), .l Ty.bool (gl Ty.bool (dOf r1) 3), .l (Ty.pair (Ty.int IntKind.i64) (Ty.pair (Ty.int IntKind.i64) (Ty.pair (Ty.int IntKind.u64) (Ty.int IntKind.u32)))) (gl (Ty.pair (Ty.int IntKind.i64) (Ty.pair (Ty.int IntKind.i64) (Ty.pair (Ty.int IntKind.u64) (Ty.int IntKind.u32)))) (dOf r1) 4), .b (gb (dOf r1) 5), .n (gn (dOf r1) 6), .n (gn (dOf r1) 7), .n (gn (dOf r1) 8), .n (gn (dOf r1) 9), .n (gn (dOf r1) 10), .b (gb (dOf r1) 11)])))))))
        (.node (isK 1 [HK.b, HK.b, HK.n, HK.l Ty.bool, HK.l (Ty.pair (Ty.int IntKind.i64) (Ty.pair (Ty.int IntKind.i64) (Ty.pair (Ty.int IntKind.u64) (Ty.int IntKind.u32)))), HK.b, HK.n, HK.n, HK.n, HK.n, HK.n, HK.b, HK.n, HK.n, HK.n, HK.n] r1)
         (.node (!gb (dOf r1) 0)
          (.leaf (Step.stop 1 [.b false]))
          (.node (!false == gb (dOf r1) 5)
           (.leaf (Step.stop 1 [.b false]))
           (.node (!((0 : Int) == gn (dOf r1) 6 && ((0 : Int) == gn (dOf r1) 7 && ((0 : Int) == gn (dOf r1) 8 && ((0 : Int) == gn (dOf r1) 9 && true) && true))))
            (.leaf (Step.stop 1 [.b false]))
            (.node (!gb (dOf r1) 1 == gb (dOf r1) 11)
             (.leaf (Step.stop 1 [.b false]))
             (.node (gn (dOf r1) 2 != gn (dOf r1) 10)
              (.leaf (Step.stop 1 [.b false]))
              (.leaf (Step.go [.k 1, .l (Ty.pair (Ty.int IntKind.i64) (Ty.pair (Ty.int IntKind.i64) (Ty.pair (Ty.int IntKind.i64) (Ty.pair (Ty.int IntKind.i64) (Ty.pair (Ty.int IntKind.u64) (Ty.int IntKind.u32)))))) l0, .n (IntKind.wrap .i64 (n1 + (1 : Int))), .b (gb (dOf r1) 1), .n (gn (dOf r1) 2), .l Ty.bool (gl Ty.bool (dOf r1) 3), .l (Ty.pair (Ty.int IntKind.i64) (Ty.pair (Ty.int IntKind.i64) (Ty.pair (Ty.int IntKind.u64) (Ty.int IntKind.u32)))) (gl (Ty.pair (Ty.int IntKind.i64) (Ty.pair (Ty.int IntKind.i64) (Ty.pair (Ty.int IntKind.u64) (Ty.int IntKind.u32)))) (dOf r1) 4), .b (gb (dOf r1) 5), .n (gn (dOf r1) 6), .n (gn (dOf r1) 7), .n (gn (dOf r1) 8), .n (gn (dOf r1) 9), .n (gn (dOf r1) 10), .b (gb (dOf r1) 11), .n n3, .n n4, .n n5, .n n6])))))))
         (.node (isK 2 [HK.b, HK.b, HK.n, HK.l Ty.bool, HK.l (Ty.pair (Ty.int IntKind.i64) (Ty.pair (Ty.int IntKind.i64) (Ty.pair (Ty.int IntKind.u64) (Ty.int IntKind.u32)))), HK.b, HK.n, HK.n, HK.n, HK.n, HK.n, HK.b, HK.n, HK.n, HK.n, HK.n] r1)
          (.node (!gb (dOf r1) 0)
           (.leaf (Step.stop 1 [.b false]))
           (.node (!true == gb (dOf r1) 5)
            (.leaf (Step.stop 1 [.b false]))
            (.node (!(gn (dOf r1) 12 == gn (dOf r1) 6 && (gn (dOf r1) 13 == gn (dOf r1) 7 && (gn (dOf r1) 14 == gn (dOf r1) 8 && (gn (dOf r1) 15 == gn (dOf r1) 9 && true) && true))))
             (.leaf (Step.stop 1 [.b false]))
             (.node (!gb (dOf r1) 1 == gb (dOf r1) 11)
              (.leaf (Step.stop 1 [.b false]))
              (.node (gn (dOf r1) 2 != gn (dOf r1) 10)
               (.leaf (Step.stop 1 [.b false]))
               (.leaf (Step.go [.k 3, .l (Ty.pair (Ty.int IntKind.i64) (Ty.pair (Ty.int IntKind.i64) (Ty.pair (Ty.int IntKind.i64) (Ty.pair (Ty.int IntKind.i64) (Ty.pair (Ty.int IntKind.u64) (Ty.int IntKind.u32)))))) l0, .n (IntKind.wrap .i64 (n1 + (1 : Int))), .b (gb (dOf r1) 1), .n (gn (dOf r1) 2), .l Ty.bool (gl Ty.bool (dOf r1) 3), .l (Ty.pair (Ty.int IntKind.i64) (Ty.pair (Ty.int IntKind.i64) (Ty.pair (Ty.int IntKind.u64) (Ty.int IntKind.u32)))) (gl (Ty.pair (Ty.int IntKind.i64) (Ty.pair (Ty.int IntKind.i64) (Ty.pair (Ty.int IntKind.u64) (Ty.int IntKind.u32)))) (dOf r1) 4), .b (gb (dOf r1) 5), .n (gn (dOf r1) 6), .n (gn (dOf r1) 7), .n (gn (dOf r1) 8), .n (gn (dOf r1) 9), .n (gn (dOf r1) 10), .b (gb (dOf r1) 11), .n (gn (dOf r1) 12), .n (gn (dOf r1) 13), .n (gn (dOf r1) 14), .n (gn (dOf r1) 15)])))))))
          (.bad 351)))))
      (.bad 10))
     (.leaf (Step.stop 0 [])))
  | _ => .bad 0
theorem fn_L3_5_t1_im (l0 : List (Ty.den (Ty.pair (Ty.int IntKind.i64) (Ty.pair (Ty.int IntKind.i64) (Ty.pair (Ty.int IntKind.i64) (Ty.pair (Ty.int IntKind.i64) (Ty.pair (Ty.int IntKind.u64) (Ty.int IntKind.u32)))))))) (n1 : Int) (n2 : Int) (n3 : Int) (n4 : Int) (n5 : Int) (n6 : Int) : Imp (fn_L3_5_t1 [.l (Ty.pair (Ty.int IntKind.i64) (Ty.pair (Ty.int IntKind.i64) (Ty.pair (Ty.int IntKind.i64) (Ty.pair (Ty.int IntKind.i64) (Ty.pair (Ty.int IntKind.u64) (Ty.int IntKind.u32)))))) l0, .n n1, .n n2, .n n3, .n n4, .n n5, .n n6]) (st_L3_5 ([.k 1, .l TCl l0, .n n1] ++ sd1 n2 n3 n4 n5 n6)) :=
(.path [1] (by kernel_rfl)
(.node (by kernel_rfl) (by kernel_rfl) (fun h0 =>
(.node (by kernel_rfl) (by kernel_rfl) (fun h1 =>
(.path [1] (by kernel_rfl)
(.node (by kernel_rfl) (by kernel_rfl) (fun h2 =>
(.path [1] (by kernel_rfl)
(.node (by kernel_rfl) (by kernel_rfl) (fun h3 =>
(.path [1] (by kernel_rfl)
(.leaf (by kernel_rfl)))) (fun h3 =>
((((.path [1,0,1,1] (by kernel_rfl)
(.node (by kernel_rfl) (by kernel_rfl) (fun h4 =>
((((((((.path [1,1,1,1,1,1,1,1] (by kernel_rfl)
(.leaf (by kernel_rfl))))))))))) (fun h4 =>
((.path [1,1] (by kernel_rfl)
(.node (by kernel_rfl) (by kernel_rfl) (fun h5 =>
((((((.path [1,1,1,1,1,1] (by kernel_rfl)
(.leaf (by kernel_rfl))))))))) (fun h5 =>
(((.path [1,0,1] (by kernel_rfl)
(.node (by kernel_rfl) (by kernel_rfl) (fun h6 =>
((((.path [1,1,1,1] (by kernel_rfl)
(.leaf (by kernel_rfl))))))) (fun h6 =>
((((.path [1,0,1,1] (by kernel_rfl)
(.node (by kernel_rfl) (by kernel_rfl) (fun h7 =>
(.path [1] (by kernel_rfl)
(.leaf (by kernel_rfl)))) (fun h7 =>
(.path [1] (by kernel_rfl)
(.leaf (by kernel_rfl)))))))))))))))))))))))))))) (fun h2 =>
(.node (by kernel_rfl) (by kernel_rfl) (fun h3 =>
(.path [1] (by kernel_rfl)
(.node (by kernel_rfl) (by kernel_rfl) (fun h4 =>
(.path [1] (by kernel_rfl)
(.leaf (by kernel_rfl)))) (fun h4 =>
((((.path [1,0,1,1] (by kernel_rfl)
(.node (by kernel_rfl) (by kernel_rfl) (fun h5 =>
((((((((.path [1,1,1,1,1,1,1,1] (by kernel_rfl)
(.leaf (by kernel_rfl))))))))))) (fun h5 =>
((.path [1,1] (by kernel_rfl)
(.node (by kernel_rfl) (by kernel_rfl) (fun h6 =>
((((((.path [1,1,1,1,1,1] (by kernel_rfl)
(.leaf (by kernel_rfl))))))))) (fun h6 =>
(((.path [1,0,1] (by kernel_rfl)
(.node (by kernel_rfl) (by kernel_rfl) (fun h7 =>
((((.path [1,1,1,1] (by kernel_rfl)
(.leaf (by kernel_rfl))))))) (fun h7 =>
((((.path [1,0,1,1] (by kernel_rfl)
(.node (by kernel_rfl) (by kernel_rfl) (fun h8 =>
(.path [1] (by kernel_rfl)
(.leaf (by kernel_rfl)))) (fun h8 =>
(.path [1] (by kernel_rfl)
(.leaf (by kernel_rfl)))))))))))))))))))))))))))) (fun h3 =>
(.node (by kernel_rfl) (by kernel_rfl) (fun h4 =>
(.path [1] (by kernel_rfl)
(.node (by kernel_rfl) (by kernel_rfl) (fun h5 =>
(.path [1] (by kernel_rfl)
(.leaf (by kernel_rfl)))) (fun h5 =>
((((.path [1,0,0,1] (by kernel_rfl)
(.node (by kernel_rfl) (by kernel_rfl) (fun h6 =>
((((((((.path [1,1,1,1,1,1,1,1] (by kernel_rfl)
(.leaf (by kernel_rfl))))))))))) (fun h6 =>
((.path [1,1] (by kernel_rfl)
(.node (by kernel_rfl) (by kernel_rfl) (fun h7 =>
((((((.path [1,1,1,1,1,1] (by kernel_rfl)
(.leaf (by kernel_rfl))))))))) (fun h7 =>
(((.path [1,0,1] (by kernel_rfl)
(.node (by kernel_rfl) (by kernel_rfl) (fun h8 =>
((((.path [1,1,1,1] (by kernel_rfl)
(.leaf (by kernel_rfl))))))) (fun h8 =>
((((.path [1,0,1,1] (by kernel_rfl)
(.node (by kernel_rfl) (by kernel_rfl) (fun h9 =>
(.path [1] (by kernel_rfl)
(.leaf (by kernel_rfl)))) (fun h9 =>
(.path [1] (by kernel_rfl)
(.leaf (by kernel_rfl)))))))))))))))))))))))))))) (fun h4 =>
.none)))))))) (fun h1 =>
.none))) (fun h0 =>
(.path [1] (by kernel_rfl)
(.leaf (by kernel_rfl))))))

noncomputable def fn_L3_5_t2 : List Dat → Tree Step
  | [.l (Ty.pair (Ty.int IntKind.i64) (Ty.pair (Ty.int IntKind.i64) (Ty.pair (Ty.int IntKind.i64) (Ty.pair (Ty.int IntKind.i64) (Ty.pair (Ty.int IntKind.u64) (Ty.int IntKind.u32)))))) l0, .n n1, .n n2, .n n3, .n n4, .n n5, .n n6] =>
    (.node (decide (n1 < (↑(List.length l0) : Int)))
     (.node (inR n1 (List.length l0))
      (let r1 : Option (Nat × List Dat) := (op_16c [.n (Prod.fst (List.getD l0 (Int.toNat n1) (Ty.dflt (Ty.pair (Ty.int IntKind.i64) (Ty.pair (Ty.int IntKind.i64) (Ty.pair (Ty.int IntKind.i64) (Ty.pair (Ty.int IntKind.i64) (Ty.pair (Ty.int IntKind.u64) (Ty.int IntKind.u32))))))))), .n (Prod.fst (Prod.snd (List.getD l0 (Int.toNat n1) (Ty.dflt (Ty.pair (Ty.int IntKind.i64) (Ty.pair (Ty.int IntKind.i64) (Ty.pair (Ty.int IntKind.i64) (Ty.pair (Ty.int IntKind.i64) (Ty.pair (Ty.int IntKind.u64) (Ty.int IntKind.u32)))))))))), .n (Prod.fst (Prod.snd (Prod.snd (List.getD l0 (Int.toNat n1) (Ty.dflt (Ty.pair (Ty.int IntKind.i64) (Ty.pair (Ty.int IntKind.i64) (Ty.pair (Ty.int IntKind.i64) (Ty.pair (Ty.int IntKind.i64) (Ty.pair (Ty.int IntKind.u64) (Ty.int IntKind.u32))))))))))), .n (Prod.fst (Prod.snd (Prod.snd (Prod.snd (List.getD l0 (Int.toNat n1) (Ty.dflt (Ty.pair (Ty.int IntKind.i64) (Ty.pair (Ty.int IntKind.i64) (Ty.pair (Ty.int IntKind.i64) (Ty.pair (Ty.int IntKind.i64) (Ty.pair (Ty.int IntKind.u64) (Ty.int IntKind.u32)))))))))))), .n (Prod.fst (Prod.snd (Prod.snd (Prod.snd (Prod.snd (List.getD l0 (Int.toNat n1) (Ty.dflt (Ty.pair (Ty.int IntKind.i64) (Ty.pair (Ty.int IntKind.i64) (Ty.pair (Ty.int IntKind.i64) (Ty.pair (Ty.int IntKind.i64) (Ty.pair (Ty.int IntKind.u64) (Ty.int IntKind.u32))))))))))))), .n (Prod.snd (Prod.snd (Prod.snd (Prod.snd (Prod.snd (List.getD l0 (Int.toNat n1) (Ty.dflt (Ty.pair (Ty.int IntKind.i64) (Ty.pair (Ty.int IntKind.i64) (Ty.pair (Ty.int IntKind.i64) (Ty.pair (Ty.int IntKind.i64) (Ty.pair (Ty.int IntKind.u64) (Ty.int IntKind.u32))))))))))))), .b false, .n n2, .l Ty.bool [false, true], .l (Ty.pair (Ty.int IntKind.i64) (Ty.pair (Ty.int IntKind.i64) (Ty.pair (Ty.int IntKind.u64) (Ty.int IntKind.u32)))) [((0 : Int), (0 : Int), (0 : Int), (0 : Int)), (n3, n4, n5, n6)], .b false, .n (0 : Int), .n (0 : Int), .n (0 : Int), .n (0 : Int), .n n2, .b false, .n n3, .n n4, .n n5, .n n6]);
       (.node (isK 0 [HK.b, HK.b, HK.n, HK.l Ty.bool, HK.l (Ty.pair (Ty.int IntKind.i64) (Ty.pair (Ty.int IntKind.i64) (Ty.pair (Ty.int IntKind.u64) (Ty.int IntKind.u32)))), HK.b, HK.n, HK.n, HK.n, HK.n, HK.n, HK.b] r1)
        (.node (!gb (dOf r1) 0)
         (.leaf (Step.stop 1 [.b false]))
         (.node (!false == gb (dOf r1) 5)
          (.leaf (Step.stop 1 [.b false]))
          (.node (!((0 : Int) == gn (dOf r1) 6 && ((0 : Int) == gn (dOf r1) 7 && ((0 : Int) == gn (dOf r1) 8 && ((0 : Int) == gn (dOf r1) 9 && true) && true))))
           (.leaf (Step.stop 1 [.b false]))
           (.node (!gb (dOf r1) 1 == gb (dOf r1) 11)
            (.leaf (Step.stop 1 [.b false]))
            (.node (gn (dOf r1) 2 != gn (dOf r1) 10)
             (.leaf (Step.stop 1 [.b false]))
             (.leaf (Step.go [.k 0, .l (Ty.pair (Ty.int IntKind.i64) (Ty.pair (Ty.int IntKind.i64) (Ty.pair (Ty.int IntKind.i64) (Ty.pair (Ty.int IntKind.i64) (Ty.pair (Ty.int IntKind.u64) (Ty.int IntKind.u32)))))) l0, .n (IntKind.wrap .i64 (n1 + (1 : Int))), .b (gb (dOf r1) 1), .n (gn (dOf r1) 2), .l Ty.bool (gl Ty.bool (dOf r1) 3), .l (Ty.pair (Ty.int IntKind.i64) (Ty.pair (Ty.int IntKind.i64) (Ty.pair (Ty.int IntKind.u64) (Ty.int IntKind.u32)))) (gl (Ty.pair (Ty.int IntKind.i64) (Ty.pair (Ty.int IntKind.i64) (Ty.pair (Ty.int IntKind.u64) (Ty.int IntKind.u32)))) (dOf r1) 4), .b (gb (dOf r1) 5), .n (gn (dOf r1) 6), .n (gn (dOf r1) 7), .n (gn (dOf r1) 8), .n (gn (dOf r1) 9), .n (gn (dOf r1) 10), .b (gb (dOf r1) 11)])))))))
        (.node (isK 1 [HK.b, HK.b, HK.n, HK.l Ty.bool, HK.l (Ty.pair (Ty.int IntKind.i64) (Ty.pair (Ty.int IntKind.i64) (Ty.pair (Ty.int IntKind.u64) (Ty.int IntKind.u32)))), HK.b, HK.n, HK.n, HK.n, HK.n, HK.n, HK.b, HK.n, HK.n, HK.n, HK.n] r1)
         (.node (!gb (dOf r1) 0)
          (.leaf (Step.stop 1 [.b false]))
          (.node (!false == gb (dOf r1) 5)
           (.leaf (Step.stop 1 [.b false]))
           (.node (!((0 : Int) == gn (dOf r1) 6 && ((0 : Int) == gn (dOf r1) 7 && ((0 : Int) == gn (dOf r1) 8 && ((0 : Int) == gn (dOf r1) 9 && true) && true))))
            (.leaf (Step.stop 1 [.b false]))
            (.node (!gb (dOf r1) 1 == gb (dOf r1) 11)
             (.leaf (Step.stop 1 [.b false]))
             (.node (gn (dOf r1) 2 != gn (dOf r1) 10)
              (.leaf (Step.stop 1 [.b false]))
              (.leaf (Step.go [.k 2, .l (Ty.pair (Ty.int IntKind.i64) (Ty.pair (Ty.int IntKind.i64) (Ty.pair (Ty.int IntKind.i64) (Ty.pair (Ty.int IntKind.i64) (Ty.pair (Ty.int IntKind.u64) (Ty.int IntKind.u32)))))) l0, .n (IntKind.wrap .i64 (n1 + (1 : Int))), .b (gb (dOf r1) 1), .n (gn (dOf r1) 2), .l Ty.bool (gl Ty.bool (dOf r1) 3), .l (Ty.pair (Ty.int IntKind.i64) (Ty.pair (Ty.int IntKind.i64) (Ty.pair (Ty.int IntKind.u64) (Ty.int IntKind.u32)))) (gl (Ty.pair (Ty.int IntKind.i64) (Ty.pair (Ty.int IntKind.i64) (Ty.pair (Ty.int IntKind.u64) (Ty.int IntKind.u32)))) (dOf r1) 4), .b (gb (dOf r1) 5), .n (gn (dOf r1) 6), .n (gn (dOf r1) 7), .n (gn (dOf r1) 8), .n (gn (dOf r1) 9), .n (gn (dOf r1) 10), .b (gb (dOf r1) 11), .n n3, .n n4, .n n5, .n n6])))))))
         (.node (isK 2 [HK.b, HK.b, HK.n, HK.l Ty.bool, HK.l (Ty.pair (Ty.int IntKind.i64) (Ty.pair (Ty.int IntKind.i64) (Ty.pair (Ty.int IntKind.u64) (Ty.int IntKind.u32)))), HK.b, HK.n, HK.n, HK.n, HK.n, HK.n, HK.b, HK.n, HK.n, HK.n, HK.n] r1)
          (.node (!gb (dOf r1) 0)
           (.leaf (Step.stop 1 [.b false]))
           (.node (!true == gb (dOf r1) 5)
            (.leaf (Step.stop 1 [.b false]))
            (.node (!(gn (dOf r1) 12 == gn (dOf r1) 6 && (gn (dOf r1) 13 == gn (dOf r1) 7 && (gn (dOf r1) 14 == gn (dOf r1) 8 && (gn (dOf r1) 15 == gn (dOf r1) 9 && true) && true))))
             (.leaf (Step.stop 1 [.b false]))
             (.node (!gb (dOf r1) 1 == gb (dOf r1) 11)
              (.leaf (Step.stop 1 [.b false]))
              (.node (gn (dOf r1) 2 != gn (dOf r1) 10)
               (.leaf (Step.stop 1 [.b false]))
               (.leaf (Step.go [.k 3, .l (Ty.pair (Ty.int IntKind.i64) (Ty.pair (Ty.int IntKind.i64) (Ty.pair (Ty.int IntKind.i64) (Ty.pair (Ty.int IntKind.i64) (Ty.pair (Ty.int IntKind.u64) (Ty.int IntKind.u32)))))) l0, .n (IntKind.wrap .i64 (n1 + (1 : Int))), .b (gb (dOf r1) 1), .n (gn (dOf r1) 2), .l Ty.bool (gl Ty.bool (dOf r1) 3), .l (Ty.pair (Ty.int IntKind.i64) (Ty.pair (Ty.int IntKind.i64) (Ty.pair (Ty.int IntKind.u64) (Ty.int IntKind.u32)))) (gl (Ty.pair (Ty.int IntKind.i64) (Ty.pair (Ty.int IntKind.i64) (Ty.pair (Ty.int IntKind.u64) (Ty.int IntKind.u32)))) (dOf r1) 4), .b (gb (dOf r1) 5), .n (gn (dOf r1) 6), .n (gn (dOf r1) 7), .n (gn (dOf r1) 8), .n (gn (dOf r1) 9), .n (gn (dOf r1) 10), .b (gb (dOf r1) 11), .n (gn (dOf r1) 12), .n (gn (dOf r1) 13), .n (gn (dOf r1) 14), .n (gn (dOf r1) 15)])))))))
          (.bad 351)))))
      (.bad 10))
     (.leaf (Step.stop 0 [])))
  | _ => .bad 0
theorem fn_L3_5_t2_im (l0 : List (Ty.den (Ty.pair (Ty.int IntKind.i64) (Ty.pair (Ty.int IntKind.i64) (Ty.pair (Ty.int IntKind.i64) (Ty.pair (Ty.int IntKind.i64) (Ty.pair (Ty.int IntKind.u64) (Ty.int IntKind.u32)))))))) (n1 : Int) (n2 : Int) (n3 : Int) (n4 : Int) (n5 : Int) (n6 : Int) : Imp (fn_L3_5_t2 [.l (Ty.pair (Ty.int IntKind.i64) (Ty.pair (Ty.int IntKind.i64) (Ty.pair (Ty.int IntKind.i64) (Ty.pair (Ty.int IntKind.i64) (Ty.pair (Ty.int IntKind.u64) (Ty.int IntKind.u32)))))) l0, .n n1, .n n2, .n n3, .n n4, .n n5, .n n6]) (st_L3_5 ([.k 2, .l TCl l0, .n n1] ++ sd2 n2 n3 n4 n5 n6)) :=
(.path [1] (by kernel_rfl)
(.node (by kernel_rfl) (by kernel_rfl) (fun h0 =>
(.node (by kernel_rfl) (by kernel_rfl) (fun h1 =>
(.path [1] (by kernel_rfl)
(.node (by kernel_rfl) (by kernel_rfl) (fun h2 =>
(.path [1] (by kernel_rfl)
(.node (by kernel_rfl) (by kernel_rfl) (fun h3 =>
(.path [1] (by kernel_rfl)
(.leaf (by kernel_rfl)))) (fun h3 =>
((((.path [1,0,1,1] (by kernel_rfl)
(.node (by kernel_rfl) (by kernel_rfl) (fun h4 =>
((((((((.path [1,1,1,1,1,1,1,1] (by kernel_rfl)
(.leaf (by kernel_rfl))))))))))) (fun h4 =>
((.path [1,1] (by kernel_rfl)
(.node (by kernel_rfl) (by kernel_rfl) (fun h5 =>
((((((.path [1,1,1,1,1,1] (by kernel_rfl)
(.leaf (by kernel_rfl))))))))) (fun h5 =>
(((.path [1,0,1] (by kernel_rfl)
(.node (by kernel_rfl) (by kernel_rfl) (fun h6 =>
((((.path [1,1,1,1] (by kernel_rfl)
(.leaf (by kernel_rfl))))))) (fun h6 =>
((((.path [1,0,1,1] (by kernel_rfl)
(.node (by kernel_rfl) (by kernel_rfl) (fun h7 =>
(.path [1] (by kernel_rfl)
(.leaf (by kernel_rfl)))) (fun h7 =>
(.path [1] (by kernel_rfl)
(.leaf (by kernel_rfl)))))))))))))))))))))))))))) (fun h2 =>
(.node (by kernel_rfl) (by kernel_rfl) (fun h3 =>
(.path [1] (by kernel_rfl)
(.node (by kernel_rfl) (by kernel_rfl) (fun h4 =>
(.path [1] (by kernel_rfl)
(.leaf (by kernel_rfl)))) (fun h4 =>
((((.path [1,0,1,1] (by kernel_rfl)
(.node (by kernel_rfl) (by kernel_rfl) (fun h5 =>
((((((((.path [1,1,1,1,1,1,1,1] (by kernel_rfl)
(.leaf (by kernel_rfl))))))))))) (fun h5 =>
((.path [1,1] (by kernel_rfl)
(.node (by kernel_rfl) (by kernel_rfl) (fun h6 =>
((((((.path [1,1,1,1,1,1] (by kernel_rfl)
(.leaf (by kernel_rfl))))))))) (fun h6 =>
(((.path [1,0,1] (by kernel_rfl)
(.node (by kernel_rfl) (by kernel_rfl) (fun h7 =>
((((.path [1,1,1,1] (by kernel_rfl)
(.leaf (by kernel_rfl))))))) (fun h7 =>
((((.path [1,0,1,1] (by kernel_rfl)
(.node (by kernel_rfl) (by kernel_rfl) (fun h8 =>
(.path [1] (by kernel_rfl)
(.leaf (by kernel_rfl)))) (fun h8 =>
(.path [1] (by kernel_rfl)
(.leaf (by kernel_rfl)))))))))))))))))))))))))))) (fun h3 =>
(.node (by kernel_rfl) (by kernel_rfl) (fun h4 =>
(.path [1] (by kernel_rfl)
(.node (by kernel_rfl) (by kernel_rfl) (fun h5 =>
(.path [1] (by kernel_rfl)
(.leaf (by kernel_rfl)))) (fun h5 =>
((((.path [1,0,0,1] (by kernel_rfl)
(.node (by kernel_rfl) (by kernel_rfl) (fun h6 =>
((((((((.path [1,1,1,1,1,1,1,1] (by kernel_rfl)
(.leaf (by kernel_rfl))))))))))) (fun h6 =>
((.path [1,1] (by kernel_rfl)
(.node (by kernel_rfl) (by kernel_rfl) (fun h7 =>
((((((.path [1,1,1,1,1,1] (by kernel_rfl)
(.leaf (by kernel_rfl))))))))) (fun h7 =>
(((.path [1,0,1] (by kernel_rfl)
(.node (by kernel_rfl) (by kernel_rfl) (fun h8 =>
((((.path [1,1,1,1] (by kernel_rfl)
(.leaf (by kernel_rfl))))))) (fun h8 =>
((((.path [1,0,1,1] (by kernel_rfl)
(.node (by kernel_rfl) (by kernel_rfl) (fun h9 =>
(.path [1] (by kernel_rfl)
(.leaf (by kernel_rfl)))) (fun h9 =>
(.path [1] (by kernel_rfl)
(.leaf (by kernel_rfl)))))))))))))))))))))))))))) (fun h4 =>
.none)))))))) (fun h1 =>
.none))) (fun h0 =>
(.path [1] (by kernel_rfl)
(.leaf (by kernel_rfl))))))

noncomputable def fn_L3_5_t3 : List Dat → Tree Step
  | [.l (Ty.pair (Ty.int IntKind.i64) (Ty.pair (Ty.int IntKind.i64) (Ty.pair (Ty.int IntKind.i64) (Ty.pair (Ty.int IntKind.i64) (Ty.pair (Ty.int IntKind.u64) (Ty.int IntKind.u32)))))) l0, .n n1, .n n2, .n n3, .n n4, .n n5, .n n6] =>
    (.node (decide (n1 < (↑(List.length l0) : Int)))
     (.node (inR n1 (List.length l0))
      (let r1 : Option (Nat × List Dat) := (op_16d [.n (Prod.fst (List.getD l0 (Int.toNat n1) (Ty.dflt (Ty.pair (Ty.int IntKind.i64) (Ty.pair (Ty.int IntKind.i64) (Ty.pair (Ty.int IntKind.i64) (Ty.pair (Ty.int IntKind.i64) (Ty.pair (Ty.int IntKind.u64) (Ty.int IntKind.u32))))))))), .n (Prod.fst (Prod.snd (List.getD l0 (Int.toNat n1) (Ty.dflt (Ty.pair (Ty.int IntKind.i64) (Ty.pair (Ty.int IntKind.i64) (Ty.pair (Ty.int IntKind.i64) (Ty.pair (Ty.int IntKind.i64) (Ty.pair (Ty.int IntKind.u64) (Ty.int IntKind.u32)))))))))), .n (Prod.fst (Prod.snd (Prod.snd (List.getD l0 (Int.toNat n1) (Ty.dflt (Ty.pair (Ty.int IntKind.i64) (Ty.pair (Ty.int IntKind.i64) (Ty.pair (Ty.int IntKind.i64) (Ty.pair (Ty.int IntKind.i64) (Ty.pair (Ty.int IntKind.u64) (Ty.int IntKind.u32))))))))))), .n (Prod.fst (Prod.snd (Prod.snd (Prod.snd (List.getD l0 (Int.toNat n1) (Ty.dflt (Ty.pair (Ty.int IntKind.i64) (Ty.pair (Ty.int IntKind.i64) (Ty.pair (Ty.int IntKind.i64) (Ty.pair (Ty.int IntKind.i64) (Ty.pair (Ty.int IntKind.u64) (Ty.int IntKind.u32)))))))))))), .n (Prod.fst (Prod.snd (Prod.snd (Prod.snd (Prod.snd (List.getD l0 (Int.toNat n1) (Ty.dflt (Ty.pair (Ty.int IntKind.i64) (Ty.pair (Ty.int IntKind.i64) (Ty.pair (Ty.int IntKind.i64) (Ty.pair (Ty.int IntKind.i64) (Ty.pair (Ty.int IntKind.u64) (Ty.int IntKind.u32))))))))))))), .n (Prod.snd (Prod.snd (Prod.snd (Prod.snd (Prod.snd (List.getD l0 (Int.toNat n1) (Ty.dflt (Ty.pair (Ty.int IntKind.i64) (Ty.pair (Ty.int IntKind.i64) (Ty.pair (Ty.int IntKind.i64) (Ty.pair (Ty.int IntKind.i64) (Ty.pair (Ty.int IntKind.u64) (Ty.int IntKind.u32))))))))))))), .b false, .n n2, .l Ty.bool [false, false], .l (Ty.pair (Ty.int IntKind.i64) (Ty.pair (Ty.int IntKind.i64) (Ty.pair (Ty.int IntKind.u64) (Ty.int IntKind.u32)))) [((0 : Int), (0 : Int), (0 : Int), (0 : Int)), ((0 : Int), (0 : Int), (0 : Int), (0 : Int))], .b true, .n n3, .n n4, .n n5, .n n6, .n n2, .b false, .n n3, .n n4, .n n5, .n n6]);
       (.node (isK 0 [HK.b, HK.b, HK.n, HK.l Ty.bool, HK.l (Ty.pair (Ty.int IntKind.i64) (Ty.pair (Ty.int IntKind.i64) (Ty.pair (Ty.int IntKind.u64) (Ty.int IntKind.u32)))), HK.b, HK.n, HK.n, HK.n, HK.n, HK.n, HK.b] r1)
        (.node (!gb (dOf r1) 0)
         (.leaf (Step.stop 1 [.b false]))
         (.node (!false == gb (dOf r1) 5)
          (.leaf (Step.stop 1 [.b false]))
          (.node (!((0 : Int) == gn (dOf r1) 6 && ((0 : Int) == gn (dOf r1) 7 && ((0 : Int) == gn (dOf r1) 8 && ((0 : Int) == gn (dOf r1) 9 && true) && true))))
           (.leaf (Step.stop 1 [.b false]))
           (.node (!gb (dOf r1) 1 == gb (dOf r1) 11)
            (.leaf (Step.stop 1 [.b false]))
            (.node (gn (dOf r1) 2 != gn (dOf r1) 10)
             (.leaf (Step.stop 1 [.b false]))
             (.leaf (Step.go [.k 0, .l (Ty.pair (Ty.int IntKind.i64) (Ty.pair (Ty.int IntKind.i64) (Ty.pair (Ty.int IntKind.i64) (Ty.pair (Ty.int IntKind.i64) (Ty.pair (Ty.int IntKind.u64) (Ty.int IntKind.u32)))))) l0, .n (IntKind.wrap .i64 (n1 + (1 : Int))), .b (gb (dOf r1) 1), .n (gn (dOf r1) 2), .l Ty.bool (gl Ty.bool (dOf r1) 3), .l (Ty.pair (Ty.int IntKind.i64) (Ty.pair (Ty.int IntKind.i64) (Ty.pair (Ty.int IntKind.u64) (Ty.int IntKind.u32)))) (gl (Ty.pair (Ty.int IntKind.i64) (Ty.pair (Ty.int IntKind.i64) (Ty.pair (Ty.int IntKind.u64) (Ty.int IntKind.u32)))) (dOf r1) 4), .b (gb (dOf r1) 5), .n (gn (dOf r1) 6), .n (gn (dOf r1) 7), .n (gn (dOf r1) 8), .n (gn (dOf r1) 9), .n (gn (dOf r1) 10), .b (gb (dOf r1) 11)])))))))
        (.node (isK 1 [HK.b, HK.b, HK.n, HK.l Ty.bool, HK.l (Ty.pair (Ty.int IntKind.i64) (Ty.pair (Ty.int IntKind.i64) (Ty.pair (Ty.int IntKind.u64) (Ty.int IntKind.u32)))), HK.b, HK.n, HK.n, HK.n, HK.n, HK.n, HK.b, HK.n, HK.n, HK.n, HK.n] r1)
         (.node (!gb (dOf r1) 0)
          (.leaf (Step.stop 1 [.b false]))
          (.node (!true == gb (dOf r1) 5)
           (.leaf (Step.stop 1 [.b false]))
           (.node (!(n3 == gn (dOf r1) 6 && (n4 == gn (dOf r1) 7 && (n5 == gn (dOf r1) 8 && (n6 == gn (dOf r1) 9 && true) && true))))
            (.leaf (Step.stop 1 [.b false]))
            (.node (!gb (dOf r1) 1 == gb (dOf r1) 11)
             (.leaf (Step.stop 1 [.b false]))
             (.node (gn (dOf r1) 2 != gn (dOf r1) 10)
              (.leaf (Step.stop 1 [.b false]))
              (.leaf (Step.go [.k 3, .l (Ty.pair (Ty.int IntKind.i64) (Ty.pair (Ty.int IntKind.i64) (Ty.pair (Ty.int IntKind.i64) (Ty.pair (Ty.int IntKind.i64) (Ty.pair (Ty.int IntKind.u64) (Ty.int IntKind.u32)))))) l0, .n (IntKind.wrap .i64 (n1 + (1 : Int))), .b (gb (dOf r1) 1), .n (gn (dOf r1) 2), .l Ty.bool (gl Ty.bool (dOf r1) 3), .l (Ty.pair (Ty.int IntKind.i64) (Ty.pair (Ty.int IntKind.i64) (Ty.pair (Ty.int IntKind.u64) (Ty.int IntKind.u32)))) (gl (Ty.pair (Ty.int IntKind.i64) (Ty.pair (Ty.int IntKind.i64) (Ty.pair (Ty.int IntKind.u64) (Ty.int IntKind.u32)))) (dOf r1) 4), .b (gb (dOf r1) 5), .n (gn (dOf r1) 6), .n (gn (dOf r1) 7), .n (gn (dOf r1) 8), .n (gn (dOf r1) 9), .n (gn (dOf r1) 10), .b (gb (dOf r1) 11), .n n3, .n n4, .n n5, .n n6])))))))
         (.node (isK 2 [HK.b, HK.b, HK.n, HK.l Ty.bool, HK.l (Ty.pair (Ty.int IntKind.i64) (Ty.pair (Ty.int IntKind.i64) (Ty.pair (Ty.int IntKind.u64) (Ty.int IntKind.u32)))), HK.b, HK.n, HK.n, HK.n, HK.n, HK.n, HK.b, HK.n, HK.n, HK.n, HK.n, HK.n, HK.n, HK.n, HK.n] r1)
          (.node (!gb (dOf r1) 0)
           (.leaf (Step.stop 1 [.b false]))
           (.node (!true == gb (dOf r1) 5)
            (.leaf (Step.stop 1 [.b false]))
            (.node (!(n3 == gn (dOf r1) 6 && (n4 == gn (dOf r1) 7 && (n5 == gn (dOf r1) 8 && (n6 == gn (dOf r1) 9 && true) && true))))
             (.leaf (Step.stop 1 [.b false]))
             (.node (!gb (dOf r1) 1 == gb (dOf r1) 11)
              (.leaf (Step.stop 1 [.b false]))
              (.node (gn (dOf r1) 2 != gn (dOf r1) 10)
               (.leaf (Step.stop 1 [.b false]))
               (.leaf (Step.go [.k 4, .l (Ty.pair (Ty.int IntKind.i64) (Ty.pair (Ty.int IntKind.i64) (Ty.pair (Ty.int IntKind.i64) (Ty.pair (Ty.int IntKind.i64) (Ty.pair (Ty.int IntKind.u64) (Ty.int IntKind.u32)))))) l0, .n (IntKind.wrap .i64 (n1 + (1 : Int))), .b (gb (dOf r1) 1), .n (gn (dOf r1) 2), .l Ty.bool (gl Ty.bool (dOf r1) 3), .l (Ty.pair (Ty.int IntKind.i64) (Ty.pair (Ty.int IntKind.i64) (Ty.pair (Ty.int IntKind.u64) (Ty.int IntKind.u32)))) (gl (Ty.pair (Ty.int IntKind.i64) (Ty.pair (Ty.int IntKind.i64) (Ty.pair (Ty.int IntKind.u64) (Ty.int IntKind.u32)))) (dOf r1) 4), .b (gb (dOf r1) 5), .n (gn (dOf r1) 6), .n (gn (dOf r1) 7), .n (gn (dOf r1) 8), .n (gn (dOf r1) 9), .n (gn (dOf r1) 10), .b (gb (dOf r1) 11), .n (gn (dOf r1) 16), .n (gn (dOf r1) 17), .n (gn (dOf r1) 18), .n (gn (dOf r1) 19), .n n3, .n n4, .n n5, .n n6])))))))
          (.node (isK 3 [HK.b, HK.b, HK.n, HK.l Ty.bool, HK.l (Ty.pair (Ty.int IntKind.i64) (Ty.pair (Ty.int IntKind.i64) (Ty.pair (Ty.int IntKind.u64) (Ty.int IntKind.u32)))), HK.b, HK.n, HK.n, HK.n, HK.n, HK.n, HK.b, HK.n, HK.n, HK.n, HK.n, HK.n, HK.n, HK.n, HK.n] r1)
           (.node (!gb (dOf r1) 0)
            (.leaf (Step.stop 1 [.b false]))
            (.node (!true == gb (dOf r1) 5)
             (.leaf (Step.stop 1 [.b false]))
             (.node (!(n3 == gn (dOf r1) 6 && (n4 == gn (dOf r1) 7 && (n5 == gn (dOf r1) 8 && (n6 == gn (dOf r1) 9 && true) && true))))
              (.leaf (Step.stop 1 [.b false]))
              (.node (!gb (dOf r1) 1 == gb (dOf r1) 11)
               (.leaf (Step.stop 1 [.b false]))
               (.node (gn (dOf r1) 2 != gn (dOf r1) 10)
                (.leaf (Step.stop 1 [.b false]))
                (.leaf (Step.go [.k 5, .l (Ty.pair (Ty.int IntKind.i64) (Ty.pair (Ty.int IntKind.i64) (Ty.pair (Ty.int IntKind.i64) (Ty.pair (Ty.int IntKind.i64) (Ty.pair (Ty.int IntKind.u64) (Ty.int IntKind.u32)))))) l0, .n (IntKind.wrap .i64 (n1 + (1 : Int))), .b (gb (dOf r1) 1), .n (gn (dOf r1) 2), .l Ty.bool (gl Ty.bool (dOf r1) 3), .l (Ty.pair (Ty.int IntKind.i64) (Ty.pair (Ty.int IntKind.i64) (Ty.pair (Ty.int IntKind.u64) (Ty.int IntKind.u32)))) (gl (Ty.pair (Ty.int IntKind.i64) (Ty.pair (Ty.int IntKind.i64) (Ty.pair (Ty.int IntKind.u64) (Ty.int IntKind.u32)))) (dOf r1) 4), .b (gb (dOf r1) 5), .n (gn (dOf r1) 6), .n (gn (dOf r1) 7), .n (gn (dOf r1) 8), .n (gn (dOf r1) 9), .n (gn (dOf r1) 10), .b (gb (dOf r1) 11), .n (gn (dOf r1) 16), .n (gn (dOf r1) 17), .n (gn (dOf r1) 18), .n (gn (dOf r1) 19), .n n3, .n n4, .n n5, .n n6])))))))
           (.bad 351))))))
      (.bad 10))
     (.leaf (Step.stop 0 [])))
  | _ => .bad 0
theorem fn_L3_5_t3_im (l0 : List (Ty.den (Ty.pair (Ty.int IntKind.i64) (Ty.pair (Ty.int IntKind.i64) (Ty.pair (Ty.int IntKind.i64) (Ty.pair (Ty.int IntKind.i64) (Ty.pair (Ty.int IntKind.u64) (Ty.int IntKind.u32)))))))) (n1 : Int) (n2 : Int) (n3 : Int) (n4 : Int) (n5 : Int) (n6 : Int) : Imp (fn_L3_5_t3 [.l (Ty.pair (Ty.int IntKind.i64) (Ty.pair (Ty.int IntKind.i64) (Ty.pair (Ty.int IntKind.i64) (Ty.pair (Ty.int IntKind.i64) (Ty.pair (Ty.int IntKind.u64) (Ty.int IntKind.u32)))))) l0, .n n1, .n n2, .n n3, .n n4, .n n5, .n n6]) (st_L3_5 ([.k 3, .l TCl l0, .n n1] ++ sd3 n2 n3 n4 n5 n6)) :=
(.path [1] (by kernel_rfl)
(.node (by kernel_rfl) (by kernel_rfl) (fun h0 =>
(.node (by kernel_rfl) (by kernel_rfl) (fun h1 =>
(.path [1] (by kernel_rfl)
(.node (by kernel_rfl) (by kernel_rfl) (fun h2 =>
(.path [1] (by kernel_rfl)
(.node (by kernel_rfl) (by kernel_rfl) (fun h3 =>
(.path [1] (by kernel_rfl)
(.leaf (by kernel_rfl)))) (fun h3 =>
((((.path [1,0,1,1] (by kernel_rfl)
(.node (by kernel_rfl) (by kernel_rfl) (fun h4 =>
((((((((.path [1,1,1,1,1,1,1,1] (by kernel_rfl)
(.leaf (by kernel_rfl))))))))))) (fun h4 =>
((.path [1,1] (by kernel_rfl)
(.node (by kernel_rfl) (by kernel_rfl) (fun h5 =>
((((((.path [1,1,1,1,1,1] (by kernel_rfl)
(.leaf (by kernel_rfl))))))))) (fun h5 =>
(((.path [1,0,1] (by kernel_rfl)
(.node (by kernel_rfl) (by kernel_rfl) (fun h6 =>
((((.path [1,1,1,1] (by kernel_rfl)
(.leaf (by kernel_rfl))))))) (fun h6 =>
((((.path [1,0,1,1] (by kernel_rfl)
(.node (by kernel_rfl) (by kernel_rfl) (fun h7 =>
(.path [1] (by kernel_rfl)
(.leaf (by kernel_rfl)))) (fun h7 =>
(.path [1] (by kernel_rfl)
(.leaf (by kernel_rfl)))))))))))))))))))))))))))) (fun h2 =>
(.node (by kernel_rfl) (by kernel_rfl) (fun h3 =>
(.path [1] (by kernel_rfl)
(.node (by kernel_rfl) (by kernel_rfl) (fun h4 =>
(.path [1] (by kernel_rfl)
(.leaf (by kernel_rfl)))) (fun h4 =>
((((.path [1,0,0,1] (by kernel_rfl)
(.node (by kernel_rfl) (by kernel_rfl) (fun h5 =>
((((((((.path [1,1,1,1,1,1,1,1] (by kernel_rfl)
(.leaf (by kernel_rfl))))))))))) (fun h5 =>
((.path [1,1] (by kernel_rfl)
(.node (by kernel_rfl) (by kernel_rfl) (fun h6 =>
((((((.path [1,1,1,1,1,1] (by kernel_rfl)
(.leaf (by kernel_rfl))))))))) (fun h6 =>
(((.path [1,0,1] (by kernel_rfl)
(.node (by kernel_rfl) (by kernel_rfl) (fun h7 =>
((((.path [1,1,1,1] (by kernel_rfl)
(.leaf (by kernel_rfl))))))) (fun h7 =>
((((.path [1,0,1,1] (by kernel_rfl)
(.node (by kernel_rfl) (by kernel_rfl) (fun h8 =>
(.path [1] (by kernel_rfl)
(.leaf (by kernel_rfl)))) (fun h8 =>
(.path [1] (by kernel_rfl)
(.leaf (by kernel_rfl)))))))))))))))))))))))))))) (fun h3 =>
(.node (by kernel_rfl) (by kernel_rfl) (fun h4 =>
(.path [1] (by kernel_rfl)
(.node (by kernel_rfl) (by kernel_rfl) (fun h5 =>
(.path [1] (by kernel_rfl)
(.leaf (by kernel_rfl)))) (fun h5 =>
((((.path [1,0,0,1] (by kernel_rfl)
(.node (by kernel_rfl) (by kernel_rfl) (fun h6 =>
((((((((.path [1,1,1,1,1,1,1,1] (by kernel_rfl)
(.leaf (by kernel_rfl))))))))))) (fun h6 =>
((.path [1,1] (by kernel_rfl)
(.node (by kernel_rfl) (by kernel_rfl) (fun h7 =>
((((((.path [1,1,1,1,1,1] (by kernel_rfl)
(.leaf (by kernel_rfl))))))))) (fun h7 =>
(((.path [1,0,1] (by kernel_rfl)
(.node (by kernel_rfl) (by kernel_rfl) (fun h8 =>
((((.path [1,1,1,1] (by kernel_rfl)
(.leaf (by kernel_rfl))))))) (fun h8 =>
((((.path [1,0,1,1] (by kernel_rfl)
(.node (by kernel_rfl) (by kernel_rfl) (fun h9 =>
(.path [1] (by kernel_rfl)
(.leaf (by kernel_rfl)))) (fun h9 =>
(.path [1] (by kernel_rfl)
(.leaf (by kernel_rfl)))))))))))))))))))))))))))) (fun h4 =>
(.node (by kernel_rfl) (by kernel_rfl) (fun h5 =>
(.path [1] (by kernel_rfl)
(.node (by kernel_rfl) (by kernel_rfl) (fun h6 =>
(.path [1] (by kernel_rfl)
(.leaf (by kernel_rfl)))) (fun h6 =>
((((.path [1,0,0,1] (by kernel_rfl)
(.node (by kernel_rfl) (by kernel_rfl) (fun h7 =>
((((((((.path [1,1,1,1,1,1,1,1] (by kernel_rfl)
(.leaf (by kernel_rfl))))))))))) (fun h7 =>
((.path [1,1] (by kernel_rfl)
(.node (by kernel_rfl) (by kernel_rfl) (fun h8 =>
((((((.path [1,1,1,1,1,1] (by kernel_rfl)
(.leaf (by kernel_rfl))))))))) (fun h8 =>
(((.path [1,0,1] (by kernel_rfl)
(.node (by kernel_rfl) (by kernel_rfl) (fun h9 =>
((((.path [1,1,1,1] (by kernel_rfl)
(.leaf (by kernel_rfl))))))) (fun h9 =>
((((.path [1,0,1,1] (by kernel_rfl)
(.node (by kernel_rfl) (by kernel_rfl) (fun h10 =>
(.path [1] (by kernel_rfl)
(.leaf (by kernel_rfl)))) (fun h10 =>
(.path [1] (by kernel_rfl)
(.leaf (by kernel_rfl)))))))))))))))))))))))))))) (fun h5 =>
.none)))))))))) (fun h1 =>
.none))) (fun h0 =>
(.path [1] (by kernel_rfl)
(.leaf (by kernel_rfl))))))

noncomputable def fn_L3_5_t4 : List Dat → Tree Step
  | [.l (Ty.pair (Ty.int IntKind.i64) (Ty.pair (Ty.int IntKind.i64) (Ty.pair (Ty.int IntKind.i64) (Ty.pair (Ty.int IntKind.i64) (Ty.pair (Ty.int IntKind.u64) (Ty.int IntKind.u32)))))) l0, .n n1, .n n2, .n n3, .n n4, .n n5, .n n6, .n n7, .n n8, .n n9, .n n10] =>
    (.node (decide (n1 < (↑(List.length l0) : Int)))
     (.node (inR n1 (List.length l0))
      (let r1 : Option (Nat × List Dat) := (op_16e [.n (Prod.fst (List.getD l0 (Int.toNat n1) (Ty.dflt (Ty.pair (Ty.int IntKind.i64) (Ty.pair (Ty.int IntKind.i64) (Ty.pair (Ty.int IntKind.i64) (Ty.pair (Ty.int IntKind.i64) (Ty.pair (Ty.int IntKind.u64) (Ty.int IntKind.u32))))))))), .n (Prod.fst (Prod.snd (List.getD l0 (Int.toNat n1) (Ty.dflt (Ty.pair (Ty.int IntKind.i64) (Ty.pair (Ty.int IntKind.i64) (Ty.pair (Ty.int IntKind.i64) (Ty.pair (Ty.int IntKind.i64) (Ty.pair (Ty.int IntKind.u64) (Ty.int IntKind.u32)))))))))), .n (Prod.fst (Prod.snd (Prod.snd (List.getD l0 (Int.toNat n1) (Ty.dflt (Ty.pair (Ty.int IntKind.i64) (Ty.pair (Ty.int IntKind.i64) (Ty.pair (Ty.int IntKind.i64) (Ty.pair (Ty.int IntKind.i64) (Ty.pair (Ty.int IntKind.u64) (Ty.int IntKind.u32))))))))))), .n (Prod.fst (Prod.snd (Prod.snd (Prod.snd (List.getD l0 (Int.toNat n1) (Ty.dflt (Ty.pair (Ty.int IntKind.i64) (Ty.pair (Ty.int IntKind.i64) (Ty.pair (Ty.int IntKind.i64) (Ty.pair (Ty.int IntKind.i64) (Ty.pair (Ty.int IntKind.u64) (Ty.int IntKind.u32)))))))))))), .n (Prod.fst (Prod.snd (Prod.snd (Prod.snd (Prod.snd (List.getD l0 (Int.toNat n1) (Ty.dflt (Ty.pair (Ty.int IntKind.i64) (Ty.pair (Ty.int IntKind.i64) (Ty.pair (Ty.int IntKind.i64) (Ty.pair (Ty.int IntKind.i64) (Ty.pair (Ty.int IntKind.u64) (Ty.int IntKind.u32))))))))))))), .n (Prod.snd (Prod.snd (Prod.snd (Prod.snd (Prod.snd (List.getD l0 (Int.toNat n1) (Ty.dflt (Ty.pair (Ty.int IntKind.i64) (Ty.pair (Ty.int IntKind.i64) (Ty.pair (Ty.int IntKind.i64) (Ty.pair (Ty.int IntKind.i64) (Ty.pair (Ty.int IntKind.u64) (Ty.int IntKind.u32))))))))))))), .b false, .n n2, .l Ty.bool [true, false], .l (Ty.pair (Ty.int IntKind.i64) (Ty.pair (Ty.int IntKind.i64) (Ty.pair (Ty.int IntKind.u64) (Ty.int IntKind.u32)))) [(n7, n8, n9, n10), ((0 : Int), (0 : Int), (0 : Int), (0 : Int))], .b true, .n n3, .n n4, .n n5, .n n6, .n n2, .b false, .n n7, .n n8, .n n9, .n n10, .n n3, .n n4, .n n5, .n n6]);
       (.node (isK 0 [HK.b, HK.b, HK.n, HK.l Ty.bool, HK.l (Ty.pair (Ty.int IntKind.i64) (Ty.pair (Ty.int IntKind.i64) (Ty.pair (Ty.int IntKind.u64) (Ty.int IntKind.u32)))), HK.b, HK.n, HK.n, HK.n, HK.n, HK.n, HK.b] r1)
        (.node (!gb (dOf r1) 0)
         (.leaf (Step.stop 1 [.b false]))
         (.node (!false == gb (dOf r1) 5)
          (.leaf (Step.stop 1 [.b false]))
          (.node (!((0 : Int) == gn (dOf r1) 6 && ((0 : Int) == gn (dOf r1) 7 && ((0 : Int) == gn (dOf r1) 8 && ((0 : Int) == gn (dOf r1) 9 && true) && true))))
           (.leaf (Step.stop 1 [.b false]))
           (.node (!gb (dOf r1) 1 == gb (dOf r1) 11)
            (.leaf (Step.stop 1 [.b false]))
            (.node (gn (dOf r1) 2 != gn (dOf r1) 10)
             (.leaf (Step.stop 1 [.b false]))
             (.leaf (Step.go [.k 0, .l (Ty.pair (Ty.int IntKind.i64) (Ty.pair (Ty.int IntKind.i64) (Ty.pair (Ty.int IntKind.i64) (Ty.pair (Ty.int IntKind.i64) (Ty.pair (Ty.int IntKind.u64) (Ty.int IntKind.u32)))))) l0, .n (IntKind.wrap .i64 (n1 + (1 : Int))), .b (gb (dOf r1) 1), .n (gn (dOf r1) 2), .l Ty.bool (gl Ty.bool (dOf r1) 3), .l (Ty.pair (Ty.int IntKind.i64) (Ty.pair (Ty.int IntKind.i64) (Ty.pair (Ty.int IntKind.u64) (Ty.int IntKind.u32)))) (gl (Ty.pair (Ty.int IntKind.i64) (Ty.pair (Ty.int IntKind.i64) (Ty.pair (Ty.int IntKind.u64) (Ty.int IntKind.u32)))) (dOf r1) 4), .b (gb (dOf r1) 5), .n (gn (dOf r1) 6), .n (gn (dOf r1) 7), .n (gn (dOf r1) 8), .n (gn (dOf r1) 9), .n (gn (dOf r1) 10), .b (gb (dOf r1) 11)])))))))
        (.node (isK 1 [HK.b, HK.b, HK.n, HK.l Ty.bool, HK.l (Ty.pair (Ty.int IntKind.i64) (Ty.pair (Ty.int IntKind.i64) (Ty.pair (Ty.int IntKind.u64) (Ty.int IntKind.u32)))), HK.b, HK.n, HK.n, HK.n, HK.n, HK.n, HK.b, HK.n, HK.n, HK.n, HK.n, HK.n, HK.n, HK.n, HK.n] r1)
         (.node (!gb (dOf r1) 0)
          (.leaf (Step.stop 1 [.b false]))
          (.node (!true == gb (dOf r1) 5)
           (.leaf (Step.stop 1 [.b false]))
           (.node (!(n3 == gn (dOf r1) 6 && (n4 == gn (dOf r1) 7 && (n5 == gn (dOf r1) 8 && (n6 == gn (dOf r1) 9 && true) && true))))
            (.leaf (Step.stop 1 [.b false]))
            (.node (!gb (dOf r1) 1 == gb (dOf r1) 11)
             (.leaf (Step.stop 1 [.b false]))
             (.node (gn (dOf r1) 2 != gn (dOf r1) 10)
              (.leaf (Step.stop 1 [.b false]))
              (.leaf (Step.go [.k 4, .l (Ty.pair (Ty.int IntKind.i64) (Ty.pair (Ty.int IntKind.i64) (Ty.pair (Ty.int IntKind.i64) (Ty.pair (Ty.int IntKind.i64) (Ty.pair (Ty.int IntKind.u64) (Ty.int IntKind.u32)))))) l0, .n (IntKind.wrap .i64 (n1 + (1 : Int))), .b (gb (dOf r1) 1), .n (gn (dOf r1) 2), .l Ty.bool (gl Ty.bool (dOf r1) 3), .l (Ty.pair (Ty.int IntKind.i64) (Ty.pair (Ty.int IntKind.i64) (Ty.pair (Ty.int IntKind.u64) (Ty.int IntKind.u32)))) (gl (Ty.pair (Ty.int IntKind.i64) (Ty.pair (Ty.int IntKind.i64) (Ty.pair (Ty.int IntKind.u64) (Ty.int IntKind.u32)))) (dOf r1) 4), .b (gb (dOf r1) 5), .n (gn (dOf r1) 6), .n (gn (dOf r1) 7), .n (gn (dOf r1) 8), .n (gn (dOf r1) 9), .n (gn (dOf r1) 10), .b (gb (dOf r1) 11), .n n7, .n n8, .n n9, .n n10, .n n3, .n n4, .n n5, .n n6])))))))
         (.node (isK 2 [HK.b, HK.b, HK.n, HK.l Ty.bool, HK.l (Ty.pair (Ty.int IntKind.i64) (Ty.pair (Ty.int IntKind.i64) (Ty.pair (Ty.int IntKind.u64) (Ty.int IntKind.u32)))), HK.b, HK.n, HK.n, HK.n, HK.n, HK.n, HK.b, HK.n, HK.n, HK.n, HK.n] r1)
          (.node (!gb (dOf r1) 0)
           (.leaf (Step.stop 1 [.b false]))
           (.node (!true == gb (dOf r1) 5)
            (.leaf (Step.stop 1 [.b false]))
            (.node (!(gn (dOf r1) 12 == gn (dOf r1) 6 && (gn (dOf r1) 13 == gn (dOf r1) 7 && (gn (dOf r1) 14 == gn (dOf r1) 8 && (gn (dOf r1) 15 == gn (dOf r1) 9 && true) && true))))
             (.leaf (Step.stop 1 [.b false]))
             (.node (!gb (dOf r1) 1 == gb (dOf r1) 11)
              (.leaf (Step.stop 1 [.b false]))
              (.node (gn (dOf r1) 2 != gn (dOf r1) 10)
               (.leaf (Step.stop 1 [.b false]))
               (.leaf (Step.go [.k 3, .l (Ty.pair (Ty.int IntKind.i64) (Ty.pair (Ty.int IntKind.i64) (Ty.pair (Ty.int IntKind.i64) (Ty.pair (Ty.int IntKind.i64) (Ty.pair (Ty.int IntKind.u64) (Ty.int IntKind.u32)))))) l0, .n (IntKind.wrap .i64 (n1 + (1 : Int))), .b (gb (dOf r1) 1), .n (gn (dOf r1) 2), .l Ty.bool (gl Ty.bool (dOf r1) 3), .l (Ty.pair (Ty.int IntKind.i64) (Ty.pair (Ty.int IntKind.i64) (Ty.pair (Ty.int IntKind.u64) (Ty.int IntKind.u32)))) (gl (Ty.pair (Ty.int IntKind.i64) (Ty.pair (Ty.int IntKind.i64) (Ty.pair (Ty.int IntKind.u64) (Ty.int IntKind.u32)))) (dOf r1) 4), .b (gb (dOf r1) 5), .n (gn (dOf r1) 6), .n (gn (dOf r1) 7), .n (gn (dOf r1) 8), .n (gn (dOf r1) 9), .n (gn (dOf r1) 10), .b (gb (dOf r1) 11), .n (gn (dOf r1) 12), .n (gn (dOf r1) 13), .n (gn (dOf r1) 14), .n (gn (dOf r1) 15)])))))))
          (.bad 351)))))
      (.bad 10))
     (.leaf (Step.stop 0 [])))
  | _ => .bad 0
theorem fn_L3_5_t4_im (l0 : List (Ty.den (Ty.pair (Ty.int IntKind.i64) (Ty.pair (Ty.int IntKind.i64) (Ty.pair (Ty.int IntKind.i64) (Ty.pair (Ty.int IntKind.i64) (Ty.pair (Ty.int IntKind.u64) (Ty.int IntKind.u32)))))))) (n1 : Int) (n2 : Int) (n3 : Int) (n4 : Int) (n5 : Int) (n6 : Int) (n7 : Int) (n8 : Int) (n9 : Int) (n10 : Int) : Imp (fn_L3_5_t4 [.l (Ty.pair (Ty.int IntKind.i64) (Ty.pair (Ty.int IntKind.i64) (Ty.pair (Ty.int IntKind.i64) (Ty.pair (Ty.int IntKind.i64) (Ty.pair (Ty.int IntKind.u64) (Ty.int IntKind.u32)))))) l0, .n n1, .n n2, .n n3, .n n4, .n n5, .n n6, .n n7, .n n8, .n n9, .n n10]) (st_L3_5 ([.k 4, .l TCl l0, .n n1] ++ sd4 n2 n3 n4 n5 n6 n7 n8 n9 n10)) :=
(.path [1] (by kernel_rfl)
(.node (by kernel_rfl) (by kernel_rfl) (fun h0 =>
(.node (by kernel_rfl) (by kernel_rfl) (fun h1 =>
(.path [1] (by kernel_rfl)
(.node (by kernel_rfl) (by kernel_rfl) (fun h2 =>
(.path [1] (by kernel_rfl)
(.node (by kernel_rfl) (by kernel_rfl) (fun h3 =>
(.path [1] (by kernel_rfl)
(.leaf (by kernel_rfl)))) (fun h3 =>
((((.path [1,0,1,1] (by kernel_rfl)
(.node (by kernel_rfl) (by kernel_rfl) (fun h4 =>
((((((((.path [1,1,1,1,1,1,1,1] (by kernel_rfl)
(.leaf (by kernel_rfl))))))))))) (fun h4 =>
((.path [1,1] (by kernel_rfl)
(.node (by kernel_rfl) (by kernel_rfl) (fun h5 =>
((((((.path [1,1,1,1,1,1] (by kernel_rfl)
(.leaf (by kernel_rfl))))))))) (fun h5 =>
(((.path [1,0,1] (by kernel_rfl)
(.node (by kernel_rfl) (by kernel_rfl) (fun h6 =>
((((.path [1,1,1,1] (by kernel_rfl)
(.leaf (by kernel_rfl))))))) (fun h6 =>
((((.path [1,0,1,1] (by kernel_rfl)
(.node (by kernel_rfl) (by kernel_rfl) (fun h7 =>
(.path [1] (by kernel_rfl)
(.leaf (by kernel_rfl)))) (fun h7 =>
(.path [1] (by kernel_rfl)
(.leaf (by kernel_rfl)))))))))))))))))))))))))))) (fun h2 =>
(.node (by kernel_rfl) (by kernel_rfl) (fun h3 =>
(.path [1] (by kernel_rfl)
(.node (by kernel_rfl) (by kernel_rfl) (fun h4 =>
(.path [1] (by kernel_rfl)
(.leaf (by kernel_rfl)))) (fun h4 =>
((((.path [1,0,0,1] (by kernel_rfl)
(.node (by kernel_rfl) (by kernel_rfl) (fun h5 =>
((((((((.path [1,1,1,1,1,1,1,1] (by kernel_rfl)
(.leaf (by kernel_rfl))))))))))) (fun h5 =>
((.path [1,1] (by kernel_rfl)
(.node (by kernel_rfl) (by kernel_rfl) (fun h6 =>
((((((.path [1,1,1,1,1,1] (by kernel_rfl)
(.leaf (by kernel_rfl))))))))) (fun h6 =>
(((.path [1,0,1] (by kernel_rfl)
(.node (by kernel_rfl) (by kernel_rfl) (fun h7 =>
((((.path [1,1,1,1] (by kernel_rfl)
(.leaf (by kernel_rfl))))))) (fun h7 =>
((((.path [1,0,1,1] (by kernel_rfl)
(.node (by kernel_rfl) (by kernel_rfl) (fun h8 =>
(.path [1] (by kernel_rfl)
(.leaf (by kernel_rfl)))) (fun h8 =>
(.path [1] (by kernel_rfl)
(.leaf (by kernel_rfl)))))))))))))))))))))))))))) (fun h3 =>
(.node (by kernel_rfl) (by kernel_rfl) (fun h4 =>
(.path [1] (by kernel_rfl)
(.node (by kernel_rfl) (by kernel_rfl) (fun h5 =>
(.path [1] (by kernel_rfl)
(.leaf (by kernel_rfl)))) (fun h5 =>
((((.path [1,0,0,1] (by kernel_rfl)
(.node (by kernel_rfl) (by kernel_rfl) (fun h6 =>
((((((((.path [1,1,1,1,1,1,1,1] (by kernel_rfl)
(.leaf (by kernel_rfl))))))))))) (fun h6 =>
((.path [1,1] (by kernel_rfl)
(.node (by kernel_rfl) (by kernel_rfl) (fun h7 =>
((((((.path [1,1,1,1,1,1] (by kernel_rfl)
(.leaf (by kernel_rfl))))))))) (fun h7 =>
(((.path [1,0,1] (by kernel_rfl)
(.node (by kernel_rfl) (by kernel_rfl) (fun h8 =>
((((.path [1,1,1,1] (by kernel_rfl)
(.leaf (by kernel_rfl))))))) (fun h8 =>
((((.path [1,0,1,1] (by kernel_rfl)
(.node (by kernel_rfl) (by kernel_rfl) (fun h9 =>
(.path [1] (by kernel_rfl)
(.leaf (by kernel_rfl)))) (fun h9 =>
(.path [1] (by kernel_rfl)
(.leaf (by kernel_rfl)))))))))))))))))))))))))))) (fun h4 =>
.none)))))))) (fun h1 =>
.none))) (fun h0 =>
(.path [1] (by kernel_rfl)
(.leaf (by kernel_rfl))))))

noncomputable def fn_L3_5_t5 : List Dat → Tree Step
  | [.l (Ty.pair (Ty.int IntKind.i64) (Ty.pair (Ty.int IntKind.i64) (Ty.pair (Ty.int IntKind.i64) (Ty.pair (Ty.int IntKind.i64) (Ty.pair (Ty.int IntKind.u64) (Ty.int IntKind.u32)))))) l0, .n n1, .n n2, .n n3, .n n4, .n n5, .n n6, .n n7, .n n8, .n n9, .n n10] =>
    (.node (decide (n1 < (↑(List.length l0) : Int)))
     (.node (inR n1 (List.length l0))
      (let r1 : Option (Nat × List Dat) := (op_16f [.n (Prod.fst (List.getD l0 (Int.toNat n1) (Ty.dflt (Ty.pair (Ty.int IntKind.i64) (Ty.pair (Ty.int IntKind.i64) (Ty.pair (Ty.int IntKind.i64) (Ty.pair (Ty.int IntKind.i64) (Ty.pair (Ty.int IntKind.u64) (Ty.int IntKind.u32))))))))), .n (Prod.fst (Prod.snd (List.getD l0 (Int.toNat n1) (Ty.dflt (Ty.pair (Ty.int IntKind.i64) (Ty.pair (Ty.int IntKind.i64) (Ty.pair (Ty.int IntKind.i64) (Ty.pair (Ty.int IntKind.i64) (Ty.pair (Ty.int IntKind.u64) (Ty.int IntKind.u32)))))))))), .n (Prod.fst (Prod.snd (Prod.snd (List.getD l0 (Int.toNat n1) (Ty.dflt (Ty.pair (Ty.int IntKind.i64) (Ty.pair (Ty.int IntKind.i64) (Ty.pair (Ty.int IntKind.i64) (Ty.pair (Ty.int IntKind.i64) (Ty.pair (Ty.int IntKind.u64) (Ty.int IntKind.u32))))))))))), .n (Prod.fst (Prod.snd (Prod.snd (Prod.snd (List.getD l0 (Int.toNat n1) (Ty.dflt (Ty.pair (Ty.int IntKind.i64) (Ty.pair (Ty.int IntKind.i64) (Ty.pair (Ty.int IntKind.i64) (Ty.pair (Ty.int IntKind.i64) (Ty.pair (Ty.int IntKind.u64) (Ty.int IntKind.u32)))))))))))), .n (Prod.fst (Prod.snd (Prod.snd (Prod.snd (Prod.snd (List.getD l0 (Int.toNat n1) (Ty.dflt (Ty.pair (Ty.int IntKind.i64) (Ty.pair (Ty.int IntKind.i64) (Ty.pair (Ty.int IntKind.i64) (Ty.pair (Ty.int IntKind.i64) (Ty.pair (Ty.int IntKind.u64) (Ty.int IntKind.u32))))))))))))), .n (Prod.snd (Prod.snd (Prod.snd (Prod.snd (Prod.snd (List.getD l0 (Int.toNat n1) (Ty.dflt (Ty.pair (Ty.int IntKind.i64) (Ty.pair (Ty.int IntKind.i64) (Ty.pair (Ty.int IntKind.i64) (Ty.pair (Ty.int IntKind.i64) (Ty.pair (Ty.int IntKind.u64) (Ty.int IntKind.u32))))))))))))), .b false, .n n2, .l Ty.bool [false, true], .l (Ty.pair (Ty.int IntKind.i64) (Ty.pair (Ty.int IntKind.i64) (Ty.pair (Ty.int IntKind.u64) (Ty.int IntKind.u32)))) [((0 : Int), (0 : Int), (0 : Int), (0 : Int)), (n7, n8, n9, n10)], .b true, .n n3, .n n4, .n n5, .n n6, .n n2, .b false, .n n7, .n n8, .n n9, .n n10, .n n3, .n n4, .n n5, .n n6]);
       (.node (isK 0 [HK.b, HK.b, HK.n, HK.l Ty.bool, HK.l (Ty.pair (Ty.int IntKind.i64) (Ty.pair (Ty.int IntKind.i64) (Ty.pair (Ty.int IntKind.u64) (Ty.int IntKind.u32)))), HK.b, HK.n, HK.n, HK.n, HK.n, HK.n, HK.b] r1)
        (.node (!gb (dOf r1) 0)
         (.leaf (Step.stop 1 [.b false]))
         (.node (!false == gb (dOf r1) 5)
          (.leaf (Step.stop 1 [.b false]))
          (.node (!((0 : Int) == gn (dOf r1) 6 && ((0 : Int) == gn (dOf r1) 7 && ((0 : Int) == gn (dOf r1) 8 && ((0 : Int) == gn (dOf r1) 9 && true) && true))))
           (.leaf (Step.stop 1 [.b false]))
           (.node (!gb (dOf r1) 1 == gb (dOf r1) 11)
            (.leaf (Step.stop 1 [.b false]))
            (.node (gn (dOf r1) 2 != gn (dOf r1) 10)
             (.leaf (Step.stop 1 [.b false]))
             (.leaf (Step.go [.k 0, .l (Ty.pair (Ty.int IntKind.i64) (Ty.pair (Ty.int IntKind.i64) (Ty.pair (Ty.int IntKind.i64) (Ty.pair (Ty.int IntKind.i64) (Ty.pair (Ty.int IntKind.u64) (Ty.int IntKind.u32)))))) l0, .n (IntKind.wrap .i64 (n1 + (1 : Int))), .b (gb (dOf r1) 1), .n (gn (dOf r1) 2), .l Ty.bool (gl Ty.bool (dOf r1) 3), .l (Ty.pair (Ty.int IntKind.i64) (Ty.pair (Ty.int IntKind.i64) (Ty.pair (Ty.int IntKind.u64) (Ty.int IntKind.u32)))) (gl (Ty.pair (Ty.int IntKind.i64) (Ty.pair (Ty.int IntKind.i64) (Ty.pair (Ty.int IntKind.u64) (Ty.int IntKind.u32)))) (dOf r1) 4), .b (gb (dOf r1) 5), .n (gn (dOf r1) 6), .n (gn (dOf r1) 7), .n (gn (dOf r1) 8), .n (gn (dOf r1) 9), .n (gn (dOf r1) 10), .b (gb (dOf r1) 11)])))))))
        (.node (isK 1 [HK.b, HK.b, HK.n, HK.l Ty.bool, HK.l (Ty.pair (Ty.int IntKind.i64) (Ty.pair (Ty.int IntKind.i64) (Ty.pair (Ty.int IntKind.u64) (Ty.int IntKind.u32)))), HK.b, HK.n, HK.n, HK.n, HK.n, HK.n, HK.b, HK.n, HK.n, HK.n, HK.n, HK.n, HK.n, HK.n, HK.n] r1)
         (.node (!gb (dOf r1) 0)
          (.leaf (Step.stop 1 [.b false]))
          (.node (!true == gb (dOf r1) 5)
           (.leaf (Step.stop 1 [.b false]))
           (.node (!(n3 == gn (dOf r1) 6 && (n4 == gn (dOf r1) 7 && (n5 == gn (dOf r1) 8 && (n6 == gn (dOf r1) 9 && true) && true))))
            (.leaf (Step.stop 1 [.b false]))
            (.node (!gb (dOf r1) 1 == gb (dOf r1) 11)
             (.leaf (Step.stop 1 [.b false]))
             (.node (gn (dOf r1) 2 != gn (dOf r1) 10)
              (.leaf (Step.stop 1 [.b false]))
              (.leaf (Step.go [.k 5, .l (Ty.pair (Ty.int IntKind.i64) (Ty.pair (Ty.int IntKind.i64) (Ty.pair (Ty.int IntKind.i64) (Ty.pair (Ty.int IntKind.i64) (Ty.pair (Ty.int IntKind.u64) (Ty.int IntKind.u32)))))) l0, .n (IntKind.wrap .i64 (n1 + (1 : Int))), .b (gb (dOf r1) 1), .n (gn (dOf r1) 2), .l Ty.bool (gl Ty.bool (dOf r1) 3), .l (Ty.pair (Ty.int IntKind.i64) (Ty.pair (Ty.int IntKind.i64) (Ty.pair (Ty.int IntKind.u64) (Ty.int IntKind.u32)))) (gl (Ty.pair (Ty.int IntKind.i64) (Ty.pair (Ty.int IntKind.i64) (Ty.pair (Ty.int IntKind.u64) (Ty.int IntKind.u32)))) (dOf r1) 4), .b (gb (dOf r1) 5), .n (gn (dOf r1) 6), .n (gn (dOf r1) 7), .n (gn (dOf r1) 8), .n (gn (dOf r1) 9), .n (gn (dOf r1) 10), .b (gb (dOf r1) 11), .n n7, .n n8, .n n9, .n n10, .n n3, .n n4, .n n5, .n n6])))))))
         (.node (isK 2 [HK.b, HK.b, HK.n, HK.l Ty.bool, HK.l (Ty.pair (Ty.int IntKind.i64) (Ty.pair (Ty.int IntKind.i64) (Ty.pair (Ty.int IntKind.u64) (Ty.int IntKind.u32)))), HK.b, HK.n, HK.n, HK.n, HK.n, HK.n, HK.b, HK.n, HK.n, HK.n, HK.n] r1)
          (.node (!gb (dOf r1) 0)
           (.leaf (Step.stop 1 [.b false]))
           (.node (!true == gb (dOf r1) 5)
            (.leaf (Step.stop 1 [.b false]))
            (.node (!(gn (dOf r1) 12 == gn (dOf r1) 6 && (gn (dOf r1) 13 == gn (dOf r1) 7 && (gn (dOf r1) 14 == gn (dOf r1) 8 && (gn (dOf r1) 15 == gn (dOf r1) 9 && true) && true))))
             (.leaf (Step.stop 1 [.b false]))
             (.node (!gb (dOf r1) 1 == gb (dOf r1) 11)
              (.leaf (Step.stop 1 [.b false]))
              (.node (gn (dOf r1) 2 != gn (dOf r1) 10)
               (.leaf (Step.stop 1 [.b false]))
               (.leaf (Step.go [.k 3, .l (Ty.pair (Ty.int IntKind.i64) (Ty.pair (Ty.int IntKind.i64) (Ty.pair (Ty.int IntKind.i64) (Ty.pair (Ty.int IntKind.i64) (Ty.pair (Ty.int IntKind.u64) (Ty.int IntKind.u32)))))) l0, .n (IntKind.wrap .i64 (n1 + (1 : Int))), .b (gb (dOf r1) 1), .n (gn (dOf r1) 2), .l Ty.bool (gl Ty.bool (dOf r1) 3), .l (Ty.pair (Ty.int IntKind.i64) (Ty.pair (Ty.int IntKind.i64) (Ty.pair (Ty.int IntKind.u64) (Ty.int IntKind.u32)))) (gl (Ty.pair (Ty.int IntKind.i64) (Ty.pair (Ty.int IntKind.i64) (Ty.pair (Ty.int IntKind.u64) (Ty.int IntKind.u32)))) (dOf r1) 4), .b (gb (dOf r1) 5), .n (gn (dOf r1) 6), .n (gn (dOf r1) 7), .n (gn (dOf r1) 8), .n (gn (dOf r1) 9), .n (gn (dOf r1) 10), .b (gb (dOf r1) 11), .n (gn (dOf r1) 12), .n (gn (dOf r1) 13), .n (gn (dOf r1) 14), .n (gn (dOf r1) 15)])))))))
          (.bad 351)))))
      (.bad 10))
     (.leaf (Step.stop 0 [])))
  | _ => .bad 0
theorem fn_L3_5_t5_im (l0 : List (Ty.den (Ty.pair (Ty.int IntKind.i64) (Ty.pair (Ty.int IntKind.i64) (Ty.pair (Ty.int IntKind.i64) (Ty.pair (Ty.int IntKind.i64) (Ty.pair (Ty.int IntKind.u64) (Ty.int IntKind.u32)))))))) (n1 : Int) (n2 : Int) (n3 : Int) (n4 : Int) (n5 : Int) (n6 : Int) (n7 : Int) (n8 : Int) (n9 : Int) (n10 : Int) : Imp (fn_L3_5_t5 [.l (Ty.pair (Ty.int IntKind.i64) (Ty.pair (Ty.int IntKind.i64) (Ty.pair (Ty.int IntKind.i64) (Ty.pair (Ty.int IntKind.i64) (Ty.pair (Ty.int IntKind.u64) (Ty.int IntKind.u32)))))) l0, .n n1, .n n2, .n n3, .n n4, .n n5, .n n6, .n n7, .n n8, .n n9, .n n10]) (st_L3_5 ([.k 5, .l TCl l0, .n n1] ++ sd5 n2 n3 n4 n5 n6 n7 n8 n9 n10)) :=
(.path [1] (by kernel_rfl)
(.node (by kernel_rfl) (by kernel_rfl) (fun h0 =>
(.node (by kernel_rfl) (by kernel_rfl) (fun h1 =>
(.path [1] (by kernel_rfl)
(.node (by kernel_rfl) (by kernel_rfl) (fun h2 =>
(.path [1] (by kernel_rfl)
(.node (by kernel_rfl) (by kernel_rfl) (fun h3 =>
(.path [1] (by kernel_rfl)
(.leaf (by kernel_rfl)))) (fun h3 =>
((((.path [1,0,1,1] (by kernel_rfl)
(.node (by kernel_rfl) (by kernel_rfl) (fun h4 =>
((((((((.path [1,1,1,1,1,1,1,1] (by kernel_rfl)
(.leaf (by kernel_rfl))))))))))) (fun h4 =>
((.path [1,1] (by kernel_rfl)
(.node (by kernel_rfl) (by kernel_rfl) (fun h5 =>
((((((.path [1,1,1,1,1,1] (by kernel_rfl)
(.leaf (by kernel_rfl))))))))) (fun h5 =>
(((.path [1,0,1] (by kernel_rfl)
(.node (by kernel_rfl) (by kernel_rfl) (fun h6 =>
((((.path [1,1,1,1] (by kernel_rfl)
(.leaf (by kernel_rfl))))))) (fun h6 =>
((((.path [1,0,1,1] (by kernel_rfl)
(.node (by kernel_rfl) (by kernel_rfl) (fun h7 =>
(.path [1] (by kernel_rfl)
(.leaf (by kernel_rfl)))) (fun h7 =>
(.path [1] (by kernel_rfl)
(.leaf (by kernel_rfl)))))))))))))))))))))))))))) (fun h2 =>
(.node (by kernel_rfl) (by kernel_rfl) (fun h3 =>
(.path [1] (by kernel_rfl)
(.node (by kernel_rfl) (by kernel_rfl) (fun h4 =>
(.path [1] (by kernel_rfl)
(.leaf (by kernel_rfl)))) (fun h4 =>
((((.path [1,0,0,1] (by kernel_rfl)
(.node (by kernel_rfl) (by kernel_rfl) (fun h5 =>
((((((((.path [1,1,1,1,1,1,1,1] (by kernel_rfl)
(.leaf (by kernel_rfl))))))))))) (fun h5 =>
((.path [1,1] (by kernel_rfl)
(.node (by kernel_rfl) (by kernel_rfl) (fun h6 =>
((((((.path [1,1,1,1,1,1] (by kernel_rfl)
(.leaf (by kernel_rfl))))))))) (fun h6 =>
(((.path [1,0,1] (by kernel_rfl)
(.node (by kernel_rfl) (by kernel_rfl) (fun h7 =>
((((.path [1,1,1,1] (by kernel_rfl)
(.leaf (by kernel_rfl))))))) (fun h7 =>
((((.path [1,0,1,1] (by kernel_rfl)
(.node (by kernel_rfl) (by kernel_rfl) (fun h8 =>
(.path [1] (by kernel_rfl)
(.leaf (by kernel_rfl)))) (fun h8 =>
(.path [1] (by kernel_rfl)
(.leaf (by kernel_rfl)))))))))))))))))))))))))))) (fun h3 =>
(.node (by kernel_rfl) (by kernel_rfl) (fun h4 =>
(.path [1] (by kernel_rfl)
(.node (by kernel_rfl) (by kernel_rfl) (fun h5 =>
(.path [1] (by kernel_rfl)
(.leaf (by kernel_rfl)))) (fun h5 =>
((((.path [1,0,0,1] (by kernel_rfl)
(.node (by kernel_rfl) (by kernel_rfl) (fun h6 =>
((((((((.path [1,1,1,1,1,1,1,1] (by kernel_rfl)
(.leaf (by kernel_rfl))))))))))) (fun h6 =>
((.path [1,1] (by kernel_rfl)
(.node (by kernel_rfl) (by kernel_rfl) (fun h7 =>
((((((.path [1,1,1,1,1,1] (by kernel_rfl)
(.leaf (by kernel_rfl))))))))) (fun h7 =>
(((.path [1,0,1] (by kernel_rfl)
(.node (by kernel_rfl) (by kernel_rfl) (fun h8 =>
((((.path [1,1,1,1] (by kernel_rfl)
(.leaf (by kernel_rfl))))))) (fun h8 =>
((((.path [1,0,1,1] (by kernel_rfl)
(.node (by kernel_rfl) (by kernel_rfl) (fun h9 =>
(.path [1] (by kernel_rfl)
(.leaf (by kernel_rfl)))) (fun h9 =>
(.path [1] (by kernel_rfl)
(.leaf (by kernel_rfl)))))))))))))))))))))))))))) (fun h4 =>
.none)))))))) (fun h1 =>
.none))) (fun h0 =>
(.path [1] (by kernel_rfl)
(.leaf (by kernel_rfl))))))

theorem ls_3_ok : LsOk Try.prog (0) (lsM [(5, L3_5)] (0)) (bodyOf Try.prog 3) := LsOk.many fun j B hB hk c hc hi => by
  simp only [lookM] at hB
  split at hB
  · rename_i e; have := Nat.eq_of_beq_eq_true e; subst this; cases hB
    have e1 : loopAt Try.prog 3 5 = [cAt Try.prog 3 5] := loopAt_one (by kernel_rfl)
    have e2 : c ∈ loopAt Try.prog 3 5 := loopsAt_mem hc hi
    rw [e1] at e2; cases List.mem_singleton.1 e2; exact L3_5_run
  cases hB

noncomputable def ev_W3 (env : List Dat) : Tree Bool := Lk.lawB false LK cs_16f 3 (lsM [(5, L3_5)] (0)) (instL [.imm TCl 0] env)

theorem W3_law (env : List Dat) (h : (ev_W3 env).sel = some true) {w : World} {args : Array Value} (ha : LRel R0 (snapOf w) (instL [.imm TCl 0] env) args) :
    Calls Try.prog 3 args w fun e w' => e = .returned (.bool true) ∧ Below w.heap.size w w' :=
  lawB_ok cs_16f_ok hmix false (ls := (lsM [(5, L3_5)] (0))) (ls_3_ok) (by rw [← lawB_lk]; exact h) ha

noncomputable def fn_W3_t : List Dat → Tree Bool
  | [.l (Ty.pair (Ty.int IntKind.i64) (Ty.pair (Ty.int IntKind.i64) (Ty.pair (Ty.int IntKind.i64) (Ty.pair (Ty.int IntKind.i64) (Ty.pair (Ty.int IntKind.u64) (Ty.int IntKind.u32)))))) l0] =>
    (.node (decide ((↑(List.length l0) : Int) > (200 : Int)))
     (.leaf (true))
     (let r1 : Option (Nat × List Dat) := (op_L3_5 [.k 0, .l (Ty.pair (Ty.int IntKind.i64) (Ty.pair (Ty.int IntKind.i64) (Ty.pair (Ty.int IntKind.i64) (Ty.pair (Ty.int IntKind.i64) (Ty.pair (Ty.int IntKind.u64) (Ty.int IntKind.u32)))))) l0, .n (0 : Int), .b false, .n (0 : Int), .l Ty.bool (List.replicate 2 false), .l (Ty.pair (Ty.int IntKind.i64) (Ty.pair (Ty.int IntKind.i64) (Ty.pair (Ty.int IntKind.u64) (Ty.int IntKind.u32)))) (List.replicate 2 (Ty.dflt (Ty.pair (Ty.int IntKind.i64) (Ty.pair (Ty.int IntKind.i64) (Ty.pair (Ty.int IntKind.u64) (Ty.int IntKind.u32)))))), .b false, .n (0 : Int), .n (0 : Int), .n (0 : Int), .n (0 : Int), .n (0 : Int), .b false]);
      (.node (isK 0 [] r1)
       (.leaf (true))
       (.node (isK 1 [HK.b] r1)
        (.leaf (gb (dOf r1) 0))
        (.bad 351)))))
  | _ => .bad 0
theorem fn_W3_t_im (l0 : List (Ty.den (Ty.pair (Ty.int IntKind.i64) (Ty.pair (Ty.int IntKind.i64) (Ty.pair (Ty.int IntKind.i64) (Ty.pair (Ty.int IntKind.i64) (Ty.pair (Ty.int IntKind.u64) (Ty.int IntKind.u32)))))))) : Imp (fn_W3_t [.l (Ty.pair (Ty.int IntKind.i64) (Ty.pair (Ty.int IntKind.i64) (Ty.pair (Ty.int IntKind.i64) (Ty.pair (Ty.int IntKind.i64) (Ty.pair (Ty.int IntKind.u64) (Ty.int IntKind.u32)))))) l0]) (ev_W3 [.l TCl l0]) :=
(.node (by kernel_rfl) (by kernel_rfl) (fun h0 =>
(((.path [1,1,1] (by kernel_rfl)
(.leaf (by kernel_rfl)))))) (fun h0 =>
((.path [1,1] (by kernel_rfl)
(.node (by kernel_rfl) (by kernel_rfl) (fun h1 =>
(((.path [1,1,1] (by kernel_rfl)
(.leaf (by kernel_rfl)))))) (fun h1 =>
(.node (by kernel_rfl) (by kernel_rfl) (fun h2 =>
(.leaf (by kernel_rfl))) (fun h2 =>
.none))))))))
end Go.Proofs.Ytchedebomjmehaa.Vx.Pl
