/- SwitchoverKnown: no input; the law's function returns true. -/
import Derived.Test.YtgepnailecclkaaVxIm
import Derived.Test.YtgepnailecclkaaVxLk
import Derived.Test.YtgepnailecclkaaVxLaw
import Derived.Test.YtgepnailecclkaaX26h
import Derived.KernelRfl
import Derived.Test.YtgepnailecclkaaVxAid
import Derived.Test.YtgepnailecclkaaY26m
import Derived.Carry
import Derived.ChangeOld
import Derived.ShutString
import Derived.Below
import Derived.Lib.SmallJoins
import Derived.Test.YtgepnailecclkaaRows
namespace Go.Proofs.Ytgepnailecclkaa.Vx
open Go Go.RowKit
set_option linter.unusedVariables false
set_option linter.unusedSimpArgs false
set_option maxRecDepth 100000
set_option maxHeartbeats 0

abbrev TIq : Ty := .int .i64
abbrev TCl : Ty := .pair (.int .u8) (.pair TIq (.pair TIq TIq))
def lit : List (Ty.den TCl) := [((0 : Int), (0 : Int), (0 : Int), (0 : Int)), ((0 : Int), (1 : Int), (0 : Int), (0 : Int)), ((0 : Int), (2 : Int), (0 : Int), (0 : Int)), ((0 : Int), (3 : Int), (0 : Int), (0 : Int)), ((0 : Int), (4 : Int), (0 : Int), (0 : Int)), ((0 : Int), (5 : Int), (0 : Int), (0 : Int)), ((2 : Int), (0 : Int), (0 : Int), (9 : Int)), ((2 : Int), (0 : Int), (1099511627777 : Int), (9 : Int)), ((2 : Int), (0 : Int), (1 : Int), (-1 : Int)), ((3 : Int), (0 : Int), (0 : Int), (0 : Int)), ((2 : Int), (0 : Int), (2 : Int), (20 : Int)), ((0 : Int), (14 : Int), (0 : Int), (0 : Int)), ((0 : Int), (15 : Int), (0 : Int), (0 : Int)), ((0 : Int), (16 : Int), (0 : Int), (0 : Int)), ((0 : Int), (18 : Int), (0 : Int), (0 : Int)), ((2 : Int), (0 : Int), (2 : Int), (24 : Int)), ((2 : Int), (0 : Int), (1 : Int), (40 : Int)), ((4 : Int), (2 : Int), (0 : Int), (0 : Int)), ((4 : Int), (3 : Int), (0 : Int), (0 : Int)), ((2 : Int), (0 : Int), (2 : Int), (50 : Int)), ((4 : Int), (9 : Int), (0 : Int), (0 : Int)), ((2 : Int), (0 : Int), (8 : Int), (50 : Int)), ((2 : Int), (0 : Int), (9 : Int), (50 : Int)), ((4 : Int), (1 : Int), (0 : Int), (0 : Int)), ((4 : Int), (1099511627777 : Int), (0 : Int), (0 : Int)), ((3 : Int), (0 : Int), (0 : Int), (0 : Int)), ((2 : Int), (0 : Int), (1099511627776 : Int), (1099511627776 : Int)), ((0 : Int), (-1 : Int), (0 : Int), (0 : Int)), ((4 : Int), (1099511627776 : Int), (0 : Int), (0 : Int)), ((0 : Int), (4611686018427387904 : Int), (0 : Int), (0 : Int))]
def swK (h : Nat) : PB := .cells [.int .i64 h, .int .i64 (h+1), .int .i64 (h+2), .int .u8 (h+3), .int .i64 (h+4), .int .i64 (h+5)]
def mdK (h : Nat) : PB := .cells [.bool h, .int .i64 (h+1), .int .i64 (h+2), .int .i64 (h+3), .int .i64 (h+4)]
/-- The state of a switch and of its model at a call of the row. -/
abbrev sK (i P E U R K Q : Int) (b : Bool) : List Dat := [.k 0, .l TCl lit, .n i, .n P, .n E, .n U, .n R, .n K, .n Q, .b b, .n E, .n U, .n K, .n Q]
noncomputable def st_L17_10 (env : List Dat) : Tree Step := Lk.stepMC false LK cs_5 17 10 ls0 (mkM 0 [] [(sh 117 [(1, .imm TCl 0), (5, .ptr 0 0), (7, .ptr 1 0), (8, .int .i64 1)], [swK 2, mdK 8])] [] [(.exit 0, sh 117 [], []), (.ret, sh 117 [(4, .bool 0)], [])] fun _ => none) env
theorem op_L17_10_ex : ∃ f : List Dat → Option (Nat × List Dat), ∀ env, f env = iterS st_L17_10 FU env := ⟨iterS st_L17_10 FU, fun _ => rfl⟩
noncomputable def op_L17_10 : List Dat → Option (Nat × List Dat) := Classical.choose op_L17_10_ex
theorem op_L17_10_eq (env : List Dat) : op_L17_10 env = iterS st_L17_10 FU env := Classical.choose_spec op_L17_10_ex env
noncomputable def L17_10 : MBox := mkM 0 [] [(sh 117 [(1, .imm TCl 0), (5, .ptr 0 0), (7, .ptr 1 0), (8, .int .i64 1)], [swK 2, mdK 8])] [] [(.exit 0, sh 117 [], []), (.ret, sh 117 [(4, .bool 0)], [])] op_L17_10
theorem L17_10_eqs : L17_10 = mkM 0 [] [(sh 117 [(1, .imm TCl 0), (5, .ptr 0 0), (7, .ptr 1 0), (8, .int .i64 1)], [swK 2, mdK 8])] [] [(.exit 0, sh 117 [], []), (.ret, sh 117 [(4, .bool 0)], [])] (iterS st_L17_10 FU) := congrArg (fun f => mkM 0 [] [(sh 117 [(1, .imm TCl 0), (5, .ptr 0 0), (7, .ptr 1 0), (8, .int .i64 1)], [swK 2, mdK 8])] [] [(.exit 0, sh 117 [], []), (.ret, sh 117 [(4, .bool 0)], [])] f) (funext op_L17_10_eq)
theorem L17_10_run : ∀ t s x, (manyRun L17_10 t s).sel = some x → CodeOk Try.prog 0 (.loop (cAt Try.prog 17 10)) t s x := by
  rw [L17_10_eqs]
  exact mkM_ok (st := st_L17_10) (m := FU) cs_5_ok hmix false (LsOk.none _ _ _) (by kernel_rfl) (fun env y h => by rw [← stepMC_lk]; exact h)
theorem op_L17_10_good {p : Nat × List Dat → Prop} (Inv : List Dat → Prop) (μ : List Dat → Nat) (h : ∀ env, Inv env → Good (fun y => match y with | .go e => Inv e ∧ μ e < μ env | .stop k d => p (k, d)) (st_L17_10 env).sel) (env : List Dat) (hi : Inv env) (hm : μ env < FU) : Good p (op_L17_10 env) := by
  rw [op_L17_10_eq]
  exact iterS_good Inv μ p h FU env hi hm

noncomputable def fn_L17_10_t0 : List Dat → Tree Step
  | [.n n0] =>
    (.leaf (Step.go [.k 0, .l (Ty.pair (Ty.int IntKind.u8) (Ty.pair (Ty.int IntKind.i64) (Ty.pair (Ty.int IntKind.i64) (Ty.int IntKind.i64)))) lit, .n (1 : Int), .n n0, .n (0 : Int), .n (0 : Int), .n (0 : Int), .n (0 : Int), .n (1 : Int), .b false, .n (0 : Int), .n (0 : Int), .n (0 : Int), .n (1 : Int)]))
  | _ => .bad 0
theorem fn_L17_10_t0_im (n0 : Int) : Imp (fn_L17_10_t0 [.n n0]) (st_L17_10 (sK 0 n0 (0 : Int) (0 : Int) 0 (0 : Int) 0 false)) :=
(.path (1 ::1 ::1 ::1 ::1 ::1 ::1 ::0 ::0 ::0 ::0 ::1 ::1 ::1 ::1 ::1 ::1 ::1 ::0 ::0 ::1 ::0 ::0 ::1 ::1 ::0 ::1 ::0 ::1 ::0 ::1 ::1 ::1 ::0 ::1 ::1 ::1 ::0 ::1 ::1 ::1 ::1 ::0 ::0 ::1 ::1 ::0 ::0 ::1 ::1 ::1 ::1 ::0 ::1 ::0 ::1 ::0 ::1 ::1 ::1 ::0 ::1 ::1 ::1 ::0 ::1 ::1 ::1 ::1 ::0 ::0 ::1 ::1 ::0 ::0 ::1 ::1 ::1 ::1 ::0 ::1 :: []) (by kernel_rfl)
.lf)

noncomputable def fn_L17_10_t1 : List Dat → Tree Step
  | [.n n0] =>
    (.leaf (Step.go [.k 0, .l (Ty.pair (Ty.int IntKind.u8) (Ty.pair (Ty.int IntKind.i64) (Ty.pair (Ty.int IntKind.i64) (Ty.int IntKind.i64)))) lit, .n (2 : Int), .n n0, .n (0 : Int), .n (0 : Int), .n (0 : Int), .n (0 : Int), .n (2 : Int), .b false, .n (0 : Int), .n (0 : Int), .n (0 : Int), .n (2 : Int)]))
  | _ => .bad 0
theorem fn_L17_10_t1_im (n0 : Int) : Imp (fn_L17_10_t1 [.n n0]) (st_L17_10 (sK 1 n0 (0 : Int) (0 : Int) 0 (0 : Int) 1 false)) :=
(.path (1 ::1 ::1 ::1 ::1 ::1 ::1 ::0 ::0 ::0 ::0 ::1 ::1 ::1 ::1 ::1 ::1 ::1 ::0 ::0 ::1 ::0 ::0 ::1 ::1 ::0 ::1 ::0 ::1 ::0 ::1 ::1 ::1 ::0 ::1 ::1 ::1 ::0 ::1 ::1 ::1 ::1 ::0 ::0 ::1 ::1 ::0 ::0 ::1 ::1 ::1 ::1 ::0 ::1 ::0 ::1 ::0 ::1 ::1 ::1 ::0 ::1 ::1 ::1 ::0 ::1 ::1 ::1 ::1 ::0 ::0 ::1 ::1 ::0 ::0 ::1 ::1 ::1 ::1 ::0 ::1 :: []) (by kernel_rfl)
.lf)

noncomputable def fn_L17_10_t2 : List Dat → Tree Step
  | [.n n0] =>
    (.leaf (Step.go [.k 0, .l (Ty.pair (Ty.int IntKind.u8) (Ty.pair (Ty.int IntKind.i64) (Ty.pair (Ty.int IntKind.i64) (Ty.int IntKind.i64)))) lit, .n (3 : Int), .n n0, .n (0 : Int), .n (0 : Int), .n (0 : Int), .n (0 : Int), .n (3 : Int), .b false, .n (0 : Int), .n (0 : Int), .n (0 : Int), .n (3 : Int)]))
  | _ => .bad 0
theorem fn_L17_10_t2_im (n0 : Int) : Imp (fn_L17_10_t2 [.n n0]) (st_L17_10 (sK 2 n0 (0 : Int) (0 : Int) 0 (0 : Int) 2 false)) :=
(.path (1 ::1 ::1 ::1 ::1 ::1 ::1 ::0 ::0 ::0 ::0 ::1 ::1 ::1 ::1 ::1 ::1 ::1 ::0 ::0 ::1 ::0 ::0 ::1 ::1 ::0 ::1 ::0 ::1 ::0 ::1 ::1 ::1 ::0 ::1 ::1 ::1 ::0 ::1 ::1 ::1 ::1 ::0 ::0 ::1 ::1 ::0 ::0 ::1 ::1 ::1 ::1 ::0 ::1 ::0 ::1 ::0 ::1 ::1 ::1 ::0 ::1 ::1 ::1 ::0 ::1 ::1 ::1 ::1 ::0 ::0 ::1 ::1 ::0 ::0 ::1 ::1 ::1 ::1 ::0 ::1 :: []) (by kernel_rfl)
.lf)

noncomputable def fn_L17_10_t3 : List Dat → Tree Step
  | [.n n0] =>
    (.leaf (Step.go [.k 0, .l (Ty.pair (Ty.int IntKind.u8) (Ty.pair (Ty.int IntKind.i64) (Ty.pair (Ty.int IntKind.i64) (Ty.int IntKind.i64)))) lit, .n (4 : Int), .n n0, .n (0 : Int), .n (0 : Int), .n (0 : Int), .n (0 : Int), .n (4 : Int), .b false, .n (0 : Int), .n (0 : Int), .n (0 : Int), .n (4 : Int)]))
  | _ => .bad 0
theorem fn_L17_10_t3_im (n0 : Int) : Imp (fn_L17_10_t3 [.n n0]) (st_L17_10 (sK 3 n0 (0 : Int) (0 : Int) 0 (0 : Int) 3 false)) :=
(.path (1 ::1 ::1 ::1 ::1 ::1 ::1 ::0 ::0 ::0 ::0 ::1 ::1 ::1 ::1 ::1 ::1 ::1 ::0 ::0 ::1 ::0 ::0 ::1 ::1 ::0 ::1 ::0 ::1 ::0 ::1 ::1 ::1 ::0 ::1 ::1 ::1 ::0 ::1 ::1 ::1 ::1 ::0 ::0 ::1 ::1 ::0 ::0 ::1 ::1 ::1 ::1 ::0 ::1 ::0 ::1 ::0 ::1 ::1 ::1 ::0 ::1 ::1 ::1 ::0 ::1 ::1 ::1 ::1 ::0 ::0 ::1 ::1 ::0 ::0 ::1 ::1 ::1 ::1 ::0 ::1 :: []) (by kernel_rfl)
.lf)

noncomputable def fn_L17_10_t4 : List Dat → Tree Step
  | [.n n0] =>
    (.leaf (Step.go [.k 0, .l (Ty.pair (Ty.int IntKind.u8) (Ty.pair (Ty.int IntKind.i64) (Ty.pair (Ty.int IntKind.i64) (Ty.int IntKind.i64)))) lit, .n (5 : Int), .n n0, .n (0 : Int), .n (0 : Int), .n (0 : Int), .n (0 : Int), .n (0 : Int), .b false, .n (0 : Int), .n (0 : Int), .n (0 : Int), .n (0 : Int)]))
  | _ => .bad 0
theorem fn_L17_10_t4_im (n0 : Int) : Imp (fn_L17_10_t4 [.n n0]) (st_L17_10 (sK 4 n0 (0 : Int) (0 : Int) 0 (0 : Int) 4 false)) :=
(.path (1 ::1 ::1 ::1 ::1 ::1 ::1 ::0 ::0 ::0 ::0 ::1 ::1 ::0 ::1 ::1 ::1 ::1 ::0 ::0 ::1 ::0 ::1 ::1 ::1 ::0 ::1 ::0 ::1 ::0 ::1 ::1 ::1 ::0 ::1 ::1 ::1 ::0 ::1 ::1 ::1 ::1 ::0 ::0 ::1 ::1 ::0 ::0 ::1 ::1 ::1 ::1 ::0 ::1 ::0 ::1 ::0 ::1 ::1 ::1 ::0 ::1 ::1 ::1 ::0 ::1 ::1 ::1 ::1 ::0 ::0 ::1 ::1 ::0 ::0 ::1 ::1 ::1 ::1 ::0 ::1 :: []) (by kernel_rfl)
.lf)

noncomputable def fn_L17_10_t5 : List Dat → Tree Step
  | [.n n0] =>
    (.leaf (Step.go [.k 0, .l (Ty.pair (Ty.int IntKind.u8) (Ty.pair (Ty.int IntKind.i64) (Ty.pair (Ty.int IntKind.i64) (Ty.int IntKind.i64)))) lit, .n (6 : Int), .n n0, .n (0 : Int), .n (0 : Int), .n (0 : Int), .n (0 : Int), .n (1 : Int), .b false, .n (0 : Int), .n (0 : Int), .n (0 : Int), .n (1 : Int)]))
  | _ => .bad 0
theorem fn_L17_10_t5_im (n0 : Int) : Imp (fn_L17_10_t5 [.n n0]) (st_L17_10 (sK 5 n0 (0 : Int) (0 : Int) 0 (0 : Int) 0 false)) :=
(.path (1 ::1 ::1 ::1 ::1 ::1 ::1 ::0 ::0 ::0 ::0 ::1 ::1 ::1 ::1 ::1 ::1 ::1 ::0 ::0 ::1 ::0 ::0 ::1 ::1 ::0 ::1 ::0 ::1 ::0 ::1 ::1 ::1 ::0 ::1 ::1 ::1 ::0 ::1 ::1 ::1 ::1 ::0 ::0 ::1 ::1 ::0 ::0 ::1 ::1 ::1 ::1 ::0 ::1 ::0 ::1 ::0 ::1 ::1 ::1 ::0 ::1 ::1 ::1 ::0 ::1 ::1 ::1 ::1 ::0 ::0 ::1 ::1 ::0 ::0 ::1 ::1 ::1 ::1 ::0 ::1 :: []) (by kernel_rfl)
.lf)

noncomputable def fn_L17_10_t6 : List Dat → Tree Step
  | [.n n0] =>
    (.leaf (Step.go [.k 0, .l (Ty.pair (Ty.int IntKind.u8) (Ty.pair (Ty.int IntKind.i64) (Ty.pair (Ty.int IntKind.i64) (Ty.int IntKind.i64)))) lit, .n (7 : Int), .n n0, .n (0 : Int), .n (0 : Int), .n (0 : Int), .n (0 : Int), .n (1 : Int), .b false, .n (0 : Int), .n (0 : Int), .n (0 : Int), .n (1 : Int)]))
  | _ => .bad 0
theorem fn_L17_10_t6_im (n0 : Int) : Imp (fn_L17_10_t6 [.n n0]) (st_L17_10 (sK 6 n0 (0 : Int) (0 : Int) 0 (0 : Int) 1 false)) :=
(.path (1 ::1 ::1 ::1 ::0 ::0 ::1 ::1 ::0 ::1 ::1 ::1 ::1 ::1 ::1 ::1 ::1 ::1 ::1 ::0 ::1 ::0 ::1 ::0 ::1 ::1 ::1 ::0 ::1 ::1 ::1 ::0 ::1 ::1 ::1 ::1 ::0 ::0 ::1 ::1 ::0 ::0 ::1 ::1 ::1 ::1 ::0 ::1 ::0 ::1 ::0 ::1 ::1 ::1 ::0 ::1 ::1 ::1 ::0 ::1 ::1 ::1 ::1 ::0 ::0 ::1 ::1 ::0 ::0 ::1 ::1 ::1 ::1 ::0 ::1 :: []) (by kernel_rfl)
.lf)

noncomputable def fn_L17_10_t7 : List Dat → Tree Step
  | [.n n0] =>
    (.leaf (Step.go [.k 0, .l (Ty.pair (Ty.int IntKind.u8) (Ty.pair (Ty.int IntKind.i64) (Ty.pair (Ty.int IntKind.i64) (Ty.int IntKind.i64)))) lit, .n (8 : Int), .n n0, .n (0 : Int), .n (0 : Int), .n (0 : Int), .n (0 : Int), .n (1 : Int), .b false, .n (0 : Int), .n (0 : Int), .n (0 : Int), .n (1 : Int)]))
  | _ => .bad 0
theorem fn_L17_10_t7_im (n0 : Int) : Imp (fn_L17_10_t7 [.n n0]) (st_L17_10 (sK 7 n0 (0 : Int) (0 : Int) 0 (0 : Int) 1 false)) :=
(.path (1 ::1 ::1 ::1 ::0 ::0 ::1 ::1 ::0 ::0 ::1 ::1 ::1 ::0 ::1 ::1 ::1 ::0 ::1 ::0 ::1 ::0 ::1 ::1 ::1 ::0 ::1 ::1 ::1 ::0 ::1 ::1 ::1 ::1 ::0 ::0 ::1 ::1 ::0 ::0 ::1 ::1 ::1 ::1 ::0 ::1 ::0 ::1 ::0 ::1 ::1 ::1 ::0 ::1 ::1 ::1 ::0 ::1 ::1 ::1 ::1 ::0 ::0 ::1 ::1 ::0 ::0 ::1 ::1 ::1 ::1 ::0 ::1 :: []) (by kernel_rfl)
.lf)

noncomputable def fn_L17_10_t8 : List Dat → Tree Step
  | [.n n0] =>
    (.leaf (Step.go [.k 0, .l (Ty.pair (Ty.int IntKind.u8) (Ty.pair (Ty.int IntKind.i64) (Ty.pair (Ty.int IntKind.i64) (Ty.int IntKind.i64)))) lit, .n (9 : Int), .n n0, .n (0 : Int), .n (0 : Int), .n (0 : Int), .n (0 : Int), .n (1 : Int), .b false, .n (0 : Int), .n (0 : Int), .n (0 : Int), .n (1 : Int)]))
  | _ => .bad 0
theorem fn_L17_10_t8_im (n0 : Int) : Imp (fn_L17_10_t8 [.n n0]) (st_L17_10 (sK 8 n0 (0 : Int) (0 : Int) 0 (0 : Int) 1 false)) :=
(.path (1 ::1 ::1 ::1 ::0 ::0 ::1 ::1 ::0 ::0 ::0 ::1 ::1 ::1 ::1 ::0 ::0 ::1 ::1 ::1 ::1 ::1 ::1 ::1 ::1 ::1 ::1 ::1 ::1 ::0 ::0 ::1 ::1 ::1 ::1 ::0 ::1 ::0 ::0 ::1 ::1 ::1 ::1 ::1 ::1 ::1 ::0 ::1 ::0 ::1 ::0 ::1 ::1 ::1 ::0 ::1 ::1 ::1 ::0 ::1 ::1 ::1 ::1 ::0 ::0 ::1 ::1 ::0 ::0 ::1 ::1 ::1 ::1 ::0 ::1 ::0 ::1 ::0 ::1 ::1 ::1 ::0 ::1 ::1 ::1 ::0 ::1 ::1 ::1 ::1 ::0 ::0 ::1 ::1 ::0 ::0 ::1 ::1 ::1 ::1 ::0 ::1 :: []) (by kernel_rfl)
.lf)

noncomputable def fn_L17_10_t9 : List Dat → Tree Step
  | [.n n0] =>
    (.leaf (Step.go [.k 0, .l (Ty.pair (Ty.int IntKind.u8) (Ty.pair (Ty.int IntKind.i64) (Ty.pair (Ty.int IntKind.i64) (Ty.int IntKind.i64)))) lit, .n (10 : Int), .n n0, .n (0 : Int), .n (0 : Int), .n (0 : Int), .n (0 : Int), .n (1 : Int), .b false, .n (0 : Int), .n (0 : Int), .n (0 : Int), .n (1 : Int)]))
  | _ => .bad 0
theorem fn_L17_10_t9_im (n0 : Int) : Imp (fn_L17_10_t9 [.n n0]) (st_L17_10 (sK 9 n0 (0 : Int) (0 : Int) 0 (0 : Int) 1 false)) :=
(.path (1 ::1 ::1 ::1 ::0 ::0 ::0 ::1 ::1 ::0 ::1 ::1 ::1 ::0 ::1 ::0 ::1 ::0 ::1 ::0 ::1 ::1 ::1 ::0 ::1 ::1 ::1 ::0 ::1 ::1 ::1 ::1 ::0 ::0 ::1 ::1 ::0 ::0 ::1 ::1 ::1 ::1 ::0 ::1 ::0 ::1 ::0 ::1 ::1 ::1 ::0 ::1 ::1 ::1 ::0 ::1 ::1 ::1 ::1 ::0 ::0 ::1 ::1 ::0 ::0 ::1 ::1 ::1 ::1 ::0 ::1 :: []) (by kernel_rfl)
.lf)

noncomputable def fn_L17_10_t10 : List Dat → Tree Step
  | [.n n0] =>
    (.leaf (Step.go [.k 0, .l (Ty.pair (Ty.int IntKind.u8) (Ty.pair (Ty.int IntKind.i64) (Ty.pair (Ty.int IntKind.i64) (Ty.int IntKind.i64)))) lit, .n (11 : Int), .n n0, .n (2 : Int), .n (20 : Int), .n (1 : Int), .n (2 : Int), .n (0 : Int), .b true, .n (2 : Int), .n (20 : Int), .n (2 : Int), .n (0 : Int)]))
  | _ => .bad 0
theorem fn_L17_10_t10_im (n0 : Int) : Imp (fn_L17_10_t10 [.n n0]) (st_L17_10 (sK 10 n0 (0 : Int) (0 : Int) 0 (0 : Int) 1 false)) :=
(.path (1 ::1 ::1 ::1 ::0 ::0 ::1 ::1 ::0 ::0 ::0 ::1 ::1 ::1 ::1 ::0 ::0 ::1 ::1 ::0 ::0 ::0 ::1 ::0 ::0 ::0 ::1 ::1 ::0 ::0 ::0 ::1 ::0 ::1 ::0 ::1 ::1 ::1 ::0 ::0 ::1 ::1 ::1 ::1 ::0 ::1 ::1 ::1 ::0 ::0 ::0 ::1 ::1 ::0 ::0 ::0 ::0 ::0 ::1 ::1 ::0 ::1 ::1 ::1 ::0 ::1 ::1 ::1 ::0 ::1 ::1 ::1 ::0 ::1 ::1 ::1 ::1 ::1 ::1 ::1 ::1 ::1 ::1 ::1 ::1 ::0 ::0 ::1 ::1 ::1 ::1 ::1 ::1 ::1 ::1 ::0 ::1 ::1 ::1 ::0 ::1 ::1 ::1 ::0 ::1 ::1 ::1 ::0 ::1 ::1 ::1 ::1 ::1 ::1 ::1 ::1 ::1 ::1 ::1 ::1 ::0 ::0 ::1 ::1 ::1 ::1 ::1 ::1 ::1 ::1 ::0 ::1 :: []) (by kernel_rfl)
.lf)

noncomputable def fn_L17_10_t11 : List Dat → Tree Step
  | [.n n0] =>
    (.leaf (Step.go [.k 0, .l (Ty.pair (Ty.int IntKind.u8) (Ty.pair (Ty.int IntKind.i64) (Ty.pair (Ty.int IntKind.i64) (Ty.int IntKind.i64)))) lit, .n (12 : Int), .n n0, .n (2 : Int), .n (20 : Int), .n (1 : Int), .n (2 : Int), .n (0 : Int), .b true, .n (2 : Int), .n (20 : Int), .n (2 : Int), .n (0 : Int)]))
  | _ => .bad 0
theorem fn_L17_10_t11_im (n0 : Int) : Imp (fn_L17_10_t11 [.n n0]) (st_L17_10 (sK 11 n0 (2 : Int) (20 : Int) 1 (2 : Int) 0 true)) :=
(.path (1 ::1 ::1 ::1 ::1 ::1 ::1 ::0 ::0 ::0 ::0 ::0 ::1 ::1 ::1 ::1 ::1 ::0 ::0 ::1 ::1 ::1 ::1 ::0 ::0 ::1 ::1 ::1 ::1 ::1 ::1 ::0 ::0 ::1 ::1 ::0 ::1 ::1 ::1 ::0 ::1 ::1 ::1 ::0 ::1 ::1 ::1 ::0 ::1 ::1 ::1 ::1 ::1 ::1 ::1 ::1 ::1 ::1 ::1 ::1 ::0 ::0 ::1 ::1 ::1 ::1 ::1 ::1 ::1 ::1 ::0 ::1 ::1 ::1 ::0 ::1 ::1 ::1 ::0 ::1 ::1 ::1 ::0 ::1 ::1 ::1 ::1 ::1 ::1 ::1 ::1 ::1 ::1 ::1 ::1 ::0 ::0 ::1 ::1 ::1 ::1 ::1 ::1 ::1 ::1 ::0 ::1 :: []) (by kernel_rfl)
.lf)

noncomputable def fn_L17_10_t12 : List Dat → Tree Step
  | [.n n0] =>
    (.leaf (Step.go [.k 0, .l (Ty.pair (Ty.int IntKind.u8) (Ty.pair (Ty.int IntKind.i64) (Ty.pair (Ty.int IntKind.i64) (Ty.int IntKind.i64)))) lit, .n (13 : Int), .n n0, .n (2 : Int), .n (20 : Int), .n (1 : Int), .n (2 : Int), .n (0 : Int), .b true, .n (2 : Int), .n (20 : Int), .n (2 : Int), .n (0 : Int)]))
  | _ => .bad 0
theorem fn_L17_10_t12_im (n0 : Int) : Imp (fn_L17_10_t12 [.n n0]) (st_L17_10 (sK 12 n0 (2 : Int) (20 : Int) 1 (2 : Int) 0 true)) :=
(.path (1 ::1 ::1 ::1 ::1 ::1 ::1 ::0 ::0 ::0 ::0 ::0 ::1 ::1 ::1 ::1 ::1 ::0 ::0 ::1 ::1 ::1 ::1 ::0 ::0 ::1 ::1 ::1 ::1 ::1 ::1 ::0 ::0 ::1 ::1 ::0 ::1 ::1 ::1 ::0 ::1 ::1 ::1 ::0 ::1 ::1 ::1 ::0 ::1 ::1 ::1 ::1 ::1 ::1 ::1 ::1 ::1 ::1 ::1 ::1 ::0 ::0 ::1 ::1 ::1 ::1 ::1 ::1 ::1 ::1 ::0 ::1 ::1 ::1 ::0 ::1 ::1 ::1 ::0 ::1 ::1 ::1 ::0 ::1 ::1 ::1 ::1 ::1 ::1 ::1 ::1 ::1 ::1 ::1 ::1 ::0 ::0 ::1 ::1 ::1 ::1 ::1 ::1 ::1 ::1 ::0 ::1 :: []) (by kernel_rfl)
.lf)

noncomputable def fn_L17_10_t13 : List Dat → Tree Step
  | [.n n0] =>
    (.leaf (Step.go [.k 0, .l (Ty.pair (Ty.int IntKind.u8) (Ty.pair (Ty.int IntKind.i64) (Ty.pair (Ty.int IntKind.i64) (Ty.int IntKind.i64)))) lit, .n (14 : Int), .n n0, .n (2 : Int), .n (20 : Int), .n (1 : Int), .n (2 : Int), .n (0 : Int), .b true, .n (2 : Int), .n (20 : Int), .n (2 : Int), .n (0 : Int)]))
  | _ => .bad 0
theorem fn_L17_10_t13_im (n0 : Int) : Imp (fn_L17_10_t13 [.n n0]) (st_L17_10 (sK 13 n0 (2 : Int) (20 : Int) 1 (2 : Int) 0 true)) :=
(.path (1 ::1 ::1 ::1 ::1 ::1 ::1 ::0 ::0 ::0 ::0 ::0 ::1 ::1 ::1 ::1 ::1 ::0 ::1 ::1 ::1 ::1 ::1 ::0 ::0 ::1 ::1 ::1 ::1 ::1 ::1 ::0 ::1 ::1 ::1 ::0 ::1 ::1 ::1 ::0 ::1 ::1 ::1 ::0 ::1 ::1 ::1 ::0 ::1 ::1 ::1 ::1 ::1 ::1 ::1 ::1 ::1 ::1 ::1 ::1 ::0 ::0 ::1 ::1 ::1 ::1 ::1 ::1 ::1 ::1 ::0 ::1 ::1 ::1 ::0 ::1 ::1 ::1 ::0 ::1 ::1 ::1 ::0 ::1 ::1 ::1 ::1 ::1 ::1 ::1 ::1 ::1 ::1 ::1 ::1 ::0 ::0 ::1 ::1 ::1 ::1 ::1 ::1 ::1 ::1 ::0 ::1 :: []) (by kernel_rfl)
.lf)

noncomputable def fn_L17_10_t14 : List Dat → Tree Step
  | [.n n0] =>
    (.leaf (Step.go [.k 0, .l (Ty.pair (Ty.int IntKind.u8) (Ty.pair (Ty.int IntKind.i64) (Ty.pair (Ty.int IntKind.i64) (Ty.int IntKind.i64)))) lit, .n (15 : Int), .n n0, .n (2 : Int), .n (20 : Int), .n (1 : Int), .n (2 : Int), .n (0 : Int), .b true, .n (2 : Int), .n (20 : Int), .n (2 : Int), .n (0 : Int)]))
  | _ => .bad 0
theorem fn_L17_10_t14_im (n0 : Int) : Imp (fn_L17_10_t14 [.n n0]) (st_L17_10 (sK 14 n0 (2 : Int) (20 : Int) 1 (2 : Int) 0 true)) :=
(.path (1 ::1 ::1 ::1 ::1 ::1 ::1 ::0 ::0 ::0 ::0 ::0 ::1 ::1 ::1 ::1 ::1 ::0 ::1 ::1 ::1 ::1 ::1 ::0 ::0 ::1 ::1 ::1 ::1 ::1 ::1 ::0 ::1 ::1 ::1 ::0 ::1 ::1 ::1 ::0 ::1 ::1 ::1 ::0 ::1 ::1 ::1 ::0 ::1 ::1 ::1 ::1 ::1 ::1 ::1 ::1 ::1 ::1 ::1 ::1 ::0 ::0 ::1 ::1 ::1 ::1 ::1 ::1 ::1 ::1 ::0 ::1 ::1 ::1 ::0 ::1 ::1 ::1 ::0 ::1 ::1 ::1 ::0 ::1 ::1 ::1 ::1 ::1 ::1 ::1 ::1 ::1 ::1 ::1 ::1 ::0 ::0 ::1 ::1 ::1 ::1 ::1 ::1 ::1 ::1 ::0 ::1 :: []) (by kernel_rfl)
.lf)

noncomputable def fn_L17_10_t15 : List Dat → Tree Step
  | [.n n0] =>
    (.leaf (Step.go [.k 0, .l (Ty.pair (Ty.int IntKind.u8) (Ty.pair (Ty.int IntKind.i64) (Ty.pair (Ty.int IntKind.i64) (Ty.int IntKind.i64)))) lit, .n (16 : Int), .n n0, .n (2 : Int), .n (24 : Int), .n (1 : Int), .n (2 : Int), .n (0 : Int), .b true, .n (2 : Int), .n (24 : Int), .n (2 : Int), .n (0 : Int)]))
  | _ => .bad 0
theorem fn_L17_10_t15_im (n0 : Int) : Imp (fn_L17_10_t15 [.n n0]) (st_L17_10 (sK 15 n0 (2 : Int) (20 : Int) 1 (2 : Int) 0 true)) :=
(.path (1 ::1 ::1 ::1 ::0 ::0 ::1 ::1 ::0 ::0 ::0 ::1 ::1 ::1 ::1 ::0 ::0 ::1 ::1 ::0 ::0 ::0 ::1 ::0 ::0 ::1 ::1 ::1 ::0 ::1 ::1 ::0 ::1 ::0 ::1 ::1 ::1 ::0 ::0 ::1 ::1 ::1 ::1 ::0 ::1 ::1 ::1 ::0 ::0 ::1 ::1 ::1 ::0 ::1 ::0 ::0 ::1 ::1 ::0 ::1 ::1 ::1 ::0 ::1 ::1 ::1 ::0 ::1 ::1 ::1 ::0 ::1 ::1 ::1 ::1 ::1 ::1 ::1 ::1 ::1 ::1 ::1 ::1 ::0 ::0 ::1 ::1 ::1 ::1 ::1 ::1 ::1 ::1 ::0 ::1 ::1 ::1 ::0 ::1 ::1 ::1 ::0 ::1 ::1 ::1 ::0 ::1 ::1 ::1 ::1 ::1 ::1 ::1 ::1 ::1 ::1 ::1 ::1 ::0 ::0 ::1 ::1 ::1 ::1 ::1 ::1 ::1 ::1 ::0 ::1 :: []) (by kernel_rfl)
.lf)

noncomputable def fn_L17_10_t16 : List Dat → Tree Step
  | [.n n0] =>
    (.leaf (Step.go [.k 0, .l (Ty.pair (Ty.int IntKind.u8) (Ty.pair (Ty.int IntKind.i64) (Ty.pair (Ty.int IntKind.i64) (Ty.int IntKind.i64)))) lit, .n (17 : Int), .n n0, .n (2 : Int), .n (24 : Int), .n (1 : Int), .n (2 : Int), .n (0 : Int), .b true, .n (2 : Int), .n (24 : Int), .n (2 : Int), .n (0 : Int)]))
  | _ => .bad 0
theorem fn_L17_10_t16_im (n0 : Int) : Imp (fn_L17_10_t16 [.n n0]) (st_L17_10 (sK 16 n0 (2 : Int) (24 : Int) 1 (2 : Int) 0 true)) :=
(.path (1 ::1 ::1 ::1 ::0 ::0 ::1 ::1 ::0 ::0 ::0 ::1 ::1 ::1 ::1 ::0 ::0 ::1 ::1 ::0 ::0 ::0 ::1 ::0 ::1 ::1 ::1 ::1 ::1 ::1 ::0 ::0 ::1 ::1 ::1 ::1 ::0 ::1 ::1 ::1 ::0 ::1 ::1 ::1 ::1 ::1 ::1 ::0 ::1 ::1 ::1 ::0 ::1 ::1 ::1 ::0 ::1 ::1 ::1 ::0 ::1 ::1 ::1 ::1 ::1 ::1 ::1 ::1 ::1 ::1 ::1 ::1 ::0 ::0 ::1 ::1 ::1 ::1 ::1 ::1 ::1 ::1 ::0 ::1 ::1 ::1 ::0 ::1 ::1 ::1 ::0 ::1 ::1 ::1 ::0 ::1 ::1 ::1 ::1 ::1 ::1 ::1 ::1 ::1 ::1 ::1 ::1 ::0 ::0 ::1 ::1 ::1 ::1 ::1 ::1 ::1 ::1 ::0 ::1 :: []) (by kernel_rfl)
.lf)

noncomputable def fn_L17_10_t17 : List Dat → Tree Step
  | [.n n0] =>
    (.leaf (Step.go [.k 0, .l (Ty.pair (Ty.int IntKind.u8) (Ty.pair (Ty.int IntKind.i64) (Ty.pair (Ty.int IntKind.i64) (Ty.int IntKind.i64)))) lit, .n (18 : Int), .n n0, .n (2 : Int), .n (24 : Int), .n (1 : Int), .n (2 : Int), .n (0 : Int), .b true, .n (2 : Int), .n (24 : Int), .n (2 : Int), .n (0 : Int)]))
  | _ => .bad 0
theorem fn_L17_10_t17_im (n0 : Int) : Imp (fn_L17_10_t17 [.n n0]) (st_L17_10 (sK 17 n0 (2 : Int) (24 : Int) 1 (2 : Int) 0 true)) :=
(.path (1 ::1 ::1 ::1 ::0 ::0 ::0 ::0 ::1 ::1 ::0 ::0 ::0 ::0 ::0 ::0 ::1 ::1 ::0 ::0 ::0 ::1 ::0 ::0 ::1 ::1 ::0 ::1 ::1 ::1 ::0 ::1 ::1 ::1 ::0 ::1 ::1 ::1 ::0 ::1 ::1 ::1 ::1 ::1 ::1 ::1 ::1 ::1 ::1 ::1 ::1 ::0 ::0 ::1 ::1 ::1 ::1 ::1 ::1 ::1 ::1 ::0 ::1 ::1 ::1 ::0 ::1 ::1 ::1 ::0 ::1 ::1 ::1 ::0 ::1 ::1 ::1 ::1 ::1 ::1 ::1 ::1 ::1 ::1 ::1 ::1 ::0 ::0 ::1 ::1 ::1 ::1 ::1 ::1 ::1 ::1 ::0 ::1 :: []) (by kernel_rfl)
.lf)

noncomputable def fn_L17_10_t18 : List Dat → Tree Step
  | [.n n0] =>
    (.leaf (Step.go [.k 0, .l (Ty.pair (Ty.int IntKind.u8) (Ty.pair (Ty.int IntKind.i64) (Ty.pair (Ty.int IntKind.i64) (Ty.int IntKind.i64)))) lit, .n (19 : Int), .n n0, .n (2 : Int), .n (24 : Int), .n (0 : Int), .n (3 : Int), .n (0 : Int), .b false, .n (2 : Int), .n (24 : Int), .n (3 : Int), .n (0 : Int)]))
  | _ => .bad 0
theorem fn_L17_10_t18_im (n0 : Int) : Imp (fn_L17_10_t18 [.n n0]) (st_L17_10 (sK 18 n0 (2 : Int) (24 : Int) 1 (2 : Int) 0 true)) :=
(.path (1 ::1 ::1 ::1 ::0 ::0 ::0 ::0 ::1 ::1 ::0 ::0 ::0 ::0 ::0 ::1 ::1 ::1 ::1 ::1 ::0 ::0 ::0 ::1 ::1 ::1 ::1 ::1 ::1 ::0 ::1 ::0 ::1 ::0 ::1 ::1 ::1 ::0 ::1 ::1 ::1 ::0 ::1 ::1 ::1 ::1 ::0 ::0 ::1 ::1 ::0 ::0 ::1 ::1 ::1 ::1 ::0 ::1 ::0 ::1 ::0 ::1 ::1 ::1 ::0 ::1 ::1 ::1 ::0 ::1 ::1 ::1 ::1 ::0 ::0 ::1 ::1 ::0 ::0 ::1 ::1 ::1 ::1 ::0 ::1 :: []) (by kernel_rfl)
.lf)

noncomputable def fn_L17_10_t19 : List Dat → Tree Step
  | [.n n0] =>
    (.leaf (Step.go [.k 0, .l (Ty.pair (Ty.int IntKind.u8) (Ty.pair (Ty.int IntKind.i64) (Ty.pair (Ty.int IntKind.i64) (Ty.int IntKind.i64)))) lit, .n (20 : Int), .n n0, .n (2 : Int), .n (24 : Int), .n (0 : Int), .n (3 : Int), .n (0 : Int), .b false, .n (2 : Int), .n (24 : Int), .n (3 : Int), .n (0 : Int)]))
  | _ => .bad 0
theorem fn_L17_10_t19_im (n0 : Int) : Imp (fn_L17_10_t19 [.n n0]) (st_L17_10 (sK 19 n0 (2 : Int) (24 : Int) 0 (3 : Int) 0 false)) :=
(.path (1 ::1 ::1 ::1 ::0 ::0 ::1 ::1 ::0 ::0 ::0 ::1 ::1 ::1 ::1 ::0 ::0 ::1 ::1 ::0 ::0 ::0 ::1 ::0 ::0 ::1 ::1 ::1 ::0 ::1 ::1 ::1 ::1 ::1 ::0 ::0 ::1 ::1 ::1 ::1 ::0 ::1 ::1 ::1 ::0 ::0 ::1 ::1 ::1 ::0 ::1 ::1 ::1 ::1 ::0 ::1 ::0 ::1 ::0 ::1 ::1 ::1 ::0 ::1 ::1 ::1 ::0 ::1 ::1 ::1 ::1 ::0 ::0 ::1 ::1 ::0 ::0 ::1 ::1 ::1 ::1 ::0 ::1 ::0 ::1 ::0 ::1 ::1 ::1 ::0 ::1 ::1 ::1 ::0 ::1 ::1 ::1 ::1 ::0 ::0 ::1 ::1 ::0 ::0 ::1 ::1 ::1 ::1 ::0 ::1 :: []) (by kernel_rfl)
.lf)

noncomputable def fn_L17_10_t20 : List Dat → Tree Step
  | [.n n0] =>
    (.leaf (Step.go [.k 0, .l (Ty.pair (Ty.int IntKind.u8) (Ty.pair (Ty.int IntKind.i64) (Ty.pair (Ty.int IntKind.i64) (Ty.int IntKind.i64)))) lit, .n (21 : Int), .n n0, .n (2 : Int), .n (24 : Int), .n (0 : Int), .n (9 : Int), .n (0 : Int), .b false, .n (2 : Int), .n (24 : Int), .n (9 : Int), .n (0 : Int)]))
  | _ => .bad 0
theorem fn_L17_10_t20_im (n0 : Int) : Imp (fn_L17_10_t20 [.n n0]) (st_L17_10 (sK 20 n0 (2 : Int) (24 : Int) 0 (3 : Int) 0 false)) :=
(.path (1 ::1 ::1 ::1 ::0 ::0 ::0 ::0 ::1 ::1 ::0 ::0 ::0 ::0 ::1 ::1 ::1 ::0 ::0 ::0 ::0 ::0 ::0 ::1 ::1 ::1 ::0 ::1 ::0 ::1 ::0 ::1 ::1 ::1 ::0 ::1 ::1 ::1 ::0 ::1 ::1 ::1 ::1 ::0 ::0 ::1 ::1 ::0 ::0 ::1 ::1 ::1 ::1 ::0 ::1 ::0 ::1 ::0 ::1 ::1 ::1 ::0 ::1 ::1 ::1 ::0 ::1 ::1 ::1 ::1 ::0 ::0 ::1 ::1 ::0 ::0 ::1 ::1 ::1 ::1 ::0 ::1 :: []) (by kernel_rfl)
.lf)

noncomputable def fn_L17_10_t21 : List Dat → Tree Step
  | [.n n0] =>
    (.leaf (Step.go [.k 0, .l (Ty.pair (Ty.int IntKind.u8) (Ty.pair (Ty.int IntKind.i64) (Ty.pair (Ty.int IntKind.i64) (Ty.int IntKind.i64)))) lit, .n (22 : Int), .n n0, .n (2 : Int), .n (24 : Int), .n (0 : Int), .n (9 : Int), .n (0 : Int), .b false, .n (2 : Int), .n (24 : Int), .n (9 : Int), .n (0 : Int)]))
  | _ => .bad 0
theorem fn_L17_10_t21_im (n0 : Int) : Imp (fn_L17_10_t21 [.n n0]) (st_L17_10 (sK 21 n0 (2 : Int) (24 : Int) 0 (9 : Int) 0 false)) :=
(.path (1 ::1 ::1 ::1 ::0 ::0 ::1 ::1 ::0 ::0 ::0 ::1 ::1 ::1 ::1 ::0 ::0 ::1 ::1 ::0 ::0 ::0 ::1 ::0 ::0 ::0 ::1 ::1 ::0 ::0 ::0 ::1 ::0 ::1 ::1 ::1 ::1 ::0 ::0 ::1 ::1 ::1 ::1 ::0 ::1 ::1 ::1 ::0 ::0 ::0 ::1 ::1 ::0 ::0 ::0 ::0 ::1 ::1 ::1 ::0 ::1 ::0 ::1 ::0 ::1 ::1 ::1 ::0 ::1 ::1 ::1 ::0 ::1 ::1 ::1 ::1 ::0 ::0 ::1 ::1 ::0 ::0 ::1 ::1 ::1 ::1 ::0 ::1 ::0 ::1 ::0 ::1 ::1 ::1 ::0 ::1 ::1 ::1 ::0 ::1 ::1 ::1 ::1 ::0 ::0 ::1 ::1 ::0 ::0 ::1 ::1 ::1 ::1 ::0 ::1 :: []) (by kernel_rfl)
.lf)

noncomputable def fn_L17_10_t22 : List Dat → Tree Step
  | [.n n0] =>
    (.leaf (Step.go [.k 0, .l (Ty.pair (Ty.int IntKind.u8) (Ty.pair (Ty.int IntKind.i64) (Ty.pair (Ty.int IntKind.i64) (Ty.int IntKind.i64)))) lit, .n (23 : Int), .n n0, .n (9 : Int), .n (50 : Int), .n (1 : Int), .n (9 : Int), .n (0 : Int), .b true, .n (9 : Int), .n (50 : Int), .n (9 : Int), .n (0 : Int)]))
  | _ => .bad 0
theorem fn_L17_10_t22_im (n0 : Int) : Imp (fn_L17_10_t22 [.n n0]) (st_L17_10 (sK 22 n0 (2 : Int) (24 : Int) 0 (9 : Int) 0 false)) :=
(.path (1 ::1 ::1 ::1 ::0 ::0 ::1 ::1 ::0 ::0 ::0 ::1 ::1 ::1 ::1 ::0 ::0 ::1 ::1 ::0 ::0 ::0 ::1 ::0 ::0 ::0 ::1 ::1 ::0 ::0 ::0 ::1 ::0 ::1 ::0 ::1 ::1 ::1 ::0 ::0 ::1 ::1 ::1 ::1 ::0 ::1 ::1 ::1 ::0 ::0 ::0 ::1 ::1 ::0 ::0 ::0 ::0 ::0 ::1 ::1 ::0 ::1 ::1 ::1 ::0 ::1 ::1 ::1 ::0 ::1 ::1 ::1 ::0 ::1 ::1 ::1 ::1 ::1 ::1 ::1 ::1 ::1 ::1 ::1 ::1 ::0 ::0 ::1 ::1 ::1 ::1 ::1 ::1 ::1 ::1 ::0 ::1 ::1 ::1 ::0 ::1 ::1 ::1 ::0 ::1 ::1 ::1 ::0 ::1 ::1 ::1 ::1 ::1 ::1 ::1 ::1 ::1 ::1 ::1 ::1 ::0 ::0 ::1 ::1 ::1 ::1 ::1 ::1 ::1 ::1 ::0 ::1 :: []) (by kernel_rfl)
.lf)

noncomputable def fn_L17_10_t23 : List Dat → Tree Step
  | [.n n0] =>
    (.leaf (Step.go [.k 0, .l (Ty.pair (Ty.int IntKind.u8) (Ty.pair (Ty.int IntKind.i64) (Ty.pair (Ty.int IntKind.i64) (Ty.int IntKind.i64)))) lit, .n (24 : Int), .n n0, .n (9 : Int), .n (50 : Int), .n (1 : Int), .n (9 : Int), .n (0 : Int), .b true, .n (9 : Int), .n (50 : Int), .n (9 : Int), .n (0 : Int)]))
  | _ => .bad 0
theorem fn_L17_10_t23_im (n0 : Int) : Imp (fn_L17_10_t23 [.n n0]) (st_L17_10 (sK 23 n0 (9 : Int) (50 : Int) 1 (9 : Int) 0 true)) :=
(.path (1 ::1 ::1 ::1 ::0 ::0 ::0 ::0 ::1 ::1 ::0 ::0 ::0 ::1 ::1 ::1 ::0 ::0 ::1 ::1 ::1 ::0 ::1 ::1 ::1 ::0 ::1 ::1 ::1 ::0 ::1 ::1 ::1 ::0 ::1 ::1 ::1 ::1 ::1 ::1 ::1 ::1 ::1 ::1 ::1 ::1 ::0 ::0 ::1 ::1 ::1 ::1 ::1 ::1 ::1 ::1 ::0 ::1 ::1 ::1 ::0 ::1 ::1 ::1 ::0 ::1 ::1 ::1 ::0 ::1 ::1 ::1 ::1 ::1 ::1 ::1 ::1 ::1 ::1 ::1 ::1 ::0 ::0 ::1 ::1 ::1 ::1 ::1 ::1 ::1 ::1 ::0 ::1 :: []) (by kernel_rfl)
.lf)

noncomputable def fn_L17_10_t24 : List Dat → Tree Step
  | [.n n0] =>
    (.leaf (Step.go [.k 0, .l (Ty.pair (Ty.int IntKind.u8) (Ty.pair (Ty.int IntKind.i64) (Ty.pair (Ty.int IntKind.i64) (Ty.int IntKind.i64)))) lit, .n (25 : Int), .n n0, .n (9 : Int), .n (50 : Int), .n (1 : Int), .n (9 : Int), .n (0 : Int), .b true, .n (9 : Int), .n (50 : Int), .n (9 : Int), .n (0 : Int)]))
  | _ => .bad 0
theorem fn_L17_10_t24_im (n0 : Int) : Imp (fn_L17_10_t24 [.n n0]) (st_L17_10 (sK 24 n0 (9 : Int) (50 : Int) 1 (9 : Int) 0 true)) :=
(.path (1 ::1 ::1 ::1 ::0 ::0 ::0 ::0 ::1 ::1 ::0 ::0 ::1 ::1 ::1 ::1 ::1 ::0 ::1 ::1 ::1 ::1 ::1 ::0 ::1 ::1 ::1 ::0 ::1 ::1 ::1 ::0 ::1 ::1 ::1 ::0 ::1 ::1 ::1 ::1 ::1 ::1 ::1 ::1 ::1 ::1 ::1 ::1 ::0 ::1 ::1 ::1 ::1 ::1 ::1 ::1 ::1 ::1 ::0 ::1 ::1 ::1 ::0 ::1 ::1 ::1 ::0 ::1 ::1 ::1 ::0 ::1 ::1 ::1 ::1 ::1 ::1 ::1 ::1 ::1 ::1 ::1 ::1 ::0 ::1 ::1 ::1 ::1 ::1 ::1 ::1 ::1 ::1 ::0 ::1 :: []) (by kernel_rfl)
.lf)

noncomputable def fn_L17_10_t25 : List Dat → Tree Step
  | [.n n0] =>
    (.leaf (Step.go [.k 0, .l (Ty.pair (Ty.int IntKind.u8) (Ty.pair (Ty.int IntKind.i64) (Ty.pair (Ty.int IntKind.i64) (Ty.int IntKind.i64)))) lit, .n (26 : Int), .n n0, .n (9 : Int), .n (50 : Int), .n (0 : Int), .n (9 : Int), .n (0 : Int), .b false, .n (9 : Int), .n (50 : Int), .n (9 : Int), .n (0 : Int)]))
  | _ => .bad 0
theorem fn_L17_10_t25_im (n0 : Int) : Imp (fn_L17_10_t25 [.n n0]) (st_L17_10 (sK 25 n0 (9 : Int) (50 : Int) 1 (9 : Int) 0 true)) :=
(.path (1 ::1 ::1 ::1 ::0 ::0 ::0 ::1 ::1 ::0 ::0 ::1 ::1 ::1 ::1 ::1 ::1 ::1 ::1 ::0 ::1 ::0 ::1 ::0 ::1 ::1 ::1 ::0 ::1 ::1 ::1 ::0 ::1 ::1 ::1 ::1 ::0 ::0 ::1 ::1 ::0 ::0 ::1 ::1 ::1 ::1 ::0 ::1 ::0 ::1 ::0 ::1 ::1 ::1 ::0 ::1 ::1 ::1 ::0 ::1 ::1 ::1 ::1 ::0 ::0 ::1 ::1 ::0 ::0 ::1 ::1 ::1 ::1 ::0 ::1 :: []) (by kernel_rfl)
.lf)

noncomputable def fn_L17_10_t26 : List Dat → Tree Step
  | [.n n0] =>
    (.leaf (Step.go [.k 0, .l (Ty.pair (Ty.int IntKind.u8) (Ty.pair (Ty.int IntKind.i64) (Ty.pair (Ty.int IntKind.i64) (Ty.int IntKind.i64)))) lit, .n (27 : Int), .n n0, .n (1099511627776 : Int), .n (1099511627776 : Int), .n (1 : Int), .n (1099511627776 : Int), .n (0 : Int), .b true, .n (1099511627776 : Int), .n (1099511627776 : Int), .n (1099511627776 : Int), .n (0 : Int)]))
  | _ => .bad 0
theorem fn_L17_10_t26_im (n0 : Int) : Imp (fn_L17_10_t26 [.n n0]) (st_L17_10 (sK 26 n0 (9 : Int) (50 : Int) 0 (9 : Int) 0 false)) :=
(.path (1 ::1 ::1 ::1 ::0 ::0 ::1 ::1 ::0 ::0 ::0 ::1 ::1 ::1 ::1 ::0 ::0 ::1 ::1 ::0 ::0 ::0 ::1 ::0 ::0 ::0 ::1 ::1 ::0 ::0 ::0 ::1 ::0 ::1 ::0 ::1 ::1 ::1 ::0 ::0 ::1 ::1 ::1 ::1 ::0 ::1 ::1 ::1 ::0 ::0 ::0 ::1 ::1 ::0 ::0 ::0 ::0 ::0 ::1 ::1 ::0 ::1 ::1 ::1 ::0 ::1 ::1 ::1 ::0 ::1 ::1 ::1 ::0 ::1 ::1 ::1 ::1 ::1 ::1 ::1 ::1 ::1 ::1 ::1 ::1 ::0 ::0 ::1 ::1 ::1 ::1 ::1 ::1 ::1 ::1 ::0 ::1 ::1 ::1 ::0 ::1 ::1 ::1 ::0 ::1 ::1 ::1 ::0 ::1 ::1 ::1 ::1 ::1 ::1 ::1 ::1 ::1 ::1 ::1 ::1 ::0 ::0 ::1 ::1 ::1 ::1 ::1 ::1 ::1 ::1 ::0 ::1 :: []) (by kernel_rfl)
.lf)

noncomputable def fn_L17_10_t27 : List Dat → Tree Step
  | [.n n0] =>
    (.leaf (Step.go [.k 0, .l (Ty.pair (Ty.int IntKind.u8) (Ty.pair (Ty.int IntKind.i64) (Ty.pair (Ty.int IntKind.i64) (Ty.int IntKind.i64)))) lit, .n (28 : Int), .n n0, .n (1099511627776 : Int), .n (1099511627776 : Int), .n (0 : Int), .n (1099511627776 : Int), .n (0 : Int), .b false, .n (1099511627776 : Int), .n (1099511627776 : Int), .n (1099511627776 : Int), .n (0 : Int)]))
  | _ => .bad 0
theorem fn_L17_10_t27_im (n0 : Int) : Imp (fn_L17_10_t27 [.n n0]) (st_L17_10 (sK 27 n0 (1099511627776 : Int) (1099511627776 : Int) 1 (1099511627776 : Int) 0 true)) :=
(.path (1 ::1 ::1 ::1 ::1 ::1 ::1 ::0 ::1 ::1 ::1 ::0 ::0 ::1 ::1 ::1 ::1 ::1 ::1 ::1 ::1 ::1 ::1 ::1 ::1 ::1 ::1 ::1 ::1 ::1 ::1 ::1 ::1 ::1 ::1 ::1 ::1 ::1 ::1 ::0 ::1 ::0 ::1 ::0 ::1 ::1 ::1 ::0 ::1 ::1 ::1 ::0 ::1 ::1 ::1 ::1 ::0 ::0 ::1 ::1 ::0 ::0 ::1 ::1 ::1 ::1 ::0 ::1 ::0 ::1 ::0 ::1 ::1 ::1 ::0 ::1 ::1 ::1 ::0 ::1 ::1 ::1 ::1 ::0 ::0 ::1 ::1 ::0 ::0 ::1 ::1 ::1 ::1 ::0 ::1 :: []) (by kernel_rfl)
.lf)

noncomputable def fn_L17_10_t28 : List Dat → Tree Step
  | [.n n0] =>
    (.leaf (Step.go [.k 0, .l (Ty.pair (Ty.int IntKind.u8) (Ty.pair (Ty.int IntKind.i64) (Ty.pair (Ty.int IntKind.i64) (Ty.int IntKind.i64)))) lit, .n (29 : Int), .n n0, .n (1099511627776 : Int), .n (1099511627776 : Int), .n (0 : Int), .n (1099511627776 : Int), .n (0 : Int), .b false, .n (1099511627776 : Int), .n (1099511627776 : Int), .n (1099511627776 : Int), .n (0 : Int)]))
  | _ => .bad 0
theorem fn_L17_10_t28_im (n0 : Int) : Imp (fn_L17_10_t28 [.n n0]) (st_L17_10 (sK 28 n0 (1099511627776 : Int) (1099511627776 : Int) 0 (1099511627776 : Int) 0 false)) :=
(.path (1 ::1 ::1 ::1 ::0 ::0 ::0 ::0 ::1 ::1 ::0 ::0 ::0 ::0 ::1 ::1 ::1 ::0 ::0 ::0 ::0 ::0 ::0 ::1 ::1 ::1 ::0 ::1 ::0 ::1 ::0 ::1 ::1 ::1 ::0 ::1 ::1 ::1 ::0 ::1 ::1 ::1 ::1 ::0 ::0 ::1 ::1 ::0 ::0 ::1 ::1 ::1 ::1 ::0 ::1 ::0 ::1 ::0 ::1 ::1 ::1 ::0 ::1 ::1 ::1 ::0 ::1 ::1 ::1 ::1 ::0 ::0 ::1 ::1 ::0 ::0 ::1 ::1 ::1 ::1 ::0 ::1 :: []) (by kernel_rfl)
.lf)

noncomputable def fn_L17_10_t29 : List Dat → Tree Step
  | [.n n0] =>
    (.leaf (Step.go [.k 0, .l (Ty.pair (Ty.int IntKind.u8) (Ty.pair (Ty.int IntKind.i64) (Ty.pair (Ty.int IntKind.i64) (Ty.int IntKind.i64)))) lit, .n (30 : Int), .n n0, .n (1099511627776 : Int), .n (1099511627776 : Int), .n (0 : Int), .n (1099511627776 : Int), .n (1 : Int), .b false, .n (1099511627776 : Int), .n (1099511627776 : Int), .n (1099511627776 : Int), .n (1 : Int)]))
  | _ => .bad 0
theorem fn_L17_10_t29_im (n0 : Int) : Imp (fn_L17_10_t29 [.n n0]) (st_L17_10 (sK 29 n0 (1099511627776 : Int) (1099511627776 : Int) 0 (1099511627776 : Int) 0 false)) :=
(.path (1 ::1 ::1 ::1 ::1 ::1 ::1 ::0 ::0 ::1 ::0 ::1 ::1 ::1 ::1 ::1 ::1 ::1 ::0 ::1 ::1 ::0 ::0 ::1 ::1 ::0 ::1 ::0 ::1 ::0 ::1 ::1 ::1 ::0 ::1 ::1 ::1 ::0 ::1 ::1 ::1 ::1 ::0 ::0 ::1 ::1 ::0 ::0 ::1 ::1 ::1 ::1 ::0 ::1 ::0 ::1 ::0 ::1 ::1 ::1 ::0 ::1 ::1 ::1 ::0 ::1 ::1 ::1 ::1 ::0 ::0 ::1 ::1 ::0 ::0 ::1 ::1 ::1 ::1 ::0 ::1 :: []) (by kernel_rfl)
.lf)

noncomputable def fn_L17_10_t30 : List Dat → Tree Step
  | [.n n0] =>
    (.leaf (Step.stop 0 []))
  | _ => .bad 0
theorem fn_L17_10_t30_im (n0 : Int) : Imp (fn_L17_10_t30 [.n n0]) (st_L17_10 (sK 30 n0 (1099511627776 : Int) (1099511627776 : Int) 0 (1099511627776 : Int) 1 false)) :=
(.pa [1,0,1]
.lf)

theorem ls_17_ok : LsOk Try.prog (List.length ([] : List PB)) (lsM [(10, L17_10)] (List.length ([] : List PB))) (bodyOf Try.prog 17) := LsOk.many fun j B hB hk c hc hi => by
  simp only [lookM] at hB
  split at hB
  · rename_i e; have := Nat.eq_of_beq_eq_true e; subst this; cases hB
    have e1 : loopAt Try.prog 17 10 = [cAt Try.prog 17 10] := loopAt_one (by kernel_rfl)
    have e2 : c ∈ loopAt Try.prog 17 10 := loopsAt_mem hc hi
    rw [e1] at e2; cases List.mem_singleton.1 e2; exact L17_10_run
  cases hB

noncomputable def ev_17 (env : List Dat) : Tree (Nat × List Dat) := Lk.boxC false LK cs_5 17 (lsM [(10, L17_10)] (List.length ([] : List PB))) (mkF [.int .i64 0, .imm TCl 1] [] [] [(.bool 0, [])] fun _ => none) env
theorem op_17_ex : ∃ f : List Dat → Option (Nat × List Dat), ∀ env, f env = (ev_17 env).sel := ⟨fun env => (ev_17 env).sel, fun _ => rfl⟩
noncomputable def op_17 : List Dat → Option (Nat × List Dat) := Classical.choose op_17_ex
theorem op_17_eq (env : List Dat) : op_17 env = (ev_17 env).sel := Classical.choose_spec op_17_ex env
noncomputable def B17 : FBox := mkF [.int .i64 0, .imm TCl 1] [] [] [(.bool 0, [])] op_17
theorem B17_ok : RunOk Try.prog 17 (boxRun B17) := mkF_ok (op := op_17) cs_5_ok hmix false (ls_17_ok) (fun env x h => by rw [op_17_eq] at h; rw [← boxC_lk]; exact h)
theorem op_17_good {p : Nat × List Dat → Prop} {T : Tree (Nat × List Dat)} {env : List Dat} (h : Imp T (ev_17 env)) (g : Good p T.sel) : Good p (op_17 env) := by
  rw [op_17_eq]
  exact h.good g

noncomputable def fn_17_p0 : List Dat → Tree (Nat × List Dat)
  | [] =>
    (let r1 : Option (Nat × List Dat) := (op_L17_10 [.k 0, .l (Ty.pair (Ty.int IntKind.u8) (Ty.pair (Ty.int IntKind.i64) (Ty.pair (Ty.int IntKind.i64) (Ty.int IntKind.i64)))) lit, .n (0 : Int), .n (0 : Int), .n (0 : Int), .n (0 : Int), .n (0 : Int), .n (0 : Int), .n (0 : Int), .b false, .n (0 : Int), .n (0 : Int), .n (0 : Int), .n (0 : Int)]);
     (.node (isK 0 [] r1)
      (.leaf ((0, [.b true])))
      (.node (isK 1 [HK.b] r1)
       (.leaf ((0, [.b (gb (dOf r1) 0)])))
       (.bad 351))))
  | _ => .bad 0
theorem fn_17_p0_im  : Imp (fn_17_p0 []) (ev_17 [.n (0 : Int), .l TCl lit]) :=
(.pa [0,1,0,0,0,1,0,0,0,0]
(.nd (fun h0 =>
(.pa [1,1,1,1]
.lf)) (fun h0 =>
(.nd (fun h1 =>
(.pa [1]
.lf)) (fun h1 =>
.none)))))

noncomputable def fn_17_p1 : List Dat → Tree (Nat × List Dat)
  | [] =>
    (let r1 : Option (Nat × List Dat) := (op_L17_10 [.k 0, .l (Ty.pair (Ty.int IntKind.u8) (Ty.pair (Ty.int IntKind.i64) (Ty.pair (Ty.int IntKind.i64) (Ty.int IntKind.i64)))) lit, .n (0 : Int), .n (1 : Int), .n (0 : Int), .n (0 : Int), .n (0 : Int), .n (0 : Int), .n (0 : Int), .b false, .n (0 : Int), .n (0 : Int), .n (0 : Int), .n (0 : Int)]);
     (.node (isK 0 [] r1)
      (.leaf ((0, [.b true])))
      (.node (isK 1 [HK.b] r1)
       (.leaf ((0, [.b (gb (dOf r1) 0)])))
       (.bad 351))))
  | _ => .bad 0
theorem fn_17_p1_im  : Imp (fn_17_p1 []) (ev_17 [.n (1 : Int), .l TCl lit]) :=
(.pa [0,1,1,0,1,1,0,0]
(.nd (fun h0 =>
(.pa [1,1,1,1]
.lf)) (fun h0 =>
(.nd (fun h1 =>
(.pa [1]
.lf)) (fun h1 =>
.none)))))

noncomputable def fn_17_p2 : List Dat → Tree (Nat × List Dat)
  | [] =>
    (.leaf ((0, [.b true])))
  | _ => .bad 0
theorem fn_17_p2_im  : Imp (fn_17_p2 []) (ev_17 [.n (2 : Int), .l TCl lit]) :=
(.pa [0,1,1,1,1,1,1,1,1,1,1,1,1]
.lf)

noncomputable def fn_17_p3 : List Dat → Tree (Nat × List Dat)
  | [] =>
    (.leaf ((0, [.b true])))
  | _ => .bad 0
theorem fn_17_p3_im  : Imp (fn_17_p3 []) (ev_17 [.n (-1 : Int), .l TCl lit]) :=
(.pa [0,1,1,1,1,1,1,1,1,1,1,1,1]
.lf)

noncomputable def cs_17 : FuncId → Option CSpec := csLend 17 B17 cs_5
theorem cs_17_ok : CsOk Try.prog cs_17 := csLend_ok cs_5_ok B17_ok
end Go.Proofs.Ytgepnailecclkaa.Vx
namespace Go.Proofs.Ytgepnailecclkaa.Vx
open Go Go.RowKit
set_option linter.unusedVariables false
set_option linter.unusedSimpArgs false
set_option maxRecDepth 100000
set_option maxHeartbeats 0
theorem it_go {st : List Dat → Tree Step} {n : Nat} {e e' : List Dat} {y : Option (Nat × List Dat)} (h : (st e).sel = some (.go e')) (k : iterS st n e' = y) : iterS st (n + 1) e = y := by
  simp only [iterS, h]; exact k
theorem it_stop {st : List Dat → Tree Step} {n k : Nat} {e d : List Dat} (h : (st e).sel = some (.stop k d)) : iterS st (n + 1) e = some (k, d) := by
  simp only [iterS, h]
theorem k_0 (P : Int) : (st_L17_10 (sK 0 P (0 : Int) (0 : Int) 0 (0 : Int) 0 false)).sel = some (.go (sK 1 P (0 : Int) (0 : Int) 0 (0 : Int) 1 false)) := fn_L17_10_t0_im P _ rfl
theorem k_1 (P : Int) : (st_L17_10 (sK 1 P (0 : Int) (0 : Int) 0 (0 : Int) 1 false)).sel = some (.go (sK 2 P (0 : Int) (0 : Int) 0 (0 : Int) 2 false)) := fn_L17_10_t1_im P _ rfl
theorem k_2 (P : Int) : (st_L17_10 (sK 2 P (0 : Int) (0 : Int) 0 (0 : Int) 2 false)).sel = some (.go (sK 3 P (0 : Int) (0 : Int) 0 (0 : Int) 3 false)) := fn_L17_10_t2_im P _ rfl
theorem k_3 (P : Int) : (st_L17_10 (sK 3 P (0 : Int) (0 : Int) 0 (0 : Int) 3 false)).sel = some (.go (sK 4 P (0 : Int) (0 : Int) 0 (0 : Int) 4 false)) := fn_L17_10_t3_im P _ rfl
theorem k_4 (P : Int) : (st_L17_10 (sK 4 P (0 : Int) (0 : Int) 0 (0 : Int) 4 false)).sel = some (.go (sK 5 P (0 : Int) (0 : Int) 0 (0 : Int) 0 false)) := fn_L17_10_t4_im P _ rfl
theorem k_5 (P : Int) : (st_L17_10 (sK 5 P (0 : Int) (0 : Int) 0 (0 : Int) 0 false)).sel = some (.go (sK 6 P (0 : Int) (0 : Int) 0 (0 : Int) 1 false)) := fn_L17_10_t5_im P _ rfl
theorem k_6 (P : Int) : (st_L17_10 (sK 6 P (0 : Int) (0 : Int) 0 (0 : Int) 1 false)).sel = some (.go (sK 7 P (0 : Int) (0 : Int) 0 (0 : Int) 1 false)) := fn_L17_10_t6_im P _ rfl
theorem k_7 (P : Int) : (st_L17_10 (sK 7 P (0 : Int) (0 : Int) 0 (0 : Int) 1 false)).sel = some (.go (sK 8 P (0 : Int) (0 : Int) 0 (0 : Int) 1 false)) := fn_L17_10_t7_im P _ rfl
theorem k_8 (P : Int) : (st_L17_10 (sK 8 P (0 : Int) (0 : Int) 0 (0 : Int) 1 false)).sel = some (.go (sK 9 P (0 : Int) (0 : Int) 0 (0 : Int) 1 false)) := fn_L17_10_t8_im P _ rfl
theorem k_9 (P : Int) : (st_L17_10 (sK 9 P (0 : Int) (0 : Int) 0 (0 : Int) 1 false)).sel = some (.go (sK 10 P (0 : Int) (0 : Int) 0 (0 : Int) 1 false)) := fn_L17_10_t9_im P _ rfl
theorem k_10 (P : Int) : (st_L17_10 (sK 10 P (0 : Int) (0 : Int) 0 (0 : Int) 1 false)).sel = some (.go (sK 11 P (2 : Int) (20 : Int) 1 (2 : Int) 0 true)) := fn_L17_10_t10_im P _ rfl
theorem k_11 (P : Int) : (st_L17_10 (sK 11 P (2 : Int) (20 : Int) 1 (2 : Int) 0 true)).sel = some (.go (sK 12 P (2 : Int) (20 : Int) 1 (2 : Int) 0 true)) := fn_L17_10_t11_im P _ rfl
theorem k_12 (P : Int) : (st_L17_10 (sK 12 P (2 : Int) (20 : Int) 1 (2 : Int) 0 true)).sel = some (.go (sK 13 P (2 : Int) (20 : Int) 1 (2 : Int) 0 true)) := fn_L17_10_t12_im P _ rfl
theorem k_13 (P : Int) : (st_L17_10 (sK 13 P (2 : Int) (20 : Int) 1 (2 : Int) 0 true)).sel = some (.go (sK 14 P (2 : Int) (20 : Int) 1 (2 : Int) 0 true)) := fn_L17_10_t13_im P _ rfl
theorem k_14 (P : Int) : (st_L17_10 (sK 14 P (2 : Int) (20 : Int) 1 (2 : Int) 0 true)).sel = some (.go (sK 15 P (2 : Int) (20 : Int) 1 (2 : Int) 0 true)) := fn_L17_10_t14_im P _ rfl
theorem k_15 (P : Int) : (st_L17_10 (sK 15 P (2 : Int) (20 : Int) 1 (2 : Int) 0 true)).sel = some (.go (sK 16 P (2 : Int) (24 : Int) 1 (2 : Int) 0 true)) := fn_L17_10_t15_im P _ rfl
theorem k_16 (P : Int) : (st_L17_10 (sK 16 P (2 : Int) (24 : Int) 1 (2 : Int) 0 true)).sel = some (.go (sK 17 P (2 : Int) (24 : Int) 1 (2 : Int) 0 true)) := fn_L17_10_t16_im P _ rfl
theorem k_17 (P : Int) : (st_L17_10 (sK 17 P (2 : Int) (24 : Int) 1 (2 : Int) 0 true)).sel = some (.go (sK 18 P (2 : Int) (24 : Int) 1 (2 : Int) 0 true)) := fn_L17_10_t17_im P _ rfl
theorem k_18 (P : Int) : (st_L17_10 (sK 18 P (2 : Int) (24 : Int) 1 (2 : Int) 0 true)).sel = some (.go (sK 19 P (2 : Int) (24 : Int) 0 (3 : Int) 0 false)) := fn_L17_10_t18_im P _ rfl
theorem k_19 (P : Int) : (st_L17_10 (sK 19 P (2 : Int) (24 : Int) 0 (3 : Int) 0 false)).sel = some (.go (sK 20 P (2 : Int) (24 : Int) 0 (3 : Int) 0 false)) := fn_L17_10_t19_im P _ rfl
theorem k_20 (P : Int) : (st_L17_10 (sK 20 P (2 : Int) (24 : Int) 0 (3 : Int) 0 false)).sel = some (.go (sK 21 P (2 : Int) (24 : Int) 0 (9 : Int) 0 false)) := fn_L17_10_t20_im P _ rfl
theorem k_21 (P : Int) : (st_L17_10 (sK 21 P (2 : Int) (24 : Int) 0 (9 : Int) 0 false)).sel = some (.go (sK 22 P (2 : Int) (24 : Int) 0 (9 : Int) 0 false)) := fn_L17_10_t21_im P _ rfl
theorem k_22 (P : Int) : (st_L17_10 (sK 22 P (2 : Int) (24 : Int) 0 (9 : Int) 0 false)).sel = some (.go (sK 23 P (9 : Int) (50 : Int) 1 (9 : Int) 0 true)) := fn_L17_10_t22_im P _ rfl
theorem k_23 (P : Int) : (st_L17_10 (sK 23 P (9 : Int) (50 : Int) 1 (9 : Int) 0 true)).sel = some (.go (sK 24 P (9 : Int) (50 : Int) 1 (9 : Int) 0 true)) := fn_L17_10_t23_im P _ rfl
theorem k_24 (P : Int) : (st_L17_10 (sK 24 P (9 : Int) (50 : Int) 1 (9 : Int) 0 true)).sel = some (.go (sK 25 P (9 : Int) (50 : Int) 1 (9 : Int) 0 true)) := fn_L17_10_t24_im P _ rfl
theorem k_25 (P : Int) : (st_L17_10 (sK 25 P (9 : Int) (50 : Int) 1 (9 : Int) 0 true)).sel = some (.go (sK 26 P (9 : Int) (50 : Int) 0 (9 : Int) 0 false)) := fn_L17_10_t25_im P _ rfl
theorem k_26 (P : Int) : (st_L17_10 (sK 26 P (9 : Int) (50 : Int) 0 (9 : Int) 0 false)).sel = some (.go (sK 27 P (1099511627776 : Int) (1099511627776 : Int) 1 (1099511627776 : Int) 0 true)) := fn_L17_10_t26_im P _ rfl
theorem k_27 (P : Int) : (st_L17_10 (sK 27 P (1099511627776 : Int) (1099511627776 : Int) 1 (1099511627776 : Int) 0 true)).sel = some (.go (sK 28 P (1099511627776 : Int) (1099511627776 : Int) 0 (1099511627776 : Int) 0 false)) := fn_L17_10_t27_im P _ rfl
theorem k_28 (P : Int) : (st_L17_10 (sK 28 P (1099511627776 : Int) (1099511627776 : Int) 0 (1099511627776 : Int) 0 false)).sel = some (.go (sK 29 P (1099511627776 : Int) (1099511627776 : Int) 0 (1099511627776 : Int) 0 false)) := fn_L17_10_t28_im P _ rfl
theorem k_29 (P : Int) : (st_L17_10 (sK 29 P (1099511627776 : Int) (1099511627776 : Int) 0 (1099511627776 : Int) 0 false)).sel = some (.go (sK 30 P (1099511627776 : Int) (1099511627776 : Int) 0 (1099511627776 : Int) 1 false)) := fn_L17_10_t29_im P _ rfl
theorem k_30 (P : Int) : (st_L17_10 (sK 30 P (1099511627776 : Int) (1099511627776 : Int) 0 (1099511627776 : Int) 1 false)).sel = some (.stop 0 []) := fn_L17_10_t30_im P _ rfl
theorem k_all (P : Int) : op_L17_10 (sK 0 P (0 : Int) (0 : Int) 0 (0 : Int) 0 false) = some (0, []) := by
  rw [op_L17_10_eq]
  obtain ⟨m, hm⟩ : ∃ m, FU = m + 31 := ⟨FU - 31, by unfold FU; omega⟩
  rw [hm]
  exact (it_go (k_0 P) (it_go (k_1 P) (it_go (k_2 P) (it_go (k_3 P) (it_go (k_4 P) (it_go (k_5 P) (it_go (k_6 P) (it_go (k_7 P) (it_go (k_8 P) (it_go (k_9 P) (it_go (k_10 P) (it_go (k_11 P) (it_go (k_12 P) (it_go (k_13 P) (it_go (k_14 P) (it_go (k_15 P) (it_go (k_16 P) (it_go (k_17 P) (it_go (k_18 P) (it_go (k_19 P) (it_go (k_20 P) (it_go (k_21 P) (it_go (k_22 P) (it_go (k_23 P) (it_go (k_24 P) (it_go (k_25 P) (it_go (k_26 P) (it_go (k_27 P) (it_go (k_28 P) (it_go (k_29 P) (it_stop (k_30 P))))))))))))))))))))))))))))))))
theorem o17_0 : op_17 [.n (0 : Int), .l TCl lit] = some (0, [.b true]) := by
  rw [op_17_eq]
  refine fn_17_p0_im _ ?_
  unfold fn_17_p0
  dsimp only
  erw [k_all (0 : Int)]
  exact sel_t rfl rfl
theorem o17_1 : op_17 [.n (1 : Int), .l TCl lit] = some (0, [.b true]) := by
  rw [op_17_eq]
  refine fn_17_p1_im _ ?_
  unfold fn_17_p1
  dsimp only
  erw [k_all (1 : Int)]
  exact sel_t rfl rfl
theorem o17_2 : op_17 [.n (2 : Int), .l TCl lit] = some (0, [.b true]) := by
  rw [op_17_eq]
  refine fn_17_p2_im _ ?_
  rfl
theorem o17_3 : op_17 [.n (-1 : Int), .l TCl lit] = some (0, [.b true]) := by
  rw [op_17_eq]
  refine fn_17_p3_im _ ?_
  rfl
end Go.Proofs.Ytgepnailecclkaa.Vx
namespace Go.Proofs.Ytgepnailecclkaa.Vx
open Go Go.RowKit
set_option linter.unusedVariables false
set_option linter.unusedSimpArgs false
set_option maxRecDepth 100000
set_option maxHeartbeats 0
noncomputable def op_k3 : List Dat → Option (Nat × List Dat) := lawOpP [.l (.pair (.int .u8) (.int .u8)), .n, .n] (fun d => (wfD (.sl (.pair (.int .u8) (.int .u8))) (gl (.pair (.int .u8) (.int .u8)) d 0) && wfD (.int .u8) (gn d 1)) && wfD (.int .u8) (gn d 2))
noncomputable def Bk3 : FBox := mkF [.imm (.pair (.int .u8) (.int .u8)) 0, .int .u8 1, .int .u8 2] [] [] [(.bool 0, [])] op_k3
noncomputable def cs_k3 : FuncId → Option CSpec := csLend 3 Bk3 cs_17
theorem Bk3_ok : RunOk Try.prog 3 (boxRun Bk3) := lawBox_ok (op := op_k3) cs_5_ok hmix false (ls := (lsM [(13, L3_13)] (0))) ls_3_ok fun env x he => by
  obtain ⟨rfl, h, hp⟩ := lawOpP_some he
  refine ⟨rfl, ?_⟩
  obtain ⟨x0, _, rfl, h0⟩ := fits_l h
  obtain ⟨x1, _, rfl, h1⟩ := fits_n h0
  obtain ⟨x2, _, rfl, h2⟩ := fits_n h1
  cases fits_nil h2
  simp only [Bool.and_eq_true] at hp
  rw [← lawB_lk]; exact t26' hp.1.1 hp.1.2 hp.2
theorem cs_k3_ok : CsOk Try.prog cs_k3 := csLend_ok cs_17_ok Bk3_ok

noncomputable def ev_W4 (env : List Dat) : Tree Bool := Lk.lawB false LK cs_k3 4 ls0 (instL [] env)

theorem W4_law (env : List Dat) (h : (ev_W4 env).sel = some true) {w : World} {args : Array Value} (ha : LRel R0 (snapOf w) (instL [] env) args) :
    Calls Try.prog 4 args w fun e w' => e = .returned (.bool true) ∧ Below w.heap.size w w' :=
  lawB_ok cs_k3_ok hmix false (ls := ls0) (LsOk.none _ _ _) (by rw [← lawB_lk]; exact h) ha

noncomputable def fn_W4_t : List Dat → Tree Bool
  | [] =>
    (let r1 : Option (Nat × List Dat) := (op_17 [.n (0 : Int), .l TCl lit]);
     (.node (isK 0 [HK.b] r1)
      (.node (gb (dOf r1) 0)
       (let r2 : Option (Nat × List Dat) := (op_17 [.n (1 : Int), .l TCl lit]);
        (.node (isK 0 [HK.b] r2)
         (.node (gb (dOf r2) 0)
          (let r3 : Option (Nat × List Dat) := (op_17 [.n (2 : Int), .l TCl lit]);
           (.node (isK 0 [HK.b] r3)
            (.node (gb (dOf r3) 0)
             (let r4 : Option (Nat × List Dat) := (op_17 [.n (-1 : Int), .l TCl lit]);
              (.node (isK 0 [HK.b] r4)
               (.node (gb (dOf r4) 0)
                (.leaf (true))
                (.leaf (false)))
               (.bad 351)))
             (.leaf (false)))
            (.bad 351)))
          (.leaf (false)))
         (.bad 351)))
       (.leaf (false)))
      (.bad 351)))
  | _ => .bad 0
theorem fn_W4_t_im  : Imp (fn_W4_t []) (ev_W4 []) :=
(.path (1 ::1 ::1 ::1 ::1 ::1 ::1 ::1 ::1 ::1 ::1 ::1 ::1 ::1 ::1 ::1 ::1 ::1 ::1 ::1 ::1 ::1 ::1 ::1 ::1 ::1 ::1 ::1 ::1 ::1 ::1 ::1 ::1 ::1 ::1 ::1 ::1 ::0 ::0 ::0 ::0 ::1 ::1 ::1 ::1 ::1 ::1 ::1 ::1 ::1 ::1 ::1 ::1 ::1 ::0 ::1 ::1 :: []) (by kernel_rfl)
(.node (by kernel_rfl) (by kernel_rfl) (fun h0 =>
(.path [1] (by kernel_rfl)
(.node (by kernel_rfl) (by kernel_rfl) (fun h1 =>
(.node (by kernel_rfl) (by kernel_rfl) (fun h2 =>
(.path [1] (by kernel_rfl)
(.node (by kernel_rfl) (by kernel_rfl) (fun h3 =>
(.node (by kernel_rfl) (by kernel_rfl) (fun h4 =>
(.path [1] (by kernel_rfl)
(.node (by kernel_rfl) (by kernel_rfl) (fun h5 =>
(.node (by kernel_rfl) (by kernel_rfl) (fun h6 =>
(.path [1] (by kernel_rfl)
(.node (by kernel_rfl) (by kernel_rfl) (fun h7 =>
(.path [1,1,1,1,1,1] (by kernel_rfl)
(.leaf (by kernel_rfl)))) (fun h7 =>
(.path [0,0,0] (by kernel_rfl)
(.leaf (by kernel_rfl))))))) (fun h6 =>
.none))) (fun h5 =>
(.path [0,0,0,0,0] (by kernel_rfl)
(.leaf (by kernel_rfl))))))) (fun h4 =>
.none))) (fun h3 =>
(.path [0,0,0,0,0,0,0] (by kernel_rfl)
(.leaf (by kernel_rfl))))))) (fun h2 =>
.none))) (fun h1 =>
(.path [0,0,0,0,0,0,0,0,0] (by kernel_rfl)
(.leaf (by kernel_rfl))))))) (fun h0 =>
.none)))
end Go.Proofs.Ytgepnailecclkaa.Vx
namespace Go.Proofs.Ytgepnailecclkaa.Vx
open Go Go.RowKit
set_option linter.unusedVariables false
set_option linter.unusedSimpArgs false
set_option maxRecDepth 100000
set_option maxHeartbeats 0
theorem W4_true : (ev_W4 []).sel = some true := by
  refine fn_W4_t_im _ ?_
  unfold fn_W4_t
  dsimp only
  erw [o17_0]; refine sel_t rfl (sel_t rfl ?_)
  erw [o17_1]; refine sel_t rfl (sel_t rfl ?_)
  erw [o17_2]; refine sel_t rfl (sel_t rfl ?_)
  erw [o17_3]; exact sel_t rfl (sel_t rfl rfl)
end Go.Proofs.Ytgepnailecclkaa.Vx
namespace Go.Proofs.Ytgepnailecclkaa.switchoverKnown
open Go Go.ChangeShapes Go.WideShapes Go.ChangeAt Go.RowKit Go.Joins Go.Proofs.Ytgepnailecclkaa.Vx
set_option linter.unusedVariables false
theorem own : ownKnob Try.prog.godebug = none := by kernel_rfl
theorem laidOut : laidOutB Try.prog = true := by kernel_rfl
theorem tys : tysOf Try.prog Try.f4.params.toList = some [] := by kernel_rfl
theorem argsAre  (u : HL []) : argSVs Try.prog Try.f4.params.toList [] u = instL [] [] := by kernel_rfl
set_option maxRecDepth 100000 in
theorem lifted (os : Os) (started : os.Started) (H : Type) (enc : TypeId × Value → H) :
    ReturnsInHanded {} Try.checked os 4 .any (Rows.switchoverKnownSpec.pre6 enc Try.prog Try.f4 Rows.switchoverKnownRow.domain false) (Rows.switchoverKnownSpec.post enc Try.prog Try.f4 false true false false) := by
  refine returnsInHanded_of_change (C := Try.checked) own started (by kernel_rfl) Try.func4
    (ChangeSpec.witness6 (enc := enc) (C := Try.checked) false ⟨#[], #[], []⟩ 8 (by kernel_rfl) (by kernel_rfl) (by kernel_rfl) (by kernel_rfl)) ?_
  intro W base args ds gs before hval0 hW hcnd _
  have hW' := hW
  obtain ⟨p, q, hA, hV, rfl, hfz, hnd⟩ := hW
  obtain ⟨rfl, rfl⟩ := trodVars_none hV
  obtain ⟨u, hwf, hrel⟩ := args_rel (r := R0) _ _ _ _ _ tys hA (fun j t v a b => hval0 j t v (by simp at a) (by simp at a))
  have hrel' : LRel R0 (snapOf W) (instL [] []) args := by
    have := hrel
    rw [argsAre] at this
    exact this
  have hlen : ds.length = 0 := (trodAll_len hA).trans (by kernel_rfl)
  obtain rfl : ds = [] := List.eq_nil_of_length_eq_zero hlen
  refine (W4_law _ W4_true hrel').mono fun e W' ⟨he, bel⟩ => ?_
  subst he
  exact ⟨_, rfl, _, _, _, [], _, [], hW', trodAll_mk1 (shut_bool Try.underlying4 _), trodAll_below laidOut bel _ _ _ _ (by kernel_rfl) hA, rfl, bel.frame _, fun h => by cases h⟩
theorem over : Rows.switchoverKnownRow.holds Try.pinned (OpenSpec.ofChange Rows.switchoverKnownSpec) :=
  OpenClaim.holds_of_wide 4 Try.f4 rfl rfl rfl rfl rfl rfl rfl ⟨rfl, rfl, rfl, rfl, rfl⟩ rfl rfl rfl rfl rfl (by kernel_rfl) Try.func4 (by kernel_rfl)
    (of_decide_eq_true (by kernel_rfl)) (by unfold Func.isWrapper; first | (rw [if_pos (by decide +kernel)]; kernel_rfl) | (rw [if_neg (by decide +kernel)]; exact ⟨rfl, rfl⟩))
    (fun os started H enc _ => lifted os started H enc)
theorem proved : Rows.SwitchoverKnownSaid := over
end Go.Proofs.Ytgepnailecclkaa.switchoverKnown
