import Derived.Test.YtcoamiaifbjofaaVxIm
import Derived.Test.YtcoamiaifbjofaaVxLk
import Derived.Test.YtcoamiaifbjofaaVxLaw
import Derived.Test.YtcoamiaifbjofaaX20a
import Derived.KernelRfl
namespace Go.Proofs.Ytcoamiaifbjofaa.Vx
open Go Go.RowKit
set_option linter.unusedVariables false
set_option linter.unusedSimpArgs false
set_option maxRecDepth 100000
set_option maxHeartbeats 0

def rzV (h : Nat) : PV := .agg [.int .i64 h, .int .i64 (h+1), .int .u64 (h+2), .int .u32 (h+3), .int .u32 (h+4), .imm TCmd (h+5)]
noncomputable def ev_W5 (env : List Dat) : Tree Bool := Lk.lawB false LK cs_w 5 ls0 (instL [.int .i64 0, rzV 1] env)

theorem W5_law (env : List Dat) (h : (ev_W5 env).sel = some true) {w : World} {args : Array Value} (ha : LRel R0 (snapOf w) (instL [.int .i64 0, rzV 1] env) args) :
    Calls Try.prog 5 args w fun e w' => e = .returned (.bool true) ∧ Below w.heap.size w w' :=
  lawB_ok cs_w_ok hmix false (ls := ls0) (LsOk.none _ _ _) (by rw [← lawB_lk]; exact h) ha

noncomputable def fn_W5_t : List Dat → Tree Bool
  | [.n n0, .n n1, .n n2, .n n3, .n n4, .n n5, .l (Ty.pair (Ty.int IntKind.u8) (Ty.int IntKind.i64)) l6] =>
    (.node (n0 == (0 : Int))
     (.leaf (true))
     (.node (decide (n0 < (0 : Int)))
      (.node ((n0 == (1 : Int)) == false)
       (.leaf (true))
       (.leaf (false)))
      (.node (decide (n0 > (1 : Int)))
       (.node ((n0 == (1 : Int)) == false)
        (.leaf (true))
        (.leaf (false)))
       (.node ((n0 == (1 : Int)) == true)
        (.leaf (true))
        (.leaf (false))))))
  | _ => .bad 0
theorem fn_W5_t_im (n0 : Int) (n1 : Int) (n2 : Int) (n3 : Int) (n4 : Int) (n5 : Int) (l6 : List (Ty.den (Ty.pair (Ty.int IntKind.u8) (Ty.int IntKind.i64)))) : Imp (fn_W5_t [.n n0, .n n1, .n n2, .n n3, .n n4, .n n5, .l (Ty.pair (Ty.int IntKind.u8) (Ty.int IntKind.i64)) l6]) (ev_W5 [.n n0, .n n1, .n n2, .n n3, .n n4, .n n5, .l TCmd l6]) :=
(.path [1,1,1,1,1,1,1,1,1,1,1,1] (by kernel_rfl)
(.node (by kernel_rfl) (by kernel_rfl) (fun h0 =>
(.path [1,1] (by kernel_rfl)
(.pf (c := (decide (n0 < (0 : Int)))) (by kernel_rfl) (by kernel_rfl) (by (simp only [w64d, decide_eq_true_eq, decide_eq_false_iff_not, beq_iff_eq, beq_eq_false_iff_ne, bne_iff_ne, ne_eq, inR, Bool.and_eq_true, Bool.and_eq_false_iff, Bool.not_eq_true', Bool.not_eq_false', Bool.not_eq_eq_eq_not, Bool.not_true, Bool.not_false] at *; omega))
(.pf (c := (decide (n0 > (1 : Int)))) (by kernel_rfl) (by kernel_rfl) (by (simp only [w64d, decide_eq_true_eq, decide_eq_false_iff_not, beq_iff_eq, beq_eq_false_iff_ne, bne_iff_ne, ne_eq, inR, Bool.and_eq_true, Bool.and_eq_false_iff, Bool.not_eq_true', Bool.not_eq_false', Bool.not_eq_eq_eq_not, Bool.not_true, Bool.not_false] at *; omega))
(.path [1,1,1,1,1,1,1,1,1,1,1,1,1,1,1,1,1,1] (by kernel_rfl)
(.leaf (by kernel_rfl))))))) (fun h0 =>
(.path [1] (by kernel_rfl)
(.node (by kernel_rfl) (by kernel_rfl) (fun h1 =>
(.path [1,1,1] (by kernel_rfl)
(.node (by kernel_rfl) (by kernel_rfl) (fun h2 =>
(.path [1,1,1,1,1,1,1,1,1,1,1,1,1,1,1,1] (by kernel_rfl)
(.leaf (by kernel_rfl)))) (fun h2 =>
(.path [0,0,0,0,0,0,0,0,0,0,0,0,0,0,0] (by kernel_rfl)
(.leaf (by kernel_rfl))))))) (fun h1 =>
(.node (by kernel_rfl) (by kernel_rfl) (fun h2 =>
(.path [1] (by kernel_rfl)
(.node (by kernel_rfl) (by kernel_rfl) (fun h3 =>
(.path [1,1,1,1,1,1,1,1,1,1,1,1,1,1,1,1] (by kernel_rfl)
(.leaf (by kernel_rfl)))) (fun h3 =>
(.path [0,0,0,0,0,0,0,0,0,0,0,0,0,0,0] (by kernel_rfl)
(.leaf (by kernel_rfl))))))) (fun h2 =>
(.path [1] (by kernel_rfl)
(.node (by kernel_rfl) (by kernel_rfl) (fun h3 =>
(.path [1,1,1,1,1,1,1,1,1,1,1,1,1,1,1,1] (by kernel_rfl)
(.leaf (by kernel_rfl)))) (fun h3 =>
(.path [0,0,0,0,0,0,0,0,0,0,0,0,0,0,0] (by kernel_rfl)
(.leaf (by kernel_rfl))))))))))))))
end Go.Proofs.Ytcoamiaifbjofaa.Vx
namespace Go.Proofs.Ytcoamiaifbjofaa.Vx
open Go Go.RowKit
set_option linter.unusedVariables false
set_option linter.unusedSimpArgs false
set_option maxRecDepth 100000
set_option maxHeartbeats 0

abbrev TIn : Ty := .pair (.int .u64) (.pair (.int .u32) (.pair (.int .u32) (.sl TCmd)))
abbrev TRd : Ty := .pair (.int .i64) (.pair (.int .i64) TIn)
abbrev TWay : Ty := .pair (.int .i64) (.pair (.int .i64) (.pair (.int .i64) TIn))
def sB (h : Nat) (o t l : PV) : PB := .cells [.int .i64 h, .int .i64 (h+1), o, t, l, .bool (h+2)]
def rdB (h b : Nat) : PB := .cells [.int .i64 h, .int .i64 (h+1), .int .u64 (h+2), .int .u32 (h+3), .int .u32 (h+4), .own b]
abbrev wy (k a n o p q : Int) (l : List (Ty.den TCmd)) : Ty.den TWay := (k, a, n, o, p, q, l)
abbrev rd (c n o p q : Int) (l : List (Ty.den TCmd)) : Ty.den TRd := (c, n, o, p, q, l)
abbrev mI (o p q : Int) (l : List (Ty.den TCmd)) : Ty.den TIn := (o, p, q, l)
abbrev c12 : List (Ty.den TCmd) := [((1 : Int), (2 : Int))]
abbrev ways : List (Ty.den TWay) := [wy 0 0 1 1 0 0 c12, wy 0 1 1 2 3 0 c12, wy 1 0 1 0 0 0 [], wy 1 1 0 0 0 0 [], wy 3 0 0 0 0 0 [], wy 0 1 2 0 0 0 [], wy 1 0 2 0 0 0 [], wy 0 0 2 2 3 0 c12, wy 1 1 3 0 0 0 [], wy 1 0 1 0 0 0 []]
abbrev z60 : List (Ty.den TIn) := List.replicate 60 (mI 0 0 0 [])
abbrev f60 : List (Ty.den .bool) := List.replicate 60 false
noncomputable def st_L4_8 (env : List Dat) : Tree Step := Lk.stepMC false LK cs_w 4 8 ls0 (mkM 0 [] [(sh 179 [(0, .imm TWay 0), (3, .own 0), (4, .own 1), (5, .own 2), (6, .own 3), (7, .int .i64 1)], [.vec [.ptr 4 0, .ptr 5 0], .arr TRd 2, .arr TIn 3, .arr .bool 4, sB 5 .nilptr .nilptr .nilptr, sB 8 .nilptr .nilptr .nilptr]), (sh 179 [(0, .imm TWay 0), (3, .own 0), (4, .own 1), (5, .own 2), (6, .own 3), (7, .int .i64 1)], [.vec [.ptr 4 0, .ptr 5 0], .arr TRd 2, .arr TIn 3, .arr .bool 4, sB 5 (.ptr 6 0) .nilptr .nilptr, sB 8 .nilptr .nilptr .nilptr, rdB 11 7, .arr TCmd 16]), (sh 179 [(0, .imm TWay 0), (3, .own 0), (4, .own 1), (5, .own 2), (6, .own 3), (7, .int .i64 1)], [.vec [.ptr 4 0, .ptr 5 0], .arr TRd 2, .arr TIn 3, .arr .bool 4, sB 5 (.ptr 6 0) .nilptr .nilptr, sB 8 (.ptr 7 0) .nilptr .nilptr, rdB 11 8, rdB 16 9, .arr TCmd 21, .arr TCmd 22]), (sh 179 [(0, .imm TWay 0), (3, .own 0), (4, .own 1), (5, .own 2), (6, .own 3), (7, .int .i64 1)], [.vec [.ptr 4 0, .ptr 5 0], .arr TRd 2, .arr TIn 3, .arr .bool 4, sB 5 (.ptr 6 0) (.ptr 7 0) .nilptr, sB 8 (.ptr 8 0) .nilptr .nilptr, rdB 11 9, rdB 16 10, rdB 21 11, .arr TCmd 26, .arr TCmd 27, .arr TCmd 28]), (sh 179 [(0, .imm TWay 0), (3, .own 0), (4, .own 1), (5, .own 2), (6, .own 3), (7, .int .i64 1)], [.vec [.ptr 4 0, .ptr 5 0], .arr TRd 2, .arr TIn 3, .arr .bool 4, sB 5 (.ptr 6 0) (.ptr 7 0) .nilptr, sB 8 (.ptr 8 0) (.ptr 9 0) .nilptr, rdB 11 10, rdB 16 11, rdB 21 12, rdB 26 13, .arr TCmd 31, .arr TCmd 32, .arr TCmd 33, .arr TCmd 34]), (sh 179 [(0, .imm TWay 0), (3, .own 0), (4, .own 1), (5, .own 2), (6, .own 3), (7, .int .i64 1)], [.vec [.ptr 4 0, .ptr 5 0], .arr TRd 2, .arr TIn 3, .arr .bool 4, sB 5 (.ptr 6 0) (.ptr 7 0) (.ptr 8 0), sB 8 (.ptr 9 0) .nilptr .nilptr, rdB 11 10, rdB 16 11, rdB 21 12, rdB 26 13, .arr TCmd 31, .arr TCmd 32, .arr TCmd 33, .arr TCmd 34])] [(4, TRd)] [(.exit 0, sh 179 [], []), (.ret, sh 179 [(2, .bool 0)], [])] fun _ => none) env
theorem op_L4_8_ex : ∃ f : List Dat → Option (Nat × List Dat), ∀ env, f env = iterS st_L4_8 FU env := ⟨iterS st_L4_8 FU, fun _ => rfl⟩
noncomputable def op_L4_8 : List Dat → Option (Nat × List Dat) := Classical.choose op_L4_8_ex
theorem op_L4_8_eq (env : List Dat) : op_L4_8 env = iterS st_L4_8 FU env := Classical.choose_spec op_L4_8_ex env
noncomputable def L4_8 : MBox := mkM 0 [] [(sh 179 [(0, .imm TWay 0), (3, .own 0), (4, .own 1), (5, .own 2), (6, .own 3), (7, .int .i64 1)], [.vec [.ptr 4 0, .ptr 5 0], .arr TRd 2, .arr TIn 3, .arr .bool 4, sB 5 .nilptr .nilptr .nilptr, sB 8 .nilptr .nilptr .nilptr]), (sh 179 [(0, .imm TWay 0), (3, .own 0), (4, .own 1), (5, .own 2), (6, .own 3), (7, .int .i64 1)], [.vec [.ptr 4 0, .ptr 5 0], .arr TRd 2, .arr TIn 3, .arr .bool 4, sB 5 (.ptr 6 0) .nilptr .nilptr, sB 8 .nilptr .nilptr .nilptr, rdB 11 7, .arr TCmd 16]), (sh 179 [(0, .imm TWay 0), (3, .own 0), (4, .own 1), (5, .own 2), (6, .own 3), (7, .int .i64 1)], [.vec [.ptr 4 0, .ptr 5 0], .arr TRd 2, .arr TIn 3, .arr .bool 4, sB 5 (.ptr 6 0) .nilptr .nilptr, sB 8 (.ptr 7 0) .nilptr .nilptr, rdB 11 8, rdB 16 9, .arr TCmd 21, .arr TCmd 22]), (sh 179 [(0, .imm TWay 0), (3, .own 0), (4, .own 1), (5, .own 2), (6, .own 3), (7, .int .i64 1)], [.vec [.ptr 4 0, .ptr 5 0], .arr TRd 2, .arr TIn 3, .arr .bool 4, sB 5 (.ptr 6 0) (.ptr 7 0) .nilptr, sB 8 (.ptr 8 0) .nilptr .nilptr, rdB 11 9, rdB 16 10, rdB 21 11, .arr TCmd 26, .arr TCmd 27, .arr TCmd 28]), (sh 179 [(0, .imm TWay 0), (3, .own 0), (4, .own 1), (5, .own 2), (6, .own 3), (7, .int .i64 1)], [.vec [.ptr 4 0, .ptr 5 0], .arr TRd 2, .arr TIn 3, .arr .bool 4, sB 5 (.ptr 6 0) (.ptr 7 0) .nilptr, sB 8 (.ptr 8 0) (.ptr 9 0) .nilptr, rdB 11 10, rdB 16 11, rdB 21 12, rdB 26 13, .arr TCmd 31, .arr TCmd 32, .arr TCmd 33, .arr TCmd 34]), (sh 179 [(0, .imm TWay 0), (3, .own 0), (4, .own 1), (5, .own 2), (6, .own 3), (7, .int .i64 1)], [.vec [.ptr 4 0, .ptr 5 0], .arr TRd 2, .arr TIn 3, .arr .bool 4, sB 5 (.ptr 6 0) (.ptr 7 0) (.ptr 8 0), sB 8 (.ptr 9 0) .nilptr .nilptr, rdB 11 10, rdB 16 11, rdB 21 12, rdB 26 13, .arr TCmd 31, .arr TCmd 32, .arr TCmd 33, .arr TCmd 34])] [(4, TRd)] [(.exit 0, sh 179 [], []), (.ret, sh 179 [(2, .bool 0)], [])] op_L4_8
theorem L4_8_eqs : L4_8 = mkM 0 [] [(sh 179 [(0, .imm TWay 0), (3, .own 0), (4, .own 1), (5, .own 2), (6, .own 3), (7, .int .i64 1)], [.vec [.ptr 4 0, .ptr 5 0], .arr TRd 2, .arr TIn 3, .arr .bool 4, sB 5 .nilptr .nilptr .nilptr, sB 8 .nilptr .nilptr .nilptr]), (sh 179 [(0, .imm TWay 0), (3, .own 0), (4, .own 1), (5, .own 2), (6, .own 3), (7, .int .i64 1)], [.vec [.ptr 4 0, .ptr 5 0], .arr TRd 2, .arr TIn 3, .arr .bool 4, sB 5 (.ptr 6 0) .nilptr .nilptr, sB 8 .nilptr .nilptr .nilptr, rdB 11 7, .arr TCmd 16]), (sh 179 [(0, .imm TWay 0), (3, .own 0), (4, .own 1), (5, .own 2), (6, .own 3), (7, .int .i64 1)], [.vec [.ptr 4 0, .ptr 5 0], .arr TRd 2, .arr TIn 3, .arr .bool 4, sB 5 (.ptr 6 0) .nilptr .nilptr, sB 8 (.ptr 7 0) .nilptr .nilptr, rdB 11 8, rdB 16 9, .arr TCmd 21, .arr TCmd 22]), (sh 179 [(0, .imm TWay 0), (3, .own 0), (4, .own 1), (5, .own 2), (6, .own 3), (7, .int .i64 1)], [.vec [.ptr 4 0, .ptr 5 0], .arr TRd 2, .arr TIn 3, .arr .bool 4, sB 5 (.ptr 6 0) (.ptr 7 0) .nilptr, sB 8 (.ptr 8 0) .nilptr .nilptr, rdB 11 9, rdB 16 10, rdB 21 11, .arr TCmd 26, .arr TCmd 27, .arr TCmd 28]), (sh 179 [(0, .imm TWay 0), (3, .own 0), (4, .own 1), (5, .own 2), (6, .own 3), (7, .int .i64 1)], [.vec [.ptr 4 0, .ptr 5 0], .arr TRd 2, .arr TIn 3, .arr .bool 4, sB 5 (.ptr 6 0) (.ptr 7 0) .nilptr, sB 8 (.ptr 8 0) (.ptr 9 0) .nilptr, rdB 11 10, rdB 16 11, rdB 21 12, rdB 26 13, .arr TCmd 31, .arr TCmd 32, .arr TCmd 33, .arr TCmd 34]), (sh 179 [(0, .imm TWay 0), (3, .own 0), (4, .own 1), (5, .own 2), (6, .own 3), (7, .int .i64 1)], [.vec [.ptr 4 0, .ptr 5 0], .arr TRd 2, .arr TIn 3, .arr .bool 4, sB 5 (.ptr 6 0) (.ptr 7 0) (.ptr 8 0), sB 8 (.ptr 9 0) .nilptr .nilptr, rdB 11 10, rdB 16 11, rdB 21 12, rdB 26 13, .arr TCmd 31, .arr TCmd 32, .arr TCmd 33, .arr TCmd 34])] [(4, TRd)] [(.exit 0, sh 179 [], []), (.ret, sh 179 [(2, .bool 0)], [])] (iterS st_L4_8 FU) := congrArg (fun f => mkM 0 [] [(sh 179 [(0, .imm TWay 0), (3, .own 0), (4, .own 1), (5, .own 2), (6, .own 3), (7, .int .i64 1)], [.vec [.ptr 4 0, .ptr 5 0], .arr TRd 2, .arr TIn 3, .arr .bool 4, sB 5 .nilptr .nilptr .nilptr, sB 8 .nilptr .nilptr .nilptr]), (sh 179 [(0, .imm TWay 0), (3, .own 0), (4, .own 1), (5, .own 2), (6, .own 3), (7, .int .i64 1)], [.vec [.ptr 4 0, .ptr 5 0], .arr TRd 2, .arr TIn 3, .arr .bool 4, sB 5 (.ptr 6 0) .nilptr .nilptr, sB 8 .nilptr .nilptr .nilptr, rdB 11 7, .arr TCmd 16]), (sh 179 [(0, .imm TWay 0), (3, .own 0), (4, .own 1), (5, .own 2), (6, .own 3), (7, .int .i64 1)], [.vec [.ptr 4 0, .ptr 5 0], .arr TRd 2, .arr TIn 3, .arr .bool 4, sB 5 (.ptr 6 0) .nilptr .nilptr, sB 8 (.ptr 7 0) .nilptr .nilptr, rdB 11 8, rdB 16 9, .arr TCmd 21, .arr TCmd 22]), (sh 179 [(0, .imm TWay 0), (3, .own 0), (4, .own 1), (5, .own 2), (6, .own 3), (7, .int .i64 1)], [.vec [.ptr 4 0, .ptr 5 0], .arr TRd 2, .arr TIn 3, .arr .bool 4, sB 5 (.ptr 6 0) (.ptr 7 0) .nilptr, sB 8 (.ptr 8 0) .nilptr .nilptr, rdB 11 9, rdB 16 10, rdB 21 11, .arr TCmd 26, .arr TCmd 27, .arr TCmd 28]), (sh 179 [(0, .imm TWay 0), (3, .own 0), (4, .own 1), (5, .own 2), (6, .own 3), (7, .int .i64 1)], [.vec [.ptr 4 0, .ptr 5 0], .arr TRd 2, .arr TIn 3, .arr .bool 4, sB 5 (.ptr 6 0) (.ptr 7 0) .nilptr, sB 8 (.ptr 8 0) (.ptr 9 0) .nilptr, rdB 11 10, rdB 16 11, rdB 21 12, rdB 26 13, .arr TCmd 31, .arr TCmd 32, .arr TCmd 33, .arr TCmd 34]), (sh 179 [(0, .imm TWay 0), (3, .own 0), (4, .own 1), (5, .own 2), (6, .own 3), (7, .int .i64 1)], [.vec [.ptr 4 0, .ptr 5 0], .arr TRd 2, .arr TIn 3, .arr .bool 4, sB 5 (.ptr 6 0) (.ptr 7 0) (.ptr 8 0), sB 8 (.ptr 9 0) .nilptr .nilptr, rdB 11 10, rdB 16 11, rdB 21 12, rdB 26 13, .arr TCmd 31, .arr TCmd 32, .arr TCmd 33, .arr TCmd 34])] [(4, TRd)] [(.exit 0, sh 179 [], []), (.ret, sh 179 [(2, .bool 0)], [])] f) (funext op_L4_8_eq)
theorem L4_8_run : ∀ t s x, (manyRun L4_8 t s).sel = some x → CodeOk Try.prog 0 (.loop (cAt Try.prog 4 8)) t s x := by
  rw [L4_8_eqs]
  exact mkM_ok (st := st_L4_8) (m := FU) cs_w_ok hmix false (LsOk.none _ _ _) (by kernel_rfl) (fun env y h => by rw [← stepMC_lk]; exact h)
theorem op_L4_8_good {p : Nat × List Dat → Prop} (Inv : List Dat → Prop) (μ : List Dat → Nat) (h : ∀ env, Inv env → Good (fun y => match y with | .go e => Inv e ∧ μ e < μ env | .stop k d => p (k, d)) (st_L4_8 env).sel) (env : List Dat) (hi : Inv env) (hm : μ env < FU) : Good p (op_L4_8 env) := by
  rw [op_L4_8_eq]
  exact iterS_good Inv μ p h FU env hi hm

noncomputable def fn_L4_8_t0 : List Dat → Tree Step
  | [] =>
    (.leaf (Step.go [.k 1, .l TWay ways, .n (1 : Int), .l TRd [((0 : Int), (1 : Int), (1 : Int), (0 : Int), (0 : Int), gl TCmd (dOf (op_62 [.l TCmd (gl TCmd (dOf (op_62 [.l TCmd c12])) 0)])) 0)], .l TIn z60, .l Ty.bool f60, .n (0 : Int), .n (1 : Int), .b false, .n (1 : Int), .n (0 : Int), .b false, .n (0 : Int), .n (1 : Int), .n (1 : Int), .n (0 : Int), .n (0 : Int), .l TCmd (gl TCmd (dOf (op_62 [.l TCmd c12])) 0)]))
  | _ => .bad 0
theorem fn_L4_8_t0_im  : Imp (fn_L4_8_t0 []) (st_L4_8 [.k 0, .l TWay ways, .n 0, .l TRd [], .l TIn z60, .l .bool f60, .n 0, .n 0, .b false, .n 1, .n 0, .b false]) :=
(.path (1 ::1 ::1 ::0 ::1 ::1 ::0 ::1 ::1 ::1 ::1 ::1 ::1 ::0 ::1 ::1 ::1 ::1 ::1 ::1 ::0 ::1 ::1 ::1 ::1 ::1 ::0 ::0 ::1 ::1 ::1 ::1 ::1 ::0 ::0 ::0 ::1 ::1 ::1 ::1 ::1 ::1 ::1 ::1 ::1 ::0 ::0 ::1 ::1 ::1 ::1 ::1 ::1 :: []) (by kernel_rfl)
(.leaf (by kernel_rfl)))

noncomputable def fn_L4_8_t1 : List Dat → Tree Step
  | [] =>
    (.leaf (Step.go [.k 2, .l TWay ways, .n (2 : Int), .l TRd [((0 : Int), (1 : Int), (1 : Int), (0 : Int), (0 : Int), c12), ((1 : Int), (1 : Int), (2 : Int), (3 : Int), (0 : Int), gl TCmd (dOf (op_62 [.l TCmd (gl TCmd (dOf (op_62 [.l TCmd c12])) 0)])) 0)], .l TIn z60, .l Ty.bool f60, .n (0 : Int), .n (1 : Int), .b false, .n (1 : Int), .n (1 : Int), .b false, .n (0 : Int), .n (1 : Int), .n (1 : Int), .n (0 : Int), .n (0 : Int), .n (1 : Int), .n (1 : Int), .n (2 : Int), .n (3 : Int), .n (0 : Int), .l TCmd c12, .l TCmd (gl TCmd (dOf (op_62 [.l TCmd c12])) 0)]))
  | _ => .bad 0
theorem fn_L4_8_t1_im  : Imp (fn_L4_8_t1 []) (st_L4_8 [.k 1, .l TWay ways, .n (1 : Int), .l TRd [((0 : Int), (1 : Int), (1 : Int), (0 : Int), (0 : Int), (c12))], .l TIn z60, .l Ty.bool f60, .n (0 : Int), .n (1 : Int), .b false, .n (1 : Int), .n (0 : Int), .b false, .n (0 : Int), .n (1 : Int), .n (1 : Int), .n (0 : Int), .n (0 : Int), .l TCmd (c12)]) :=
(.path (1 ::1 ::1 ::0 ::1 ::1 ::0 ::1 ::1 ::1 ::0 ::1 ::1 ::1 ::0 ::1 ::1 ::1 ::1 ::1 ::1 ::0 ::1 ::1 ::1 ::1 ::1 ::0 ::0 ::1 ::1 ::1 ::1 ::1 ::0 ::0 ::0 ::1 ::1 ::1 ::1 ::1 ::1 ::1 ::1 ::1 ::0 ::0 ::1 ::1 ::1 ::1 ::1 ::1 :: []) (by kernel_rfl)
(.leaf (by kernel_rfl)))

noncomputable def fn_L4_8_t2 : List Dat → Tree Step
  | [] =>
    (.leaf (Step.go [.k 3, .l TWay ways, .n (3 : Int), .l TRd [((0 : Int), (1 : Int), (1 : Int), (0 : Int), (0 : Int), c12), ((1 : Int), (1 : Int), (2 : Int), (3 : Int), (0 : Int), c12)], .l TIn (List.set z60 1 ((3 : Int), (0 : Int), (0 : Int), gl TCmd (dOf (op_62 [.l TCmd c12])) 0)), .l Ty.bool (List.set f60 1 true), .n (0 : Int), .n (1 : Int), .b false, .n (1 : Int), .n (1 : Int), .b false, .n (0 : Int), .n (1 : Int), .n (1 : Int), .n (0 : Int), .n (0 : Int), .n (1 : Int), .n (1 : Int), .n (2 : Int), .n (3 : Int), .n (0 : Int), .n (1 : Int), .n (1 : Int), .n (2 : Int), .n (3 : Int), .n (0 : Int), .l TCmd c12, .l TCmd (gl TCmd (dOf (op_62 [.l TCmd c12])) 0), .l TCmd c12]))
  | _ => .bad 0
theorem fn_L4_8_t2_im  : Imp (fn_L4_8_t2 []) (st_L4_8 [.k 2, .l TWay ways, .n (2 : Int), .l TRd [((0 : Int), (1 : Int), (1 : Int), (0 : Int), (0 : Int), c12), ((1 : Int), (1 : Int), (2 : Int), (3 : Int), (0 : Int), (c12))], .l TIn z60, .l Ty.bool f60, .n (0 : Int), .n (1 : Int), .b false, .n (1 : Int), .n (1 : Int), .b false, .n (0 : Int), .n (1 : Int), .n (1 : Int), .n (0 : Int), .n (0 : Int), .n (1 : Int), .n (1 : Int), .n (2 : Int), .n (3 : Int), .n (0 : Int), .l TCmd c12, .l TCmd (c12)]) :=
(.path (1 ::1 ::1 ::0 ::1 ::1 ::0 ::1 ::1 ::1 ::1 ::1 ::1 ::0 ::1 ::1 ::1 ::0 ::0 ::1 ::1 ::1 ::0 ::1 ::1 ::1 ::1 ::1 ::1 ::1 ::1 ::0 ::0 ::1 ::0 ::1 ::0 ::1 ::1 ::1 ::1 ::1 ::0 ::1 ::1 ::1 ::0 ::0 ::0 ::0 ::1 ::1 ::0 ::1 ::1 ::1 ::1 ::0 ::0 ::1 ::1 ::1 ::1 ::1 ::1 ::1 ::0 ::1 ::0 ::1 ::0 ::0 ::1 ::0 ::1 ::1 ::1 ::1 ::1 ::1 ::1 ::1 ::0 ::0 ::0 ::0 ::0 ::0 ::1 ::0 ::1 ::1 ::1 ::1 ::1 ::1 ::1 ::1 ::1 ::1 ::0 ::1 ::1 ::1 ::1 ::0 ::0 ::1 ::1 ::1 ::1 ::1 ::1 ::1 ::1 ::1 ::0 ::1 ::1 ::1 ::1 ::0 ::0 ::1 ::1 ::1 ::1 ::1 ::1 ::0 ::0 ::1 ::1 ::1 ::1 ::1 ::0 ::0 ::1 ::0 ::1 :: []) (by kernel_rfl)
(.leaf (by kernel_rfl)))

noncomputable def fn_L4_8_t3 : List Dat → Tree Step
  | [] =>
    (.leaf (Step.go (.k 4 :: .l TWay ways :: .n (4 : Int) :: .l TRd [((0 : Int), (1 : Int), (1 : Int), (0 : Int), (0 : Int), c12), ((1 : Int), (1 : Int), (2 : Int), (3 : Int), (0 : Int), c12)] :: .l TIn (List.set (List.set z60 1 ((3 : Int), (0 : Int), (0 : Int), c12)) 31 ((3 : Int), (0 : Int), (0 : Int), gl TCmd (dOf (op_62 [.l TCmd c12])) 0)) :: .l Ty.bool (List.set (List.set f60 1 true) 31 true) :: .n (0 : Int) :: .n (1 : Int) :: .b false :: .n (1 : Int) :: .n (1 : Int) :: .b false :: .n (0 : Int) :: .n (1 : Int) :: .n (1 : Int) :: .n (0 : Int) :: .n (0 : Int) :: .n (1 : Int) :: .n (1 : Int) :: .n (2 : Int) :: .n (3 : Int) :: .n (0 : Int) :: .n (1 : Int) :: .n (1 : Int) :: .n (2 : Int) :: .n (3 : Int) :: .n (0 : Int) :: .n (0 : Int) :: .n (1 : Int) :: .n (1 : Int) :: .n (0 : Int) :: .n (0 : Int) :: .l TCmd c12 :: .l TCmd c12 :: .l TCmd c12 :: .l TCmd (gl TCmd (dOf (op_62 [.l TCmd c12])) 0) :: [])))
  | _ => .bad 0
theorem fn_L4_8_t3_im  : Imp (fn_L4_8_t3 []) (st_L4_8 [.k 3, .l TWay ways, .n (3 : Int), .l TRd [((0 : Int), (1 : Int), (1 : Int), (0 : Int), (0 : Int), c12), ((1 : Int), (1 : Int), (2 : Int), (3 : Int), (0 : Int), c12)], .l TIn (List.set z60 1 ((3 : Int), (0 : Int), (0 : Int), c12)), .l Ty.bool (List.set f60 1 true), .n (0 : Int), .n (1 : Int), .b false, .n (1 : Int), .n (1 : Int), .b false, .n (0 : Int), .n (1 : Int), .n (1 : Int), .n (0 : Int), .n (0 : Int), .n (1 : Int), .n (1 : Int), .n (2 : Int), .n (3 : Int), .n (0 : Int), .n (1 : Int), .n (1 : Int), .n (2 : Int), .n (3 : Int), .n (0 : Int), .l TCmd c12, .l TCmd (c12), .l TCmd c12]) :=
(.path (1 ::1 ::1 ::0 ::1 ::1 ::0 ::1 ::1 ::1 ::0 ::1 ::1 ::1 ::0 ::1 ::1 ::1 ::0 ::0 ::1 ::1 ::1 ::0 ::1 ::1 ::1 ::1 ::1 ::1 ::1 ::1 ::0 ::0 ::1 ::0 ::1 ::0 ::1 ::1 ::1 ::1 ::1 ::0 ::1 ::1 ::1 ::0 ::0 ::0 ::0 ::1 ::1 ::0 ::1 ::1 ::1 ::1 ::0 ::0 ::1 ::1 ::1 ::1 ::1 ::1 ::1 ::0 ::1 ::0 ::1 ::0 ::0 ::1 ::0 ::1 ::1 ::1 ::1 ::1 ::1 ::1 ::1 ::0 ::0 ::0 ::0 ::0 ::0 ::1 ::0 ::1 ::1 ::1 ::1 ::1 ::1 ::1 ::1 ::1 ::1 ::0 ::1 ::1 ::1 ::1 ::0 ::0 ::1 ::1 ::1 ::1 ::1 ::1 ::1 ::1 ::1 ::0 ::1 ::1 ::1 ::1 ::0 ::0 ::1 ::1 ::1 ::1 ::1 ::1 ::0 ::1 ::1 ::1 ::1 ::1 ::1 ::1 ::1 ::1 ::1 ::1 ::1 ::1 ::1 ::0 ::1 ::1 ::1 ::1 ::0 ::0 ::1 ::1 ::1 ::0 ::1 :: []) (by kernel_rfl)
(.leaf (by kernel_rfl)))

noncomputable def fn_L4_8_t4 : List Dat → Tree Step
  | [] =>
    (.leaf (Step.go (.k 4 :: .l TWay ways :: .n (5 : Int) :: .l TRd [((0 : Int), (1 : Int), (1 : Int), (0 : Int), (0 : Int), c12), ((1 : Int), (1 : Int), (2 : Int), (3 : Int), (0 : Int), c12)] :: .l TIn (List.set (List.set (List.set z60 1 ((3 : Int), (0 : Int), (0 : Int), c12)) 31 ((3 : Int), (0 : Int), (0 : Int), c12)) 1 ((3 : Int), (0 : Int), (0 : Int), gl TCmd (dOf (op_62 [.l TCmd c12])) 0)) :: .l Ty.bool (List.set (List.set (List.set f60 1 true) 31 true) 1 true) :: .n (0 : Int) :: .n (1 : Int) :: .b false :: .n (1 : Int) :: .n (1 : Int) :: .b false :: .n (0 : Int) :: .n (1 : Int) :: .n (1 : Int) :: .n (0 : Int) :: .n (0 : Int) :: .n (1 : Int) :: .n (1 : Int) :: .n (2 : Int) :: .n (3 : Int) :: .n (0 : Int) :: .n (1 : Int) :: .n (1 : Int) :: .n (2 : Int) :: .n (3 : Int) :: .n (0 : Int) :: .n (0 : Int) :: .n (1 : Int) :: .n (1 : Int) :: .n (0 : Int) :: .n (0 : Int) :: .l TCmd c12 :: .l TCmd c12 :: .l TCmd c12 :: .l TCmd c12 :: [])))
  | _ => .bad 0
theorem fn_L4_8_t4_im  : Imp (fn_L4_8_t4 []) (st_L4_8 (.k 4 :: .l TWay ways :: .n (4 : Int) :: .l TRd [((0 : Int), (1 : Int), (1 : Int), (0 : Int), (0 : Int), c12), ((1 : Int), (1 : Int), (2 : Int), (3 : Int), (0 : Int), c12)] :: .l TIn (List.set (List.set z60 1 ((3 : Int), (0 : Int), (0 : Int), c12)) 31 ((3 : Int), (0 : Int), (0 : Int), c12)) :: .l Ty.bool (List.set (List.set f60 1 true) 31 true) :: .n (0 : Int) :: .n (1 : Int) :: .b false :: .n (1 : Int) :: .n (1 : Int) :: .b false :: .n (0 : Int) :: .n (1 : Int) :: .n (1 : Int) :: .n (0 : Int) :: .n (0 : Int) :: .n (1 : Int) :: .n (1 : Int) :: .n (2 : Int) :: .n (3 : Int) :: .n (0 : Int) :: .n (1 : Int) :: .n (1 : Int) :: .n (2 : Int) :: .n (3 : Int) :: .n (0 : Int) :: .n (0 : Int) :: .n (1 : Int) :: .n (1 : Int) :: .n (0 : Int) :: .n (0 : Int) :: .l TCmd c12 :: .l TCmd c12 :: .l TCmd c12 :: .l TCmd (c12) :: [])) :=
(.path (1 ::1 ::1 ::0 ::1 ::1 ::0 ::1 ::1 ::1 ::1 ::1 ::1 ::0 ::1 ::1 ::1 ::0 ::1 ::1 ::0 ::1 ::1 ::1 ::1 ::1 ::0 ::1 ::0 ::1 ::1 ::1 ::1 ::1 ::0 ::1 ::0 ::1 ::1 ::1 ::1 ::1 ::0 ::1 ::0 ::0 ::0 ::0 ::1 ::1 ::0 ::1 ::1 ::1 ::1 ::0 ::0 ::1 ::1 ::1 ::1 ::1 ::1 ::1 ::0 ::1 ::0 ::1 ::0 ::0 ::1 ::0 ::1 ::1 ::1 ::1 ::1 ::1 ::1 ::1 ::0 ::0 ::0 ::0 ::0 ::0 ::1 ::0 ::1 ::1 ::1 ::1 ::1 ::1 ::1 ::1 ::1 ::1 ::0 ::1 ::1 ::1 ::1 ::0 ::0 ::1 ::1 ::1 ::1 ::1 ::1 ::1 ::1 ::1 ::0 ::1 ::1 ::1 ::1 ::0 ::0 ::1 ::1 ::1 ::1 ::1 ::1 ::0 ::0 ::1 ::1 ::1 ::1 ::1 ::1 ::1 ::1 ::1 ::1 ::1 ::1 ::1 ::0 ::1 ::1 ::1 ::1 ::0 ::0 ::1 ::1 ::1 ::0 ::1 :: []) (by kernel_rfl)
(.leaf (by kernel_rfl)))

noncomputable def fn_L4_8_t5 : List Dat → Tree Step
  | [] =>
    (.leaf (Step.go [.k 3, .l TWay ways, .n (6 : Int), .l TRd [((0 : Int), (1 : Int), (1 : Int), (0 : Int), (0 : Int), c12), ((1 : Int), (1 : Int), (2 : Int), (3 : Int), (0 : Int), c12), ((1 : Int), (2 : Int), (0 : Int), (0 : Int), (0 : Int), gl TCmd (dOf (op_62 [.l TCmd (gl TCmd (dOf (op_62 [.l TCmd []])) 0)])) 0)], .l TIn (List.set (List.set (List.set z60 1 ((3 : Int), (0 : Int), (0 : Int), c12)) 31 ((3 : Int), (0 : Int), (0 : Int), c12)) 1 ((3 : Int), (0 : Int), (0 : Int), c12)), .l Ty.bool (List.set (List.set (List.set f60 1 true) 31 true) 1 true), .n (0 : Int), .n (1 : Int), .b false, .n (1 : Int), .n (2 : Int), .b false, .n (0 : Int), .n (1 : Int), .n (1 : Int), .n (0 : Int), .n (0 : Int), .n (1 : Int), .n (1 : Int), .n (2 : Int), .n (3 : Int), .n (0 : Int), .n (1 : Int), .n (2 : Int), .n (0 : Int), .n (0 : Int), .n (0 : Int), .l TCmd c12, .l TCmd c12, .l TCmd (gl TCmd (dOf (op_62 [.l TCmd []])) 0)]))
  | _ => .bad 0
theorem fn_L4_8_t5_im  : Imp (fn_L4_8_t5 []) (st_L4_8 (.k 4 :: .l TWay ways :: .n (5 : Int) :: .l TRd [((0 : Int), (1 : Int), (1 : Int), (0 : Int), (0 : Int), c12), ((1 : Int), (1 : Int), (2 : Int), (3 : Int), (0 : Int), c12)] :: .l TIn (List.set (List.set (List.set z60 1 ((3 : Int), (0 : Int), (0 : Int), c12)) 31 ((3 : Int), (0 : Int), (0 : Int), c12)) 1 ((3 : Int), (0 : Int), (0 : Int), c12)) :: .l Ty.bool (List.set (List.set (List.set f60 1 true) 31 true) 1 true) :: .n (0 : Int) :: .n (1 : Int) :: .b false :: .n (1 : Int) :: .n (1 : Int) :: .b false :: .n (0 : Int) :: .n (1 : Int) :: .n (1 : Int) :: .n (0 : Int) :: .n (0 : Int) :: .n (1 : Int) :: .n (1 : Int) :: .n (2 : Int) :: .n (3 : Int) :: .n (0 : Int) :: .n (1 : Int) :: .n (1 : Int) :: .n (2 : Int) :: .n (3 : Int) :: .n (0 : Int) :: .n (0 : Int) :: .n (1 : Int) :: .n (1 : Int) :: .n (0 : Int) :: .n (0 : Int) :: .l TCmd c12 :: .l TCmd c12 :: .l TCmd c12 :: .l TCmd c12 :: [])) :=
(.path (1 ::1 ::1 ::0 ::1 ::1 ::0 ::1 ::1 ::1 ::0 ::1 ::1 ::1 ::0 ::1 ::1 ::1 ::1 ::1 ::1 ::0 ::1 ::1 ::1 ::1 ::1 ::0 ::0 ::1 ::1 ::1 ::1 ::1 ::0 ::0 ::0 ::1 ::1 ::1 ::1 ::1 ::1 ::1 ::1 ::1 ::0 ::0 ::1 ::1 ::1 ::1 ::1 ::1 :: []) (by kernel_rfl)
(.leaf (by kernel_rfl)))

noncomputable def fn_L4_8_t6 : List Dat → Tree Step
  | [] =>
    (.leaf (Step.go (.k 5 :: .l TWay ways :: .n (7 : Int) :: .l TRd [((0 : Int), (1 : Int), (1 : Int), (0 : Int), (0 : Int), c12), ((1 : Int), (1 : Int), (2 : Int), (3 : Int), (0 : Int), c12), ((1 : Int), (2 : Int), (0 : Int), (0 : Int), (0 : Int), [])] :: .l TIn (List.set (List.set (List.set (List.set z60 1 ((3 : Int), (0 : Int), (0 : Int), c12)) 31 ((3 : Int), (0 : Int), (0 : Int), c12)) 1 ((3 : Int), (0 : Int), (0 : Int), c12)) 1 ((3 : Int), (0 : Int), (0 : Int), gl TCmd (dOf (op_62 [.l TCmd c12])) 0)) :: .l Ty.bool (List.set (List.set (List.set (List.set f60 1 true) 31 true) 1 true) 1 true) :: .n (0 : Int) :: .n (1 : Int) :: .b false :: .n (1 : Int) :: .n (2 : Int) :: .b false :: .n (0 : Int) :: .n (1 : Int) :: .n (1 : Int) :: .n (0 : Int) :: .n (0 : Int) :: .n (1 : Int) :: .n (1 : Int) :: .n (2 : Int) :: .n (3 : Int) :: .n (0 : Int) :: .n (1 : Int) :: .n (2 : Int) :: .n (0 : Int) :: .n (0 : Int) :: .n (0 : Int) :: .n (1 : Int) :: .n (2 : Int) :: .n (0 : Int) :: .n (0 : Int) :: .n (0 : Int) :: .l TCmd c12 :: .l TCmd c12 :: .l TCmd (gl TCmd (dOf (op_62 [.l TCmd []])) 0) :: .l TCmd [] :: [])))
  | _ => .bad 0
theorem fn_L4_8_t6_im  : Imp (fn_L4_8_t6 []) (st_L4_8 [.k 3, .l TWay ways, .n (6 : Int), .l TRd [((0 : Int), (1 : Int), (1 : Int), (0 : Int), (0 : Int), c12), ((1 : Int), (1 : Int), (2 : Int), (3 : Int), (0 : Int), c12), ((1 : Int), (2 : Int), (0 : Int), (0 : Int), (0 : Int), ([]))], .l TIn (List.set (List.set (List.set z60 1 ((3 : Int), (0 : Int), (0 : Int), c12)) 31 ((3 : Int), (0 : Int), (0 : Int), c12)) 1 ((3 : Int), (0 : Int), (0 : Int), c12)), .l Ty.bool (List.set (List.set (List.set f60 1 true) 31 true) 1 true), .n (0 : Int), .n (1 : Int), .b false, .n (1 : Int), .n (2 : Int), .b false, .n (0 : Int), .n (1 : Int), .n (1 : Int), .n (0 : Int), .n (0 : Int), .n (1 : Int), .n (1 : Int), .n (2 : Int), .n (3 : Int), .n (0 : Int), .n (1 : Int), .n (2 : Int), .n (0 : Int), .n (0 : Int), .n (0 : Int), .l TCmd c12, .l TCmd c12, .l TCmd ([])]) :=
(.path (1 ::1 ::1 ::0 ::1 ::1 ::0 ::1 ::1 ::1 ::1 ::1 ::1 ::0 ::1 ::1 ::1 ::0 ::0 ::1 ::1 ::1 ::0 ::1 ::1 ::1 ::1 ::1 ::1 ::1 ::1 ::0 ::0 ::1 ::0 ::1 ::0 ::1 ::1 ::1 ::1 ::1 ::1 ::1 ::1 ::1 ::1 ::1 ::1 ::1 ::1 ::0 ::0 ::0 ::0 ::1 ::1 ::0 ::1 ::1 ::1 ::1 ::0 ::0 ::1 ::1 ::1 ::1 ::1 ::1 ::1 ::0 ::1 ::0 ::1 ::0 ::0 ::1 ::0 ::1 ::1 ::1 ::1 ::1 ::1 ::1 ::1 ::0 ::0 ::0 ::0 ::0 ::0 ::1 ::0 ::1 ::1 ::1 ::1 ::1 ::1 ::1 ::1 ::1 ::1 ::0 ::1 ::1 ::1 ::1 ::0 ::0 ::1 ::1 ::1 ::1 ::1 ::1 ::1 ::1 ::1 ::0 ::1 ::1 ::1 ::1 ::0 ::0 ::1 ::1 ::1 ::1 ::1 ::1 ::0 ::0 ::1 ::1 ::1 ::1 ::1 ::1 ::1 ::1 ::1 ::1 ::1 ::1 ::1 ::0 ::1 ::1 ::1 ::1 ::0 ::0 ::1 ::1 ::1 ::0 ::1 :: []) (by kernel_rfl)
(.leaf (by kernel_rfl)))

noncomputable def fn_L4_8_t7 : List Dat → Tree Step
  | [] =>
    (.leaf (Step.go [.k 3, .l TWay ways, .n (8 : Int), .l TRd [((0 : Int), (1 : Int), (1 : Int), (0 : Int), (0 : Int), c12), ((1 : Int), (1 : Int), (2 : Int), (3 : Int), (0 : Int), c12), ((1 : Int), (2 : Int), (0 : Int), (0 : Int), (0 : Int), []), ((0 : Int), (2 : Int), (2 : Int), (3 : Int), (0 : Int), gl TCmd (dOf (op_62 [.l TCmd (gl TCmd (dOf (op_62 [.l TCmd c12])) 0)])) 0)], .l TIn (List.set (List.set (List.set (List.set (List.set z60 1 ((3 : Int), (0 : Int), (0 : Int), c12)) 31 ((3 : Int), (0 : Int), (0 : Int), c12)) 1 ((3 : Int), (0 : Int), (0 : Int), c12)) 1 ((3 : Int), (0 : Int), (0 : Int), c12)) 2 ((2 : Int), (0 : Int), (0 : Int), [])), .l Ty.bool (List.set (List.set (List.set (List.set (List.set f60 1 true) 31 true) 1 true) 1 true) 2 true), .n (0 : Int), .n (2 : Int), .b false, .n (1 : Int), .n (2 : Int), .b false, .n (0 : Int), .n (2 : Int), .n (2 : Int), .n (3 : Int), .n (0 : Int), .n (1 : Int), .n (2 : Int), .n (0 : Int), .n (0 : Int), .n (0 : Int), .n (1 : Int), .n (2 : Int), .n (0 : Int), .n (0 : Int), .n (0 : Int), .l TCmd (gl TCmd (dOf (op_62 [.l TCmd c12])) 0), .l TCmd [], .l TCmd []]))
  | _ => .bad 0
theorem fn_L4_8_t7_im  : Imp (fn_L4_8_t7 []) (st_L4_8 (.k 5 :: .l TWay ways :: .n (7 : Int) :: .l TRd [((0 : Int), (1 : Int), (1 : Int), (0 : Int), (0 : Int), c12), ((1 : Int), (1 : Int), (2 : Int), (3 : Int), (0 : Int), c12), ((1 : Int), (2 : Int), (0 : Int), (0 : Int), (0 : Int), [])] :: .l TIn (List.set (List.set (List.set (List.set z60 1 ((3 : Int), (0 : Int), (0 : Int), c12)) 31 ((3 : Int), (0 : Int), (0 : Int), c12)) 1 ((3 : Int), (0 : Int), (0 : Int), c12)) 1 ((3 : Int), (0 : Int), (0 : Int), c12)) :: .l Ty.bool (List.set (List.set (List.set (List.set f60 1 true) 31 true) 1 true) 1 true) :: .n (0 : Int) :: .n (1 : Int) :: .b false :: .n (1 : Int) :: .n (2 : Int) :: .b false :: .n (0 : Int) :: .n (1 : Int) :: .n (1 : Int) :: .n (0 : Int) :: .n (0 : Int) :: .n (1 : Int) :: .n (1 : Int) :: .n (2 : Int) :: .n (3 : Int) :: .n (0 : Int) :: .n (1 : Int) :: .n (2 : Int) :: .n (0 : Int) :: .n (0 : Int) :: .n (0 : Int) :: .n (1 : Int) :: .n (2 : Int) :: .n (0 : Int) :: .n (0 : Int) :: .n (0 : Int) :: .l TCmd c12 :: .l TCmd c12 :: .l TCmd ([]) :: .l TCmd [] :: [])) :=
(.path (1 ::1 ::1 ::0 ::1 ::1 ::0 ::1 ::1 ::1 ::1 ::1 ::1 ::0 ::1 ::1 ::1 ::1 ::1 ::1 ::0 ::1 ::1 ::1 ::1 ::1 ::0 ::0 ::1 ::1 ::1 ::1 ::1 ::1 ::1 ::1 ::1 ::1 ::1 ::1 ::1 ::1 ::1 ::1 ::1 ::0 ::0 ::0 ::0 ::1 ::1 ::1 ::1 ::0 ::1 ::1 ::1 ::0 ::1 ::0 ::1 ::0 ::0 ::1 ::0 ::1 ::1 ::1 ::1 ::1 ::1 ::1 ::1 ::0 ::0 ::0 ::0 ::0 ::0 ::1 ::0 ::1 ::1 ::1 ::1 ::1 ::1 ::0 ::0 ::0 ::0 ::1 ::0 ::1 ::1 ::1 ::1 ::1 ::1 ::0 ::0 ::0 ::0 ::1 ::0 ::1 ::1 ::1 ::1 ::1 ::0 ::0 ::0 ::0 ::0 ::0 ::1 ::0 ::0 ::1 ::1 ::1 ::1 ::1 ::0 ::0 ::0 ::0 ::0 ::0 ::0 ::0 ::1 ::0 ::1 ::1 ::1 ::1 ::0 ::0 ::0 ::0 ::0 ::0 ::0 ::0 ::1 ::0 ::1 ::1 ::1 ::1 ::0 ::0 ::0 ::0 ::0 ::0 ::0 ::0 ::1 ::0 ::1 ::1 ::1 ::1 ::0 ::0 ::0 ::0 ::0 ::0 ::0 ::0 ::1 ::0 ::0 ::1 ::1 ::1 ::1 ::1 ::0 ::0 ::0 ::0 ::0 ::0 ::0 ::0 ::1 ::0 ::1 ::1 ::1 ::1 ::0 ::0 ::0 ::0 ::0 ::0 ::0 ::0 ::1 ::0 ::1 ::1 ::1 ::1 ::0 ::0 ::0 ::0 ::0 ::0 ::0 ::0 ::1 ::0 ::1 ::1 ::1 ::1 ::0 ::0 ::0 ::0 ::0 ::0 ::0 ::0 ::1 ::0 ::0 ::1 ::1 ::1 ::1 ::1 ::1 ::0 ::0 ::0 ::0 ::0 ::0 ::1 ::0 ::1 ::1 ::1 ::1 ::1 ::1 ::1 ::0 ::0 ::1 ::0 ::1 ::1 ::1 ::1 ::1 ::1 ::1 ::1 ::1 ::1 ::1 ::1 ::0 ::1 ::1 ::1 ::1 ::1 ::1 ::0 ::0 ::1 ::1 ::1 ::1 ::1 ::1 ::0 ::0 ::1 ::1 ::1 ::1 ::1 ::0 ::0 ::1 ::0 ::1 :: []) (by kernel_rfl)
(.leaf (by kernel_rfl)))

noncomputable def fn_L4_8_t8 : List Dat → Tree Step
  | [] =>
    (.leaf (Step.go (.k 4 :: .l TWay ways :: .n (9 : Int) :: .l TRd [((0 : Int), (1 : Int), (1 : Int), (0 : Int), (0 : Int), c12), ((1 : Int), (1 : Int), (2 : Int), (3 : Int), (0 : Int), c12), ((1 : Int), (2 : Int), (0 : Int), (0 : Int), (0 : Int), []), ((0 : Int), (2 : Int), (2 : Int), (3 : Int), (0 : Int), c12)] :: .l TIn (List.set (List.set (List.set (List.set (List.set (List.set z60 1 ((3 : Int), (0 : Int), (0 : Int), c12)) 31 ((3 : Int), (0 : Int), (0 : Int), c12)) 1 ((3 : Int), (0 : Int), (0 : Int), c12)) 1 ((3 : Int), (0 : Int), (0 : Int), c12)) 2 ((2 : Int), (0 : Int), (0 : Int), [])) 32 ((2 : Int), (0 : Int), (0 : Int), [])) :: .l Ty.bool (List.set (List.set (List.set (List.set (List.set (List.set f60 1 true) 31 true) 1 true) 1 true) 2 true) 32 true) :: .n (0 : Int) :: .n (2 : Int) :: .b false :: .n (1 : Int) :: .n (2 : Int) :: .b false :: .n (0 : Int) :: .n (2 : Int) :: .n (2 : Int) :: .n (3 : Int) :: .n (0 : Int) :: .n (1 : Int) :: .n (2 : Int) :: .n (0 : Int) :: .n (0 : Int) :: .n (0 : Int) :: .n (1 : Int) :: .n (2 : Int) :: .n (0 : Int) :: .n (0 : Int) :: .n (0 : Int) :: .n (0 : Int) :: .n (2 : Int) :: .n (2 : Int) :: .n (3 : Int) :: .n (0 : Int) :: .l TCmd c12 :: .l TCmd [] :: .l TCmd [] :: .l TCmd (gl TCmd (dOf (op_62 [.l TCmd c12])) 0) :: [])))
  | _ => .bad 0
theorem fn_L4_8_t8_im  : Imp (fn_L4_8_t8 []) (st_L4_8 [.k 3, .l TWay ways, .n (8 : Int), .l TRd [((0 : Int), (1 : Int), (1 : Int), (0 : Int), (0 : Int), c12), ((1 : Int), (1 : Int), (2 : Int), (3 : Int), (0 : Int), c12), ((1 : Int), (2 : Int), (0 : Int), (0 : Int), (0 : Int), []), ((0 : Int), (2 : Int), (2 : Int), (3 : Int), (0 : Int), (c12))], .l TIn (List.set (List.set (List.set (List.set (List.set z60 1 ((3 : Int), (0 : Int), (0 : Int), c12)) 31 ((3 : Int), (0 : Int), (0 : Int), c12)) 1 ((3 : Int), (0 : Int), (0 : Int), c12)) 1 ((3 : Int), (0 : Int), (0 : Int), c12)) 2 ((2 : Int), (0 : Int), (0 : Int), [])), .l Ty.bool (List.set (List.set (List.set (List.set (List.set f60 1 true) 31 true) 1 true) 1 true) 2 true), .n (0 : Int), .n (2 : Int), .b false, .n (1 : Int), .n (2 : Int), .b false, .n (0 : Int), .n (2 : Int), .n (2 : Int), .n (3 : Int), .n (0 : Int), .n (1 : Int), .n (2 : Int), .n (0 : Int), .n (0 : Int), .n (0 : Int), .n (1 : Int), .n (2 : Int), .n (0 : Int), .n (0 : Int), .n (0 : Int), .l TCmd (c12), .l TCmd [], .l TCmd []]) :=
(.path (1 ::1 ::1 ::0 ::1 ::1 ::0 ::1 ::1 ::1 ::0 ::1 ::1 ::1 ::0 ::1 ::1 ::1 ::0 ::0 ::1 ::1 ::1 ::0 ::1 ::1 ::1 ::1 ::1 ::1 ::1 ::1 ::0 ::0 ::1 ::0 ::1 ::0 ::1 ::1 ::1 ::1 ::1 ::0 ::1 ::1 ::1 ::0 ::0 ::0 ::0 ::1 ::1 ::1 ::1 ::0 ::1 ::1 ::1 ::0 ::1 ::0 ::1 ::0 ::0 ::1 ::0 ::1 ::1 ::1 ::1 ::1 ::1 ::1 ::1 ::0 ::0 ::0 ::0 ::0 ::0 ::1 ::0 ::1 ::1 ::1 ::1 ::1 ::1 ::0 ::0 ::0 ::0 ::1 ::0 ::1 ::1 ::1 ::1 ::1 ::1 ::0 ::0 ::0 ::0 ::1 ::0 ::1 ::1 ::1 ::1 ::1 ::0 ::0 ::0 ::0 ::0 ::0 ::1 ::0 ::0 ::1 ::1 ::1 ::1 ::1 ::0 ::0 ::0 ::0 ::0 ::0 ::0 ::0 ::1 ::0 ::1 ::1 ::1 ::1 ::0 ::0 ::0 ::0 ::0 ::0 ::0 ::0 ::1 ::0 ::1 ::1 ::1 ::1 ::0 ::0 ::0 ::0 ::0 ::0 ::0 ::0 ::1 ::0 ::1 ::1 ::1 ::1 ::0 ::0 ::0 ::0 ::0 ::0 ::0 ::0 ::1 ::0 ::0 ::1 ::1 ::1 ::1 ::1 ::0 ::0 ::0 ::0 ::0 ::0 ::0 ::0 ::1 ::0 ::1 ::1 ::1 ::1 ::0 ::0 ::0 ::0 ::0 ::0 ::0 ::0 ::1 ::0 ::1 ::1 ::1 ::1 ::0 ::0 ::0 ::0 ::0 ::0 ::0 ::0 ::1 ::0 ::1 ::1 ::1 ::1 ::0 ::0 ::0 ::0 ::0 ::0 ::0 ::0 ::1 ::0 ::0 ::1 ::1 ::1 ::1 ::1 ::1 ::0 ::0 ::0 ::0 ::0 ::0 ::1 ::0 ::1 ::1 ::1 ::1 ::1 ::1 ::1 ::0 ::0 ::1 ::0 ::1 ::1 ::1 ::1 ::1 ::1 ::1 ::1 ::1 ::1 ::1 ::1 ::0 ::1 ::1 ::1 ::1 ::1 ::1 ::0 ::0 ::1 ::1 ::1 ::1 ::1 ::1 ::0 ::1 ::1 ::1 ::1 ::1 ::1 ::1 ::1 ::1 ::1 ::1 ::1 ::1 ::1 ::0 ::0 ::1 ::1 ::1 ::0 ::1 :: []) (by kernel_rfl)
(.leaf (by kernel_rfl)))

noncomputable def fn_L4_8_t9 : List Dat → Tree Step
  | [] =>
    (.leaf (Step.go (.k 4 :: .l TWay ways :: .n (10 : Int) :: .l TRd [((0 : Int), (1 : Int), (1 : Int), (0 : Int), (0 : Int), c12), ((1 : Int), (1 : Int), (2 : Int), (3 : Int), (0 : Int), c12), ((1 : Int), (2 : Int), (0 : Int), (0 : Int), (0 : Int), []), ((0 : Int), (2 : Int), (2 : Int), (3 : Int), (0 : Int), c12)] :: .l TIn (List.set (List.set (List.set (List.set (List.set (List.set (List.set z60 1 ((3 : Int), (0 : Int), (0 : Int), c12)) 31 ((3 : Int), (0 : Int), (0 : Int), c12)) 1 ((3 : Int), (0 : Int), (0 : Int), c12)) 1 ((3 : Int), (0 : Int), (0 : Int), c12)) 2 ((2 : Int), (0 : Int), (0 : Int), [])) 32 ((2 : Int), (0 : Int), (0 : Int), [])) 2 ((2 : Int), (0 : Int), (0 : Int), [])) :: .l Ty.bool (List.set (List.set (List.set (List.set (List.set (List.set (List.set f60 1 true) 31 true) 1 true) 1 true) 2 true) 32 true) 2 true) :: .n (0 : Int) :: .n (2 : Int) :: .b false :: .n (1 : Int) :: .n (2 : Int) :: .b false :: .n (0 : Int) :: .n (2 : Int) :: .n (2 : Int) :: .n (3 : Int) :: .n (0 : Int) :: .n (1 : Int) :: .n (2 : Int) :: .n (0 : Int) :: .n (0 : Int) :: .n (0 : Int) :: .n (1 : Int) :: .n (2 : Int) :: .n (0 : Int) :: .n (0 : Int) :: .n (0 : Int) :: .n (0 : Int) :: .n (2 : Int) :: .n (2 : Int) :: .n (3 : Int) :: .n (0 : Int) :: .l TCmd c12 :: .l TCmd [] :: .l TCmd [] :: .l TCmd c12 :: [])))
  | _ => .bad 0
theorem fn_L4_8_t9_im  : Imp (fn_L4_8_t9 []) (st_L4_8 (.k 4 :: .l TWay ways :: .n (9 : Int) :: .l TRd [((0 : Int), (1 : Int), (1 : Int), (0 : Int), (0 : Int), c12), ((1 : Int), (1 : Int), (2 : Int), (3 : Int), (0 : Int), c12), ((1 : Int), (2 : Int), (0 : Int), (0 : Int), (0 : Int), []), ((0 : Int), (2 : Int), (2 : Int), (3 : Int), (0 : Int), c12)] :: .l TIn (List.set (List.set (List.set (List.set (List.set (List.set z60 1 ((3 : Int), (0 : Int), (0 : Int), c12)) 31 ((3 : Int), (0 : Int), (0 : Int), c12)) 1 ((3 : Int), (0 : Int), (0 : Int), c12)) 1 ((3 : Int), (0 : Int), (0 : Int), c12)) 2 ((2 : Int), (0 : Int), (0 : Int), [])) 32 ((2 : Int), (0 : Int), (0 : Int), [])) :: .l Ty.bool (List.set (List.set (List.set (List.set (List.set (List.set f60 1 true) 31 true) 1 true) 1 true) 2 true) 32 true) :: .n (0 : Int) :: .n (2 : Int) :: .b false :: .n (1 : Int) :: .n (2 : Int) :: .b false :: .n (0 : Int) :: .n (2 : Int) :: .n (2 : Int) :: .n (3 : Int) :: .n (0 : Int) :: .n (1 : Int) :: .n (2 : Int) :: .n (0 : Int) :: .n (0 : Int) :: .n (0 : Int) :: .n (1 : Int) :: .n (2 : Int) :: .n (0 : Int) :: .n (0 : Int) :: .n (0 : Int) :: .n (0 : Int) :: .n (2 : Int) :: .n (2 : Int) :: .n (3 : Int) :: .n (0 : Int) :: .l TCmd c12 :: .l TCmd [] :: .l TCmd [] :: .l TCmd (c12) :: [])) :=
(.path (1 ::1 ::1 ::0 ::1 ::1 ::0 ::1 ::1 ::1 ::1 ::1 ::1 ::0 ::1 ::1 ::1 ::0 ::0 ::1 ::1 ::1 ::0 ::1 ::1 ::1 ::1 ::1 ::1 ::1 ::1 ::0 ::0 ::1 ::0 ::1 ::1 ::1 ::1 ::0 ::0 ::0 ::0 ::1 ::1 ::1 ::1 ::0 ::1 ::1 ::1 ::0 ::1 ::0 ::1 ::0 ::0 ::1 ::0 ::1 ::1 ::1 ::1 ::1 ::1 ::1 ::1 ::0 ::0 ::0 ::0 ::0 ::0 ::1 ::0 ::1 ::1 ::1 ::1 ::1 ::1 ::0 ::0 ::0 ::0 ::1 ::0 ::1 ::1 ::1 ::1 ::1 ::1 ::0 ::0 ::0 ::0 ::1 ::0 ::1 ::1 ::1 ::1 ::1 ::0 ::0 ::0 ::0 ::0 ::0 ::1 ::0 ::0 ::1 ::1 ::1 ::1 ::1 ::0 ::0 ::0 ::0 ::0 ::0 ::0 ::0 ::1 ::0 ::1 ::1 ::1 ::1 ::0 ::0 ::0 ::0 ::0 ::0 ::0 ::0 ::1 ::0 ::1 ::1 ::1 ::1 ::0 ::0 ::0 ::0 ::0 ::0 ::0 ::0 ::1 ::0 ::1 ::1 ::1 ::1 ::0 ::0 ::0 ::0 ::0 ::0 ::0 ::0 ::1 ::0 ::0 ::1 ::1 ::1 ::1 ::1 ::0 ::0 ::0 ::0 ::0 ::0 ::0 ::0 ::1 ::0 ::1 ::1 ::1 ::1 ::0 ::0 ::0 ::0 ::0 ::0 ::0 ::0 ::1 ::0 ::1 ::1 ::1 ::1 ::0 ::0 ::0 ::0 ::0 ::0 ::0 ::0 ::1 ::0 ::1 ::1 ::1 ::1 ::0 ::0 ::0 ::0 ::0 ::0 ::0 ::0 ::1 ::0 ::0 ::1 ::1 ::1 ::1 ::1 ::1 ::0 ::0 ::0 ::0 ::0 ::0 ::1 ::0 ::1 ::1 ::1 ::1 ::1 ::1 ::1 ::0 ::0 ::1 ::0 ::1 ::1 ::1 ::1 ::1 ::1 ::1 ::1 ::1 ::1 ::1 ::1 ::0 ::1 ::1 ::1 ::1 ::1 ::1 ::0 ::0 ::1 ::1 ::1 ::1 ::1 ::1 ::0 ::0 ::1 ::1 ::1 ::1 ::1 ::1 ::1 ::1 ::1 ::1 ::1 ::1 ::1 ::0 ::0 ::1 ::1 ::1 ::0 ::1 :: []) (by kernel_rfl)
(.leaf (by kernel_rfl)))

noncomputable def fn_L4_8_t10 : List Dat → Tree Step
  | [] =>
    (.leaf (Step.stop 0 []))
  | _ => .bad 0
theorem fn_L4_8_t10_im  : Imp (fn_L4_8_t10 []) (st_L4_8 (.k 4 :: .l TWay ways :: .n (10 : Int) :: .l TRd [((0 : Int), (1 : Int), (1 : Int), (0 : Int), (0 : Int), c12), ((1 : Int), (1 : Int), (2 : Int), (3 : Int), (0 : Int), c12), ((1 : Int), (2 : Int), (0 : Int), (0 : Int), (0 : Int), []), ((0 : Int), (2 : Int), (2 : Int), (3 : Int), (0 : Int), c12)] :: .l TIn (List.set (List.set (List.set (List.set (List.set (List.set (List.set z60 1 ((3 : Int), (0 : Int), (0 : Int), c12)) 31 ((3 : Int), (0 : Int), (0 : Int), c12)) 1 ((3 : Int), (0 : Int), (0 : Int), c12)) 1 ((3 : Int), (0 : Int), (0 : Int), c12)) 2 ((2 : Int), (0 : Int), (0 : Int), [])) 32 ((2 : Int), (0 : Int), (0 : Int), [])) 2 ((2 : Int), (0 : Int), (0 : Int), [])) :: .l Ty.bool (List.set (List.set (List.set (List.set (List.set (List.set (List.set f60 1 true) 31 true) 1 true) 1 true) 2 true) 32 true) 2 true) :: .n (0 : Int) :: .n (2 : Int) :: .b false :: .n (1 : Int) :: .n (2 : Int) :: .b false :: .n (0 : Int) :: .n (2 : Int) :: .n (2 : Int) :: .n (3 : Int) :: .n (0 : Int) :: .n (1 : Int) :: .n (2 : Int) :: .n (0 : Int) :: .n (0 : Int) :: .n (0 : Int) :: .n (1 : Int) :: .n (2 : Int) :: .n (0 : Int) :: .n (0 : Int) :: .n (0 : Int) :: .n (0 : Int) :: .n (2 : Int) :: .n (2 : Int) :: .n (3 : Int) :: .n (0 : Int) :: .l TCmd c12 :: .l TCmd [] :: .l TCmd [] :: .l TCmd c12 :: [])) :=
(.path [1,0,1] (by kernel_rfl)
(.leaf (by kernel_rfl)))

theorem ls_4_ok : LsOk Try.prog (List.length ([] : List PB)) (lsM [(8, L4_8)] (List.length ([] : List PB))) (bodyOf Try.prog 4) := LsOk.many fun j B hB hk c hc hi => by
  simp only [lookM] at hB
  split at hB
  · rename_i e; have := Nat.eq_of_beq_eq_true e; subst this; cases hB
    have e1 : loopAt Try.prog 4 8 = [cAt Try.prog 4 8] := loopAt_one (by kernel_rfl)
    have e2 : c ∈ loopAt Try.prog 4 8 := loopsAt_mem hc hi
    rw [e1] at e2; cases List.mem_singleton.1 e2; exact L4_8_run
  cases hB

noncomputable def ev_4 (env : List Dat) : Tree (Nat × List Dat) := Lk.boxC false LK cs_w 4 (lsM [(8, L4_8)] (List.length ([] : List PB))) (mkF [.imm TWay 0] [] [] [(.bool 0, [])] fun _ => none) env
theorem op_4_ex : ∃ f : List Dat → Option (Nat × List Dat), ∀ env, f env = (ev_4 env).sel := ⟨fun env => (ev_4 env).sel, fun _ => rfl⟩
noncomputable def op_4 : List Dat → Option (Nat × List Dat) := Classical.choose op_4_ex
theorem op_4_eq (env : List Dat) : op_4 env = (ev_4 env).sel := Classical.choose_spec op_4_ex env
noncomputable def B4 : FBox := mkF [.imm TWay 0] [] [] [(.bool 0, [])] op_4
theorem B4_ok : RunOk Try.prog 4 (boxRun B4) := mkF_ok (op := op_4) cs_w_ok hmix false (ls_4_ok) (fun env x h => by rw [op_4_eq] at h; rw [← boxC_lk]; exact h)
theorem op_4_good {p : Nat × List Dat → Prop} {T : Tree (Nat × List Dat)} {env : List Dat} (h : Imp T (ev_4 env)) (g : Good p T.sel) : Good p (op_4 env) := by
  rw [op_4_eq]
  exact h.good g

noncomputable def fn_4_t : List Dat → Tree (Nat × List Dat)
  | [] =>
    (let r1 : Option (Nat × List Dat) := (op_L4_8 [.k 0, .l TWay ways, .n (0 : Int), .l TRd [], .l TIn (List.replicate 60 (Ty.dflt TIn)), .l Ty.bool f60, .n (0 : Int), .n (0 : Int), .b false, .n (1 : Int), .n (0 : Int), .b false]);
     (.node (isK 0 [] r1)
      (.leaf ((0, [.b true])))
      (.node (isK 1 [HK.b] r1)
       (.leaf ((0, [.b (gb (dOf r1) 0)])))
       (.bad 351))))
  | _ => .bad 0
theorem fn_4_t_im  : Imp (fn_4_t []) (ev_4 [.l TWay ways]) :=
(.path [0,1,0,0,1,1,0,0,1,1,1] (by kernel_rfl)
(.node (by kernel_rfl) (by kernel_rfl) (fun h0 =>
(.path [1,1,1,1] (by kernel_rfl)
(.leaf (by kernel_rfl)))) (fun h0 =>
(.node (by kernel_rfl) (by kernel_rfl) (fun h1 =>
(.path [1] (by kernel_rfl)
(.leaf (by kernel_rfl)))) (fun h1 =>
.none)))))

noncomputable def cs_4 : FuncId → Option CSpec := csLend 4 B4 cs_w
theorem cs_4_ok : CsOk Try.prog cs_4 := csLend_ok cs_w_ok B4_ok
end Go.Proofs.Ytcoamiaifbjofaa.Vx
