import Derived.Test.YtchedebomjmehaaVxIm
import Derived.Test.YtchedebomjmehaaVxLk
import Derived.Test.YtchedebomjmehaaVxLaw
import Derived.Test.YtchedebomjmehaaY12pk
import Derived.Test.YtchedebomjmehaaY12zk
import Derived.Test.YtchedebomjmehaaU12k
import Derived.KernelRfl
namespace Go.Proofs.Ytchedebomjmehaa.Vx
open Go Go.RowKit
set_option linter.unusedVariables false
set_option linter.unusedSimpArgs false
set_option maxRecDepth 100000
set_option maxHeartbeats 0

abbrev TCl : Ty := .pair (.int .i64) (.pair (.int .i64) (.pair (.int .i64) (.pair (.int .i64) (.pair (.int .u64) (.int .u32)))))
def frV (h : Nat) : PV := .agg [.int .i64 h, .int .i64 (h+1), .int .u64 (h+2), .int .u32 (h+3)]
def frB (h : Nat) : PB := .cells [.int .i64 h, .int .i64 (h+1), .int .u64 (h+2), .int .u32 (h+3)]
abbrev mkC (k c a b : Int) (x : Int) (y : Int) : Ty.den TCl := (k, c, a, b, x, y)
abbrev calls12 : List (Ty.den TCl) := [mkC 0 0 2 1 5 1, mkC 0 1 2 1 5 1, mkC 0 1 2 1 4 1, mkC 0 1 2 2 5 1, mkC 0 1 2 1 5 0, mkC 0 0 1 1 5 1, mkC 0 1 1 1 5 1, mkC 0 2 2 1 5 1, mkC 0 (-1) 2 1 5 1, mkC 3 0 0 0 0 0, mkC 4 0 0 0 0 0, mkC 5 0 0 0 0 0]
theorem hmix : Try.prog.follows .mixedOrders = true := by kernel_rfl
theorem csNone_ok0 : CsOk Try.prog csNone := csNone_ok _

def op_14 : List Dat → Option (Nat × List Dat) := fun _ => some (0, [.b true])
def B14 : FBox := mkF [] [] [] [(.bool 0, [])] op_14
theorem fn_14_ok (env : List Dat) (y : Nat × List Dat) (h : op_14 env = some y) : (boxC true Try.prog csNone 14 ls0 (mkF [] [] [] [(.bool 0, [])] fun _ => none) env).sel = some y := by
  cases h
  rw [← boxC_lk]
  kernel_rfl
theorem B14_ok : RunOk Try.prog 14 (boxRun B14) := mkF_ok (op := op_14) csNone_ok0 hmix true (LsOk.none _ _ _) fn_14_ok

noncomputable def cs_14 : FuncId → Option CSpec := csAdd 14 [B14] csNone
theorem cs_14_ok : CsOk Try.prog cs_14 := csAdd_ok csNone_ok0 fun B hB => by
  cases List.mem_singleton.1 hB
  exact B14_ok

noncomputable def op_3 : List Dat → Option (Nat × List Dat) := lawOp [.l TCl]
noncomputable def B3 : FBox := mkF [.imm TCl 0] [] [] [(.bool 0, [])] op_3
noncomputable def cs_3 : FuncId → Option CSpec := csLend 3 B3 cs_14
theorem B3_ok : RunOk Try.prog 3 (boxRun B3) := lawBox_ok (op := op_3) Pl.cs_16f_ok hmix false (ls := lsM [(5, Pl.L3_5)] 0) Pl.ls_3_ok fun env x he => by
  obtain ⟨rfl, h⟩ := lawOp_some he
  refine ⟨rfl, ?_⟩
  obtain ⟨l, d, rfl, k⟩ := fits_l h
  cases fits_nil k
  rw [← lawB_lk]; exact Pl.t3 l
theorem cs_3_ok : CsOk Try.prog cs_3 := csLend_ok cs_14_ok B3_ok

noncomputable def op_4 : List Dat → Option (Nat × List Dat) := lawOp [.l TCl]
noncomputable def B4 : FBox := mkF [.imm TCl 0] [] [] [(.bool 0, [])] op_4
noncomputable def cs_4 : FuncId → Option CSpec := csLend 4 B4 cs_3
theorem B4_ok : RunOk Try.prog 4 (boxRun B4) := lawBox_ok (op := op_4) Bo.cs_26_ok hmix false (ls := lsM [(8, Bo.L4_8)] 0) Bo.ls_4_ok fun env x he => by
  obtain ⟨rfl, h⟩ := lawOp_some he
  refine ⟨rfl, ?_⟩
  obtain ⟨l, d, rfl, k⟩ := fits_l h
  cases fits_nil k
  rw [← lawB_lk]; exact Bo.t4 l
theorem cs_4_ok : CsOk Try.prog cs_4 := csLend_ok cs_3_ok B4_ok

noncomputable def op_5 : List Dat → Option (Nat × List Dat) := lawOp [.n, .n, .n, .n, .n, .n, .n, .n, .n]
noncomputable def B5 : FBox := mkF [frV 0, frV 4, .int .i64 8] [] [] [(.bool 0, [])] op_5
noncomputable def cs_5 : FuncId → Option CSpec := csLend 5 B5 cs_4
theorem B5_ok : RunOk Try.prog 5 (boxRun B5) := lawBox_ok (op := op_5) Un.cs_25c_ok hmix false (ls := ls0) (LsOk.none _ _ _) fun env x he => by
  obtain ⟨rfl, h⟩ := lawOp_some he
  refine ⟨rfl, ?_⟩
  obtain ⟨n0, _, rfl, h0⟩ := fits_n h
  obtain ⟨n1, _, rfl, h1⟩ := fits_n h0
  obtain ⟨n2, _, rfl, h2⟩ := fits_n h1
  obtain ⟨n3, _, rfl, h3⟩ := fits_n h2
  obtain ⟨n4, _, rfl, h4⟩ := fits_n h3
  obtain ⟨n5, _, rfl, h5⟩ := fits_n h4
  obtain ⟨n6, _, rfl, h6⟩ := fits_n h5
  obtain ⟨n7, _, rfl, h7⟩ := fits_n h6
  obtain ⟨n8, _, rfl, h8⟩ := fits_n h7
  cases fits_nil h8
  exact (Un.fn_W5_eq _ _ _ _ _ _ _ _ _).trans (Un.t5 _ _ _ _ _ _ _ _ _)
theorem cs_5_ok : CsOk Try.prog cs_5 := csLend_ok cs_4_ok B5_ok

noncomputable def st_L7_18 (env : List Dat) : Tree Step := Lk.stepMC false LK cs_5 7 18 ls0 (mkM 0 [] [(sh 126 [(1, .ptr 0 0), (2, .ptr 1 0), (6, .own 2), (7, .int .i64 0), (8, .int .i64 1), (9, .int .i64 2)], [frB 3, frB 7, .arr TCl 11])] [] [(.exit 4, sh 126 [(1, .ptr 0 0), (2, .ptr 1 0), (6, .own 2), (7, .int .i64 0), (8, .int .i64 1)], [frB 2, frB 6, .arr TCl 10]), (.ret, sh 126 [(0, .bool 0)], [])] fun _ => none) env
theorem op_L7_18_ex : ∃ f : List Dat → Option (Nat × List Dat), ∀ env, f env = iterS st_L7_18 FU env := ⟨iterS st_L7_18 FU, fun _ => rfl⟩
noncomputable def op_L7_18 : List Dat → Option (Nat × List Dat) := Classical.choose op_L7_18_ex
theorem op_L7_18_eq (env : List Dat) : op_L7_18 env = iterS st_L7_18 FU env := Classical.choose_spec op_L7_18_ex env
noncomputable def L7_18 : MBox := mkM 0 [] [(sh 126 [(1, .ptr 0 0), (2, .ptr 1 0), (6, .own 2), (7, .int .i64 0), (8, .int .i64 1), (9, .int .i64 2)], [frB 3, frB 7, .arr TCl 11])] [] [(.exit 4, sh 126 [(1, .ptr 0 0), (2, .ptr 1 0), (6, .own 2), (7, .int .i64 0), (8, .int .i64 1)], [frB 2, frB 6, .arr TCl 10]), (.ret, sh 126 [(0, .bool 0)], [])] op_L7_18
theorem L7_18_eqs : L7_18 = mkM 0 [] [(sh 126 [(1, .ptr 0 0), (2, .ptr 1 0), (6, .own 2), (7, .int .i64 0), (8, .int .i64 1), (9, .int .i64 2)], [frB 3, frB 7, .arr TCl 11])] [] [(.exit 4, sh 126 [(1, .ptr 0 0), (2, .ptr 1 0), (6, .own 2), (7, .int .i64 0), (8, .int .i64 1)], [frB 2, frB 6, .arr TCl 10]), (.ret, sh 126 [(0, .bool 0)], [])] (iterS st_L7_18 FU) := congrArg (fun f => mkM 0 [] [(sh 126 [(1, .ptr 0 0), (2, .ptr 1 0), (6, .own 2), (7, .int .i64 0), (8, .int .i64 1), (9, .int .i64 2)], [frB 3, frB 7, .arr TCl 11])] [] [(.exit 4, sh 126 [(1, .ptr 0 0), (2, .ptr 1 0), (6, .own 2), (7, .int .i64 0), (8, .int .i64 1)], [frB 2, frB 6, .arr TCl 10]), (.ret, sh 126 [(0, .bool 0)], [])] f) (funext op_L7_18_eq)
theorem L7_18_run : ∀ t s x, (manyRun L7_18 t s).sel = some x → CodeOk Try.prog 0 (.loop (cAt Try.prog 7 18)) t s x := by
  rw [L7_18_eqs]
  exact mkM_ok (st := st_L7_18) (m := FU) cs_5_ok hmix false (LsOk.none _ _ _) (by kernel_rfl) (fun env y h => by rw [← stepMC_lk]; exact h)
theorem op_L7_18_good {p : Nat × List Dat → Prop} (Inv : List Dat → Prop) (μ : List Dat → Nat) (h : ∀ env, Inv env → Good (fun y => match y with | .go e => Inv e ∧ μ e < μ env | .stop k d => p (k, d)) (st_L7_18 env).sel) (env : List Dat) (hi : Inv env) (hm : μ env < FU) : Good p (op_L7_18 env) := by
  rw [op_L7_18_eq]
  exact iterS_good Inv μ p h FU env hi hm

noncomputable def fn_L7_18_t : List Dat → Tree Step
  | [.n n0, .n n1, .n n2] =>
    (.leaf (Step.go [.k 0, .n n0, .n n1, .n (IntKind.wrap .i64 (n2 + (1 : Int))), .n (1 : Int), .n (1 : Int), .n (5 : Int), .n (1 : Int), .n (2 : Int), .n (1 : Int), .n (5 : Int), .n (1 : Int), .l (Ty.pair (Ty.int IntKind.i64) (Ty.pair (Ty.int IntKind.i64) (Ty.pair (Ty.int IntKind.i64) (Ty.pair (Ty.int IntKind.i64) (Ty.pair (Ty.int IntKind.u64) (Ty.int IntKind.u32)))))) [((0 : Int), (0 : Int), (2 : Int), (1 : Int), (5 : Int), (1 : Int)), ((0 : Int), (1 : Int), (2 : Int), (1 : Int), (5 : Int), (1 : Int)), ((0 : Int), (1 : Int), (2 : Int), (1 : Int), (4 : Int), (1 : Int)), ((0 : Int), (1 : Int), (2 : Int), (2 : Int), (5 : Int), (1 : Int)), ((0 : Int), (1 : Int), (2 : Int), (1 : Int), (5 : Int), (0 : Int)), ((0 : Int), (0 : Int), (1 : Int), (1 : Int), (5 : Int), (1 : Int)), ((0 : Int), (1 : Int), (1 : Int), (1 : Int), (5 : Int), (1 : Int)), ((0 : Int), (2 : Int), (2 : Int), (1 : Int), (5 : Int), (1 : Int)), ((0 : Int), (-1 : Int), (2 : Int), (1 : Int), (5 : Int), (1 : Int)), ((3 : Int), (0 : Int), (0 : Int), (0 : Int), (0 : Int), (0 : Int)), ((4 : Int), (0 : Int), (0 : Int), (0 : Int), (0 : Int), (0 : Int)), ((5 : Int), (0 : Int), (0 : Int), (0 : Int), (0 : Int), (0 : Int))]]))
  | _ => .bad 0
theorem fn_L7_18_t_im (n0 : Int) (n1 : Int) (n2 : Int) (g0 : 0 ≤ n0) (g1 :  n0 < 12) (g2 :  0 ≤ n1) (g3 :  n1 < 12) (g4 :  0 ≤ n2) (g5 :  n2 < 12) : Imp (fn_L7_18_t [.n n0, .n n1, .n n2]) (st_L7_18 [.k 0, .n n0, .n n1, .n n2, .n 1, .n 1, .n 5, .n 1, .n 2, .n 1, .n 5, .n 1, .l TCl calls12]) :=
(.path [1] (by kernel_rfl)
(.pt (c := (decide (n2 < (12 : Int)))) (by kernel_rfl) (by kernel_rfl) (by (simp [*]; done))
(.pt (c := (inR n0 12)) (by kernel_rfl) (by kernel_rfl) (by (simp only [w64d, decide_eq_true_eq, decide_eq_false_iff_not, beq_iff_eq, beq_eq_false_iff_ne, bne_iff_ne, ne_eq, inR, Bool.and_eq_true, Bool.and_eq_false_iff, Bool.not_eq_true', Bool.not_eq_false', Bool.not_eq_eq_eq_not, Bool.not_true, Bool.not_false] at *; omega))
(.pt (c := (inR n1 12)) (by kernel_rfl) (by kernel_rfl) (by (simp only [w64d, decide_eq_true_eq, decide_eq_false_iff_not, beq_iff_eq, beq_eq_false_iff_ne, bne_iff_ne, ne_eq, inR, Bool.and_eq_true, Bool.and_eq_false_iff, Bool.not_eq_true', Bool.not_eq_false', Bool.not_eq_eq_eq_not, Bool.not_true, Bool.not_false] at *; omega))
(.pt (c := (inR n2 12)) (by kernel_rfl) (by kernel_rfl) (by (simp only [w64d, decide_eq_true_eq, decide_eq_false_iff_not, beq_iff_eq, beq_eq_false_iff_ne, bne_iff_ne, ne_eq, inR, Bool.and_eq_true, Bool.and_eq_false_iff, Bool.not_eq_true', Bool.not_eq_false', Bool.not_eq_eq_eq_not, Bool.not_true, Bool.not_false] at *; omega))
(.path [1,1,1,0,1,1,0,1,1,1,1,0,1] (by kernel_rfl)
(.leaf (by kernel_rfl))))))))

noncomputable def fn_L7_18_x : List Dat → Tree Step
  | [.n n0, .n n1, .n n2] =>
    (.leaf (Step.stop 0 [.n n0, .n n1, .n (1 : Int), .n (1 : Int), .n (5 : Int), .n (1 : Int), .n (2 : Int), .n (1 : Int), .n (5 : Int), .n (1 : Int), .l (Ty.pair (Ty.int IntKind.i64) (Ty.pair (Ty.int IntKind.i64) (Ty.pair (Ty.int IntKind.i64) (Ty.pair (Ty.int IntKind.i64) (Ty.pair (Ty.int IntKind.u64) (Ty.int IntKind.u32)))))) [((0 : Int), (0 : Int), (2 : Int), (1 : Int), (5 : Int), (1 : Int)), ((0 : Int), (1 : Int), (2 : Int), (1 : Int), (5 : Int), (1 : Int)), ((0 : Int), (1 : Int), (2 : Int), (1 : Int), (4 : Int), (1 : Int)), ((0 : Int), (1 : Int), (2 : Int), (2 : Int), (5 : Int), (1 : Int)), ((0 : Int), (1 : Int), (2 : Int), (1 : Int), (5 : Int), (0 : Int)), ((0 : Int), (0 : Int), (1 : Int), (1 : Int), (5 : Int), (1 : Int)), ((0 : Int), (1 : Int), (1 : Int), (1 : Int), (5 : Int), (1 : Int)), ((0 : Int), (2 : Int), (2 : Int), (1 : Int), (5 : Int), (1 : Int)), ((0 : Int), (-1 : Int), (2 : Int), (1 : Int), (5 : Int), (1 : Int)), ((3 : Int), (0 : Int), (0 : Int), (0 : Int), (0 : Int), (0 : Int)), ((4 : Int), (0 : Int), (0 : Int), (0 : Int), (0 : Int), (0 : Int)), ((5 : Int), (0 : Int), (0 : Int), (0 : Int), (0 : Int), (0 : Int))]]))
  | _ => .bad 0
theorem fn_L7_18_x_im (n0 : Int) (n1 : Int) (n2 : Int) (g0 : n2 = 12) : Imp (fn_L7_18_x [.n n0, .n n1, .n n2]) (st_L7_18 [.k 0, .n n0, .n n1, .n n2, .n 1, .n 1, .n 5, .n 1, .n 2, .n 1, .n 5, .n 1, .l TCl calls12]) :=
(.path [1] (by kernel_rfl)
(.pf (c := (decide (n2 < (12 : Int)))) (by kernel_rfl) (by kernel_rfl) (by (simp [*]; done))
(.path [1] (by kernel_rfl)
(.leaf (by kernel_rfl)))))

noncomputable def st_L7_15 (env : List Dat) : Tree Step := Lk.stepMC false LK cs_5 7 15 (lsM [(18, L7_18)] 0) (mkM 0 [] [(sh 126 [(1, .ptr 0 0), (2, .ptr 1 0), (6, .own 2), (7, .int .i64 0), (8, .int .i64 1)], [frB 2, frB 6, .arr TCl 10])] [] [(.exit 2, sh 126 [(1, .ptr 0 0), (2, .ptr 1 0), (6, .own 2), (7, .int .i64 0)], [frB 1, frB 5, .arr TCl 9]), (.ret, sh 126 [(0, .bool 0)], [])] fun _ => none) env
theorem op_L7_15_ex : ∃ f : List Dat → Option (Nat × List Dat), ∀ env, f env = iterS st_L7_15 FU env := ⟨iterS st_L7_15 FU, fun _ => rfl⟩
noncomputable def op_L7_15 : List Dat → Option (Nat × List Dat) := Classical.choose op_L7_15_ex
theorem op_L7_15_eq (env : List Dat) : op_L7_15 env = iterS st_L7_15 FU env := Classical.choose_spec op_L7_15_ex env
noncomputable def L7_15 : MBox := mkM 0 [] [(sh 126 [(1, .ptr 0 0), (2, .ptr 1 0), (6, .own 2), (7, .int .i64 0), (8, .int .i64 1)], [frB 2, frB 6, .arr TCl 10])] [] [(.exit 2, sh 126 [(1, .ptr 0 0), (2, .ptr 1 0), (6, .own 2), (7, .int .i64 0)], [frB 1, frB 5, .arr TCl 9]), (.ret, sh 126 [(0, .bool 0)], [])] op_L7_15
theorem L7_15_eqs : L7_15 = mkM 0 [] [(sh 126 [(1, .ptr 0 0), (2, .ptr 1 0), (6, .own 2), (7, .int .i64 0), (8, .int .i64 1)], [frB 2, frB 6, .arr TCl 10])] [] [(.exit 2, sh 126 [(1, .ptr 0 0), (2, .ptr 1 0), (6, .own 2), (7, .int .i64 0)], [frB 1, frB 5, .arr TCl 9]), (.ret, sh 126 [(0, .bool 0)], [])] (iterS st_L7_15 FU) := congrArg (fun f => mkM 0 [] [(sh 126 [(1, .ptr 0 0), (2, .ptr 1 0), (6, .own 2), (7, .int .i64 0), (8, .int .i64 1)], [frB 2, frB 6, .arr TCl 10])] [] [(.exit 2, sh 126 [(1, .ptr 0 0), (2, .ptr 1 0), (6, .own 2), (7, .int .i64 0)], [frB 1, frB 5, .arr TCl 9]), (.ret, sh 126 [(0, .bool 0)], [])] f) (funext op_L7_15_eq)
theorem L7_15_in : LsOk Try.prog 0 (lsM [(18, L7_18)] 0) (cAt Try.prog 7 15) := LsOk.many fun j B hB hk c hc hi => by
  simp only [lookM] at hB
  split at hB
  · rename_i e; have := Nat.eq_of_beq_eq_true e; subst this; cases hB
    have e1 : loopsAt (cAt Try.prog 7 15) 18 = [cAt Try.prog 7 18] := by kernel_rfl
    have e2 := loopsAt_mem hc hi
    rw [e1] at e2; cases List.mem_singleton.1 e2; exact L7_18_run
  cases hB
theorem L7_15_run : ∀ t s x, (manyRun L7_15 t s).sel = some x → CodeOk Try.prog 0 (.loop (cAt Try.prog 7 15)) t s x := by
  rw [L7_15_eqs]
  exact mkM_ok (st := st_L7_15) (m := FU) cs_5_ok hmix false (L7_15_in) (by kernel_rfl) (fun env y h => by rw [← stepMC_lk]; exact h)
theorem op_L7_15_good {p : Nat × List Dat → Prop} (Inv : List Dat → Prop) (μ : List Dat → Nat) (h : ∀ env, Inv env → Good (fun y => match y with | .go e => Inv e ∧ μ e < μ env | .stop k d => p (k, d)) (st_L7_15 env).sel) (env : List Dat) (hi : Inv env) (hm : μ env < FU) : Good p (op_L7_15 env) := by
  rw [op_L7_15_eq]
  exact iterS_good Inv μ p h FU env hi hm

noncomputable def fn_L7_15_t : List Dat → Tree Step
  | [.n n0, .n n1] =>
    (let r1 : Option (Nat × List Dat) := (op_L7_18 [.k 0, .n n0, .n n1, .n (0 : Int), .n (1 : Int), .n (1 : Int), .n (5 : Int), .n (1 : Int), .n (2 : Int), .n (1 : Int), .n (5 : Int), .n (1 : Int), .l (Ty.pair (Ty.int IntKind.i64) (Ty.pair (Ty.int IntKind.i64) (Ty.pair (Ty.int IntKind.i64) (Ty.pair (Ty.int IntKind.i64) (Ty.pair (Ty.int IntKind.u64) (Ty.int IntKind.u32)))))) [((0 : Int), (0 : Int), (2 : Int), (1 : Int), (5 : Int), (1 : Int)), ((0 : Int), (1 : Int), (2 : Int), (1 : Int), (5 : Int), (1 : Int)), ((0 : Int), (1 : Int), (2 : Int), (1 : Int), (4 : Int), (1 : Int)), ((0 : Int), (1 : Int), (2 : Int), (2 : Int), (5 : Int), (1 : Int)), ((0 : Int), (1 : Int), (2 : Int), (1 : Int), (5 : Int), (0 : Int)), ((0 : Int), (0 : Int), (1 : Int), (1 : Int), (5 : Int), (1 : Int)), ((0 : Int), (1 : Int), (1 : Int), (1 : Int), (5 : Int), (1 : Int)), ((0 : Int), (2 : Int), (2 : Int), (1 : Int), (5 : Int), (1 : Int)), ((0 : Int), (-1 : Int), (2 : Int), (1 : Int), (5 : Int), (1 : Int)), ((3 : Int), (0 : Int), (0 : Int), (0 : Int), (0 : Int), (0 : Int)), ((4 : Int), (0 : Int), (0 : Int), (0 : Int), (0 : Int), (0 : Int)), ((5 : Int), (0 : Int), (0 : Int), (0 : Int), (0 : Int), (0 : Int))]]);
     (.node (isK 0 [HK.n, HK.n, HK.n, HK.n, HK.n, HK.n, HK.n, HK.n, HK.n, HK.n, HK.l (Ty.pair (Ty.int IntKind.i64) (Ty.pair (Ty.int IntKind.i64) (Ty.pair (Ty.int IntKind.i64) (Ty.pair (Ty.int IntKind.i64) (Ty.pair (Ty.int IntKind.u64) (Ty.int IntKind.u32))))))] r1)
      (.leaf (Step.go [.k 0, .n (gn (dOf r1) 0), .n (IntKind.wrap .i64 (gn (dOf r1) 1 + (1 : Int))), .n (gn (dOf r1) 2), .n (gn (dOf r1) 3), .n (gn (dOf r1) 4), .n (gn (dOf r1) 5), .n (gn (dOf r1) 6), .n (gn (dOf r1) 7), .n (gn (dOf r1) 8), .n (gn (dOf r1) 9), .l (Ty.pair (Ty.int IntKind.i64) (Ty.pair (Ty.int IntKind.i64) (Ty.pair (Ty.int IntKind.i64) (Ty.pair (Ty.int IntKind.i64) (Ty.pair (Ty.int IntKind.u64) (Ty.int IntKind.u32)))))) (gl (Ty.pair (Ty.int IntKind.i64) (Ty.pair (Ty.int IntKind.i64) (Ty.pair (Ty.int IntKind.i64) (Ty.pair (Ty.int IntKind.i64) (Ty.pair (Ty.int IntKind.u64) (Ty.int IntKind.u32)))))) (dOf r1) 10)]))
      (.node (isK 1 [HK.b] r1)
       (.leaf (Step.stop 1 [.b (gb (dOf r1) 0)]))
       (.bad 351))))
  | _ => .bad 0
theorem fn_L7_15_t_im (n0 : Int) (n1 : Int) (g0 : 0 ≤ n0) (g1 :  n0 < 12) (g2 :  0 ≤ n1) (g3 :  n1 < 12) : Imp (fn_L7_15_t [.n n0, .n n1]) (st_L7_15 [.k 0, .n n0, .n n1, .n 1, .n 1, .n 5, .n 1, .n 2, .n 1, .n 5, .n 1, .l TCl calls12]) :=
(.path [1] (by kernel_rfl)
(.pt (c := (decide (n1 < (12 : Int)))) (by kernel_rfl) (by kernel_rfl) (by (simp [*]; done))
(.node (by kernel_rfl) (by kernel_rfl) (fun h0 =>
(.path [1] (by kernel_rfl)
(.leaf (by kernel_rfl)))) (fun h0 =>
(.node (by kernel_rfl) (by kernel_rfl) (fun h1 =>
(.path [1] (by kernel_rfl)
(.leaf (by kernel_rfl)))) (fun h1 =>
.none))))))

noncomputable def fn_L7_15_x : List Dat → Tree Step
  | [.n n0, .n n1] =>
    (.leaf (Step.stop 0 [.n n0, .n (1 : Int), .n (1 : Int), .n (5 : Int), .n (1 : Int), .n (2 : Int), .n (1 : Int), .n (5 : Int), .n (1 : Int), .l (Ty.pair (Ty.int IntKind.i64) (Ty.pair (Ty.int IntKind.i64) (Ty.pair (Ty.int IntKind.i64) (Ty.pair (Ty.int IntKind.i64) (Ty.pair (Ty.int IntKind.u64) (Ty.int IntKind.u32)))))) [((0 : Int), (0 : Int), (2 : Int), (1 : Int), (5 : Int), (1 : Int)), ((0 : Int), (1 : Int), (2 : Int), (1 : Int), (5 : Int), (1 : Int)), ((0 : Int), (1 : Int), (2 : Int), (1 : Int), (4 : Int), (1 : Int)), ((0 : Int), (1 : Int), (2 : Int), (2 : Int), (5 : Int), (1 : Int)), ((0 : Int), (1 : Int), (2 : Int), (1 : Int), (5 : Int), (0 : Int)), ((0 : Int), (0 : Int), (1 : Int), (1 : Int), (5 : Int), (1 : Int)), ((0 : Int), (1 : Int), (1 : Int), (1 : Int), (5 : Int), (1 : Int)), ((0 : Int), (2 : Int), (2 : Int), (1 : Int), (5 : Int), (1 : Int)), ((0 : Int), (-1 : Int), (2 : Int), (1 : Int), (5 : Int), (1 : Int)), ((3 : Int), (0 : Int), (0 : Int), (0 : Int), (0 : Int), (0 : Int)), ((4 : Int), (0 : Int), (0 : Int), (0 : Int), (0 : Int), (0 : Int)), ((5 : Int), (0 : Int), (0 : Int), (0 : Int), (0 : Int), (0 : Int))]]))
  | _ => .bad 0
theorem fn_L7_15_x_im (n0 : Int) (n1 : Int) (g0 : n1 = 12) : Imp (fn_L7_15_x [.n n0, .n n1]) (st_L7_15 [.k 0, .n n0, .n n1, .n 1, .n 1, .n 5, .n 1, .n 2, .n 1, .n 5, .n 1, .l TCl calls12]) :=
(.path [1] (by kernel_rfl)
(.pf (c := (decide (n1 < (12 : Int)))) (by kernel_rfl) (by kernel_rfl) (by (simp [*]; done))
(.path [1] (by kernel_rfl)
(.leaf (by kernel_rfl)))))

noncomputable def st_L7_12 (env : List Dat) : Tree Step := Lk.stepMC false LK cs_5 7 12 (lsM [(15, L7_15)] 0) (mkM 0 [] [(sh 126 [(1, .ptr 0 0), (2, .ptr 1 0), (6, .own 2), (7, .int .i64 0)], [frB 1, frB 5, .arr TCl 9])] [] [(.exit 0, sh 126 [], []), (.ret, sh 126 [(0, .bool 0)], [])] fun _ => none) env
theorem op_L7_12_ex : ∃ f : List Dat → Option (Nat × List Dat), ∀ env, f env = iterS st_L7_12 FU env := ⟨iterS st_L7_12 FU, fun _ => rfl⟩
noncomputable def op_L7_12 : List Dat → Option (Nat × List Dat) := Classical.choose op_L7_12_ex
theorem op_L7_12_eq (env : List Dat) : op_L7_12 env = iterS st_L7_12 FU env := Classical.choose_spec op_L7_12_ex env
noncomputable def L7_12 : MBox := mkM 0 [] [(sh 126 [(1, .ptr 0 0), (2, .ptr 1 0), (6, .own 2), (7, .int .i64 0)], [frB 1, frB 5, .arr TCl 9])] [] [(.exit 0, sh 126 [], []), (.ret, sh 126 [(0, .bool 0)], [])] op_L7_12
theorem L7_12_eqs : L7_12 = mkM 0 [] [(sh 126 [(1, .ptr 0 0), (2, .ptr 1 0), (6, .own 2), (7, .int .i64 0)], [frB 1, frB 5, .arr TCl 9])] [] [(.exit 0, sh 126 [], []), (.ret, sh 126 [(0, .bool 0)], [])] (iterS st_L7_12 FU) := congrArg (fun f => mkM 0 [] [(sh 126 [(1, .ptr 0 0), (2, .ptr 1 0), (6, .own 2), (7, .int .i64 0)], [frB 1, frB 5, .arr TCl 9])] [] [(.exit 0, sh 126 [], []), (.ret, sh 126 [(0, .bool 0)], [])] f) (funext op_L7_12_eq)
theorem L7_12_in : LsOk Try.prog 0 (lsM [(15, L7_15)] 0) (cAt Try.prog 7 12) := LsOk.many fun j B hB hk c hc hi => by
  simp only [lookM] at hB
  split at hB
  · rename_i e; have := Nat.eq_of_beq_eq_true e; subst this; cases hB
    have e1 : loopsAt (cAt Try.prog 7 12) 15 = [cAt Try.prog 7 15] := by kernel_rfl
    have e2 := loopsAt_mem hc hi
    rw [e1] at e2; cases List.mem_singleton.1 e2; exact L7_15_run
  cases hB
theorem L7_12_run : ∀ t s x, (manyRun L7_12 t s).sel = some x → CodeOk Try.prog 0 (.loop (cAt Try.prog 7 12)) t s x := by
  rw [L7_12_eqs]
  exact mkM_ok (st := st_L7_12) (m := FU) cs_5_ok hmix false (L7_12_in) (by kernel_rfl) (fun env y h => by rw [← stepMC_lk]; exact h)
theorem op_L7_12_good {p : Nat × List Dat → Prop} (Inv : List Dat → Prop) (μ : List Dat → Nat) (h : ∀ env, Inv env → Good (fun y => match y with | .go e => Inv e ∧ μ e < μ env | .stop k d => p (k, d)) (st_L7_12 env).sel) (env : List Dat) (hi : Inv env) (hm : μ env < FU) : Good p (op_L7_12 env) := by
  rw [op_L7_12_eq]
  exact iterS_good Inv μ p h FU env hi hm

noncomputable def fn_L7_12_t : List Dat → Tree Step
  | [.n n0] =>
    (let r1 : Option (Nat × List Dat) := (op_L7_15 [.k 0, .n n0, .n (0 : Int), .n (1 : Int), .n (1 : Int), .n (5 : Int), .n (1 : Int), .n (2 : Int), .n (1 : Int), .n (5 : Int), .n (1 : Int), .l (Ty.pair (Ty.int IntKind.i64) (Ty.pair (Ty.int IntKind.i64) (Ty.pair (Ty.int IntKind.i64) (Ty.pair (Ty.int IntKind.i64) (Ty.pair (Ty.int IntKind.u64) (Ty.int IntKind.u32)))))) [((0 : Int), (0 : Int), (2 : Int), (1 : Int), (5 : Int), (1 : Int)), ((0 : Int), (1 : Int), (2 : Int), (1 : Int), (5 : Int), (1 : Int)), ((0 : Int), (1 : Int), (2 : Int), (1 : Int), (4 : Int), (1 : Int)), ((0 : Int), (1 : Int), (2 : Int), (2 : Int), (5 : Int), (1 : Int)), ((0 : Int), (1 : Int), (2 : Int), (1 : Int), (5 : Int), (0 : Int)), ((0 : Int), (0 : Int), (1 : Int), (1 : Int), (5 : Int), (1 : Int)), ((0 : Int), (1 : Int), (1 : Int), (1 : Int), (5 : Int), (1 : Int)), ((0 : Int), (2 : Int), (2 : Int), (1 : Int), (5 : Int), (1 : Int)), ((0 : Int), (-1 : Int), (2 : Int), (1 : Int), (5 : Int), (1 : Int)), ((3 : Int), (0 : Int), (0 : Int), (0 : Int), (0 : Int), (0 : Int)), ((4 : Int), (0 : Int), (0 : Int), (0 : Int), (0 : Int), (0 : Int)), ((5 : Int), (0 : Int), (0 : Int), (0 : Int), (0 : Int), (0 : Int))]]);
     (.node (isK 0 [HK.n, HK.n, HK.n, HK.n, HK.n, HK.n, HK.n, HK.n, HK.n, HK.l (Ty.pair (Ty.int IntKind.i64) (Ty.pair (Ty.int IntKind.i64) (Ty.pair (Ty.int IntKind.i64) (Ty.pair (Ty.int IntKind.i64) (Ty.pair (Ty.int IntKind.u64) (Ty.int IntKind.u32))))))] r1)
      (.node (inR (gn (dOf r1) 0) (List.length (gl (Ty.pair (Ty.int IntKind.i64) (Ty.pair (Ty.int IntKind.i64) (Ty.pair (Ty.int IntKind.i64) (Ty.pair (Ty.int IntKind.i64) (Ty.pair (Ty.int IntKind.u64) (Ty.int IntKind.u32)))))) (dOf r1) 9)))
       (.leaf (Step.go [.k 0, .n (IntKind.wrap .i64 (gn (dOf r1) 0 + (1 : Int))), .n (gn (dOf r1) 1), .n (gn (dOf r1) 2), .n (gn (dOf r1) 3), .n (gn (dOf r1) 4), .n (gn (dOf r1) 5), .n (gn (dOf r1) 6), .n (gn (dOf r1) 7), .n (gn (dOf r1) 8), .l (Ty.pair (Ty.int IntKind.i64) (Ty.pair (Ty.int IntKind.i64) (Ty.pair (Ty.int IntKind.i64) (Ty.pair (Ty.int IntKind.i64) (Ty.pair (Ty.int IntKind.u64) (Ty.int IntKind.u32)))))) (gl (Ty.pair (Ty.int IntKind.i64) (Ty.pair (Ty.int IntKind.i64) (Ty.pair (Ty.int IntKind.i64) (Ty.pair (Ty.int IntKind.i64) (Ty.pair (Ty.int IntKind.u64) (Ty.int IntKind.u32)))))) (dOf r1) 9)]))
       (.bad 12))
      (.node (isK 1 [HK.b] r1)
       (.leaf (Step.stop 1 [.b (gb (dOf r1) 0)]))
       (.bad 351))))
  | _ => .bad 0
theorem fn_L7_12_t_im (n0 : Int) (g0 : 0 ≤ n0) (g1 :  n0 < 12) : Imp (fn_L7_12_t [.n n0]) (st_L7_12 [.k 0, .n n0, .n 1, .n 1, .n 5, .n 1, .n 2, .n 1, .n 5, .n 1, .l TCl calls12]) :=
(.path [1] (by kernel_rfl)
(.pt (c := (decide (n0 < (12 : Int)))) (by kernel_rfl) (by kernel_rfl) (by (simp [*]; done))
(.node (by kernel_rfl) (by kernel_rfl) (fun h0 =>
(.node (by kernel_rfl) (by kernel_rfl) (fun h1 =>
(.path [1,1,0] (by kernel_rfl)
(.pt (by kernel_rfl) (by kernel_rfl) h1
(.path (1 ::1 ::0 ::1 ::1 ::0 ::1 ::1 ::1 ::1 ::1 ::1 ::1 ::1 ::1 ::1 ::1 ::1 ::1 ::1 ::1 ::1 ::1 ::1 ::1 ::1 ::1 ::1 ::1 ::1 ::1 ::1 ::1 ::1 ::1 ::1 ::0 ::1 :: []) (by kernel_rfl)
(.leaf (by kernel_rfl)))))) (fun h1 =>
.none))) (fun h0 =>
(.node (by kernel_rfl) (by kernel_rfl) (fun h1 =>
(.path [1] (by kernel_rfl)
(.leaf (by kernel_rfl)))) (fun h1 =>
.none))))))

noncomputable def fn_L7_12_x : List Dat → Tree Step
  | [.n n0] =>
    (.leaf (Step.stop 0 []))
  | _ => .bad 0
theorem fn_L7_12_x_im (n0 : Int) (g0 : n0 = 12) : Imp (fn_L7_12_x [.n n0]) (st_L7_12 [.k 0, .n n0, .n 1, .n 1, .n 5, .n 1, .n 2, .n 1, .n 5, .n 1, .l TCl calls12]) :=
(.path [1] (by kernel_rfl)
(.pf (c := (decide (n0 < (12 : Int)))) (by kernel_rfl) (by kernel_rfl) (by (simp [*]; done))
(.path [1] (by kernel_rfl)
(.leaf (by kernel_rfl)))))

theorem ls_7_ok : LsOk Try.prog (0) (lsM [(12, L7_12)] (0)) (bodyOf Try.prog 7) := LsOk.many fun j B hB hk c hc hi => by
  simp only [lookM] at hB
  split at hB
  · rename_i e; have := Nat.eq_of_beq_eq_true e; subst this; cases hB
    have e1 : loopAt Try.prog 7 12 = [cAt Try.prog 7 12] := loopAt_one (by kernel_rfl)
    have e2 : c ∈ loopAt Try.prog 7 12 := loopsAt_mem hc hi
    rw [e1] at e2; cases List.mem_singleton.1 e2; exact L7_12_run
  cases hB

noncomputable def ev_W7 (env : List Dat) : Tree Bool := Lk.lawB false LK cs_5 7 (lsM [(12, L7_12)] (0)) (instL [] env)

theorem W7_law (env : List Dat) (h : (ev_W7 env).sel = some true) {w : World} {args : Array Value} (ha : LRel R0 (snapOf w) (instL [] env) args) :
    Calls Try.prog 7 args w fun e w' => e = .returned (.bool true) ∧ Below w.heap.size w w' :=
  lawB_ok cs_5_ok hmix false (ls := (lsM [(12, L7_12)] (0))) (ls_7_ok) (by rw [← lawB_lk]; exact h) ha

noncomputable def fn_W7_t : List Dat → Tree Bool
  | [] =>
    (let r1 : Option (Nat × List Dat) := (op_L7_12 [.k 0, .n (0 : Int), .n (1 : Int), .n (1 : Int), .n (5 : Int), .n (1 : Int), .n (2 : Int), .n (1 : Int), .n (5 : Int), .n (1 : Int), .l (Ty.pair (Ty.int IntKind.i64) (Ty.pair (Ty.int IntKind.i64) (Ty.pair (Ty.int IntKind.i64) (Ty.pair (Ty.int IntKind.i64) (Ty.pair (Ty.int IntKind.u64) (Ty.int IntKind.u32)))))) [((0 : Int), (0 : Int), (2 : Int), (1 : Int), (5 : Int), (1 : Int)), ((0 : Int), (1 : Int), (2 : Int), (1 : Int), (5 : Int), (1 : Int)), ((0 : Int), (1 : Int), (2 : Int), (1 : Int), (4 : Int), (1 : Int)), ((0 : Int), (1 : Int), (2 : Int), (2 : Int), (5 : Int), (1 : Int)), ((0 : Int), (1 : Int), (2 : Int), (1 : Int), (5 : Int), (0 : Int)), ((0 : Int), (0 : Int), (1 : Int), (1 : Int), (5 : Int), (1 : Int)), ((0 : Int), (1 : Int), (1 : Int), (1 : Int), (5 : Int), (1 : Int)), ((0 : Int), (2 : Int), (2 : Int), (1 : Int), (5 : Int), (1 : Int)), ((0 : Int), (-1 : Int), (2 : Int), (1 : Int), (5 : Int), (1 : Int)), ((3 : Int), (0 : Int), (0 : Int), (0 : Int), (0 : Int), (0 : Int)), ((4 : Int), (0 : Int), (0 : Int), (0 : Int), (0 : Int), (0 : Int)), ((5 : Int), (0 : Int), (0 : Int), (0 : Int), (0 : Int), (0 : Int))]]);
     (.node (isK 0 [] r1)
      (.leaf (true))
      (.node (isK 1 [HK.b] r1)
       (.leaf (gb (dOf r1) 0))
       (.bad 351))))
  | _ => .bad 0
theorem fn_W7_t_im  : Imp (fn_W7_t []) (ev_W7 []) :=
(.node (by kernel_rfl) (by kernel_rfl) (fun h0 =>
(.path [1,1,1,1,1,1] (by kernel_rfl)
(.leaf (by kernel_rfl)))) (fun h0 =>
(.node (by kernel_rfl) (by kernel_rfl) (fun h1 =>
(.leaf (by kernel_rfl))) (fun h1 =>
.none))))
end Go.Proofs.Ytchedebomjmehaa.Vx
