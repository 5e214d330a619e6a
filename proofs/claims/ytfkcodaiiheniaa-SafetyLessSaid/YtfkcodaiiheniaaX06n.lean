import Derived.Test.YtfkcodaiiheniaaVxIm
import Derived.Test.YtfkcodaiiheniaaVxLk
import Derived.Test.YtfkcodaiiheniaaVxLaw
import Derived.Test.YtfkcodaiiheniaaX06m
import Derived.KernelRfl
namespace Go.Proofs.Ytfkcodaiiheniaa.Vx
open Go Go.RowKit
set_option linter.unusedVariables false
set_option linter.unusedSimpArgs false
set_option maxRecDepth 100000
set_option maxHeartbeats 0
def rtV (h : Nat) : PV := .agg [.str h, .int .i64 (h+1), .imm TI (h+2), .imm TNd (h+3), .imm TI (h+4), .imm TNd (h+5)]
def rtB (h : Nat) : PB := .cells [.str h, .int .i64 (h+1), .imm TI (h+2), .imm TNd (h+3), .imm TI (h+4), .imm TNd (h+5)]
def fnV (f : Nat) (cs : List PV) : PV := .fn (.func f) [] cs
def k9 (f : OpT) : FBox := mkF [rtV 0] [] [] [(.own 0, [.arr TI 0])] f
noncomputable def ev_9 (env : LDt) : TD := Lk.boxC false LK cs_28 83 ls0 (k9 fun _ => none) env
noncomputable def op_9 : OpT := Classical.choose (opq (fun env => (ev_9 env).sel))
theorem op_9_eq (env : LDt) : op_9 env = (ev_9 env).sel := Classical.choose_spec (opq (fun env => (ev_9 env).sel)) env
noncomputable def B9 : FBox := k9 op_9
theorem B9_ok : RunOk Try.prog 83 (boxRun B9) := mkF_ok (op := op_9) cs_28_ok hmix false (LsOk.none _ _ _) (fun env x h => by rw [op_9_eq] at h; rw [← boxC_lk]; exact h)
noncomputable def fn_9_t : LDt → TD
 | [.s s0, .n n1, .l TI l2, .l TNd l3, .l TI l4, .l TNd l5] =>
  (.node (true && decide ((0 : Int) ≤ IntKind.wrap .i64 ((↑(List.length l2) : Int) + (↑(List.length l4) : Int))) && decide (IntKind.wrap .i64 ((↑(List.length l2) : Int) + (↑(List.length l4) : Int)) * (8 : Int) ≤ (281474976710656 : Int)))
   (.node (decide ((0 + List.length l2) * 8 ≤ 140737488355328))
   (.node (decide ((List.length ([] ++ l2) + List.length l4) * 8 ≤ 140737488355328))
    (.leaf ((0, [.l TI ([] ++ l2 ++ l4)])))
    (.bad 62))
   (.bad 62))
   (.bad 50))
 | _ => .bad 0
theorem fn_9_t_im (s0 : ByteArray) (n1 : Int) (l2 : DI) (l3 : DD) (l4 : DI) (l5 : DD) : Imp (fn_9_t [.s s0, .n n1, .l TI l2, .l TNd l3, .l TI l4, .l TNd l5]) (ev_9 [.s s0, .n n1, .l TI l2, .l TNd l3, .l TI l4, .l TNd l5]) :=
(.pa [1]
(.nd (fun h0 =>
(.nd (fun h1 =>
(.nd (fun h2 =>
(.pa [1,1]
.lf)) (fun h2 =>
.none))) (fun h1 =>
.none))) (fun h0 =>
.none)))
noncomputable def cs_9 : FuncId → Option CSpec := csLend 83 B9 cs_28
theorem cs_9_ok : CsOk Try.prog cs_9 := csLend_ok cs_28_ok B9_ok
def k10 (f : OpT) : FBox := mkF [rtV 0] [] [] [(.own 0, [.arr TNd 0])] f
noncomputable def ev_10 (env : LDt) : TD := Lk.boxC false LK cs_9 84 ls0 (k10 fun _ => none) env
noncomputable def op_10 : OpT := Classical.choose (opq (fun env => (ev_10 env).sel))
theorem op_10_eq (env : LDt) : op_10 env = (ev_10 env).sel := Classical.choose_spec (opq (fun env => (ev_10 env).sel)) env
noncomputable def B10 : FBox := k10 op_10
theorem B10_ok : RunOk Try.prog 84 (boxRun B10) := mkF_ok (op := op_10) cs_9_ok hmix false (LsOk.none _ _ _) (fun env x h => by rw [op_10_eq] at h; rw [← boxC_lk]; exact h)
noncomputable def fn_10_t : LDt → TD
 | [.s s0, .n n1, .l TI l2, .l TNd l3, .l TI l4, .l TNd l5] =>
  (.node (true && decide ((0 : Int) ≤ IntKind.wrap .i64 ((↑(List.length l3) : Int) + (↑(List.length l5) : Int))) && decide (IntKind.wrap .i64 ((↑(List.length l3) : Int) + (↑(List.length l5) : Int)) * (16 : Int) ≤ (281474976710656 : Int)))
   (.node (decide ((0 + List.length l3) * 16 ≤ 140737488355328))
   (.node (decide ((List.length ([] ++ l3) + List.length l5) * 16 ≤ 140737488355328))
    (.leaf ((0, [.l TNd ([] ++ l3 ++ l5)])))
    (.bad 62))
   (.bad 62))
   (.bad 50))
 | _ => .bad 0
theorem fn_10_t_im (s0 : ByteArray) (n1 : Int) (l2 : DI) (l3 : DD) (l4 : DI) (l5 : DD) : Imp (fn_10_t [.s s0, .n n1, .l TI l2, .l TNd l3, .l TI l4, .l TNd l5]) (ev_10 [.s s0, .n n1, .l TI l2, .l TNd l3, .l TI l4, .l TNd l5]) :=
(.pa [1]
(.nd (fun h0 =>
(.nd (fun h1 =>
(.nd (fun h2 =>
(.pa [1,1]
.lf)) (fun h2 =>
.none))) (fun h1 =>
.none))) (fun h0 =>
.none)))
noncomputable def cs_10 : FuncId → Option CSpec := csLend 84 B10 cs_9
theorem cs_10_ok : CsOk Try.prog cs_10 := csLend_ok cs_9_ok B10_ok
noncomputable def ev_11 (env : LDt) : TD := Lk.boxC false LK cs_10 22 ls0 (k9 fun _ => none) env
noncomputable def op_11 : OpT := Classical.choose (opq (fun env => (ev_11 env).sel))
theorem op_11_eq (env : LDt) : op_11 env = (ev_11 env).sel := Classical.choose_spec (opq (fun env => (ev_11 env).sel)) env
noncomputable def B11 : FBox := k9 op_11
theorem B11_ok : RunOk Try.prog 22 (boxRun B11) := mkF_ok (op := op_11) cs_10_ok hmix false (LsOk.none _ _ _) (fun env x h => by rw [op_11_eq] at h; rw [← boxC_lk]; exact h)
noncomputable def fn_11_t : LDt → TD
 | [.s s0, .n n1, .l TI l2, .l TNd l3, .l TI l4, .l TNd l5] =>
  (.node (decide (List.length l2 * 8 ≤ 140737488355328))
   (.node (decide ((List.length l2 + List.length l4) * 8 ≤ 140737488355328))
   (.leaf ((0, [.l TI (l2 ++ l4)])))
   (.bad 62))
   (.bad 60))
 | _ => .bad 0
theorem fn_11_t_im (s0 : ByteArray) (n1 : Int) (l2 : DI) (l3 : DD) (l4 : DI) (l5 : DD) : Imp (fn_11_t [.s s0, .n n1, .l TI l2, .l TNd l3, .l TI l4, .l TNd l5]) (ev_11 [.s s0, .n n1, .l TI l2, .l TNd l3, .l TI l4, .l TNd l5]) :=
(.nd (fun h0 =>
(.nd (fun h1 =>
(.pa [1]
.lf)) (fun h1 =>
.none))) (fun h0 =>
.none))
noncomputable def cs_11 : FuncId → Option CSpec := csLend 22 B11 cs_10
theorem cs_11_ok : CsOk Try.prog cs_11 := csLend_ok cs_10_ok B11_ok
noncomputable def ev_12 (env : LDt) : TD := Lk.boxC false LK cs_11 23 ls0 (k10 fun _ => none) env
noncomputable def op_12 : OpT := Classical.choose (opq (fun env => (ev_12 env).sel))
theorem op_12_eq (env : LDt) : op_12 env = (ev_12 env).sel := Classical.choose_spec (opq (fun env => (ev_12 env).sel)) env
noncomputable def B12 : FBox := k10 op_12
theorem B12_ok : RunOk Try.prog 23 (boxRun B12) := mkF_ok (op := op_12) cs_11_ok hmix false (LsOk.none _ _ _) (fun env x h => by rw [op_12_eq] at h; rw [← boxC_lk]; exact h)
noncomputable def fn_12_t : LDt → TD
 | [.s s0, .n n1, .l TI l2, .l TNd l3, .l TI l4, .l TNd l5] =>
  (.node (decide (List.length l3 * 16 ≤ 140737488355328))
   (.node (decide ((List.length l3 + List.length l5) * 16 ≤ 140737488355328))
   (.leaf ((0, [.l TNd (l3 ++ l5)])))
   (.bad 62))
   (.bad 60))
 | _ => .bad 0
theorem fn_12_t_im (s0 : ByteArray) (n1 : Int) (l2 : DI) (l3 : DD) (l4 : DI) (l5 : DD) : Imp (fn_12_t [.s s0, .n n1, .l TI l2, .l TNd l3, .l TI l4, .l TNd l5]) (ev_12 [.s s0, .n n1, .l TI l2, .l TNd l3, .l TI l4, .l TNd l5]) :=
(.nd (fun h0 =>
(.nd (fun h1 =>
(.pa [1]
.lf)) (fun h1 =>
.none))) (fun h0 =>
.none))
noncomputable def cs_12 : FuncId → Option CSpec := csLend 23 B12 cs_11
theorem cs_12_ok : CsOk Try.prog cs_12 := csLend_ok cs_11_ok B12_ok
def kL51a_2 (f : OpT) : MBox := mkM 1 [] [(sh 17 [(1, fnV 132 [.ptr 0 0]), (7, .imm TI 0), (8, .int .i64 1), (9, .int .i64 2)], [.cells [.int .i64 3]])] [] [(.exit 0, sh 17 [], [.gone]), (.ret, sh 17 [(4, .bool 0)], [.gone])] f
noncomputable def st_L51a_2 (env : LDt) : Tree Step := Lk.stepMC false LK cs_12 131 2 ls0 (kL51a_2 fun _ => none) env
noncomputable def op_L51a_2 : OpT := Classical.choose (opq (iterS st_L51a_2 FU))
theorem op_L51a_2_eq (env : LDt) : op_L51a_2 env = iterS st_L51a_2 FU env := Classical.choose_spec (opq (iterS st_L51a_2 FU)) env
noncomputable def L51a_2 : MBox := kL51a_2 op_L51a_2
theorem L51a_2_eqs : L51a_2 = kL51a_2 (iterS st_L51a_2 FU) := congrArg kL51a_2 (funext op_L51a_2_eq)
theorem L51a_2_run : ∀ t s x, (manyRun L51a_2 t s).sel = some x → CodeOk Try.prog 1 (.loop (cAt Try.prog 131 2)) t s x := by
 rw [L51a_2_eqs]
 exact mkM_ok (st := st_L51a_2) (m := FU) cs_12_ok hmix false (LsOk.none _ _ _) (by kernel_rfl) (fun env y h => by rw [← stepMC_lk]; exact h)
noncomputable def fn_L51a_2_t : LDt → Tree Step
 | [.l TI l0, .n n1, .n n2, .n n3] =>
  (.node (decide (n2 < n1))
   (.node ((List.getD l0 (Int.toNat n2) (0 : Int) : Int) == n3)
   (.leaf (Step.stop 1 [.b true]))
   (.leaf (Step.go [.k 0, .l TI l0, .n n1, .n (IntKind.wrap .i64 (n2 + (1 : Int))), .n n3])))
   (.leaf (Step.stop 0 [])))
 | _ => .bad 0
theorem fn_L51a_2_t_im (l0 : DI) (n1 : Int) (n2 : Int) (n3 : Int) (g0 : 0 ≤ n2) (g1 :  n1 = (l0.length : Int)) : Imp (fn_L51a_2_t [.l TI l0, .n n1, .n n2, .n n3]) (st_L51a_2 [.k 0, .l TI l0, .n n1, .n n2, .n n3]) :=
(.pa [1]
(.nd (fun h0 =>
(.pq (c := (inR n2 (List.length l0)))
(.pa [1,1]
(.nd (fun h1 =>
(.pa [1]
.lf)) (fun h1 =>
(.pa [1]
.lf)))))) (fun h0 =>
(.pa [1]
.lf))))
theorem ls_51a_ok : LsOk Try.prog (List.length ([.cells [.int .i64 1]] : List PB)) (lsM [(2, L51a_2)] (List.length ([.cells [.int .i64 1]] : List PB))) (bodyOf Try.prog 131) := LsOk.many fun j B hB hk c hc hi => by
 simp only [lookM] at hB
 split at hB
 ·rename_i e; have := Nat.eq_of_beq_eq_true e; subst this; cases hB
  rw [onlyC (f := 131) (i := 2) (loopAt_one (by kernel_rfl)) (loopsAt_mem hc hi)]; exact L51a_2_run
 cases hB
def k51a (f : OpT) : FBox := mkF [.imm TI 0, fnV 132 [.ptr 0 0]] [.cells [.int .i64 1]] [] [(.bool 0, [.gone])] f
noncomputable def ev_51a (env : LDt) : TD := Lk.boxC false LK cs_12 131 (lsM [(2, L51a_2)] (List.length ([.cells [.int .i64 1]] : List PB))) (k51a fun _ => none) env
noncomputable def op_51a : OpT := Classical.choose (opq (fun env => (ev_51a env).sel))
theorem op_51a_eq (env : LDt) : op_51a env = (ev_51a env).sel := Classical.choose_spec (opq (fun env => (ev_51a env).sel)) env
noncomputable def B51a : FBox := k51a op_51a
theorem B51a_ok : RunOk Try.prog 131 (boxRun B51a) := mkF_ok (op := op_51a) cs_12_ok hmix false (ls_51a_ok) (fun env x h => by rw [op_51a_eq] at h; rw [← boxC_lk]; exact h)
noncomputable def fn_51a_t : LDt → TD
 | [.l TI l0, .n n1] =>
  (let r1 : OD := (op_L51a_2 [.k 0, .l TI l0, .n (↑(List.length l0) : Int), .n (0 : Int), .n n1]);
   (.node (isK 0 [] r1)
   (.leaf ((0, [.b false])))
   (.node (isK 1 [HK.b] r1)
    (.leaf ((0, [.b (gb (dOf r1) 0)])))
    (.bad 351))))
 | _ => .bad 0
theorem fn_51a_t_im (l0 : DI) (n1 : Int) : Imp (fn_51a_t [.l TI l0, .n n1]) (ev_51a [.l TI l0, .n n1]) :=
(.nd (fun h0 =>
(.pa [1]
.lf)) (fun h0 =>
(.nd (fun h1 =>
(.pa [1]
.lf)) (fun h1 =>
.none))))
def kL51b_2 (f : OpT) : MBox := mkM 2 [] [(sh 17 [(1, fnV 133 [.ptr 0 0, .ptr 1 0]), (7, .imm TI 0), (8, .int .i64 1), (9, .int .i64 2)], [.cells [fnV 87 []], .cells [.int .i64 3]])] [] [(.exit 0, sh 17 [], [.gone, .gone]), (.ret, sh 17 [(4, .bool 0)], [.gone, .gone])] f
noncomputable def st_L51b_2 (env : LDt) : Tree Step := Lk.stepMC false LK cs_12 131 2 ls0 (kL51b_2 fun _ => none) env
noncomputable def op_L51b_2 : OpT := Classical.choose (opq (iterS st_L51b_2 FU))
theorem op_L51b_2_eq (env : LDt) : op_L51b_2 env = iterS st_L51b_2 FU env := Classical.choose_spec (opq (iterS st_L51b_2 FU)) env
noncomputable def L51b_2 : MBox := kL51b_2 op_L51b_2
theorem L51b_2_eqs : L51b_2 = kL51b_2 (iterS st_L51b_2 FU) := congrArg kL51b_2 (funext op_L51b_2_eq)
theorem L51b_2_run : ∀ t s x, (manyRun L51b_2 t s).sel = some x → CodeOk Try.prog 2 (.loop (cAt Try.prog 131 2)) t s x := by
 rw [L51b_2_eqs]
 exact mkM_ok (st := st_L51b_2) (m := FU) cs_12_ok hmix false (LsOk.none _ _ _) (by kernel_rfl) (fun env y h => by rw [← stepMC_lk]; exact h)
noncomputable def fn_L51b_2_t : LDt → Tree Step
 | [.l TI l0, .n n1, .n n2, .n n3] =>
  (.node (decide (n2 < n1))
   (.node ((List.getD l0 (Int.toNat n2) (0 : Int) : Int) == n3)
   (.leaf (Step.stop 1 [.b true]))
   (.leaf (Step.go [.k 0, .l TI l0, .n n1, .n (IntKind.wrap .i64 (n2 + (1 : Int))), .n n3])))
   (.leaf (Step.stop 0 [])))
 | _ => .bad 0
theorem fn_L51b_2_t_im (l0 : DI) (n1 : Int) (n2 : Int) (n3 : Int) (g0 : 0 ≤ n2) (g1 :  n1 = (l0.length : Int)) : Imp (fn_L51b_2_t [.l TI l0, .n n1, .n n2, .n n3]) (st_L51b_2 [.k 0, .l TI l0, .n n1, .n n2, .n n3]) :=
(.pa [1]
(.nd (fun h0 =>
(.pq (c := (inR n2 (List.length l0)))
(.pa [1,1,1,1,1,1,1]
(.nd (fun h1 =>
(.pa [1]
.lf)) (fun h1 =>
(.pa [1]
.lf)))))) (fun h0 =>
(.pa [1]
.lf))))
theorem ls_51b_ok : LsOk Try.prog (List.length ([.cells [fnV 87 []], .cells [.int .i64 1]] : List PB)) (lsM [(2, L51b_2)] (List.length ([.cells [fnV 87 []], .cells [.int .i64 1]] : List PB))) (bodyOf Try.prog 131) := LsOk.many fun j B hB hk c hc hi => by
 simp only [lookM] at hB
 split at hB
 ·rename_i e; have := Nat.eq_of_beq_eq_true e; subst this; cases hB
  rw [onlyC (f := 131) (i := 2) (loopAt_one (by kernel_rfl)) (loopsAt_mem hc hi)]; exact L51b_2_run
 cases hB
def k51b (f : OpT) : FBox := mkF [.imm TI 0, fnV 133 [.ptr 0 0, .ptr 1 0]] [.cells [fnV 87 []], .cells [.int .i64 1]] [] [(.bool 0, [.gone, .gone])] f
noncomputable def ev_51b (env : LDt) : TD := Lk.boxC false LK cs_12 131 (lsM [(2, L51b_2)] (List.length ([.cells [fnV 87 []], .cells [.int .i64 1]] : List PB))) (k51b fun _ => none) env
noncomputable def op_51b : OpT := Classical.choose (opq (fun env => (ev_51b env).sel))
theorem op_51b_eq (env : LDt) : op_51b env = (ev_51b env).sel := Classical.choose_spec (opq (fun env => (ev_51b env).sel)) env
noncomputable def B51b : FBox := k51b op_51b
theorem B51b_ok : RunOk Try.prog 131 (boxRun B51b) := mkF_ok (op := op_51b) cs_12_ok hmix false (ls_51b_ok) (fun env x h => by rw [op_51b_eq] at h; rw [← boxC_lk]; exact h)
noncomputable def fn_51b_t : LDt → TD
 | [.l TI l0, .n n1] =>
  (let r1 : OD := (op_L51b_2 [.k 0, .l TI l0, .n (↑(List.length l0) : Int), .n (0 : Int), .n n1]);
   (.node (isK 0 [] r1)
   (.leaf ((0, [.b false])))
   (.node (isK 1 [HK.b] r1)
    (.leaf ((0, [.b (gb (dOf r1) 0)])))
    (.bad 351))))
 | _ => .bad 0
theorem fn_51b_t_im (l0 : DI) (n1 : Int) : Imp (fn_51b_t [.l TI l0, .n n1]) (ev_51b [.l TI l0, .n n1]) :=
(.nd (fun h0 =>
(.pa [1]
.lf)) (fun h0 =>
(.nd (fun h1 =>
(.pa [1]
.lf)) (fun h1 =>
.none))))
noncomputable def cs_51b : FuncId → Option CSpec := csAdd 131 [B51a, B51b] cs_12
theorem cs_51b_ok : CsOk Try.prog cs_51b := csAdd_ok cs_12_ok fun B hB => by
 simp only [List.mem_cons, List.not_mem_nil, or_false] at hB
 rcases hB with rfl | rfl
 ·exact B51a_ok
 ·exact B51b_ok
def k33 (f : OpT) : FBox := mkF [.imm TI 0, .int .i64 1] [] [] [(.bool 0, [])] f
noncomputable def ev_33 (env : LDt) : TD := Lk.boxC false LK cs_51b 85 ls0 (k33 fun _ => none) env
noncomputable def op_33 : OpT := Classical.choose (opq (fun env => (ev_33 env).sel))
theorem op_33_eq (env : LDt) : op_33 env = (ev_33 env).sel := Classical.choose_spec (opq (fun env => (ev_33 env).sel)) env
noncomputable def B33 : FBox := k33 op_33
theorem B33_ok : RunOk Try.prog 85 (boxRun B33) := mkF_ok (op := op_33) cs_51b_ok hmix false (LsOk.none _ _ _) (fun env x h => by rw [op_33_eq] at h; rw [← boxC_lk]; exact h)
noncomputable def fn_33_t : LDt → TD
 | [.l TI l0, .n n1] =>
  (let r1 : OD := (op_51a [.l TI l0, .n n1]);
   (.node (isK 0 [HK.b] r1)
   (.leaf ((0, [.b (gb (dOf r1) 0)])))
   (.bad 351)))
 | _ => .bad 0
theorem fn_33_t_im (l0 : DI) (n1 : Int) : Imp (fn_33_t [.l TI l0, .n n1]) (ev_33 [.l TI l0, .n n1]) :=
(.pa [1]
(.nd (fun h0 =>
(.pa [1,1]
.lf)) (fun h0 =>
.none)))
noncomputable def cs_33 : FuncId → Option CSpec := csLend 85 B33 cs_51b
theorem cs_33_ok : CsOk Try.prog cs_33 := csLend_ok cs_51b_ok B33_ok
def kL34_2 (f : OpT) : MBox := mkM 0 [] [(sh 20 [(0, .imm TI 0), (3, .ptr 0 0), (7, .imm TI 1), (8, .int .i64 2), (9, .int .i64 3)], [.cells [fnV 87 []]])] [] [(.exit 0, sh 20 [], []), (.ret, sh 20 [(4, .bool 0)], [])] f
noncomputable def st_L34_2 (env : LDt) : Tree Step := Lk.stepMC false LK cs_33 86 2 ls0 (kL34_2 fun _ => none) env
noncomputable def op_L34_2 : OpT := Classical.choose (opq (iterS st_L34_2 FU))
theorem op_L34_2_eq (env : LDt) : op_L34_2 env = iterS st_L34_2 FU env := Classical.choose_spec (opq (iterS st_L34_2 FU)) env
noncomputable def L34_2 : MBox := kL34_2 op_L34_2
theorem L34_2_eqs : L34_2 = kL34_2 (iterS st_L34_2 FU) := congrArg kL34_2 (funext op_L34_2_eq)
theorem L34_2_run : ∀ t s x, (manyRun L34_2 t s).sel = some x → CodeOk Try.prog 0 (.loop (cAt Try.prog 86 2)) t s x := by
 rw [L34_2_eqs]
 exact mkM_ok (st := st_L34_2) (m := FU) cs_33_ok hmix false (LsOk.none _ _ _) (by kernel_rfl) (fun env y h => by rw [← stepMC_lk]; exact h)
noncomputable def fn_L34_2_t : LDt → Tree Step
 | [.l TI l0, .n n1, .n n2] =>
  (.node (decide (n2 < n1))
   (let r1 : OD := (op_51b [.l TI (List.take (Int.toNat n2) l0), .n (List.getD l0 (Int.toNat n2) (0 : Int))]);
   (.node (isK 0 [HK.b] r1)
    (.node (gb (dOf r1) 0)
    (.leaf (Step.stop 1 [.b true]))
    (.leaf (Step.go [.k 0, .l TI l0, .l TI l0, .n n1, .n (IntKind.wrap .i64 (n2 + (1 : Int)))])))
    (.bad 351)))
   (.leaf (Step.stop 0 [])))
 | _ => .bad 0
theorem fn_L34_2_t_im (l0 : DI) (n1 : Int) (n2 : Int) (g0 : 0 ≤ n2) (g1 :  n1 = (l0.length : Int)) : Imp (fn_L34_2_t [.l TI l0, .n n1, .n n2]) (st_L34_2 [.k 0, .l TI l0, .l TI l0, .n n1, .n n2]) :=
(.pa [1]
(.nd (fun h0 =>
(.pq (c := (inR n2 (List.length l0)))
(.pq (c := (decide ((0 : Int) ≤ n2) && decide (n2 ≤ (↑(List.length l0) : Int))))
(.pt (c := (true && decide ((0 : Int) ≤ n2))) (by kernel_rfl) (by kernel_rfl) (by (simp [*]; done))
(.pa [1]
(.nd (fun h1 =>
(.pa [1]
(.nd (fun h2 =>
(.pa [1]
.lf)) (fun h2 =>
(.pa [1]
.lf))))) (fun h1 =>
.none))))))) (fun h0 =>
(.pa [1]
.lf))))
theorem ls_34_ok : LsOk Try.prog (z0) (lsM [(2, L34_2)] (z0)) (bodyOf Try.prog 86) := LsOk.many fun j B hB hk c hc hi => by
 simp only [lookM] at hB
 split at hB
 ·rename_i e; have := Nat.eq_of_beq_eq_true e; subst this; cases hB
  rw [onlyC (f := 86) (i := 2) (loopAt_one (by kernel_rfl)) (loopsAt_mem hc hi)]; exact L34_2_run
 cases hB
def k34 (f : OpT) : FBox := mkF [.imm TI 0, fnV 87 []] [] [] [(.bool 0, [])] f
noncomputable def ev_34 (env : LDt) : TD := Lk.boxC false LK cs_33 86 (lsM [(2, L34_2)] (z0)) (k34 fun _ => none) env
noncomputable def op_34 : OpT := Classical.choose (opq (fun env => (ev_34 env).sel))
theorem op_34_eq (env : LDt) : op_34 env = (ev_34 env).sel := Classical.choose_spec (opq (fun env => (ev_34 env).sel)) env
noncomputable def B34 : FBox := k34 op_34
theorem B34_ok : RunOk Try.prog 86 (boxRun B34) := mkF_ok (op := op_34) cs_33_ok hmix false (ls_34_ok) (fun env x h => by rw [op_34_eq] at h; rw [← boxC_lk]; exact h)
noncomputable def fn_34_t : LDt → TD
 | [.l TI l0] =>
  (let r1 : OD := (op_L34_2 [.k 0, .l TI l0, .l TI l0, .n (↑(List.length l0) : Int), .n (0 : Int)]);
   (.node (isK 0 [] r1)
   (.leaf ((0, [.b false])))
   (.node (isK 1 [HK.b] r1)
    (.leaf ((0, [.b (gb (dOf r1) 0)])))
    (.bad 351))))
 | _ => .bad 0
theorem fn_34_t_im (l0 : DI) : Imp (fn_34_t [.l TI l0]) (ev_34 [.l TI l0]) :=
(.nd (fun h0 =>
(.pa [1]
.lf)) (fun h0 =>
(.nd (fun h1 =>
(.pa [1]
.lf)) (fun h1 =>
.none))))
noncomputable def cs_34 : FuncId → Option CSpec := csLend 86 B34 cs_33
theorem cs_34_ok : CsOk Try.prog cs_34 := csLend_ok cs_33_ok B34_ok
def kL54a_2 (f : OpT) : MBox := mkM 2 [] [(sh 17 [(1, fnV 135 [.ptr 0 0, .ptr 1 0]), (7, .imm TNd 0), (8, .int .i64 1), (9, .int .i64 2)], [.cells [fnV 89 []], .cells [.int .i64 3, .bool 4]])] [] [(.exit 0, sh 17 [], [.gone, .gone]), (.ret, sh 17 [(4, .bool 0)], [.gone, .gone])] f
noncomputable def st_L54a_2 (env : LDt) : Tree Step := Lk.stepMC false LK cs_34 134 2 ls0 (kL54a_2 fun _ => none) env
noncomputable def op_L54a_2 : OpT := Classical.choose (opq (iterS st_L54a_2 FU))
theorem op_L54a_2_eq (env : LDt) : op_L54a_2 env = iterS st_L54a_2 FU env := Classical.choose_spec (opq (iterS st_L54a_2 FU)) env
noncomputable def L54a_2 : MBox := kL54a_2 op_L54a_2
theorem L54a_2_eqs : L54a_2 = kL54a_2 (iterS st_L54a_2 FU) := congrArg kL54a_2 (funext op_L54a_2_eq)
theorem L54a_2_run : ∀ t s x, (manyRun L54a_2 t s).sel = some x → CodeOk Try.prog 2 (.loop (cAt Try.prog 134 2)) t s x := by
 rw [L54a_2_eqs]
 exact mkM_ok (st := st_L54a_2) (m := FU) cs_34_ok hmix false (LsOk.none _ _ _) (by kernel_rfl) (fun env y h => by rw [← stepMC_lk]; exact h)
noncomputable def fn_L54a_2_t : LDt → Tree Step
 | [.l TNd l0, .n n1, .n n2, .n n3, .b b4] =>
  (.node (decide (n2 < n1))
   (.node (Prod.fst (List.getD l0 (Int.toNat n2) (Ty.dflt TNd)) == n3)
   (.leaf (Step.stop 1 [.b true]))
   (.leaf (Step.go [.k 0, .l TNd l0, .n n1, .n (IntKind.wrap .i64 (n2 + (1 : Int))), .n n3, .b b4])))
   (.leaf (Step.stop 0 [])))
 | _ => .bad 0
theorem fn_L54a_2_t_im (l0 : DD) (n1 : Int) (n2 : Int) (n3 : Int) (b4 : Bool) (g0 : 0 ≤ n2) (g1 :  n1 = (l0.length : Int)) : Imp (fn_L54a_2_t [.l TNd l0, .n n1, .n n2, .n n3, .b b4]) (st_L54a_2 [.k 0, .l TNd l0, .n n1, .n n2, .n n3, .b b4]) :=
(.pa [1]
(.nd (fun h0 =>
(.pq (c := (inR n2 (List.length l0)))
(.pa [1,1,1,1,1,1,1]
(.nd (fun h1 =>
(.pa [1]
.lf)) (fun h1 =>
(.pa [1]
.lf)))))) (fun h0 =>
(.pa [1]
.lf))))
theorem ls_54a_ok : LsOk Try.prog (List.length ([.cells [fnV 89 []], .cells [.int .i64 1, .bool 2]] : List PB)) (lsM [(2, L54a_2)] (List.length ([.cells [fnV 89 []], .cells [.int .i64 1, .bool 2]] : List PB))) (bodyOf Try.prog 134) := LsOk.many fun j B hB hk c hc hi => by
 simp only [lookM] at hB
 split at hB
 ·rename_i e; have := Nat.eq_of_beq_eq_true e; subst this; cases hB
  rw [onlyC (f := 134) (i := 2) (loopAt_one (by kernel_rfl)) (loopsAt_mem hc hi)]; exact L54a_2_run
 cases hB
def k54a (f : OpT) : FBox := mkF [.imm TNd 0, fnV 135 [.ptr 0 0, .ptr 1 0]] [.cells [fnV 89 []], .cells [.int .i64 1, .bool 2]] [] [(.bool 0, [.gone, .gone])] f
noncomputable def ev_54a (env : LDt) : TD := Lk.boxC false LK cs_34 134 (lsM [(2, L54a_2)] (List.length ([.cells [fnV 89 []], .cells [.int .i64 1, .bool 2]] : List PB))) (k54a fun _ => none) env
noncomputable def op_54a : OpT := Classical.choose (opq (fun env => (ev_54a env).sel))
theorem op_54a_eq (env : LDt) : op_54a env = (ev_54a env).sel := Classical.choose_spec (opq (fun env => (ev_54a env).sel)) env
noncomputable def B54a : FBox := k54a op_54a
theorem B54a_ok : RunOk Try.prog 134 (boxRun B54a) := mkF_ok (op := op_54a) cs_34_ok hmix false (ls_54a_ok) (fun env x h => by rw [op_54a_eq] at h; rw [← boxC_lk]; exact h)
noncomputable def fn_54a_t : LDt → TD
 | [.l TNd l0, .n n1, .b b2] =>
  (let r1 : OD := (op_L54a_2 [.k 0, .l TNd l0, .n (↑(List.length l0) : Int), .n (0 : Int), .n n1, .b b2]);
   (.node (isK 0 [] r1)
   (.leaf ((0, [.b false])))
   (.node (isK 1 [HK.b] r1)
    (.leaf ((0, [.b (gb (dOf r1) 0)])))
    (.bad 351))))
 | _ => .bad 0
theorem fn_54a_t_im (l0 : DD) (n1 : Int) (b2 : Bool) : Imp (fn_54a_t [.l TNd l0, .n n1, .b b2]) (ev_54a [.l TNd l0, .n n1, .b b2]) :=
(.nd (fun h0 =>
(.pa [1]
.lf)) (fun h0 =>
(.nd (fun h1 =>
(.pa [1]
.lf)) (fun h1 =>
.none))))
def kL54b_2 (f : OpT) : MBox := mkM 2 [] [(sh 17 [(1, fnV 136 [.ptr 0 0, .ptr 1 0]), (7, .imm TNd 0), (8, .int .i64 1), (9, .int .i64 2)], [.cells [.imm TI 3], laB 4])] [] [(.exit 0, sh 17 [], [.gone, .gone]), (.ret, sh 17 [(4, .bool 0)], [.gone, .gone])] f
noncomputable def st_L54b_2 (env : LDt) : Tree Step := Lk.stepMC false LK cs_34 134 2 ls0 (kL54b_2 fun _ => none) env
noncomputable def op_L54b_2 : OpT := Classical.choose (opq (iterS st_L54b_2 FU))
theorem op_L54b_2_eq (env : LDt) : op_L54b_2 env = iterS st_L54b_2 FU env := Classical.choose_spec (opq (iterS st_L54b_2 FU)) env
noncomputable def L54b_2 : MBox := kL54b_2 op_L54b_2
theorem L54b_2_eqs : L54b_2 = kL54b_2 (iterS st_L54b_2 FU) := congrArg kL54b_2 (funext op_L54b_2_eq)
theorem L54b_2_run : ∀ t s x, (manyRun L54b_2 t s).sel = some x → CodeOk Try.prog 2 (.loop (cAt Try.prog 134 2)) t s x := by
 rw [L54b_2_eqs]
 exact mkM_ok (st := st_L54b_2) (m := FU) cs_34_ok hmix false (LsOk.none _ _ _) (by kernel_rfl) (fun env y h => by rw [← stepMC_lk]; exact h)
noncomputable def fn_L54b_2_t : LDt → Tree Step
 | [.l TNd l0, .n n1, .n n2, .l TI l3, .l TS l4, .l TPt l5, .l TPt l6, .l TRt l7] =>
  (.node (decide (n2 < n1))
   (.node (inR (Prod.fst (List.getD l0 (Int.toNat n2) (Ty.dflt TNd))) (List.length l5))
   (let r1 : OD := (op_33 [.l TI l3, .n (Prod.snd (List.getD l5 (Int.toNat (Prod.fst (List.getD l0 (Int.toNat n2) (Ty.dflt TNd)))) (Ty.dflt TPt)))]);
    (.node (isK 0 [HK.b] r1)
    (.node (!gb (dOf r1) 0)
     (.leaf (Step.stop 1 [.b true]))
     (.leaf (Step.go [.k 0, .l TNd l0, .n n1, .n (IntKind.wrap .i64 (n2 + (1 : Int))), .l TI l3, .l TS l4, .l TPt l5, .l TPt l6, .l TRt l7])))
    (.bad 351)))
   (.bad 10))
   (.leaf (Step.stop 0 [])))
 | _ => .bad 0
theorem fn_L54b_2_t_im (l0 : DD) (n1 : Int) (n2 : Int) (l3 : DI) (l4 : DS) (l5 : DP) (l6 : DP) (l7 : DR) (g0 : 0 ≤ n2) (g1 :  n1 = (l0.length : Int)) : Imp (fn_L54b_2_t [.l TNd l0, .n n1, .n n2, .l TI l3, .l TS l4, .l TPt l5, .l TPt l6, .l TRt l7]) (st_L54b_2 [.k 0, .l TNd l0, .n n1, .n n2, .l TI l3, .l TS l4, .l TPt l5, .l TPt l6, .l TRt l7]) :=
(.pa [1]
(.nd (fun h0 =>
(.pq (c := (inR n2 (List.length l0)))
(.pa [1]
(.nd (fun h1 =>
(.nd (fun h2 =>
(.pa [1,1,1]
(.nd (fun h3 =>
(.pa [1]
.lf)) (fun h3 =>
(.pa [1]
.lf))))) (fun h2 =>
.none))) (fun h1 =>
.none))))) (fun h0 =>
(.pa [1]
.lf))))
theorem ls_54b_ok : LsOk Try.prog (List.length ([.cells [.imm TI 1], laB 2] : List PB)) (lsM [(2, L54b_2)] (List.length ([.cells [.imm TI 1], laB 2] : List PB))) (bodyOf Try.prog 134) := LsOk.many fun j B hB hk c hc hi => by
 simp only [lookM] at hB
 split at hB
 ·rename_i e; have := Nat.eq_of_beq_eq_true e; subst this; cases hB
  rw [onlyC (f := 134) (i := 2) (loopAt_one (by kernel_rfl)) (loopsAt_mem hc hi)]; exact L54b_2_run
 cases hB
def k54b (f : OpT) : FBox := mkF [.imm TNd 0, fnV 136 [.ptr 0 0, .ptr 1 0]] [.cells [.imm TI 1], laB 2] [] [(.bool 0, [.gone, .gone])] f
noncomputable def ev_54b (env : LDt) : TD := Lk.boxC false LK cs_34 134 (lsM [(2, L54b_2)] (List.length ([.cells [.imm TI 1], laB 2] : List PB))) (k54b fun _ => none) env
noncomputable def op_54b : OpT := Classical.choose (opq (fun env => (ev_54b env).sel))
theorem op_54b_eq (env : LDt) : op_54b env = (ev_54b env).sel := Classical.choose_spec (opq (fun env => (ev_54b env).sel)) env
noncomputable def B54b : FBox := k54b op_54b
theorem B54b_ok : RunOk Try.prog 134 (boxRun B54b) := mkF_ok (op := op_54b) cs_34_ok hmix false (ls_54b_ok) (fun env x h => by rw [op_54b_eq] at h; rw [← boxC_lk]; exact h)
noncomputable def fn_54b_t : LDt → TD
 | [.l TNd l0, .l TI l1, .l TS l2, .l TPt l3, .l TPt l4, .l TRt l5] =>
  (let r1 : OD := (op_L54b_2 [.k 0, .l TNd l0, .n (↑(List.length l0) : Int), .n (0 : Int), .l TI l1, .l TS l2, .l TPt l3, .l TPt l4, .l TRt l5]);
   (.node (isK 0 [] r1)
   (.leaf ((0, [.b false])))
   (.node (isK 1 [HK.b] r1)
    (.leaf ((0, [.b (gb (dOf r1) 0)])))
    (.bad 351))))
 | _ => .bad 0
theorem fn_54b_t_im (l0 : DD) (l1 : DI) (l2 : DS) (l3 : DP) (l4 : DP) (l5 : DR) : Imp (fn_54b_t [.l TNd l0, .l TI l1, .l TS l2, .l TPt l3, .l TPt l4, .l TRt l5]) (ev_54b [.l TNd l0, .l TI l1, .l TS l2, .l TPt l3, .l TPt l4, .l TRt l5]) :=
(.nd (fun h0 =>
(.pa [1]
.lf)) (fun h0 =>
(.nd (fun h1 =>
(.pa [1]
.lf)) (fun h1 =>
.none))))
def kL54c_2 (f : OpT) : MBox := mkM 3 [] [(sh 17 [(1, fnV 137 [.ptr 0 0]), (7, .imm TNd 0), (8, .int .i64 1), (9, .int .i64 2)], [.cells [fnV 136 [.ptr 1 0, .ptr 2 0]], .cells [.imm TI 3], laB 4])] [] [(.exit 0, sh 17 [], [.gone, .gone, .gone]), (.ret, sh 17 [(4, .bool 0)], [.gone, .gone, .gone])] f
noncomputable def st_L54c_2 (env : LDt) : Tree Step := Lk.stepMC false LK cs_34 134 2 ls0 (kL54c_2 fun _ => none) env
noncomputable def op_L54c_2 : OpT := Classical.choose (opq (iterS st_L54c_2 FU))
theorem op_L54c_2_eq (env : LDt) : op_L54c_2 env = iterS st_L54c_2 FU env := Classical.choose_spec (opq (iterS st_L54c_2 FU)) env
noncomputable def L54c_2 : MBox := kL54c_2 op_L54c_2
theorem L54c_2_eqs : L54c_2 = kL54c_2 (iterS st_L54c_2 FU) := congrArg kL54c_2 (funext op_L54c_2_eq)
theorem L54c_2_run : ∀ t s x, (manyRun L54c_2 t s).sel = some x → CodeOk Try.prog 3 (.loop (cAt Try.prog 134 2)) t s x := by
 rw [L54c_2_eqs]
 exact mkM_ok (st := st_L54c_2) (m := FU) cs_34_ok hmix false (LsOk.none _ _ _) (by kernel_rfl) (fun env y h => by rw [← stepMC_lk]; exact h)
noncomputable def fn_L54c_2_t : LDt → Tree Step
 | [.l TNd l0, .n n1, .n n2, .l TI l3, .l TS l4, .l TPt l5, .l TPt l6, .l TRt l7] =>
  (.node (decide (n2 < n1))
   (.node (inR (Prod.fst (List.getD l0 (Int.toNat n2) (Ty.dflt TNd))) (List.length l5))
   (let r1 : OD := (op_33 [.l TI l3, .n (Prod.snd (List.getD l5 (Int.toNat (Prod.fst (List.getD l0 (Int.toNat n2) (Ty.dflt TNd)))) (Ty.dflt TPt)))]);
    (.node (isK 0 [HK.b] r1)
    (.node (!!gb (dOf r1) 0)
     (.leaf (Step.stop 1 [.b true]))
     (.leaf (Step.go [.k 0, .l TNd l0, .n n1, .n (IntKind.wrap .i64 (n2 + (1 : Int))), .l TI l3, .l TS l4, .l TPt l5, .l TPt l6, .l TRt l7])))
    (.bad 351)))
   (.bad 10))
   (.leaf (Step.stop 0 [])))
 | _ => .bad 0
theorem fn_L54c_2_t_im (l0 : DD) (n1 : Int) (n2 : Int) (l3 : DI) (l4 : DS) (l5 : DP) (l6 : DP) (l7 : DR) (g0 : 0 ≤ n2) (g1 :  n1 = (l0.length : Int)) : Imp (fn_L54c_2_t [.l TNd l0, .n n1, .n n2, .l TI l3, .l TS l4, .l TPt l5, .l TPt l6, .l TRt l7]) (st_L54c_2 [.k 0, .l TNd l0, .n n1, .n n2, .l TI l3, .l TS l4, .l TPt l5, .l TPt l6, .l TRt l7]) :=
(.pa [1]
(.nd (fun h0 =>
(.pq (c := (inR n2 (List.length l0)))
(.pa [1,1]
(.nd (fun h1 =>
(.nd (fun h2 =>
(.pa [1,1,1,1]
(.nd (fun h3 =>
(.pa [1]
.lf)) (fun h3 =>
(.pa [1]
.lf))))) (fun h2 =>
.none))) (fun h1 =>
.none))))) (fun h0 =>
(.pa [1]
.lf))))
theorem ls_54c_ok : LsOk Try.prog (List.length ([.cells [fnV 136 [.ptr 1 0, .ptr 2 0]], .cells [.imm TI 1], laB 2] : List PB)) (lsM [(2, L54c_2)] (List.length ([.cells [fnV 136 [.ptr 1 0, .ptr 2 0]], .cells [.imm TI 1], laB 2] : List PB))) (bodyOf Try.prog 134) := LsOk.many fun j B hB hk c hc hi => by
 simp only [lookM] at hB
 split at hB
 ·rename_i e; have := Nat.eq_of_beq_eq_true e; subst this; cases hB
  rw [onlyC (f := 134) (i := 2) (loopAt_one (by kernel_rfl)) (loopsAt_mem hc hi)]; exact L54c_2_run
 cases hB
def k54c (f : OpT) : FBox := mkF [.imm TNd 0, fnV 137 [.ptr 0 0]] [.cells [fnV 136 [.ptr 1 0, .ptr 2 0]], .cells [.imm TI 1], laB 2] [] [(.bool 0, [.gone, .gone, .gone])] f
noncomputable def ev_54c (env : LDt) : TD := Lk.boxC false LK cs_34 134 (lsM [(2, L54c_2)] (List.length ([.cells [fnV 136 [.ptr 1 0, .ptr 2 0]], .cells [.imm TI 1], laB 2] : List PB))) (k54c fun _ => none) env
noncomputable def op_54c : OpT := Classical.choose (opq (fun env => (ev_54c env).sel))
theorem op_54c_eq (env : LDt) : op_54c env = (ev_54c env).sel := Classical.choose_spec (opq (fun env => (ev_54c env).sel)) env
noncomputable def B54c : FBox := k54c op_54c
theorem B54c_ok : RunOk Try.prog 134 (boxRun B54c) := mkF_ok (op := op_54c) cs_34_ok hmix false (ls_54c_ok) (fun env x h => by rw [op_54c_eq] at h; rw [← boxC_lk]; exact h)
noncomputable def fn_54c_t : LDt → TD
 | [.l TNd l0, .l TI l1, .l TS l2, .l TPt l3, .l TPt l4, .l TRt l5] =>
  (let r1 : OD := (op_L54c_2 [.k 0, .l TNd l0, .n (↑(List.length l0) : Int), .n (0 : Int), .l TI l1, .l TS l2, .l TPt l3, .l TPt l4, .l TRt l5]);
   (.node (isK 0 [] r1)
   (.leaf ((0, [.b false])))
   (.node (isK 1 [HK.b] r1)
    (.leaf ((0, [.b (gb (dOf r1) 0)])))
    (.bad 351))))
 | _ => .bad 0
theorem fn_54c_t_im (l0 : DD) (l1 : DI) (l2 : DS) (l3 : DP) (l4 : DP) (l5 : DR) : Imp (fn_54c_t [.l TNd l0, .l TI l1, .l TS l2, .l TPt l3, .l TPt l4, .l TRt l5]) (ev_54c [.l TNd l0, .l TI l1, .l TS l2, .l TPt l3, .l TPt l4, .l TRt l5]) :=
(.nd (fun h0 =>
(.pa [1]
.lf)) (fun h0 =>
(.nd (fun h1 =>
(.pa [1]
.lf)) (fun h1 =>
.none))))
def kL54d_2 (f : OpT) : MBox := mkM 1 [] [(sh 17 [(1, fnV 138 [.ptr 0 0]), (7, .imm TNd 0), (8, .int .i64 1), (9, .int .i64 2)], [.cells [.int .i64 3]])] [] [(.exit 0, sh 17 [], [.gone]), (.ret, sh 17 [(4, .bool 0)], [.gone])] f
noncomputable def st_L54d_2 (env : LDt) : Tree Step := Lk.stepMC false LK cs_34 134 2 ls0 (kL54d_2 fun _ => none) env
noncomputable def op_L54d_2 : OpT := Classical.choose (opq (iterS st_L54d_2 FU))
theorem op_L54d_2_eq (env : LDt) : op_L54d_2 env = iterS st_L54d_2 FU env := Classical.choose_spec (opq (iterS st_L54d_2 FU)) env
noncomputable def L54d_2 : MBox := kL54d_2 op_L54d_2
theorem L54d_2_eqs : L54d_2 = kL54d_2 (iterS st_L54d_2 FU) := congrArg kL54d_2 (funext op_L54d_2_eq)
theorem L54d_2_run : ∀ t s x, (manyRun L54d_2 t s).sel = some x → CodeOk Try.prog 1 (.loop (cAt Try.prog 134 2)) t s x := by
 rw [L54d_2_eqs]
 exact mkM_ok (st := st_L54d_2) (m := FU) cs_34_ok hmix false (LsOk.none _ _ _) (by kernel_rfl) (fun env y h => by rw [← stepMC_lk]; exact h)
noncomputable def fn_L54d_2_t : LDt → Tree Step
 | [.l TNd l0, .n n1, .n n2, .n n3] =>
  (.node (decide (n2 < n1))
   (.node (Prod.fst (List.getD l0 (Int.toNat n2) (Ty.dflt TNd)) == n3)
   (.leaf (Step.stop 1 [.b true]))
   (.leaf (Step.go [.k 0, .l TNd l0, .n n1, .n (IntKind.wrap .i64 (n2 + (1 : Int))), .n n3])))
   (.leaf (Step.stop 0 [])))
 | _ => .bad 0
theorem fn_L54d_2_t_im (l0 : DD) (n1 : Int) (n2 : Int) (n3 : Int) (g0 : 0 ≤ n2) (g1 :  n1 = (l0.length : Int)) : Imp (fn_L54d_2_t [.l TNd l0, .n n1, .n n2, .n n3]) (st_L54d_2 [.k 0, .l TNd l0, .n n1, .n n2, .n n3]) :=
(.pa [1]
(.nd (fun h0 =>
(.pq (c := (inR n2 (List.length l0)))
(.pa [1,1]
(.nd (fun h1 =>
(.pa [1]
.lf)) (fun h1 =>
(.pa [1]
.lf)))))) (fun h0 =>
(.pa [1]
.lf))))
theorem ls_54d_ok : LsOk Try.prog (List.length ([.cells [.int .i64 1]] : List PB)) (lsM [(2, L54d_2)] (List.length ([.cells [.int .i64 1]] : List PB))) (bodyOf Try.prog 134) := LsOk.many fun j B hB hk c hc hi => by
 simp only [lookM] at hB
 split at hB
 ·rename_i e; have := Nat.eq_of_beq_eq_true e; subst this; cases hB
  rw [onlyC (f := 134) (i := 2) (loopAt_one (by kernel_rfl)) (loopsAt_mem hc hi)]; exact L54d_2_run
 cases hB
def k54d (f : OpT) : FBox := mkF [.imm TNd 0, fnV 138 [.ptr 0 0]] [.cells [.int .i64 1]] [] [(.bool 0, [.gone])] f
noncomputable def ev_54d (env : LDt) : TD := Lk.boxC false LK cs_34 134 (lsM [(2, L54d_2)] (List.length ([.cells [.int .i64 1]] : List PB))) (k54d fun _ => none) env
noncomputable def op_54d : OpT := Classical.choose (opq (fun env => (ev_54d env).sel))
theorem op_54d_eq (env : LDt) : op_54d env = (ev_54d env).sel := Classical.choose_spec (opq (fun env => (ev_54d env).sel)) env
noncomputable def B54d : FBox := k54d op_54d
theorem B54d_ok : RunOk Try.prog 134 (boxRun B54d) := mkF_ok (op := op_54d) cs_34_ok hmix false (ls_54d_ok) (fun env x h => by rw [op_54d_eq] at h; rw [← boxC_lk]; exact h)
noncomputable def fn_54d_t : LDt → TD
 | [.l TNd l0, .n n1] =>
  (let r1 : OD := (op_L54d_2 [.k 0, .l TNd l0, .n (↑(List.length l0) : Int), .n (0 : Int), .n n1]);
   (.node (isK 0 [] r1)
   (.leaf ((0, [.b false])))
   (.node (isK 1 [HK.b] r1)
    (.leaf ((0, [.b (gb (dOf r1) 0)])))
    (.bad 351))))
 | _ => .bad 0
theorem fn_54d_t_im (l0 : DD) (n1 : Int) : Imp (fn_54d_t [.l TNd l0, .n n1]) (ev_54d [.l TNd l0, .n n1]) :=
(.nd (fun h0 =>
(.pa [1]
.lf)) (fun h0 =>
(.nd (fun h1 =>
(.pa [1]
.lf)) (fun h1 =>
.none))))
noncomputable def cs_54d : FuncId → Option CSpec := csAdd 134 [B54a, B54b, B54c, B54d] cs_34
theorem cs_54d_ok : CsOk Try.prog cs_54d := csAdd_ok cs_34_ok fun B hB => by
 simp only [List.mem_cons, List.not_mem_nil, or_false] at hB
 rcases hB with rfl | rfl | rfl | rfl
 ·exact B54a_ok
 ·exact B54b_ok
 ·exact B54c_ok
 ·exact B54d_ok
def kL36_2 (f : OpT) : MBox := mkM 0 [] [(sh 20 [(0, .imm TNd 0), (3, .ptr 0 0), (7, .imm TNd 1), (8, .int .i64 2), (9, .int .i64 3)], [.cells [fnV 89 []]])] [] [(.exit 0, sh 20 [], []), (.ret, sh 20 [(4, .bool 0)], [])] f
noncomputable def st_L36_2 (env : LDt) : Tree Step := Lk.stepMC false LK cs_54d 88 2 ls0 (kL36_2 fun _ => none) env
noncomputable def op_L36_2 : OpT := Classical.choose (opq (iterS st_L36_2 FU))
theorem op_L36_2_eq (env : LDt) : op_L36_2 env = iterS st_L36_2 FU env := Classical.choose_spec (opq (iterS st_L36_2 FU)) env
noncomputable def L36_2 : MBox := kL36_2 op_L36_2
theorem L36_2_eqs : L36_2 = kL36_2 (iterS st_L36_2 FU) := congrArg kL36_2 (funext op_L36_2_eq)
theorem L36_2_run : ∀ t s x, (manyRun L36_2 t s).sel = some x → CodeOk Try.prog 0 (.loop (cAt Try.prog 88 2)) t s x := by
 rw [L36_2_eqs]
 exact mkM_ok (st := st_L36_2) (m := FU) cs_54d_ok hmix false (LsOk.none _ _ _) (by kernel_rfl) (fun env y h => by rw [← stepMC_lk]; exact h)
noncomputable def fn_L36_2_t : LDt → Tree Step
 | [.l TNd l0, .n n1, .n n2] =>
  (.node (decide (n2 < n1))
   (let r1 : OD := (op_54a [.l TNd (List.take (Int.toNat n2) l0), .n (Prod.fst (List.getD l0 (Int.toNat n2) (Ty.dflt TNd))), .b (Prod.snd (List.getD l0 (Int.toNat n2) (Ty.dflt TNd)))]);
   (.node (isK 0 [HK.b] r1)
    (.node (gb (dOf r1) 0)
    (.leaf (Step.stop 1 [.b true]))
    (.leaf (Step.go [.k 0, .l TNd l0, .l TNd l0, .n n1, .n (IntKind.wrap .i64 (n2 + (1 : Int)))])))
    (.bad 351)))
   (.leaf (Step.stop 0 [])))
 | _ => .bad 0
theorem fn_L36_2_t_im (l0 : DD) (n1 : Int) (n2 : Int) (g0 : 0 ≤ n2) (g1 :  n1 = (l0.length : Int)) : Imp (fn_L36_2_t [.l TNd l0, .n n1, .n n2]) (st_L36_2 [.k 0, .l TNd l0, .l TNd l0, .n n1, .n n2]) :=
(.pa [1]
(.nd (fun h0 =>
(.pq (c := (inR n2 (List.length l0)))
(.pq (c := (decide ((0 : Int) ≤ n2) && decide (n2 ≤ (↑(List.length l0) : Int))))
(.pt (c := (true && decide ((0 : Int) ≤ n2))) (by kernel_rfl) (by kernel_rfl) (by (simp [*]; done))
(.pa [1]
(.nd (fun h1 =>
(.pa [1]
(.nd (fun h2 =>
(.pa [1]
.lf)) (fun h2 =>
(.pa [1]
.lf))))) (fun h1 =>
.none))))))) (fun h0 =>
(.pa [1]
.lf))))
theorem ls_36_ok : LsOk Try.prog (z0) (lsM [(2, L36_2)] (z0)) (bodyOf Try.prog 88) := LsOk.many fun j B hB hk c hc hi => by
 simp only [lookM] at hB
 split at hB
 ·rename_i e; have := Nat.eq_of_beq_eq_true e; subst this; cases hB
  rw [onlyC (f := 88) (i := 2) (loopAt_one (by kernel_rfl)) (loopsAt_mem hc hi)]; exact L36_2_run
 cases hB
def k36 (f : OpT) : FBox := mkF [.imm TNd 0, fnV 89 []] [] [] [(.bool 0, [])] f
noncomputable def ev_36 (env : LDt) : TD := Lk.boxC false LK cs_54d 88 (lsM [(2, L36_2)] (z0)) (k36 fun _ => none) env
noncomputable def op_36 : OpT := Classical.choose (opq (fun env => (ev_36 env).sel))
theorem op_36_eq (env : LDt) : op_36 env = (ev_36 env).sel := Classical.choose_spec (opq (fun env => (ev_36 env).sel)) env
noncomputable def B36 : FBox := k36 op_36
theorem B36_ok : RunOk Try.prog 88 (boxRun B36) := mkF_ok (op := op_36) cs_54d_ok hmix false (ls_36_ok) (fun env x h => by rw [op_36_eq] at h; rw [← boxC_lk]; exact h)
noncomputable def fn_36_t : LDt → TD
 | [.l TNd l0] =>
  (let r1 : OD := (op_L36_2 [.k 0, .l TNd l0, .l TNd l0, .n (↑(List.length l0) : Int), .n (0 : Int)]);
   (.node (isK 0 [] r1)
   (.leaf ((0, [.b false])))
   (.node (isK 1 [HK.b] r1)
    (.leaf ((0, [.b (gb (dOf r1) 0)])))
    (.bad 351))))
 | _ => .bad 0
theorem fn_36_t_im (l0 : DD) : Imp (fn_36_t [.l TNd l0]) (ev_36 [.l TNd l0]) :=
(.nd (fun h0 =>
(.pa [1]
.lf)) (fun h0 =>
(.nd (fun h1 =>
(.pa [1]
.lf)) (fun h1 =>
.none))))
noncomputable def cs_36 : FuncId → Option CSpec := csLend 88 B36 cs_54d
theorem cs_36_ok : CsOk Try.prog cs_36 := csLend_ok cs_54d_ok B36_ok
def k38 (f : OpT) : FBox := mkF [laV 0, rtV 4, .imm TI 10] [] [] [(.bool 0, [])] f
noncomputable def ev_38 (env : LDt) : TD := Lk.boxC false LK cs_36 90 ls0 (k38 fun _ => none) env
noncomputable def op_38 : OpT := Classical.choose (opq (fun env => (ev_38 env).sel))
theorem op_38_eq (env : LDt) : op_38 env = (ev_38 env).sel := Classical.choose_spec (opq (fun env => (ev_38 env).sel)) env
noncomputable def B38 : FBox := k38 op_38
theorem B38_ok : RunOk Try.prog 90 (boxRun B38) := mkF_ok (op := op_38) cs_36_ok hmix false (LsOk.none _ _ _) (fun env x h => by rw [op_38_eq] at h; rw [← boxC_lk]; exact h)
noncomputable def fn_38_t : LDt → TD
 | [.l TS l0, .l TPt l1, .l TPt l2, .l TRt l3, .s s4, .n n5, .l TI l6, .l TNd l7, .l TI l8, .l TNd l9, .l TI l10] =>
  (let r1 : OD := (op_54b [.l TNd l7, .l TI l10, .l TS l0, .l TPt l1, .l TPt l2, .l TRt l3]);
   (.node (isK 0 [HK.b] r1)
   (.node (!gb (dOf r1) 0)
    (let r2 : OD := (op_54c [.l TNd l9, .l TI l10, .l TS l0, .l TPt l1, .l TPt l2, .l TRt l3]);
    (.node (isK 0 [HK.b] r2)
     (.leaf ((0, [.b !gb (dOf r2) 0])))
     (.bad 351)))
    (.leaf ((0, [.b false]))))
   (.bad 351)))
 | _ => .bad 0
theorem fn_38_t_im (l0 : DS) (l1 : DP) (l2 : DP) (l3 : DR) (s4 : ByteArray) (n5 : Int) (l6 : DI) (l7 : DD) (l8 : DI) (l9 : DD) (l10 : DI) : Imp (fn_38_t [.l TS l0, .l TPt l1, .l TPt l2, .l TRt l3, .s s4, .n n5, .l TI l6, .l TNd l7, .l TI l8, .l TNd l9, .l TI l10]) (ev_38 [.l TS l0, .l TPt l1, .l TPt l2, .l TRt l3, .s s4, .n n5, .l TI l6, .l TNd l7, .l TI l8, .l TNd l9, .l TI l10]) :=
(.pa [1]
(.nd (fun h0 =>
(.pa [1]
(.nd (fun h1 =>
(.pa [1]
(.nd (fun h2 =>
(.pa [1,1]
.lf)) (fun h2 =>
.none)))) (fun h1 =>
(.pa [0,1]
.lf))))) (fun h0 =>
.none)))
noncomputable def cs_38 : FuncId → Option CSpec := csLend 90 B38 cs_36
theorem cs_38_ok : CsOk Try.prog cs_38 := csLend_ok cs_36_ok B38_ok
def kL39_2 (f : OpT) : MBox := mkM 0 [] [(sh 29 [(2, .imm TI 0), (4, .ptr 0 0), (10, .imm TPt 1), (11, .int .i64 2), (12, .int .i64 3)], [rtB 4])] [] [(.exit 0, sh 29 [], []), (.ret, sh 29 [(6, .bool 0)], [])] f
noncomputable def st_L39_2 (env : LDt) : Tree Step := Lk.stepMC false LK cs_38 91 2 ls0 (kL39_2 fun _ => none) env
noncomputable def op_L39_2 : OpT := Classical.choose (opq (iterS st_L39_2 FU))
theorem op_L39_2_eq (env : LDt) : op_L39_2 env = iterS st_L39_2 FU env := Classical.choose_spec (opq (iterS st_L39_2 FU)) env
noncomputable def L39_2 : MBox := kL39_2 op_L39_2
theorem L39_2_eqs : L39_2 = kL39_2 (iterS st_L39_2 FU) := congrArg kL39_2 (funext op_L39_2_eq)
theorem L39_2_run : ∀ t s x, (manyRun L39_2 t s).sel = some x → CodeOk Try.prog 0 (.loop (cAt Try.prog 91 2)) t s x := by
 rw [L39_2_eqs]
 exact mkM_ok (st := st_L39_2) (m := FU) cs_38_ok hmix false (LsOk.none _ _ _) (by kernel_rfl) (fun env y h => by rw [← stepMC_lk]; exact h)
noncomputable def fn_L39_2_t : LDt → Tree Step
 | [.l TI l0, .l TPt l1, .n n2, .n n3, .s s4, .n n5, .l TI l6, .l TNd l7, .l TI l8, .l TNd l9] =>
  (.node (decide (n3 < n2))
   (let r1 : OD := (op_33 [.l TI l0, .n (Prod.snd (List.getD l1 (Int.toNat n3) (Ty.dflt TPt)))]);
   (.node (isK 0 [HK.b] r1)
    (.node (gb (dOf r1) 0)
    (let r2 : OD := (op_54d [.l TNd l7, .n n3]);
     (.node (isK 0 [HK.b] r2)
     (.node (!gb (dOf r2) 0)
      (.leaf (Step.stop 1 [.b false]))
      (.leaf (Step.go [.k 0, .l TI l0, .l TPt l1, .n n2, .n (IntKind.wrap .i64 (n3 + (1 : Int))), .s s4, .n n5, .l TI l6, .l TNd l7, .l TI l8, .l TNd l9])))
     (.bad 351)))
    (.leaf (Step.go [.k 0, .l TI l0, .l TPt l1, .n n2, .n (IntKind.wrap .i64 (n3 + (1 : Int))), .s s4, .n n5, .l TI l6, .l TNd l7, .l TI l8, .l TNd l9])))
    (.bad 351)))
   (.leaf (Step.stop 0 [])))
 | _ => .bad 0
theorem fn_L39_2_t_im (l0 : DI) (l1 : DP) (n2 : Int) (n3 : Int) (s4 : ByteArray) (n5 : Int) (l6 : DI) (l7 : DD) (l8 : DI) (l9 : DD) (g0 : 0 ≤ n3) (g1 :  n2 = (l1.length : Int)) : Imp (fn_L39_2_t [.l TI l0, .l TPt l1, .n n2, .n n3, .s s4, .n n5, .l TI l6, .l TNd l7, .l TI l8, .l TNd l9]) (st_L39_2 [.k 0, .l TI l0, .l TPt l1, .n n2, .n n3, .s s4, .n n5, .l TI l6, .l TNd l7, .l TI l8, .l TNd l9]) :=
(.pa [1]
(.nd (fun h0 =>
(.pq (c := (inR n3 (List.length l1)))
(.nd (fun h1 =>
(.pa [1]
(.nd (fun h2 =>
(.pa [1]
(.nd (fun h3 =>
(.pa [1]
(.nd (fun h4 =>
(.pa [1]
.lf)) (fun h4 =>
(.pa [1]
.lf))))) (fun h3 =>
.none)))) (fun h2 =>
(.pa [0,0,1]
.lf))))) (fun h1 =>
.none)))) (fun h0 =>
(.pa [1]
.lf))))
theorem ls_39_ok : LsOk Try.prog (z0) (lsM [(2, L39_2)] (z0)) (bodyOf Try.prog 91) := LsOk.many fun j B hB hk c hc hi => by
 simp only [lookM] at hB
 split at hB
 ·rename_i e; have := Nat.eq_of_beq_eq_true e; subst this; cases hB
  rw [onlyC (f := 91) (i := 2) (loopAt_one (by kernel_rfl)) (loopsAt_mem hc hi)]; exact L39_2_run
 cases hB
noncomputable def ev_39 (env : LDt) : TD := Lk.boxC false LK cs_38 91 (lsM [(2, L39_2)] (z0)) (k38 fun _ => none) env
noncomputable def op_39 : OpT := Classical.choose (opq (fun env => (ev_39 env).sel))
theorem op_39_eq (env : LDt) : op_39 env = (ev_39 env).sel := Classical.choose_spec (opq (fun env => (ev_39 env).sel)) env
noncomputable def B39 : FBox := k38 op_39
theorem B39_ok : RunOk Try.prog 91 (boxRun B39) := mkF_ok (op := op_39) cs_38_ok hmix false (ls_39_ok) (fun env x h => by rw [op_39_eq] at h; rw [← boxC_lk]; exact h)
noncomputable def fn_39_t : LDt → TD
 | [.l TS l0, .l TPt l1, .l TPt l2, .l TRt l3, .s s4, .n n5, .l TI l6, .l TNd l7, .l TI l8, .l TNd l9, .l TI l10] =>
  (let r1 : OD := (op_L39_2 [.k 0, .l TI l10, .l TPt l1, .n (↑(List.length l1) : Int), .n (0 : Int), .s s4, .n n5, .l TI l6, .l TNd l7, .l TI l8, .l TNd l9]);
   (.node (isK 0 [] r1)
   (.leaf ((0, [.b true])))
   (.node (isK 1 [HK.b] r1)
    (.leaf ((0, [.b (gb (dOf r1) 0)])))
    (.bad 351))))
 | _ => .bad 0
theorem fn_39_t_im (l0 : DS) (l1 : DP) (l2 : DP) (l3 : DR) (s4 : ByteArray) (n5 : Int) (l6 : DI) (l7 : DD) (l8 : DI) (l9 : DD) (l10 : DI) : Imp (fn_39_t [.l TS l0, .l TPt l1, .l TPt l2, .l TRt l3, .s s4, .n n5, .l TI l6, .l TNd l7, .l TI l8, .l TNd l9, .l TI l10]) (ev_39 [.l TS l0, .l TPt l1, .l TPt l2, .l TRt l3, .s s4, .n n5, .l TI l6, .l TNd l7, .l TI l8, .l TNd l9, .l TI l10]) :=
(.nd (fun h0 =>
(.pa [1]
.lf)) (fun h0 =>
(.nd (fun h1 =>
(.pa [1]
.lf)) (fun h1 =>
.none))))
noncomputable def cs_39 : FuncId → Option CSpec := csLend 91 B39 cs_38
theorem cs_39_ok : CsOk Try.prog cs_39 := csLend_ok cs_38_ok B39_ok
def k27 (f : OpT) : FBox := mkF [laV 0, rtV 4] [] [] [(.bool 0, [])] f
noncomputable def ev_27 (env : LDt) : TD := Lk.boxC false LK cs_39 51 ls0 (k27 fun _ => none) env
noncomputable def op_27 : OpT := Classical.choose (opq (fun env => (ev_27 env).sel))
theorem op_27_eq (env : LDt) : op_27 env = (ev_27 env).sel := Classical.choose_spec (opq (fun env => (ev_27 env).sel)) env
noncomputable def B27 : FBox := k27 op_27
theorem B27_ok : RunOk Try.prog 51 (boxRun B27) := mkF_ok (op := op_27) cs_39_ok hmix false (LsOk.none _ _ _) (fun env x h => by rw [op_27_eq] at h; rw [← boxC_lk]; exact h)
noncomputable def fn_27_t : LDt → TD
 | [.l TS l0, .l TPt l1, .l TPt l2, .l TRt l3, .s s4, .n n5, .l TI l6, .l TNd l7, .l TI l8, .l TNd l9] =>
  (let r1 : OD := (op_9 [.s s4, .n n5, .l TI l6, .l TNd l7, .l TI l8, .l TNd l9]);
   (.node (isK 0 [HK.l TI] r1)
   (let r2 : OD := (op_10 [.s s4, .n n5, .l TI l6, .l TNd l7, .l TI l8, .l TNd l9]);
    (.node (isK 0 [HK.l TNd] r2)
    (.node (decide ((↑(List.length l6) : Int) > (0 : Int)))
     (.node (inR n5 (List.length l2))
     (let r3 : OD := (op_33 [.l TI (gl TI (dOf r1) 0), .n (Prod.snd (List.getD l2 (Int.toNat n5) (Ty.dflt TPt)))]);
      (.node (isK 0 [HK.b] r3)
      (.node (!gb (dOf r3) 0)
       (let r4 : OD := (op_34 [.l TI (gl TI (dOf r1) 0)]);
       (.node (isK 0 [HK.b] r4)
        (.node (!gb (dOf r4) 0)
        (let r5 : OD := (op_36 [.l TNd (gl TNd (dOf r2) 0)]);
         (.node (isK 0 [HK.b] r5)
         (.node (!gb (dOf r5) 0)
          (let r6 : OD := (op_38 [.l TS l0, .l TPt l1, .l TPt l2, .l TRt l3, .s s4, .n n5, .l TI l6, .l TNd l7, .l TI l8, .l TNd l9, .l TI (gl TI (dOf r1) 0)]);
          (.node (isK 0 [HK.b] r6)
           (.node (gb (dOf r6) 0)
           (let r7 : OD := (op_39 [.l TS l0, .l TPt l1, .l TPt l2, .l TRt l3, .s s4, .n n5, .l TI l6, .l TNd l7, .l TI l8, .l TNd l9, .l TI (gl TI (dOf r1) 0)]);
            (.node (isK 0 [HK.b] r7)
            (.leaf ((0, [.b (gb (dOf r7) 0)])))
            (.bad 351)))
           (.leaf ((0, [.b false]))))
           (.bad 351)))
          (.leaf ((0, [.b false]))))
         (.bad 351)))
        (.leaf ((0, [.b false]))))
        (.bad 351)))
       (.leaf ((0, [.b false]))))
      (.bad 351)))
     (.bad 10))
     (.leaf ((0, [.b false]))))
    (.bad 351)))
   (.bad 351)))
 | _ => .bad 0
theorem fn_27_t_im (l0 : DS) (l1 : DP) (l2 : DP) (l3 : DR) (s4 : ByteArray) (n5 : Int) (l6 : DI) (l7 : DD) (l8 : DI) (l9 : DD) : Imp (fn_27_t [.l TS l0, .l TPt l1, .l TPt l2, .l TRt l3, .s s4, .n n5, .l TI l6, .l TNd l7, .l TI l8, .l TNd l9]) (ev_27 [.l TS l0, .l TPt l1, .l TPt l2, .l TRt l3, .s s4, .n n5, .l TI l6, .l TNd l7, .l TI l8, .l TNd l9]) :=
(.nd (fun h0 =>
(.pa [1]
(.nd (fun h1 =>
(.pa [1,1]
(.nd (fun h2 =>
(.nd (fun h3 =>
(.nd (fun h4 =>
(.pa [1]
(.nd (fun h5 =>
(.nd (fun h6 =>
(.pa [1]
(.nd (fun h7 =>
(.nd (fun h8 =>
(.pa [1]
(.nd (fun h9 =>
(.nd (fun h10 =>
(.pa [1]
(.nd (fun h11 =>
(.nd (fun h12 =>
(.pa [1,1]
.lf)) (fun h12 =>
.none))) (fun h11 =>
(.pa [0,1]
.lf))))) (fun h10 =>
.none))) (fun h9 =>
(.pa [0,0,0,1]
.lf))))) (fun h8 =>
.none))) (fun h7 =>
(.pa [0,0,0,0,0,1]
.lf))))) (fun h6 =>
.none))) (fun h5 =>
(.pa [0,0,0,0,0,0,0,1]
.lf))))) (fun h4 =>
.none))) (fun h3 =>
.none))) (fun h2 =>
(.pa [0,0,0,0,0,0,0,0,0,1]
.lf))))) (fun h1 =>
.none)))) (fun h0 =>
.none))
noncomputable def cs_27 : FuncId → Option CSpec := csLend 51 B27 cs_39
theorem cs_27_ok : CsOk Try.prog cs_27 := csLend_ok cs_39_ok B27_ok
def kL47_3 (f : OpT) : MBox := mkM 0 [] [(sh 22 [(0, .imm TI 0), (1, .int .i64 1), (5, .int .i64 2), (6, .int .i64 3)], [])] [] [(.exit 0, sh 22 [(5, .int .i64 0)], [])] f
noncomputable def st_L47_3 (env : LDt) : Tree Step := Lk.stepMC false LK cs_27 120 3 ls0 (kL47_3 fun _ => none) env
noncomputable def op_L47_3 : OpT := Classical.choose (opq (iterS st_L47_3 FU))
theorem op_L47_3_eq (env : LDt) : op_L47_3 env = iterS st_L47_3 FU env := Classical.choose_spec (opq (iterS st_L47_3 FU)) env
noncomputable def L47_3 : MBox := kL47_3 op_L47_3
theorem L47_3_eqs : L47_3 = kL47_3 (iterS st_L47_3 FU) := congrArg kL47_3 (funext op_L47_3_eq)
theorem L47_3_run : ∀ t s x, (manyRun L47_3 t s).sel = some x → CodeOk Try.prog 0 (.loop (cAt Try.prog 120 3)) t s x := by
 rw [L47_3_eqs]
 exact mkM_ok (st := st_L47_3) (m := FU) cs_27_ok hmix false (LsOk.none _ _ _) (by kernel_rfl) (fun env y h => by rw [← stepMC_lk]; exact h)
noncomputable def fn_L47_3_t : LDt → Tree Step
 | [.l TI l0, .n n1, .n n2, .n n3] =>
  (.node (decide (n3 < (↑(List.length l0) : Int)))
   (.node ((List.getD l0 (Int.toNat n3) (0 : Int) : Int) == n1)
   (.leaf (Step.go [.k 0, .l TI l0, .n n1, .n (IntKind.wrap .i64 (n2 + (1 : Int))), .n (IntKind.wrap .i64 (n3 + (1 : Int)))]))
   (.leaf (Step.go [.k 0, .l TI l0, .n n1, .n n2, .n (IntKind.wrap .i64 (n3 + (1 : Int)))])))
   (.leaf (Step.stop 0 [.n n2])))
 | _ => .bad 0
theorem fn_L47_3_t_im (l0 : DI) (n1 : Int) (n2 : Int) (n3 : Int) (g0 : 0 ≤ n3) : Imp (fn_L47_3_t [.l TI l0, .n n1, .n n2, .n n3]) (st_L47_3 [.k 0, .l TI l0, .n n1, .n n2, .n n3]) :=
(.pa [1]
(.nd (fun h0 =>
(.pq (c := (inR n3 (List.length l0)))
(.nd (fun h1 =>
(.pa [1]
.lf)) (fun h1 =>
(.pa [1]
.lf))))) (fun h0 =>
(.pa [1]
.lf))))
theorem ls_47_ok : LsOk Try.prog (z0) (lsM [(3, L47_3)] (z0)) (bodyOf Try.prog 120) := LsOk.many fun j B hB hk c hc hi => by
 simp only [lookM] at hB
 split at hB
 ·rename_i e; have := Nat.eq_of_beq_eq_true e; subst this; cases hB
  rw [onlyC (f := 120) (i := 3) (loopAt_one (by kernel_rfl)) (loopsAt_mem hc hi)]; exact L47_3_run
 cases hB
def k47 (f : OpT) : FBox := mkF [.imm TI 0, .int .i64 1] [] [] [(.int .i64 0, [])] f
noncomputable def ev_47 (env : LDt) : TD := Lk.boxC false LK cs_27 120 (lsM [(3, L47_3)] (z0)) (k47 fun _ => none) env
noncomputable def op_47 : OpT := Classical.choose (opq (fun env => (ev_47 env).sel))
theorem op_47_eq (env : LDt) : op_47 env = (ev_47 env).sel := Classical.choose_spec (opq (fun env => (ev_47 env).sel)) env
noncomputable def B47 : FBox := k47 op_47
theorem B47_ok : RunOk Try.prog 120 (boxRun B47) := mkF_ok (op := op_47) cs_27_ok hmix false (ls_47_ok) (fun env x h => by rw [op_47_eq] at h; rw [← boxC_lk]; exact h)
noncomputable def fn_47_t : LDt → TD
 | [.l TI l0, .n n1] =>
  (let r1 : OD := (op_L47_3 [.k 0, .l TI l0, .n n1, .n (0 : Int), .n (0 : Int)]);
   (.node (isK 0 [HK.n] r1)
   (.leaf ((0, [.n (gn (dOf r1) 0)])))
   (.bad 351)))
 | _ => .bad 0
theorem fn_47_t_im (l0 : DI) (n1 : Int) : Imp (fn_47_t [.l TI l0, .n n1]) (ev_47 [.l TI l0, .n n1]) :=
(.nd (fun h0 =>
(.pa [1]
.lf)) (fun h0 =>
.none))
noncomputable def cs_47 : FuncId → Option CSpec := csLend 120 B47 cs_27
theorem cs_47_ok : CsOk Try.prog cs_47 := csLend_ok cs_27_ok B47_ok
def kL46_3 (f : OpT) : MBox := mkM 0 [] [(sh 20 [(0, .imm TNd 0), (3, .own 0), (4, .int .i64 1)], [.arr TI 2])] [(3, TI)] [(.exit 0, sh 20 [(3, .own 0)], [.arr TI 0])] f
noncomputable def st_L46_3 (env : LDt) : Tree Step := Lk.stepMC false LK cs_47 119 3 ls0 (kL46_3 fun _ => none) env
noncomputable def op_L46_3 : OpT := Classical.choose (opq (iterS st_L46_3 FU))
theorem op_L46_3_eq (env : LDt) : op_L46_3 env = iterS st_L46_3 FU env := Classical.choose_spec (opq (iterS st_L46_3 FU)) env
noncomputable def L46_3 : MBox := kL46_3 op_L46_3
theorem L46_3_eqs : L46_3 = kL46_3 (iterS st_L46_3 FU) := congrArg kL46_3 (funext op_L46_3_eq)
theorem L46_3_run : ∀ t s x, (manyRun L46_3 t s).sel = some x → CodeOk Try.prog 0 (.loop (cAt Try.prog 119 3)) t s x := by
 rw [L46_3_eqs]
 exact mkM_ok (st := st_L46_3) (m := FU) cs_47_ok hmix false (LsOk.none _ _ _) (by kernel_rfl) (fun env y h => by rw [← stepMC_lk]; exact h)
noncomputable def fn_L46_3_t : LDt → Tree Step
 | [.l TNd l0, .n n1, .l TI l2] =>
  (.node (decide (n1 < (↑(List.length l0) : Int)))
   (.node (decide ((List.length l2 + 1) * 8 ≤ 140737488355328))
   (.leaf (Step.go [.k 0, .l TNd l0, .n (IntKind.wrap .i64 (n1 + (1 : Int))), .l TI (l2 ++ [Prod.fst (List.getD l0 (Int.toNat n1) (Ty.dflt TNd))])]))
   (.bad 62))
   (.leaf (Step.stop 0 [.l TI l2])))
 | _ => .bad 0
theorem fn_L46_3_t_im (l0 : DD) (n1 : Int) (l2 : DI) (g0 : 0 ≤ n1) : Imp (fn_L46_3_t [.l TNd l0, .n n1, .l TI l2]) (st_L46_3 [.k 0, .l TNd l0, .n n1, .l TI l2]) :=
(.pa [1]
(.nd (fun h0 =>
(.pq (c := (inR n1 (List.length l0)))
(.nd (fun h1 =>
(.pa [1]
.lf)) (fun h1 =>
.none)))) (fun h0 =>
(.pa [1]
.lf))))
theorem ls_46_ok : LsOk Try.prog (z0) (lsM [(3, L46_3)] (z0)) (bodyOf Try.prog 119) := LsOk.many fun j B hB hk c hc hi => by
 simp only [lookM] at hB
 split at hB
 ·rename_i e; have := Nat.eq_of_beq_eq_true e; subst this; cases hB
  rw [onlyC (f := 119) (i := 3) (loopAt_one (by kernel_rfl)) (loopsAt_mem hc hi)]; exact L46_3_run
 cases hB
def k46 (f : OpT) : FBox := mkF [.imm TNd 0] [] [] [(.own 0, [.arr TI 0])] f
noncomputable def ev_46 (env : LDt) : TD := Lk.boxC false LK cs_47 119 (lsM [(3, L46_3)] (z0)) (k46 fun _ => none) env
noncomputable def op_46 : OpT := Classical.choose (opq (fun env => (ev_46 env).sel))
theorem op_46_eq (env : LDt) : op_46 env = (ev_46 env).sel := Classical.choose_spec (opq (fun env => (ev_46 env).sel)) env
noncomputable def B46 : FBox := k46 op_46
theorem B46_ok : RunOk Try.prog 119 (boxRun B46) := mkF_ok (op := op_46) cs_47_ok hmix false (ls_46_ok) (fun env x h => by rw [op_46_eq] at h; rw [← boxC_lk]; exact h)
noncomputable def fn_46_t : LDt → TD
 | [.l TNd l0] =>
  (let r1 : OD := (op_L46_3 [.k 0, .l TNd l0, .n (0 : Int), .l TI []]);
   (.node (isK 0 [HK.l TI] r1)
   (.leaf ((0, [.l TI (gl TI (dOf r1) 0)])))
   (.bad 351)))
 | _ => .bad 0
theorem fn_46_t_im (l0 : DD) : Imp (fn_46_t [.l TNd l0]) (ev_46 [.l TNd l0]) :=
(.nd (fun h0 =>
(.pa [1]
.lf)) (fun h0 =>
.none))
noncomputable def cs_46 : FuncId → Option CSpec := csLend 119 B46 cs_47
theorem cs_46_ok : CsOk Try.prog cs_46 := csLend_ok cs_47_ok B46_ok
def kL29_6 (f : OpT) : MBox := mkM 0 [] [(sh 93 [(2, .ptr 0 0), (3, .ptr 1 0), (5, .own 2), (6, .own 3), (7, .int .i64 0)], [laB 1, rtB 5, .arr TI 11, .arr TI 12])] [] [(.exit 0, sh 93 [(2, .ptr 0 0), (3, .ptr 1 0), (5, .own 2), (6, .own 3)], [laB 0, rtB 4, .arr TI 10, .arr TI 11]), (.ret, sh 93 [(4, .bool 0)], [])] f
noncomputable def st_L29_6 (env : LDt) : Tree Step := Lk.stepMC false LK cs_46 74 6 ls0 (kL29_6 fun _ => none) env
noncomputable def op_L29_6 : OpT := Classical.choose (opq (iterS st_L29_6 FU))
theorem op_L29_6_eq (env : LDt) : op_L29_6 env = iterS st_L29_6 FU env := Classical.choose_spec (opq (iterS st_L29_6 FU)) env
noncomputable def L29_6 : MBox := kL29_6 op_L29_6
theorem L29_6_eqs : L29_6 = kL29_6 (iterS st_L29_6 FU) := congrArg kL29_6 (funext op_L29_6_eq)
theorem L29_6_run : ∀ t s x, (manyRun L29_6 t s).sel = some x → CodeOk Try.prog 0 (.loop (cAt Try.prog 74 6)) t s x := by
 rw [L29_6_eqs]
 exact mkM_ok (st := st_L29_6) (m := FU) cs_46_ok hmix false (LsOk.none _ _ _) (by kernel_rfl) (fun env y h => by rw [← stepMC_lk]; exact h)
noncomputable def fn_L29_6_t : LDt → Tree Step
 | [.n n0, .l TS l1, .l TPt l2, .l TPt l3, .l TRt l4, .s s5, .n n6, .l TI l7, .l TNd l8, .l TI l9, .l TNd l10, .l TI l11, .l TI l12] =>
  (.node (decide (n0 < (↑(List.length l11) : Int)))
   (let r1 : OD := (op_47 [.l TI l11, .n (List.getD l11 (Int.toNat n0) (0 : Int))]);
   (.node (isK 0 [HK.n] r1)
    (.node (decide (gn (dOf r1) 0 > (1 : Int)))
    (.leaf (Step.stop 1 [.b false]))
    (.leaf (Step.go [.k 0, .n (IntKind.wrap .i64 (n0 + (1 : Int))), .l TS l1, .l TPt l2, .l TPt l3, .l TRt l4, .s s5, .n n6, .l TI l7, .l TNd l8, .l TI l9, .l TNd l10, .l TI l11, .l TI l12])))
    (.bad 351)))
   (.leaf (Step.stop 0 [.l TS l1, .l TPt l2, .l TPt l3, .l TRt l4, .s s5, .n n6, .l TI l7, .l TNd l8, .l TI l9, .l TNd l10, .l TI l11, .l TI l12])))
 | _ => .bad 0
theorem fn_L29_6_t_im (n0 : Int) (l1 : DS) (l2 : DP) (l3 : DP) (l4 : DR) (s5 : ByteArray) (n6 : Int) (l7 : DI) (l8 : DD) (l9 : DI) (l10 : DD) (l11 : DI) (l12 : DI) (g0 : 0 ≤ n0) : Imp (fn_L29_6_t [.n n0, .l TS l1, .l TPt l2, .l TPt l3, .l TRt l4, .s s5, .n n6, .l TI l7, .l TNd l8, .l TI l9, .l TNd l10, .l TI l11, .l TI l12]) (st_L29_6 [.k 0, .n n0, .l TS l1, .l TPt l2, .l TPt l3, .l TRt l4, .s s5, .n n6, .l TI l7, .l TNd l8, .l TI l9, .l TNd l10, .l TI l11, .l TI l12]) :=
(.pa [1]
(.nd (fun h0 =>
(.pq (c := (inR n0 (List.length l11)))
(.nd (fun h1 =>
(.pa [1]
(.nd (fun h2 =>
(.pa [1]
.lf)) (fun h2 =>
(.pa [1]
.lf))))) (fun h1 =>
.none)))) (fun h0 =>
(.pa [1]
.lf))))
def kL29_11 (f : OpT) : MBox := mkM 0 [] [(sh 93 [(2, .ptr 0 0), (3, .ptr 1 0), (5, .own 2), (6, .own 3), (8, .int .i64 0)], [laB 1, rtB 5, .arr TI 11, .arr TI 12])] [] [(.exit 2, sh 93 [(2, .ptr 0 0), (3, .ptr 1 0), (5, .own 2)], [laB 0, rtB 4, .arr TI 10]), (.ret, sh 93 [(4, .bool 0)], [])] f
noncomputable def st_L29_11 (env : LDt) : Tree Step := Lk.stepMC false LK cs_46 74 11 ls0 (kL29_11 fun _ => none) env
noncomputable def op_L29_11 : OpT := Classical.choose (opq (iterS st_L29_11 FU))
theorem op_L29_11_eq (env : LDt) : op_L29_11 env = iterS st_L29_11 FU env := Classical.choose_spec (opq (iterS st_L29_11 FU)) env
noncomputable def L29_11 : MBox := kL29_11 op_L29_11
theorem L29_11_eqs : L29_11 = kL29_11 (iterS st_L29_11 FU) := congrArg kL29_11 (funext op_L29_11_eq)
theorem L29_11_run : ∀ t s x, (manyRun L29_11 t s).sel = some x → CodeOk Try.prog 0 (.loop (cAt Try.prog 74 11)) t s x := by
 rw [L29_11_eqs]
 exact mkM_ok (st := st_L29_11) (m := FU) cs_46_ok hmix false (LsOk.none _ _ _) (by kernel_rfl) (fun env y h => by rw [← stepMC_lk]; exact h)
noncomputable def fn_L29_11_t : LDt → Tree Step
 | [.n n0, .l TS l1, .l TPt l2, .l TPt l3, .l TRt l4, .s s5, .n n6, .l TI l7, .l TNd l8, .l TI l9, .l TNd l10, .l TI l11, .l TI l12] =>
  (.node (decide (n0 < (↑(List.length l12) : Int)))
   (let r1 : OD := (op_47 [.l TI l12, .n (List.getD l12 (Int.toNat n0) (0 : Int))]);
   (.node (isK 0 [HK.n] r1)
    (.node (decide (gn (dOf r1) 0 > (1 : Int)))
    (.leaf (Step.stop 1 [.b false]))
    (.leaf (Step.go [.k 0, .n (IntKind.wrap .i64 (n0 + (1 : Int))), .l TS l1, .l TPt l2, .l TPt l3, .l TRt l4, .s s5, .n n6, .l TI l7, .l TNd l8, .l TI l9, .l TNd l10, .l TI l11, .l TI l12])))
    (.bad 351)))
   (.leaf (Step.stop 0 [.l TS l1, .l TPt l2, .l TPt l3, .l TRt l4, .s s5, .n n6, .l TI l7, .l TNd l8, .l TI l9, .l TNd l10, .l TI l11])))
 | _ => .bad 0
theorem fn_L29_11_t_im (n0 : Int) (l1 : DS) (l2 : DP) (l3 : DP) (l4 : DR) (s5 : ByteArray) (n6 : Int) (l7 : DI) (l8 : DD) (l9 : DI) (l10 : DD) (l11 : DI) (l12 : DI) (g0 : 0 ≤ n0) : Imp (fn_L29_11_t [.n n0, .l TS l1, .l TPt l2, .l TPt l3, .l TRt l4, .s s5, .n n6, .l TI l7, .l TNd l8, .l TI l9, .l TNd l10, .l TI l11, .l TI l12]) (st_L29_11 [.k 0, .n n0, .l TS l1, .l TPt l2, .l TPt l3, .l TRt l4, .s s5, .n n6, .l TI l7, .l TNd l8, .l TI l9, .l TNd l10, .l TI l11, .l TI l12]) :=
(.pa [1]
(.nd (fun h0 =>
(.pq (c := (inR n0 (List.length l12)))
(.nd (fun h1 =>
(.pa [1]
(.nd (fun h2 =>
(.pa [1]
.lf)) (fun h2 =>
(.pa [1]
.lf))))) (fun h1 =>
.none)))) (fun h0 =>
(.pa [1]
.lf))))
def kL29_16 (f : OpT) : MBox := mkM 0 [] [(sh 93 [(2, .ptr 0 0), (3, .ptr 1 0), (5, .own 2), (9, .int .i64 0)], [laB 1, rtB 5, .arr TI 11])] [] [(.exit 4, sh 93 [], []), (.ret, sh 93 [(4, .bool 0)], [])] f
noncomputable def st_L29_16 (env : LDt) : Tree Step := Lk.stepMC false LK cs_46 74 16 ls0 (kL29_16 fun _ => none) env
noncomputable def op_L29_16 : OpT := Classical.choose (opq (iterS st_L29_16 FU))
theorem op_L29_16_eq (env : LDt) : op_L29_16 env = iterS st_L29_16 FU env := Classical.choose_spec (opq (iterS st_L29_16 FU)) env
noncomputable def L29_16 : MBox := kL29_16 op_L29_16
theorem L29_16_eqs : L29_16 = kL29_16 (iterS st_L29_16 FU) := congrArg kL29_16 (funext op_L29_16_eq)
theorem L29_16_run : ∀ t s x, (manyRun L29_16 t s).sel = some x → CodeOk Try.prog 0 (.loop (cAt Try.prog 74 16)) t s x := by
 rw [L29_16_eqs]
 exact mkM_ok (st := st_L29_16) (m := FU) cs_46_ok hmix false (LsOk.none _ _ _) (by kernel_rfl) (fun env y h => by rw [← stepMC_lk]; exact h)
noncomputable def fn_L29_16_t : LDt → Tree Step
 | [.n n0, .l TS l1, .l TPt l2, .l TPt l3, .l TRt l4, .s s5, .n n6, .l TI l7, .l TNd l8, .l TI l9, .l TNd l10, .l TI l11] =>
  (.node (decide (n0 < (↑(List.length l2) : Int)))
   (let r1 : OD := (op_47 [.l TI l11, .n (Prod.snd (List.getD l2 (Int.toNat n0) (Ty.dflt TPt)))]);
   (.node (isK 0 [HK.n] r1)
    (let r2 : OD := (op_46 [.l TNd l8]);
    (.node (isK 0 [HK.l TI] r2)
     (let r3 : OD := (op_47 [.l TI (gl TI (dOf r2) 0), .n n0]);
     (.node (isK 0 [HK.n] r3)
      (.node (!decide (gn (dOf r1) 0 > (0 : Int)) == decide (gn (dOf r3) 0 > (0 : Int)))
      (.leaf (Step.stop 1 [.b false]))
      (.node (decide (gn (dOf r1) 0 > (0 : Int)))
       (let r4 : OD := (op_46 [.l TNd l10]);
       (.node (isK 0 [HK.l TI] r4)
        (let r5 : OD := (op_47 [.l TI (gl TI (dOf r4) 0), .n n0]);
        (.node (isK 0 [HK.n] r5)
         (.node (decide (gn (dOf r5) 0 > (0 : Int)))
         (.leaf (Step.stop 1 [.b false]))
         (.leaf (Step.go [.k 0, .n (IntKind.wrap .i64 (n0 + (1 : Int))), .l TS l1, .l TPt l2, .l TPt l3, .l TRt l4, .s s5, .n n6, .l TI l7, .l TNd l8, .l TI l9, .l TNd l10, .l TI l11])))
         (.bad 351)))
        (.bad 351)))
       (.leaf (Step.go [.k 0, .n (IntKind.wrap .i64 (n0 + (1 : Int))), .l TS l1, .l TPt l2, .l TPt l3, .l TRt l4, .s s5, .n n6, .l TI l7, .l TNd l8, .l TI l9, .l TNd l10, .l TI l11]))))
      (.bad 351)))
     (.bad 351)))
    (.bad 351)))
   (.leaf (Step.stop 0 [])))
 | _ => .bad 0
theorem fn_L29_16_t_im (n0 : Int) (l1 : DS) (l2 : DP) (l3 : DP) (l4 : DR) (s5 : ByteArray) (n6 : Int) (l7 : DI) (l8 : DD) (l9 : DI) (l10 : DD) (l11 : DI) (g0 : 0 ≤ n0) : Imp (fn_L29_16_t [.n n0, .l TS l1, .l TPt l2, .l TPt l3, .l TRt l4, .s s5, .n n6, .l TI l7, .l TNd l8, .l TI l9, .l TNd l10, .l TI l11]) (st_L29_16 [.k 0, .n n0, .l TS l1, .l TPt l2, .l TPt l3, .l TRt l4, .s s5, .n n6, .l TI l7, .l TNd l8, .l TI l9, .l TNd l10, .l TI l11]) :=
(.pa [1]
(.nd (fun h0 =>
(.pq (c := (inR n0 (List.length l2)))
(.nd (fun h1 =>
(.pa [1]
(.nd (fun h2 =>
(.pa [1]
(.nd (fun h3 =>
(.pa [1]
(.nd (fun h4 =>
(.pa [1,1,1]
.lf)) (fun h4 =>
(.nd (fun h5 =>
(.nd (fun h6 =>
(.pa [1]
(.nd (fun h7 =>
(.pa [1]
(.nd (fun h8 =>
(.pa [1]
.lf)) (fun h8 =>
(.pa [1]
.lf))))) (fun h7 =>
.none)))) (fun h6 =>
.none))) (fun h5 =>
(.pa [0,0,1]
.lf))))))) (fun h3 =>
.none)))) (fun h2 =>
.none)))) (fun h1 =>
.none)))) (fun h0 =>
(.pa [1]
.lf))))
theorem ls_29_ok : LsOk Try.prog (z0) (lsM [(6, L29_6), (11, L29_11), (16, L29_16)] (z0)) (bodyOf Try.prog 74) := LsOk.many fun j B hB hk c hc hi => by
 simp only [lookM] at hB
 split at hB
 ·rename_i e; have := Nat.eq_of_beq_eq_true e; subst this; cases hB
  rw [onlyC (f := 74) (i := 6) (loopAt_one (by kernel_rfl)) (loopsAt_mem hc hi)]; exact L29_6_run
 split at hB
 ·rename_i e; have := Nat.eq_of_beq_eq_true e; subst this; cases hB
  rw [onlyC (f := 74) (i := 11) (loopAt_one (by kernel_rfl)) (loopsAt_mem hc hi)]; exact L29_11_run
 split at hB
 ·rename_i e; have := Nat.eq_of_beq_eq_true e; subst this; cases hB
  rw [onlyC (f := 74) (i := 16) (loopAt_one (by kernel_rfl)) (loopsAt_mem hc hi)]; exact L29_16_run
 cases hB
noncomputable def ev_29 (env : LDt) : TD := Lk.boxC false LK cs_46 74 (lsM [(6, L29_6), (11, L29_11), (16, L29_16)] (z0)) (k27 fun _ => none) env
noncomputable def op_29 : OpT := Classical.choose (opq (fun env => (ev_29 env).sel))
theorem op_29_eq (env : LDt) : op_29 env = (ev_29 env).sel := Classical.choose_spec (opq (fun env => (ev_29 env).sel)) env
noncomputable def B29 : FBox := k27 op_29
theorem B29_ok : RunOk Try.prog 74 (boxRun B29) := mkF_ok (op := op_29) cs_46_ok hmix false (ls_29_ok) (fun env x h => by rw [op_29_eq] at h; rw [← boxC_lk]; exact h)
noncomputable def fn_29_t : LDt → TD
 | [.l TS l0, .l TPt l1, .l TPt l2, .l TRt l3, .s s4, .n n5, .l TI l6, .l TNd l7, .l TI l8, .l TNd l9] =>
  (let r1 : OD := (op_11 [.s s4, .n n5, .l TI l6, .l TNd l7, .l TI l8, .l TNd l9]);
   (.node (isK 0 [HK.l TI] r1)
   (let r2 : OD := (op_12 [.s s4, .n n5, .l TI l6, .l TNd l7, .l TI l8, .l TNd l9]);
    (.node (isK 0 [HK.l TNd] r2)
    (let r3 : OD := (op_46 [.l TNd (gl TNd (dOf r2) 0)]);
     (.node (isK 0 [HK.l TI] r3)
     (.node ((↑(List.length l6) : Int) == (0 : Int))
      (.leaf ((0, [.b false])))
      (.node (inR n5 (List.length l2))
      (let r4 : OD := (op_47 [.l TI (gl TI (dOf r1) 0), .n (Prod.snd (List.getD l2 (Int.toNat n5) (Ty.dflt TPt)))]);
       (.node (isK 0 [HK.n] r4)
       (.node (decide (gn (dOf r4) 0 > (0 : Int)))
        (.leaf ((0, [.b false])))
        (let r5 : OD := (op_L29_6 [.k 0, .n (0 : Int), .l TS l0, .l TPt l1, .l TPt l2, .l TRt l3, .s s4, .n n5, .l TI l6, .l TNd l7, .l TI l8, .l TNd l9, .l TI (gl TI (dOf r1) 0), .l TI (gl TI (dOf r3) 0)]);
        (.node (isK 0 [HK.l Ty.str, HK.l TPt, HK.l TPt, HK.l TRt, HK.s, HK.n, HK.l TI, HK.l TNd, HK.l TI, HK.l TNd, HK.l TI, HK.l TI] r5)
         (let r6 : OD := (op_L29_11 [.k 0, .n (0 : Int), .l TS (gl Ty.str (dOf r5) 0), .l TPt (gl TPt (dOf r5) 1), .l TPt (gl TPt (dOf r5) 2), .l TRt (gl TRt (dOf r5) 3), .s (gs (dOf r5) 4), .n (gn (dOf r5) 5), .l TI (gl TI (dOf r5) 6), .l TNd (gl TNd (dOf r5) 7), .l TI (gl TI (dOf r5) 8), .l TNd (gl TNd (dOf r5) 9), .l TI (gl TI (dOf r5) 10), .l TI (gl TI (dOf r5) 11)]);
         (.node (isK 0 [HK.l Ty.str, HK.l TPt, HK.l TPt, HK.l TRt, HK.s, HK.n, HK.l TI, HK.l TNd, HK.l TI, HK.l TNd, HK.l TI] r6)
          (let r7 : OD := (op_L29_16 [.k 0, .n (0 : Int), .l TS (gl Ty.str (dOf r6) 0), .l TPt (gl TPt (dOf r6) 1), .l TPt (gl TPt (dOf r6) 2), .l TRt (gl TRt (dOf r6) 3), .s (gs (dOf r6) 4), .n (gn (dOf r6) 5), .l TI (gl TI (dOf r6) 6), .l TNd (gl TNd (dOf r6) 7), .l TI (gl TI (dOf r6) 8), .l TNd (gl TNd (dOf r6) 9), .l TI (gl TI (dOf r6) 10)]);
          (.node (isK 0 [] r7)
           (.leaf ((0, [.b true])))
           (.node (isK 1 [HK.b] r7)
           (.leaf ((0, [.b (gb (dOf r7) 0)])))
           (.bad 351))))
          (.node (isK 1 [HK.b] r6)
          (.leaf ((0, [.b (gb (dOf r6) 0)])))
          (.bad 351))))
         (.node (isK 1 [HK.b] r5)
         (.leaf ((0, [.b (gb (dOf r5) 0)])))
         (.bad 351)))))
       (.bad 351)))
      (.bad 10)))
     (.bad 351)))
    (.bad 351)))
   (.bad 351)))
 | _ => .bad 0
theorem fn_29_t_im (l0 : DS) (l1 : DP) (l2 : DP) (l3 : DR) (s4 : ByteArray) (n5 : Int) (l6 : DI) (l7 : DD) (l8 : DI) (l9 : DD) : Imp (fn_29_t [.l TS l0, .l TPt l1, .l TPt l2, .l TRt l3, .s s4, .n n5, .l TI l6, .l TNd l7, .l TI l8, .l TNd l9]) (ev_29 [.l TS l0, .l TPt l1, .l TPt l2, .l TRt l3, .s s4, .n n5, .l TI l6, .l TNd l7, .l TI l8, .l TNd l9]) :=
(.nd (fun h0 =>
(.pa [1]
(.nd (fun h1 =>
(.pa [1]
(.nd (fun h2 =>
(.pa [1]
(.nd (fun h3 =>
(.pa [1,1,1]
.lf)) (fun h3 =>
(.nd (fun h4 =>
(.nd (fun h5 =>
(.pa [1]
(.nd (fun h6 =>
(.pa [1]
.lf)) (fun h6 =>
(.nd (fun h7 =>
(.nd (fun h8 =>
(.nd (fun h9 =>
(.pa [1]
.lf)) (fun h9 =>
(.nd (fun h10 =>
(.pa [1]
.lf)) (fun h10 =>
.none))))) (fun h8 =>
(.nd (fun h9 =>
(.pa [1]
.lf)) (fun h9 =>
.none))))) (fun h7 =>
(.nd (fun h8 =>
(.pa [1]
.lf)) (fun h8 =>
.none)))))))) (fun h5 =>
.none))) (fun h4 =>
.none)))))) (fun h2 =>
.none)))) (fun h1 =>
.none)))) (fun h0 =>
.none))
noncomputable def cs_29 : FuncId → Option CSpec := csLend 74 B29 cs_46
theorem cs_29_ok : CsOk Try.prog cs_29 := csLend_ok cs_46_ok B29_ok
def kL18_4 (f : OpT) : MBox := mkM 0 [] [(sh 23 [(1, .ptr 0 0), (10, .imm TRt 0), (11, .int .i64 1), (12, .int .i64 2)], [laB 3])] [] [(.exit 0, sh 23 [], []), (.ret, sh 23 [(2, .int .i64 0), (3, .int .i64 1)], [])] f
noncomputable def st_L18_4 (env : LDt) : Tree Step := Lk.stepMC false LK cs_29 21 4 ls0 (kL18_4 fun _ => none) env
noncomputable def op_L18_4 : OpT := Classical.choose (opq (iterS st_L18_4 FU))
theorem op_L18_4_eq (env : LDt) : op_L18_4 env = iterS st_L18_4 FU env := Classical.choose_spec (opq (iterS st_L18_4 FU)) env
noncomputable def L18_4 : MBox := kL18_4 op_L18_4
theorem L18_4_eqs : L18_4 = kL18_4 (iterS st_L18_4 FU) := congrArg kL18_4 (funext op_L18_4_eq)
theorem L18_4_run : ∀ t s x, (manyRun L18_4 t s).sel = some x → CodeOk Try.prog 0 (.loop (cAt Try.prog 21 4)) t s x := by
 rw [L18_4_eqs]
 exact mkM_ok (st := st_L18_4) (m := FU) cs_29_ok hmix false (LsOk.none _ _ _) (by kernel_rfl) (fun env y h => by rw [← stepMC_lk]; exact h)
noncomputable def fn_L18_4_t : LDt → Tree Step
 | [.l TRt l0, .n n1, .n n2, .l TS l3, .l TPt l4, .l TPt l5, .l TRt l6] =>
  (.node (decide (n2 < n1))
   (let r1 : OD := (op_27 [.l TS l3, .l TPt l4, .l TPt l5, .l TRt l6, .s (Prod.fst (List.getD l0 (Int.toNat n2) (Ty.dflt TRt))), .n (Prod.fst (Prod.snd (List.getD l0 (Int.toNat n2) (Ty.dflt TRt)))), .l TI (Prod.fst (Prod.snd (Prod.snd (List.getD l0 (Int.toNat n2) (Ty.dflt TRt))))), .l TNd (Prod.fst (Prod.snd (Prod.snd (Prod.snd (List.getD l0 (Int.toNat n2) (Ty.dflt TRt)))))), .l TI (Prod.fst (Prod.snd (Prod.snd (Prod.snd (Prod.snd (List.getD l0 (Int.toNat n2) (Ty.dflt TRt))))))), .l TNd (Prod.snd (Prod.snd (Prod.snd (Prod.snd (Prod.snd (List.getD l0 (Int.toNat n2) (Ty.dflt TRt)))))))]);
   (.node (isK 0 [HK.b] r1)
    (.node (!gb (dOf r1) 0)
    (.leaf (Step.stop 1 [.n (50 : Int), .n n2]))
    (.leaf (Step.go [.k 0, .l TRt l0, .n n1, .n (IntKind.wrap .i64 (n2 + (1 : Int))), .l TS l3, .l TPt l4, .l TPt l5, .l TRt l6])))
    (.bad 351)))
   (.leaf (Step.stop 0 [])))
 | _ => .bad 0
theorem fn_L18_4_t_im (l0 : DR) (n1 : Int) (n2 : Int) (l3 : DS) (l4 : DP) (l5 : DP) (l6 : DR) (g0 : 0 ≤ n2) (g1 :  n1 = (l0.length : Int)) : Imp (fn_L18_4_t [.l TRt l0, .n n1, .n n2, .l TS l3, .l TPt l4, .l TPt l5, .l TRt l6]) (st_L18_4 [.k 0, .l TRt l0, .n n1, .n n2, .l TS l3, .l TPt l4, .l TPt l5, .l TRt l6]) :=
(.pa [1]
(.nd (fun h0 =>
(.pq (c := (inR n2 (List.length l0)))
(.nd (fun h1 =>
(.pa [1]
(.nd (fun h2 =>
(.pa [1]
.lf)) (fun h2 =>
(.pa [1]
.lf))))) (fun h1 =>
.none)))) (fun h0 =>
(.pa [1]
.lf))))
theorem ls_18_ok : LsOk Try.prog (z0) (lsM [(4, L18_4)] (z0)) (bodyOf Try.prog 21) := LsOk.many fun j B hB hk c hc hi => by
 simp only [lookM] at hB
 split at hB
 ·rename_i e; have := Nat.eq_of_beq_eq_true e; subst this; cases hB
  rw [onlyC (f := 21) (i := 4) (loopAt_one (by kernel_rfl)) (loopsAt_mem hc hi)]; exact L18_4_run
 cases hB
def k18 (f : OpT) : FBox := mkF [laV 0] [] [] [(.tup [.int .i64 0, .int .i64 1], [])] f
noncomputable def ev_18 (env : LDt) : TD := Lk.boxC false LK cs_29 21 (lsM [(4, L18_4)] (z0)) (k18 fun _ => none) env
noncomputable def op_18 : OpT := Classical.choose (opq (fun env => (ev_18 env).sel))
theorem op_18_eq (env : LDt) : op_18 env = (ev_18 env).sel := Classical.choose_spec (opq (fun env => (ev_18 env).sel)) env
noncomputable def B18 : FBox := k18 op_18
theorem B18_ok : RunOk Try.prog 21 (boxRun B18) := mkF_ok (op := op_18) cs_29_ok hmix false (ls_18_ok) (fun env x h => by rw [op_18_eq] at h; rw [← boxC_lk]; exact h)
noncomputable def fn_18_t : LDt → TD
 | [.l TS l0, .l TPt l1, .l TPt l2, .l TRt l3] =>
  (let r1 : OD := (op_26 [.l TS l0, .l TPt l1, .l TPt l2, .l TRt l3]);
   (.node (isK 0 [HK.b] r1)
   (.node (!gb (dOf r1) 0)
    (.leaf ((0, [.n (2 : Int), .n (0 : Int)])))
    (let r2 : OD := (op_L18_4 [.k 0, .l TRt l3, .n (↑(List.length l3) : Int), .n (0 : Int), .l TS l0, .l TPt l1, .l TPt l2, .l TRt l3]);
    (.node (isK 0 [] r2)
     (.leaf ((0, [.n (0 : Int), .n (0 : Int)])))
     (.node (isK 1 [HK.n, HK.n] r2)
     (.leaf ((0, [.n (gn (dOf r2) 0), .n (gn (dOf r2) 1)])))
     (.bad 351)))))
   (.bad 351)))
 | _ => .bad 0
theorem fn_18_t_im (l0 : DS) (l1 : DP) (l2 : DP) (l3 : DR) : Imp (fn_18_t [.l TS l0, .l TPt l1, .l TPt l2, .l TRt l3]) (ev_18 [.l TS l0, .l TPt l1, .l TPt l2, .l TRt l3]) :=
(.nd (fun h0 =>
(.pa [1]
(.nd (fun h1 =>
(.pa [1]
.lf)) (fun h1 =>
(.nd (fun h2 =>
(.pa [1]
.lf)) (fun h2 =>
(.nd (fun h3 =>
(.pa [1]
.lf)) (fun h3 =>
.none)))))))) (fun h0 =>
.none))
noncomputable def cs_18 : FuncId → Option CSpec := csLend 21 B18 cs_29
theorem cs_18_ok : CsOk Try.prog cs_18 := csLend_ok cs_29_ok B18_ok
def kL19_4 (f : OpT) : MBox := mkM 0 [] [(sh 24 [(1, .ptr 0 0), (4, .int .i64 0)], [laB 1])] [] [(.exit 0, sh 24 [], []), (.ret, sh 24 [(2, .int .i64 0), (3, .int .i64 1)], [])] f
noncomputable def st_L19_4 (env : LDt) : Tree Step := Lk.stepMC false LK cs_18 40 4 ls0 (kL19_4 fun _ => none) env
noncomputable def op_L19_4 : OpT := Classical.choose (opq (iterS st_L19_4 FU))
theorem op_L19_4_eq (env : LDt) : op_L19_4 env = iterS st_L19_4 FU env := Classical.choose_spec (opq (iterS st_L19_4 FU)) env
noncomputable def L19_4 : MBox := kL19_4 op_L19_4
theorem L19_4_eqs : L19_4 = kL19_4 (iterS st_L19_4 FU) := congrArg kL19_4 (funext op_L19_4_eq)
theorem L19_4_run : ∀ t s x, (manyRun L19_4 t s).sel = some x → CodeOk Try.prog 0 (.loop (cAt Try.prog 40 4)) t s x := by
 rw [L19_4_eqs]
 exact mkM_ok (st := st_L19_4) (m := FU) cs_18_ok hmix false (LsOk.none _ _ _) (by kernel_rfl) (fun env y h => by rw [← stepMC_lk]; exact h)
noncomputable def fn_L19_4_t : LDt → Tree Step
 | [.n n0, .l TS l1, .l TPt l2, .l TPt l3, .l TRt l4] =>
  (.node (decide (n0 < (↑(List.length l4) : Int)))
   (let r1 : OD := (op_29 [.l TS l1, .l TPt l2, .l TPt l3, .l TRt l4, .s (Prod.fst (List.getD l4 (Int.toNat n0) (Ty.dflt TRt))), .n (Prod.fst (Prod.snd (List.getD l4 (Int.toNat n0) (Ty.dflt TRt)))), .l TI (Prod.fst (Prod.snd (Prod.snd (List.getD l4 (Int.toNat n0) (Ty.dflt TRt))))), .l TNd (Prod.fst (Prod.snd (Prod.snd (Prod.snd (List.getD l4 (Int.toNat n0) (Ty.dflt TRt)))))), .l TI (Prod.fst (Prod.snd (Prod.snd (Prod.snd (Prod.snd (List.getD l4 (Int.toNat n0) (Ty.dflt TRt))))))), .l TNd (Prod.snd (Prod.snd (Prod.snd (Prod.snd (Prod.snd (List.getD l4 (Int.toNat n0) (Ty.dflt TRt)))))))]);
   (.node (isK 0 [HK.b] r1)
    (.node (!gb (dOf r1) 0)
    (.leaf (Step.stop 1 [.n (50 : Int), .n n0]))
    (.leaf (Step.go [.k 0, .n (IntKind.wrap .i64 (n0 + (1 : Int))), .l TS l1, .l TPt l2, .l TPt l3, .l TRt l4])))
    (.bad 351)))
   (.leaf (Step.stop 0 [])))
 | _ => .bad 0
theorem fn_L19_4_t_im (n0 : Int) (l1 : DS) (l2 : DP) (l3 : DP) (l4 : DR) (g0 : 0 ≤ n0) : Imp (fn_L19_4_t [.n n0, .l TS l1, .l TPt l2, .l TPt l3, .l TRt l4]) (st_L19_4 [.k 0, .n n0, .l TS l1, .l TPt l2, .l TPt l3, .l TRt l4]) :=
(.pa [1]
(.nd (fun h0 =>
(.pq (c := (inR n0 (List.length l4)))
(.nd (fun h1 =>
(.pa [1,1]
(.nd (fun h2 =>
(.pa [1]
.lf)) (fun h2 =>
(.pa [1]
.lf))))) (fun h1 =>
.none)))) (fun h0 =>
(.pa [1]
.lf))))
theorem ls_19_ok : LsOk Try.prog (z0) (lsM [(4, L19_4)] (z0)) (bodyOf Try.prog 40) := LsOk.many fun j B hB hk c hc hi => by
 simp only [lookM] at hB
 split at hB
 ·rename_i e; have := Nat.eq_of_beq_eq_true e; subst this; cases hB
  rw [onlyC (f := 40) (i := 4) (loopAt_one (by kernel_rfl)) (loopsAt_mem hc hi)]; exact L19_4_run
 cases hB
noncomputable def ev_19 (env : LDt) : TD := Lk.boxC false LK cs_18 40 (lsM [(4, L19_4)] (z0)) (k18 fun _ => none) env
noncomputable def op_19 : OpT := Classical.choose (opq (fun env => (ev_19 env).sel))
theorem op_19_eq (env : LDt) : op_19 env = (ev_19 env).sel := Classical.choose_spec (opq (fun env => (ev_19 env).sel)) env
noncomputable def B19 : FBox := k18 op_19
theorem B19_ok : RunOk Try.prog 40 (boxRun B19) := mkF_ok (op := op_19) cs_18_ok hmix false (ls_19_ok) (fun env x h => by rw [op_19_eq] at h; rw [← boxC_lk]; exact h)
noncomputable def fn_19_t : LDt → TD
 | [.l TS l0, .l TPt l1, .l TPt l2, .l TRt l3] =>
  (let r1 : OD := (op_28 [.l TS l0, .l TPt l1, .l TPt l2, .l TRt l3]);
   (.node (isK 0 [HK.b] r1)
   (.node (!gb (dOf r1) 0)
    (.leaf ((0, [.n (2 : Int), .n (0 : Int)])))
    (let r2 : OD := (op_L19_4 [.k 0, .n (0 : Int), .l TS l0, .l TPt l1, .l TPt l2, .l TRt l3]);
    (.node (isK 0 [] r2)
     (.leaf ((0, [.n (0 : Int), .n (0 : Int)])))
     (.node (isK 1 [HK.n, HK.n] r2)
     (.leaf ((0, [.n (gn (dOf r2) 0), .n (gn (dOf r2) 1)])))
     (.bad 351)))))
   (.bad 351)))
 | _ => .bad 0
theorem fn_19_t_im (l0 : DS) (l1 : DP) (l2 : DP) (l3 : DR) : Imp (fn_19_t [.l TS l0, .l TPt l1, .l TPt l2, .l TRt l3]) (ev_19 [.l TS l0, .l TPt l1, .l TPt l2, .l TRt l3]) :=
(.nd (fun h0 =>
(.pa [1]
(.nd (fun h1 =>
(.pa [1]
.lf)) (fun h1 =>
(.nd (fun h2 =>
(.pa [1]
.lf)) (fun h2 =>
(.nd (fun h3 =>
(.pa [1]
.lf)) (fun h3 =>
.none)))))))) (fun h0 =>
.none))
noncomputable def cs_19 : FuncId → Option CSpec := csLend 40 B19 cs_18
theorem cs_19_ok : CsOk Try.prog cs_19 := csLend_ok cs_18_ok B19_ok
def kL15_3 (f : OpT) : MBox := mkM 0 [] [(sh 120 [(1, .int .i64 0), (2, .ptr 0 0), (5, .int .i64 1), (6, .int .i64 2)], [laB 3])] [] [(.exit 0, sh 120 [(1, .int .i64 0), (2, .ptr 0 0), (5, .int .i64 1)], [laB 2])] f
noncomputable def st_L15_3 (env : LDt) : Tree Step := Lk.stepMC false LK cs_19 14 3 ls0 (kL15_3 fun _ => none) env
noncomputable def op_L15_3 : OpT := Classical.choose (opq (iterS st_L15_3 FU))
theorem op_L15_3_eq (env : LDt) : op_L15_3 env = iterS st_L15_3 FU env := Classical.choose_spec (opq (iterS st_L15_3 FU)) env
noncomputable def L15_3 : MBox := kL15_3 op_L15_3
theorem L15_3_eqs : L15_3 = kL15_3 (iterS st_L15_3 FU) := congrArg kL15_3 (funext op_L15_3_eq)
theorem L15_3_run : ∀ t s x, (manyRun L15_3 t s).sel = some x → CodeOk Try.prog 0 (.loop (cAt Try.prog 14 3)) t s x := by
 rw [L15_3_eqs]
 exact mkM_ok (st := st_L15_3) (m := FU) cs_19_ok hmix false (LsOk.none _ _ _) (by kernel_rfl) (fun env y h => by rw [← stepMC_lk]; exact h)
noncomputable def fn_L15_3_t : LDt → Tree Step
 | [.n n0, .n n1, .n n2, .l TS l3, .l TPt l4, .l TPt l5, .l TRt l6] =>
  (.node (decide (n2 < (↑(List.length l3) : Int)))
   (.node (decide (n1 ≤ n0))
   (.leaf (Step.go [.k 0, .n n0, .n (IntKind.wrap .i64 (IntKind.wrap .i64 (n1 + (1 : Int)) + (↑(ByteArray.size (List.getD l3 (Int.toNat n2) (Ty.dflt Ty.str))) : Int))), .n (IntKind.wrap .i64 (n2 + (1 : Int))), .l TS l3, .l TPt l4, .l TPt l5, .l TRt l6]))
   (.leaf (Step.stop 0 [.n n0, .n n1, .l TS l3, .l TPt l4, .l TPt l5, .l TRt l6])))
   (.leaf (Step.stop 0 [.n n0, .n n1, .l TS l3, .l TPt l4, .l TPt l5, .l TRt l6])))
 | _ => .bad 0
theorem fn_L15_3_t_im (n0 : Int) (n1 : Int) (n2 : Int) (l3 : DS) (l4 : DP) (l5 : DP) (l6 : DR) (g0 : 0 ≤ n2) : Imp (fn_L15_3_t [.n n0, .n n1, .n n2, .l TS l3, .l TPt l4, .l TPt l5, .l TRt l6]) (st_L15_3 [.k 0, .n n0, .n n1, .n n2, .l TS l3, .l TPt l4, .l TPt l5, .l TRt l6]) :=
(.pa [1]
(.nd (fun h0 =>
(.nd (fun h1 =>
(.pq (c := (inR n2 (List.length l3)))
(.pa [1]
.lf))) (fun h1 =>
(.pa [1]
.lf)))) (fun h0 =>
(.pa [0,0,1]
.lf))))
def kL15_7 (f : OpT) : MBox := mkM 0 [] [(sh 120 [(1, .int .i64 0), (2, .ptr 0 0), (5, .int .i64 1), (7, .int .i64 2)], [laB 3])] [] [(.exit 2, sh 120 [(1, .int .i64 0), (2, .ptr 0 0), (5, .int .i64 1)], [laB 2])] f
noncomputable def st_L15_7 (env : LDt) : Tree Step := Lk.stepMC false LK cs_19 14 7 ls0 (kL15_7 fun _ => none) env
noncomputable def op_L15_7 : OpT := Classical.choose (opq (iterS st_L15_7 FU))
theorem op_L15_7_eq (env : LDt) : op_L15_7 env = iterS st_L15_7 FU env := Classical.choose_spec (opq (iterS st_L15_7 FU)) env
noncomputable def L15_7 : MBox := kL15_7 op_L15_7
theorem L15_7_eqs : L15_7 = kL15_7 (iterS st_L15_7 FU) := congrArg kL15_7 (funext op_L15_7_eq)
theorem L15_7_run : ∀ t s x, (manyRun L15_7 t s).sel = some x → CodeOk Try.prog 0 (.loop (cAt Try.prog 14 7)) t s x := by
 rw [L15_7_eqs]
 exact mkM_ok (st := st_L15_7) (m := FU) cs_19_ok hmix false (LsOk.none _ _ _) (by kernel_rfl) (fun env y h => by rw [← stepMC_lk]; exact h)
noncomputable def fn_L15_7_t : LDt → Tree Step
 | [.n n0, .n n1, .n n2, .l TS l3, .l TPt l4, .l TPt l5, .l TRt l6] =>
  (.node (decide (n2 < (↑(List.length l4) : Int)))
   (.node (decide (n1 ≤ n0))
   (.leaf (Step.go [.k 0, .n n0, .n (IntKind.wrap .i64 (IntKind.wrap .i64 (n1 + (1 : Int)) + (↑(ByteArray.size (Prod.fst (List.getD l4 (Int.toNat n2) (Ty.dflt TPt)))) : Int))), .n (IntKind.wrap .i64 (n2 + (1 : Int))), .l TS l3, .l TPt l4, .l TPt l5, .l TRt l6]))
   (.leaf (Step.stop 0 [.n n0, .n n1, .l TS l3, .l TPt l4, .l TPt l5, .l TRt l6])))
   (.leaf (Step.stop 0 [.n n0, .n n1, .l TS l3, .l TPt l4, .l TPt l5, .l TRt l6])))
 | _ => .bad 0
theorem fn_L15_7_t_im (n0 : Int) (n1 : Int) (n2 : Int) (l3 : DS) (l4 : DP) (l5 : DP) (l6 : DR) (g0 : 0 ≤ n2) : Imp (fn_L15_7_t [.n n0, .n n1, .n n2, .l TS l3, .l TPt l4, .l TPt l5, .l TRt l6]) (st_L15_7 [.k 0, .n n0, .n n1, .n n2, .l TS l3, .l TPt l4, .l TPt l5, .l TRt l6]) :=
(.pa [1]
(.nd (fun h0 =>
(.nd (fun h1 =>
(.pq (c := (inR n2 (List.length l4)))
(.pa [1]
.lf))) (fun h1 =>
(.pa [1]
.lf)))) (fun h0 =>
(.pa [0,0,1]
.lf))))
def kL15_11 (f : OpT) : MBox := mkM 0 [] [(sh 120 [(1, .int .i64 0), (2, .ptr 0 0), (5, .int .i64 1), (8, .int .i64 2)], [laB 3])] [] [(.exit 4, sh 120 [(1, .int .i64 0), (2, .ptr 0 0), (5, .int .i64 1)], [laB 2])] f
noncomputable def st_L15_11 (env : LDt) : Tree Step := Lk.stepMC false LK cs_19 14 11 ls0 (kL15_11 fun _ => none) env
noncomputable def op_L15_11 : OpT := Classical.choose (opq (iterS st_L15_11 FU))
theorem op_L15_11_eq (env : LDt) : op_L15_11 env = iterS st_L15_11 FU env := Classical.choose_spec (opq (iterS st_L15_11 FU)) env
noncomputable def L15_11 : MBox := kL15_11 op_L15_11
theorem L15_11_eqs : L15_11 = kL15_11 (iterS st_L15_11 FU) := congrArg kL15_11 (funext op_L15_11_eq)
theorem L15_11_run : ∀ t s x, (manyRun L15_11 t s).sel = some x → CodeOk Try.prog 0 (.loop (cAt Try.prog 14 11)) t s x := by
 rw [L15_11_eqs]
 exact mkM_ok (st := st_L15_11) (m := FU) cs_19_ok hmix false (LsOk.none _ _ _) (by kernel_rfl) (fun env y h => by rw [← stepMC_lk]; exact h)
noncomputable def fn_L15_11_t : LDt → Tree Step
 | [.n n0, .n n1, .n n2, .l TS l3, .l TPt l4, .l TPt l5, .l TRt l6] =>
  (.node (decide (n2 < (↑(List.length l5) : Int)))
   (.node (decide (n1 ≤ n0))
   (.leaf (Step.go [.k 0, .n n0, .n (IntKind.wrap .i64 (IntKind.wrap .i64 (n1 + (1 : Int)) + (↑(ByteArray.size (Prod.fst (List.getD l5 (Int.toNat n2) (Ty.dflt TPt)))) : Int))), .n (IntKind.wrap .i64 (n2 + (1 : Int))), .l TS l3, .l TPt l4, .l TPt l5, .l TRt l6]))
   (.leaf (Step.stop 0 [.n n0, .n n1, .l TS l3, .l TPt l4, .l TPt l5, .l TRt l6])))
   (.leaf (Step.stop 0 [.n n0, .n n1, .l TS l3, .l TPt l4, .l TPt l5, .l TRt l6])))
 | _ => .bad 0
theorem fn_L15_11_t_im (n0 : Int) (n1 : Int) (n2 : Int) (l3 : DS) (l4 : DP) (l5 : DP) (l6 : DR) (g0 : 0 ≤ n2) : Imp (fn_L15_11_t [.n n0, .n n1, .n n2, .l TS l3, .l TPt l4, .l TPt l5, .l TRt l6]) (st_L15_11 [.k 0, .n n0, .n n1, .n n2, .l TS l3, .l TPt l4, .l TPt l5, .l TRt l6]) :=
(.pa [1]
(.nd (fun h0 =>
(.nd (fun h1 =>
(.pq (c := (inR n2 (List.length l5)))
(.pa [1]
.lf))) (fun h1 =>
(.pa [1]
.lf)))) (fun h0 =>
(.pa [0,0,1]
.lf))))
def kL15_15 (f : OpT) : MBox := mkM 0 [] [(sh 120 [(1, .int .i64 0), (2, .ptr 0 0), (5, .int .i64 1), (9, .int .i64 2)], [laB 3])] [] [(.exit 6, sh 120 [(5, .int .i64 0)], [])] f
noncomputable def st_L15_15 (env : LDt) : Tree Step := Lk.stepMC false LK cs_19 14 15 ls0 (kL15_15 fun _ => none) env
noncomputable def op_L15_15 : OpT := Classical.choose (opq (iterS st_L15_15 FU))
theorem op_L15_15_eq (env : LDt) : op_L15_15 env = iterS st_L15_15 FU env := Classical.choose_spec (opq (iterS st_L15_15 FU)) env
noncomputable def L15_15 : MBox := kL15_15 op_L15_15
theorem L15_15_eqs : L15_15 = kL15_15 (iterS st_L15_15 FU) := congrArg kL15_15 (funext op_L15_15_eq)
theorem L15_15_run : ∀ t s x, (manyRun L15_15 t s).sel = some x → CodeOk Try.prog 0 (.loop (cAt Try.prog 14 15)) t s x := by
 rw [L15_15_eqs]
 exact mkM_ok (st := st_L15_15) (m := FU) cs_19_ok hmix false (LsOk.none _ _ _) (by kernel_rfl) (fun env y h => by rw [← stepMC_lk]; exact h)
noncomputable def fn_L15_15_t : LDt → Tree Step
 | [.n n0, .n n1, .n n2, .l TS l3, .l TPt l4, .l TPt l5, .l TRt l6] =>
  (.node (decide (n2 < (↑(List.length l6) : Int)))
   (.node (decide (n1 ≤ n0))
   (.node (decide (IntKind.wrap .i64 (IntKind.wrap .i64 (IntKind.wrap .i64 (IntKind.wrap .i64 (n1 + (1 : Int)) + (↑(ByteArray.size (Prod.fst (List.getD l6 (Int.toNat n2) (Ty.dflt TRt)))) : Int)) + (↑(List.length (Prod.fst (Prod.snd (Prod.snd (List.getD l6 (Int.toNat n2) (Ty.dflt TRt)))))) : Int)) + (↑(List.length (Prod.fst (Prod.snd (Prod.snd (Prod.snd (List.getD l6 (Int.toNat n2) (Ty.dflt TRt))))))) : Int)) ≤ n0))
    (.leaf (Step.go [.k 0, .n n0, .n (IntKind.wrap .i64 (IntKind.wrap .i64 (IntKind.wrap .i64 (IntKind.wrap .i64 (IntKind.wrap .i64 (IntKind.wrap .i64 (n1 + (1 : Int)) + (↑(ByteArray.size (Prod.fst (List.getD l6 (Int.toNat n2) (Ty.dflt TRt)))) : Int)) + (↑(List.length (Prod.fst (Prod.snd (Prod.snd (List.getD l6 (Int.toNat n2) (Ty.dflt TRt)))))) : Int)) + (↑(List.length (Prod.fst (Prod.snd (Prod.snd (Prod.snd (List.getD l6 (Int.toNat n2) (Ty.dflt TRt))))))) : Int)) + (↑(List.length (Prod.fst (Prod.snd (Prod.snd (Prod.snd (Prod.snd (List.getD l6 (Int.toNat n2) (Ty.dflt TRt)))))))) : Int)) + (↑(List.length (Prod.snd (Prod.snd (Prod.snd (Prod.snd (Prod.snd (List.getD l6 (Int.toNat n2) (Ty.dflt TRt)))))))) : Int))), .n (IntKind.wrap .i64 (n2 + (1 : Int))), .l TS l3, .l TPt l4, .l TPt l5, .l TRt l6]))
    (.leaf (Step.go [.k 0, .n n0, .n (IntKind.wrap .i64 (IntKind.wrap .i64 (IntKind.wrap .i64 (IntKind.wrap .i64 (n1 + (1 : Int)) + (↑(ByteArray.size (Prod.fst (List.getD l6 (Int.toNat n2) (Ty.dflt TRt)))) : Int)) + (↑(List.length (Prod.fst (Prod.snd (Prod.snd (List.getD l6 (Int.toNat n2) (Ty.dflt TRt)))))) : Int)) + (↑(List.length (Prod.fst (Prod.snd (Prod.snd (Prod.snd (List.getD l6 (Int.toNat n2) (Ty.dflt TRt))))))) : Int))), .n (IntKind.wrap .i64 (n2 + (1 : Int))), .l TS l3, .l TPt l4, .l TPt l5, .l TRt l6])))
   (.leaf (Step.stop 0 [.n n1])))
   (.leaf (Step.stop 0 [.n n1])))
 | _ => .bad 0
theorem fn_L15_15_t_im (n0 : Int) (n1 : Int) (n2 : Int) (l3 : DS) (l4 : DP) (l5 : DP) (l6 : DR) (g0 : 0 ≤ n2) : Imp (fn_L15_15_t [.n n0, .n n1, .n n2, .l TS l3, .l TPt l4, .l TPt l5, .l TRt l6]) (st_L15_15 [.k 0, .n n0, .n n1, .n n2, .l TS l3, .l TPt l4, .l TPt l5, .l TRt l6]) :=
(.pa [1]
(.nd (fun h0 =>
(.nd (fun h1 =>
(.pq (c := (inR n2 (List.length l6)))
(.nd (fun h2 =>
(.pa [1]
.lf)) (fun h2 =>
(.pa [1]
.lf))))) (fun h1 =>
(.pa [1]
.lf)))) (fun h0 =>
(.pa [0,0,1]
.lf))))
theorem ls_15_ok : LsOk Try.prog (z0) (lsM [(3, L15_3), (7, L15_7), (11, L15_11), (15, L15_15)] (z0)) (bodyOf Try.prog 14) := LsOk.many fun j B hB hk c hc hi => by
 simp only [lookM] at hB
 split at hB
 ·rename_i e; have := Nat.eq_of_beq_eq_true e; subst this; cases hB
  rw [onlyC (f := 14) (i := 3) (loopAt_one (by kernel_rfl)) (loopsAt_mem hc hi)]; exact L15_3_run
 split at hB
 ·rename_i e; have := Nat.eq_of_beq_eq_true e; subst this; cases hB
  rw [onlyC (f := 14) (i := 7) (loopAt_one (by kernel_rfl)) (loopsAt_mem hc hi)]; exact L15_7_run
 split at hB
 ·rename_i e; have := Nat.eq_of_beq_eq_true e; subst this; cases hB
  rw [onlyC (f := 14) (i := 11) (loopAt_one (by kernel_rfl)) (loopsAt_mem hc hi)]; exact L15_11_run
 split at hB
 ·rename_i e; have := Nat.eq_of_beq_eq_true e; subst this; cases hB
  rw [onlyC (f := 14) (i := 15) (loopAt_one (by kernel_rfl)) (loopsAt_mem hc hi)]; exact L15_15_run
 cases hB
def k15 (f : OpT) : FBox := mkF [laV 0, .int .i64 4] [] [] [(.int .i64 0, [])] f
noncomputable def ev_15 (env : LDt) : TD := Lk.boxC false LK cs_19 14 (lsM [(3, L15_3), (7, L15_7), (11, L15_11), (15, L15_15)] (z0)) (k15 fun _ => none) env
noncomputable def op_15 : OpT := Classical.choose (opq (fun env => (ev_15 env).sel))
theorem op_15_eq (env : LDt) : op_15 env = (ev_15 env).sel := Classical.choose_spec (opq (fun env => (ev_15 env).sel)) env
noncomputable def B15 : FBox := k15 op_15
theorem B15_ok : RunOk Try.prog 14 (boxRun B15) := mkF_ok (op := op_15) cs_19_ok hmix false (ls_15_ok) (fun env x h => by rw [op_15_eq] at h; rw [← boxC_lk]; exact h)
noncomputable def fn_15_t : LDt → TD
 | [.l TS l0, .l TPt l1, .l TPt l2, .l TRt l3, .n n4] =>
  (let r1 : OD := (op_L15_3 [.k 0, .n n4, .n (0 : Int), .n (0 : Int), .l TS l0, .l TPt l1, .l TPt l2, .l TRt l3]);
   (.node (isK 0 [HK.n, HK.n, HK.l Ty.str, HK.l TPt, HK.l TPt, HK.l TRt] r1)
   (let r2 : OD := (op_L15_7 [.k 0, .n (gn (dOf r1) 0), .n (gn (dOf r1) 1), .n (0 : Int), .l TS (gl Ty.str (dOf r1) 2), .l TPt (gl TPt (dOf r1) 3), .l TPt (gl TPt (dOf r1) 4), .l TRt (gl TRt (dOf r1) 5)]);
    (.node (isK 0 [HK.n, HK.n, HK.l Ty.str, HK.l TPt, HK.l TPt, HK.l TRt] r2)
    (let r3 : OD := (op_L15_11 [.k 0, .n (gn (dOf r2) 0), .n (gn (dOf r2) 1), .n (0 : Int), .l TS (gl Ty.str (dOf r2) 2), .l TPt (gl TPt (dOf r2) 3), .l TPt (gl TPt (dOf r2) 4), .l TRt (gl TRt (dOf r2) 5)]);
     (.node (isK 0 [HK.n, HK.n, HK.l Ty.str, HK.l TPt, HK.l TPt, HK.l TRt] r3)
     (let r4 : OD := (op_L15_15 [.k 0, .n (gn (dOf r3) 0), .n (gn (dOf r3) 1), .n (0 : Int), .l TS (gl Ty.str (dOf r3) 2), .l TPt (gl TPt (dOf r3) 3), .l TPt (gl TPt (dOf r3) 4), .l TRt (gl TRt (dOf r3) 5)]);
      (.node (isK 0 [HK.n] r4)
      (.leaf ((0, [.n (gn (dOf r4) 0)])))
      (.bad 351)))
     (.bad 351)))
    (.bad 351)))
   (.bad 351)))
 | _ => .bad 0
theorem fn_15_t_im (l0 : DS) (l1 : DP) (l2 : DP) (l3 : DR) (n4 : Int) : Imp (fn_15_t [.l TS l0, .l TPt l1, .l TPt l2, .l TRt l3, .n n4]) (ev_15 [.l TS l0, .l TPt l1, .l TPt l2, .l TRt l3, .n n4]) :=
(.nd (fun h0 =>
(.nd (fun h1 =>
(.nd (fun h2 =>
(.nd (fun h3 =>
(.pa [1]
.lf)) (fun h3 =>
.none))) (fun h2 =>
.none))) (fun h1 =>
.none))) (fun h0 =>
.none))
noncomputable def cs_15 : FuncId → Option CSpec := csLend 14 B15 cs_19
theorem cs_15_ok : CsOk Try.prog cs_15 := csLend_ok cs_19_ok B15_ok
end Go.Proofs.Ytfkcodaiiheniaa.Vx
