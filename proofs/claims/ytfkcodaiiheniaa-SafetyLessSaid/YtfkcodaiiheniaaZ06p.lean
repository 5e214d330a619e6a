import Derived.Test.YtfkcodaiiheniaaVxIm
import Derived.Test.YtfkcodaiiheniaaVxLk
import Derived.Test.YtfkcodaiiheniaaVxLaw
import Derived.Test.YtfkcodaiiheniaaZ06n
import Derived.KernelRfl
import Derived.Test.YtfkcodaiiheniaaZ06j
import Derived.Test.YtfkcodaiiheniaaProg
import Derived.Test.YtfkcodaiiheniaaZ06m
namespace Go.Proofs.Ytfkcodaiiheniaa.Vx
open Go Go.RowKit
set_option linter.unusedVariables false
set_option linter.unusedSimpArgs false
set_option maxRecDepth 100000
set_option maxHeartbeats 0
abbrev TCmd : Ty := .pair (.int .u8) (.int .i64)
def ipV (h : Nat) : PV := .agg [.int .u64 h, .int .u32 (h+1), .int .u32 (h+2), .imm TCmd (h+3)]
def ipB (h : Nat) : PB := .cells [.int .u64 h, .int .u32 (h+1), .int .u32 (h+2), .imm TCmd (h+3)]
def ouV (h : Nat) : PV := .agg [.int .u64 h, .int .u32 (h+1)]
def ouB (h : Nat) : PB := .cells [.int .u64 h, .int .u32 (h+1)]
def gV (h : Nat) : PV := .agg [.imm TS h, .imm TPt (h+1), .imm TPt (h+2), .imm TRt (h+3), .imm TU (h+4), .int .i64 (h+5)]
def gB (h : Nat) : PB := .cells [.imm TS h, .imm TPt (h+1), .imm TPt (h+2), .imm TRt (h+3), .imm TU (h+4), .int .i64 (h+5)]
def cW (h : Nat) : PB := .cells [.int .u32 h]
def fuB (f : Nat) (cs : List PV) : PB := .cells [fnV f cs]
def kLs139_2 (f : OpT) : MBox := mkM 1 [] [(sh 19 [(0, .imm TI 0), (1, fnV 96 [.ptr 0 0]), (7, .int .i64 1), (8, .int .i64 2)], [ipB 3])] [] [(.exit 0, sh 19 [], [.gone]), (.ret, sh 19 [(4, .int .i64 0)], [.gone])] f
noncomputable def st_Ls139_2 (env : LDt) : Tree Step := Lk.stepMC false LK cs_c20 139 2 ls0 (kLs139_2 fun _ => none) env
noncomputable def op_Ls139_2 : OpT := Classical.choose (opq (iterS st_Ls139_2 FU))
theorem op_Ls139_2_eq (env : LDt) : op_Ls139_2 env = iterS st_Ls139_2 FU env := Classical.choose_spec (opq (iterS st_Ls139_2 FU)) env
noncomputable def Ls139_2 : MBox := kLs139_2 op_Ls139_2
theorem Ls139_2_eqs : Ls139_2 = kLs139_2 (iterS st_Ls139_2 FU) := congrArg kLs139_2 (funext op_Ls139_2_eq)
theorem Ls139_2_run : ∀ t s x, (manyRun Ls139_2 t s).sel = some x → CodeOk Try.prog 1 (.loop (cAt Try.prog 139 2)) t s x := by
 rw [Ls139_2_eqs]
 exact mkM_ok (st := st_Ls139_2) (m := FU) cs_c20_ok hmix false (LsOk.none _ _ _) (by kernel_rfl) (fun env y h => by rw [← stepMC_lk]; exact h)
noncomputable def fn_Ls139_2_t : LDt → Tree Step
 | [.l TI l0, .n n1, .n n2, .n n3, .n n4, .n n5, .l (Ty.pair (Ty.int IntKind.u8) TI) l6] =>
  (.node (decide (n2 < n1))
   (.node (!decide ((List.getD l0 (Int.toNat n2) (0 : Int) : Int) < (0 : Int)))
   (.node (iand IntKind.u64 (ishr IntKind.u64 n3 (List.getD l0 (Int.toNat n2) (0 : Int))) (1 : Int) == (1 : Int))
    (.leaf (Step.stop 1 [.n n2]))
    (.leaf (Step.go [.k 0, .l TI l0, .n n1, .n (IntKind.wrap .i64 (n2 + (1 : Int))), .n n3, .n n4, .n n5, .l (Ty.pair (Ty.int IntKind.u8) TI) l6])))
   (.bad 83))
   (.leaf (Step.stop 0 [])))
 | _ => .bad 0
theorem fn_Ls139_2_t_im (l0 : DI) (n1 : Int) (n2 : Int) (n3 : Int) (n4 : Int) (n5 : Int) (l6 : List (Ty.den (Ty.pair (Ty.int IntKind.u8) TI))) (g0 : 0 ≤ n2) (g1 :  n1 = (l0.length : Int)) : Imp (fn_Ls139_2_t [.l TI l0, .n n1, .n n2, .n n3, .n n4, .n n5, .l (Ty.pair (Ty.int IntKind.u8) TI) l6]) (st_Ls139_2 [.k 0, .l TI l0, .n n1, .n n2, .n n3, .n n4, .n n5, .l TCmd l6]) :=
(.pa [1]
(.nd (fun h0 =>
(.pq (c := (inR n2 (List.length l0)))
(.pa [1]
(.nd (fun h1 =>
(.pa [1]
(.nd (fun h2 =>
(.pa [1]
.lf)) (fun h2 =>
(.pa [1]
.lf))))) (fun h1 =>
.none))))) (fun h0 =>
(.pa [1]
.lf))))
theorem ls_s139_ok : LsOk Try.prog (List.length ([ipB 1] : List PB)) (lsM [(2, Ls139_2)] (List.length ([ipB 1] : List PB))) (bodyOf Try.prog 139) := LsOk.many fun j B hB hk c hc hi => by
 simp only [lookM] at hB
 split at hB
 ·rename_i e; have := Nat.eq_of_beq_eq_true e; subst this; cases hB
  rw [onlyC (f := 139) (i := 2) (loopAt_one (by kernel_rfl)) (loopsAt_mem hc hi)]; exact Ls139_2_run
 cases hB
def ks139 (f : OpT) : FBox := mkF [.imm TI 0, fnV 96 [.ptr 0 0]] [ipB 1] [] [(.int .i64 0, [.gone])] f
noncomputable def ev_s139 (env : LDt) : TD := Lk.boxC false LK cs_c20 139 (lsM [(2, Ls139_2)] (List.length ([ipB 1] : List PB))) (ks139 fun _ => none) env
noncomputable def op_s139 : OpT := Classical.choose (opq (fun env => (ev_s139 env).sel))
theorem op_s139_eq (env : LDt) : op_s139 env = (ev_s139 env).sel := Classical.choose_spec (opq (fun env => (ev_s139 env).sel)) env
noncomputable def Bs139 : FBox := ks139 op_s139
theorem Bs139_ok : RunOk Try.prog 139 (boxRun Bs139) := mkF_ok (op := op_s139) cs_c20_ok hmix false (ls_s139_ok) (fun env x h => by rw [op_s139_eq] at h; rw [← boxC_lk]; exact h)
noncomputable def fn_s139_t : LDt → TD
 | [.l TI l0, .n n1, .n n2, .n n3, .l (Ty.pair (Ty.int IntKind.u8) TI) l4] =>
  (let r1 : OD := (op_Ls139_2 [.k 0, .l TI l0, .n (↑(List.length l0) : Int), .n (0 : Int), .n n1, .n n2, .n n3, .l (Ty.pair (Ty.int IntKind.u8) TI) l4]);
   (.node (isK 0 [] r1)
   (.leaf ((0, [.n (-1 : Int)])))
   (.node (isK 1 [HK.n] r1)
    (.leaf ((0, [.n (gn (dOf r1) 0)])))
    (.bad 351))))
 | _ => .bad 0
theorem fn_s139_t_im (l0 : DI) (n1 : Int) (n2 : Int) (n3 : Int) (l4 : List (Ty.den (Ty.pair (Ty.int IntKind.u8) TI))) : Imp (fn_s139_t [.l TI l0, .n n1, .n n2, .n n3, .l (Ty.pair (Ty.int IntKind.u8) TI) l4]) (ev_s139 [.l TI l0, .n n1, .n n2, .n n3, .l TCmd l4]) :=
(.nd (fun h0 =>
(.pa [1]
.lf)) (fun h0 =>
(.nd (fun h1 =>
(.pa [1]
.lf)) (fun h1 =>
.none))))
noncomputable def cs_s139 : FuncId → Option CSpec := csAdd 139 [Bs139] cs_c20
theorem cs_s139_ok : CsOk Try.prog cs_s139 := csAdd_ok cs_c20_ok fun B hB => by
 cases List.mem_singleton.1 hB
 exact Bs139_ok
def kLs145a_2 (f : OpT) : MBox := mkM 2 [] [(sh 19 [(0, .imm TNd 0), (1, fnV 97 [.ptr 0 0, .ptr 1 0]), (7, .int .i64 1), (8, .int .i64 2)], [cW 3, cW 4])] [] [(.exit 0, sh 19 [], [.gone, .gone]), (.ret, sh 19 [(4, .int .i64 0)], [.gone, .gone])] f
noncomputable def st_Ls145a_2 (env : LDt) : Tree Step := Lk.stepMC false LK cs_s139 145 2 ls0 (kLs145a_2 fun _ => none) env
noncomputable def op_Ls145a_2 : OpT := Classical.choose (opq (iterS st_Ls145a_2 FU))
theorem op_Ls145a_2_eq (env : LDt) : op_Ls145a_2 env = iterS st_Ls145a_2 FU env := Classical.choose_spec (opq (iterS st_Ls145a_2 FU)) env
noncomputable def Ls145a_2 : MBox := kLs145a_2 op_Ls145a_2
theorem Ls145a_2_eqs : Ls145a_2 = kLs145a_2 (iterS st_Ls145a_2 FU) := congrArg kLs145a_2 (funext op_Ls145a_2_eq)
theorem Ls145a_2_run : ∀ t s x, (manyRun Ls145a_2 t s).sel = some x → CodeOk Try.prog 2 (.loop (cAt Try.prog 145 2)) t s x := by
 rw [Ls145a_2_eqs]
 exact mkM_ok (st := st_Ls145a_2) (m := FU) cs_s139_ok hmix false (LsOk.none _ _ _) (by kernel_rfl) (fun env y h => by rw [← stepMC_lk]; exact h)
noncomputable def fn_Ls145a_2_t : LDt → Tree Step
 | [.l TNd l0, .n n1, .n n2, .n n3, .n n4] =>
  (.node (decide (n2 < n1))
   (.node (Prod.snd (List.getD l0 (Int.toNat n2) (Ty.dflt TNd)))
   (.node (!decide ((Prod.fst (List.getD l0 (Int.toNat n2) (Ty.dflt TNd)) : Int) < (0 : Int)))
    (.node (iand IntKind.u32 (ishr IntKind.u32 n3 (Prod.fst (List.getD l0 (Int.toNat n2) (Ty.dflt TNd)))) (1 : Int) == (0 : Int))
    (.leaf (Step.stop 1 [.n n2]))
    (.leaf (Step.go [.k 0, .l TNd l0, .n n1, .n (IntKind.wrap .i64 (n2 + (1 : Int))), .n n3, .n n4])))
    (.bad 83))
   (.node (!decide ((Prod.fst (List.getD l0 (Int.toNat n2) (Ty.dflt TNd)) : Int) < (0 : Int)))
    (.node (iand IntKind.u32 (ishr IntKind.u32 n4 (Prod.fst (List.getD l0 (Int.toNat n2) (Ty.dflt TNd)))) (1 : Int) == (0 : Int))
    (.leaf (Step.stop 1 [.n n2]))
    (.leaf (Step.go [.k 0, .l TNd l0, .n n1, .n (IntKind.wrap .i64 (n2 + (1 : Int))), .n n3, .n n4])))
    (.bad 83)))
   (.leaf (Step.stop 0 [])))
 | _ => .bad 0
theorem fn_Ls145a_2_t_im (l0 : DD) (n1 : Int) (n2 : Int) (n3 : Int) (n4 : Int) (g0 : 0 ≤ n2) (g1 :  n1 = (l0.length : Int)) : Imp (fn_Ls145a_2_t [.l TNd l0, .n n1, .n n2, .n n3, .n n4]) (st_Ls145a_2 [.k 0, .l TNd l0, .n n1, .n n2, .n n3, .n n4]) :=
(.pa [1]
(.nd (fun h0 =>
(.pq (c := (inR n2 (List.length l0)))
(.pa [1]
(.nd (fun h1 =>
(.nd (fun h2 =>
(.pa [1]
(.nd (fun h3 =>
(.pa [1]
.lf)) (fun h3 =>
(.pa [1]
.lf))))) (fun h2 =>
.none))) (fun h1 =>
(.nd (fun h2 =>
(.pa [1]
(.nd (fun h3 =>
(.pa [1]
.lf)) (fun h3 =>
(.pa [1]
.lf))))) (fun h2 =>
.none))))))) (fun h0 =>
(.pa [1]
.lf))))
theorem ls_s145a_ok : LsOk Try.prog (List.length ([cW 1, cW 2] : List PB)) (lsM [(2, Ls145a_2)] (List.length ([cW 1, cW 2] : List PB))) (bodyOf Try.prog 145) := LsOk.many fun j B hB hk c hc hi => by
 simp only [lookM] at hB
 split at hB
 ·rename_i e; have := Nat.eq_of_beq_eq_true e; subst this; cases hB
  rw [onlyC (f := 145) (i := 2) (loopAt_one (by kernel_rfl)) (loopsAt_mem hc hi)]; exact Ls145a_2_run
 cases hB
def ks145a (f : OpT) : FBox := mkF [.imm TNd 0, fnV 97 [.ptr 0 0, .ptr 1 0]] [cW 1, cW 2] [] [(.int .i64 0, [.gone, .gone])] f
noncomputable def ev_s145a (env : LDt) : TD := Lk.boxC false LK cs_s139 145 (lsM [(2, Ls145a_2)] (List.length ([cW 1, cW 2] : List PB))) (ks145a fun _ => none) env
noncomputable def op_s145a : OpT := Classical.choose (opq (fun env => (ev_s145a env).sel))
theorem op_s145a_eq (env : LDt) : op_s145a env = (ev_s145a env).sel := Classical.choose_spec (opq (fun env => (ev_s145a env).sel)) env
noncomputable def Bs145a : FBox := ks145a op_s145a
theorem Bs145a_ok : RunOk Try.prog 145 (boxRun Bs145a) := mkF_ok (op := op_s145a) cs_s139_ok hmix false (ls_s145a_ok) (fun env x h => by rw [op_s145a_eq] at h; rw [← boxC_lk]; exact h)
noncomputable def fn_s145a_t : LDt → TD
 | [.l TNd l0, .n n1, .n n2] =>
  (let r1 : OD := (op_Ls145a_2 [.k 0, .l TNd l0, .n (↑(List.length l0) : Int), .n (0 : Int), .n n1, .n n2]);
   (.node (isK 0 [] r1)
   (.leaf ((0, [.n (-1 : Int)])))
   (.node (isK 1 [HK.n] r1)
    (.leaf ((0, [.n (gn (dOf r1) 0)])))
    (.bad 351))))
 | _ => .bad 0
theorem fn_s145a_t_im (l0 : DD) (n1 : Int) (n2 : Int) : Imp (fn_s145a_t [.l TNd l0, .n n1, .n n2]) (ev_s145a [.l TNd l0, .n n1, .n n2]) :=
(.nd (fun h0 =>
(.pa [1]
.lf)) (fun h0 =>
(.nd (fun h1 =>
(.pa [1]
.lf)) (fun h1 =>
.none))))
def kLs145b_2 (f : OpT) : MBox := mkM 1 [] [(sh 19 [(0, .imm TNd 0), (1, fnV 98 [.ptr 0 0]), (7, .int .i64 1), (8, .int .i64 2)], [ouB 3])] [] [(.exit 0, sh 19 [], [.gone]), (.ret, sh 19 [(4, .int .i64 0)], [.gone])] f
noncomputable def st_Ls145b_2 (env : LDt) : Tree Step := Lk.stepMC false LK cs_s139 145 2 ls0 (kLs145b_2 fun _ => none) env
noncomputable def op_Ls145b_2 : OpT := Classical.choose (opq (iterS st_Ls145b_2 FU))
theorem op_Ls145b_2_eq (env : LDt) : op_Ls145b_2 env = iterS st_Ls145b_2 FU env := Classical.choose_spec (opq (iterS st_Ls145b_2 FU)) env
noncomputable def Ls145b_2 : MBox := kLs145b_2 op_Ls145b_2
theorem Ls145b_2_eqs : Ls145b_2 = kLs145b_2 (iterS st_Ls145b_2 FU) := congrArg kLs145b_2 (funext op_Ls145b_2_eq)
theorem Ls145b_2_run : ∀ t s x, (manyRun Ls145b_2 t s).sel = some x → CodeOk Try.prog 1 (.loop (cAt Try.prog 145 2)) t s x := by
 rw [Ls145b_2_eqs]
 exact mkM_ok (st := st_Ls145b_2) (m := FU) cs_s139_ok hmix false (LsOk.none _ _ _) (by kernel_rfl) (fun env y h => by rw [← stepMC_lk]; exact h)
noncomputable def fn_Ls145b_2_t : LDt → Tree Step
 | [.l TNd l0, .n n1, .n n2, .n n3, .n n4] =>
  (.node (decide (n2 < n1))
   (.node (!decide ((Prod.fst (List.getD l0 (Int.toNat n2) (Ty.dflt TNd)) : Int) < (0 : Int)))
   (.node (!(iand IntKind.u32 (ishr IntKind.u32 n4 (Prod.fst (List.getD l0 (Int.toNat n2) (Ty.dflt TNd)))) (1 : Int) == (1 : Int)) == Prod.snd (List.getD l0 (Int.toNat n2) (Ty.dflt TNd)))
    (.leaf (Step.stop 1 [.n n2]))
    (.leaf (Step.go [.k 0, .l TNd l0, .n n1, .n (IntKind.wrap .i64 (n2 + (1 : Int))), .n n3, .n n4])))
   (.bad 83))
   (.leaf (Step.stop 0 [])))
 | _ => .bad 0
theorem fn_Ls145b_2_t_im (l0 : DD) (n1 : Int) (n2 : Int) (n3 : Int) (n4 : Int) (g0 : 0 ≤ n2) (g1 :  n1 = (l0.length : Int)) : Imp (fn_Ls145b_2_t [.l TNd l0, .n n1, .n n2, .n n3, .n n4]) (st_Ls145b_2 [.k 0, .l TNd l0, .n n1, .n n2, .n n3, .n n4]) :=
(.pa [1]
(.nd (fun h0 =>
(.pq (c := (inR n2 (List.length l0)))
(.pa [1]
(.nd (fun h1 =>
(.pa [1,1]
(.nd (fun h2 =>
(.pa [1]
.lf)) (fun h2 =>
(.pa [1]
.lf))))) (fun h1 =>
.none))))) (fun h0 =>
(.pa [1]
.lf))))
theorem ls_s145b_ok : LsOk Try.prog (List.length ([ouB 1] : List PB)) (lsM [(2, Ls145b_2)] (List.length ([ouB 1] : List PB))) (bodyOf Try.prog 145) := LsOk.many fun j B hB hk c hc hi => by
 simp only [lookM] at hB
 split at hB
 ·rename_i e; have := Nat.eq_of_beq_eq_true e; subst this; cases hB
  rw [onlyC (f := 145) (i := 2) (loopAt_one (by kernel_rfl)) (loopsAt_mem hc hi)]; exact Ls145b_2_run
 cases hB
def ks145b (f : OpT) : FBox := mkF [.imm TNd 0, fnV 98 [.ptr 0 0]] [ouB 1] [] [(.int .i64 0, [.gone])] f
noncomputable def ev_s145b (env : LDt) : TD := Lk.boxC false LK cs_s139 145 (lsM [(2, Ls145b_2)] (List.length ([ouB 1] : List PB))) (ks145b fun _ => none) env
noncomputable def op_s145b : OpT := Classical.choose (opq (fun env => (ev_s145b env).sel))
theorem op_s145b_eq (env : LDt) : op_s145b env = (ev_s145b env).sel := Classical.choose_spec (opq (fun env => (ev_s145b env).sel)) env
noncomputable def Bs145b : FBox := ks145b op_s145b
theorem Bs145b_ok : RunOk Try.prog 145 (boxRun Bs145b) := mkF_ok (op := op_s145b) cs_s139_ok hmix false (ls_s145b_ok) (fun env x h => by rw [op_s145b_eq] at h; rw [← boxC_lk]; exact h)
noncomputable def fn_s145b_t : LDt → TD
 | [.l TNd l0, .n n1, .n n2] =>
  (let r1 : OD := (op_Ls145b_2 [.k 0, .l TNd l0, .n (↑(List.length l0) : Int), .n (0 : Int), .n n1, .n n2]);
   (.node (isK 0 [] r1)
   (.leaf ((0, [.n (-1 : Int)])))
   (.node (isK 1 [HK.n] r1)
    (.leaf ((0, [.n (gn (dOf r1) 0)])))
    (.bad 351))))
 | _ => .bad 0
theorem fn_s145b_t_im (l0 : DD) (n1 : Int) (n2 : Int) : Imp (fn_s145b_t [.l TNd l0, .n n1, .n n2]) (ev_s145b [.l TNd l0, .n n1, .n n2]) :=
(.nd (fun h0 =>
(.pa [1]
.lf)) (fun h0 =>
(.nd (fun h1 =>
(.pa [1]
.lf)) (fun h1 =>
.none))))
noncomputable def cs_s145b : FuncId → Option CSpec := csAdd 145 [Bs145a, Bs145b] cs_s139
theorem cs_s145b_ok : CsOk Try.prog cs_s145b := csAdd_ok cs_s139_ok fun B hB => by
 simp only [List.mem_cons, List.not_mem_nil, or_false] at hB
 rcases hB with rfl | rfl
 ·exact Bs145a_ok
 ·exact Bs145b_ok
def kLs103a_2 (f : OpT) : MBox := mkM 2 [] [(sh 27 [(2, fnV 104 [.ptr 0 0, .ptr 1 0]), (3, .ptr 2 0), (4, .ptr 3 0), (11, .int .i64 0), (12, .int .i64 1)], [gB 2, ouB 8, gB 10, ouB 16])] [] [(.exit 0, sh 27 [], [.gone, .gone]), (.ret, sh 27 [(6, .bool 0)], [.gone, .gone])] f
noncomputable def st_Ls103a_2 (env : LDt) : Tree Step := Lk.stepMC false LK cs_s145b 103 2 ls0 (kLs103a_2 fun _ => none) env
noncomputable def op_Ls103a_2 : OpT := Classical.choose (opq (iterS st_Ls103a_2 FU))
theorem op_Ls103a_2_eq (env : LDt) : op_Ls103a_2 env = iterS st_Ls103a_2 FU env := Classical.choose_spec (opq (iterS st_Ls103a_2 FU)) env
noncomputable def Ls103a_2 : MBox := kLs103a_2 op_Ls103a_2
theorem Ls103a_2_eqs : Ls103a_2 = kLs103a_2 (iterS st_Ls103a_2 FU) := congrArg kLs103a_2 (funext op_Ls103a_2_eq)
theorem Ls103a_2_run : ∀ t s x, (manyRun Ls103a_2 t s).sel = some x → CodeOk Try.prog 2 (.loop (cAt Try.prog 103 2)) t s x := by
 rw [Ls103a_2_eqs]
 exact mkM_ok (st := st_Ls103a_2) (m := FU) cs_s145b_ok hmix false (LsOk.none _ _ _) (by kernel_rfl) (fun env y h => by rw [← stepMC_lk]; exact h)
noncomputable def fn_Ls103a_2_t : LDt → Tree Step
 | [.n n0, .n n1, .l TS l2, .l TPt l3, .l TPt l4, .l TRt l5, .l TU l6, .n n7, .n n8, .n n9] =>
  (.node (decide (n1 < n0))
   (.node (iand IntKind.u64 (ishr IntKind.u64 n8 n1) (1 : Int) == (1 : Int))
   (.node (iand IntKind.u64 (List.getD l6 (Int.toNat n1) (0 : Int)) n8 != (0 : Int))
    (.leaf (Step.stop 1 [.b true]))
    (.leaf (Step.go [.k 0, .n n0, .n (IntKind.wrap .i64 (n1 + (1 : Int))), .l TS l2, .l TPt l3, .l TPt l4, .l TRt l5, .l TU l6, .n n7, .n n8, .n n9, .l TS l2, .l TPt l3, .l TPt l4, .l TRt l5, .l TU l6, .n n7, .n n8, .n n9])))
   (.leaf (Step.go [.k 0, .n n0, .n (IntKind.wrap .i64 (n1 + (1 : Int))), .l TS l2, .l TPt l3, .l TPt l4, .l TRt l5, .l TU l6, .n n7, .n n8, .n n9, .l TS l2, .l TPt l3, .l TPt l4, .l TRt l5, .l TU l6, .n n7, .n n8, .n n9])))
   (.leaf (Step.stop 0 [])))
 | _ => .bad 0
theorem fn_Ls103a_2_t_im (n0 : Int) (n1 : Int) (l2 : DS) (l3 : DP) (l4 : DP) (l5 : DR) (l6 : List (Ty.den TU)) (n7 : Int) (n8 : Int) (n9 : Int) (g0 : 0 ≤ n1) (g1 :  n0 = (l5.length : Int)) (g2 :  (l6.length : Int) = (l5.length : Int)) : Imp (fn_Ls103a_2_t [.n n0, .n n1, .l TS l2, .l TPt l3, .l TPt l4, .l TRt l5, .l TU l6, .n n7, .n n8, .n n9]) (st_Ls103a_2 [.k 0, .n n0, .n n1, .l TS l2, .l TPt l3, .l TPt l4, .l TRt l5, .l TU l6, .n n7, .n n8, .n n9, .l TS l2, .l TPt l3, .l TPt l4, .l TRt l5, .l TU l6, .n n7, .n n8, .n n9]) :=
(.pa [1]
(.nd (fun h0 =>
(.pt (c := (!decide (n1 < (0 : Int)))) (by kernel_rfl) (by kernel_rfl) (by (simp [*]; done))
(.nd (fun h1 =>
(.pa [1]
(.pq (c := (inR n1 (List.length l6)))
(.pa [1,1]
(.nd (fun h2 =>
(.pa [1]
.lf)) (fun h2 =>
(.pa [1]
.lf))))))) (fun h1 =>
(.pa [0,0,1]
.lf))))) (fun h0 =>
(.pa [1]
.lf))))
theorem ls_s103a_ok : LsOk Try.prog (List.length ([gB 8, ouB 14] : List PB)) (lsM [(2, Ls103a_2)] (List.length ([gB 8, ouB 14] : List PB))) (bodyOf Try.prog 103) := LsOk.many fun j B hB hk c hc hi => by
 simp only [lookM] at hB
 split at hB
 ·rename_i e; have := Nat.eq_of_beq_eq_true e; subst this; cases hB
  rw [onlyC (f := 103) (i := 2) (loopAt_one (by kernel_rfl)) (loopsAt_mem hc hi)]; exact Ls103a_2_run
 cases hB
def ks103a (f : OpT) : FBox := mkF [gV 0, ouV 6, fnV 104 [.ptr 0 0, .ptr 1 0]] [gB 8, ouB 14] [] [(.bool 0, [.gone, .gone])] f
noncomputable def ev_s103a (env : LDt) : TD := Lk.boxC false LK cs_s145b 103 (lsM [(2, Ls103a_2)] (List.length ([gB 8, ouB 14] : List PB))) (ks103a fun _ => none) env
noncomputable def op_s103a : OpT := Classical.choose (opq (fun env => (ev_s103a env).sel))
theorem op_s103a_eq (env : LDt) : op_s103a env = (ev_s103a env).sel := Classical.choose_spec (opq (fun env => (ev_s103a env).sel)) env
noncomputable def Bs103a : FBox := ks103a op_s103a
theorem Bs103a_ok : RunOk Try.prog 103 (boxRun Bs103a) := mkF_ok (op := op_s103a) cs_s145b_ok hmix false (ls_s103a_ok) (fun env x h => by rw [op_s103a_eq] at h; rw [← boxC_lk]; exact h)
noncomputable def fn_s103a_t : LDt → TD
 | [.l TS l0, .l TPt l1, .l TPt l2, .l TRt l3, .l TU l4, .n n5, .n n6, .n n7] =>
  (let r1 : OD := (op_Ls103a_2 [.k 0, .n (↑(List.length l3) : Int), .n (0 : Int), .l TS l0, .l TPt l1, .l TPt l2, .l TRt l3, .l TU l4, .n n5, .n n6, .n n7, .l TS l0, .l TPt l1, .l TPt l2, .l TRt l3, .l TU l4, .n n5, .n n6, .n n7]);
   (.node (isK 0 [] r1)
   (.leaf ((0, [.b false])))
   (.node (isK 1 [HK.b] r1)
    (.leaf ((0, [.b (gb (dOf r1) 0)])))
    (.bad 351))))
 | _ => .bad 0
theorem fn_s103a_t_im (l0 : DS) (l1 : DP) (l2 : DP) (l3 : DR) (l4 : List (Ty.den TU)) (n5 : Int) (n6 : Int) (n7 : Int) : Imp (fn_s103a_t [.l TS l0, .l TPt l1, .l TPt l2, .l TRt l3, .l TU l4, .n n5, .n n6, .n n7]) (ev_s103a [.l TS l0, .l TPt l1, .l TPt l2, .l TRt l3, .l TU l4, .n n5, .n n6, .n n7, .l TS l0, .l TPt l1, .l TPt l2, .l TRt l3, .l TU l4, .n n5, .n n6, .n n7]) :=
(.nd (fun h0 =>
(.pa [1]
.lf)) (fun h0 =>
(.nd (fun h1 =>
(.pa [1]
.lf)) (fun h1 =>
.none))))
def kLs103b_2 (f : OpT) : MBox := mkM 3 [] [(sh 27 [(2, fnV 106 [.ptr 0 0, .ptr 1 0]), (3, .ptr 3 0), (4, .ptr 4 0), (11, .int .i64 0), (12, .int .i64 1)], [gB 2, fuB 96 [.ptr 2 0], ipB 8, gB 12, ouB 18])] [] [(.exit 0, sh 27 [], [.gone, .gone, .gone]), (.ret, sh 27 [(6, .bool 0)], [.gone, .gone, .gone])] f
noncomputable def st_Ls103b_2 (env : LDt) : Tree Step := Lk.stepMC false LK cs_s145b 103 2 ls0 (kLs103b_2 fun _ => none) env
noncomputable def op_Ls103b_2 : OpT := Classical.choose (opq (iterS st_Ls103b_2 FU))
theorem op_Ls103b_2_eq (env : LDt) : op_Ls103b_2 env = iterS st_Ls103b_2 FU env := Classical.choose_spec (opq (iterS st_Ls103b_2 FU)) env
noncomputable def Ls103b_2 : MBox := kLs103b_2 op_Ls103b_2
theorem Ls103b_2_eqs : Ls103b_2 = kLs103b_2 (iterS st_Ls103b_2 FU) := congrArg kLs103b_2 (funext op_Ls103b_2_eq)
theorem Ls103b_2_run : ∀ t s x, (manyRun Ls103b_2 t s).sel = some x → CodeOk Try.prog 3 (.loop (cAt Try.prog 103 2)) t s x := by
 rw [Ls103b_2_eqs]
 exact mkM_ok (st := st_Ls103b_2) (m := FU) cs_s145b_ok hmix false (LsOk.none _ _ _) (by kernel_rfl) (fun env y h => by rw [← stepMC_lk]; exact h)
noncomputable def fn_Ls103b_2_t : LDt → Tree Step
 | [.n n0, .n n1, .l TS l2, .l TPt l3, .l TPt l4, .l TRt l5, .l TU l6, .n n7, .n n8, .n n9, .n n10, .n n11, .n n12, .l (Ty.pair (Ty.int IntKind.u8) TI) l13] =>
  (.node (decide (n1 < n0))
   (.node (iand IntKind.u64 (ishr IntKind.u64 n8 n1) (1 : Int) == (1 : Int))
   (let r1 : OD := (op_s139 [.l TI (Prod.fst (Prod.snd (Prod.snd (List.getD l5 (Int.toNat n1) (Ty.dflt TRt))))), .n n10, .n n11, .n n12, .l (Ty.pair (Ty.int IntKind.u8) TI) l13]);
    (.node (isK 0 [HK.n] r1)
    (.node (decide (gn (dOf r1) 0 ≥ (0 : Int)))
     (.leaf (Step.stop 1 [.b true]))
     (let r2 : OD := (op_s139 [.l TI (Prod.fst (Prod.snd (Prod.snd (Prod.snd (Prod.snd (List.getD l5 (Int.toNat n1) (Ty.dflt TRt))))))), .n n10, .n n11, .n n12, .l (Ty.pair (Ty.int IntKind.u8) TI) l13]);
     (.node (isK 0 [HK.n] r2)
      (.node (decide (gn (dOf r2) 0 ≥ (0 : Int)))
      (.leaf (Step.stop 1 [.b true]))
      (.leaf (Step.go [.k 0, .n n0, .n (IntKind.wrap .i64 (n1 + (1 : Int))), .l TS l2, .l TPt l3, .l TPt l4, .l TRt l5, .l TU l6, .n n7, .n n10, .n n11, .n n12, .l (Ty.pair (Ty.int IntKind.u8) TI) l13, .l TS l2, .l TPt l3, .l TPt l4, .l TRt l5, .l TU l6, .n n7, .n n8, .n n9])))
      (.bad 351))))
    (.bad 351)))
   (.leaf (Step.go [.k 0, .n n0, .n (IntKind.wrap .i64 (n1 + (1 : Int))), .l TS l2, .l TPt l3, .l TPt l4, .l TRt l5, .l TU l6, .n n7, .n n10, .n n11, .n n12, .l (Ty.pair (Ty.int IntKind.u8) TI) l13, .l TS l2, .l TPt l3, .l TPt l4, .l TRt l5, .l TU l6, .n n7, .n n8, .n n9])))
   (.leaf (Step.stop 0 [])))
 | _ => .bad 0
theorem fn_Ls103b_2_t_im (n0 : Int) (n1 : Int) (l2 : DS) (l3 : DP) (l4 : DP) (l5 : DR) (l6 : List (Ty.den TU)) (n7 : Int) (n8 : Int) (n9 : Int) (n10 : Int) (n11 : Int) (n12 : Int) (l13 : List (Ty.den (Ty.pair (Ty.int IntKind.u8) TI))) (g0 : 0 ≤ n1) (g1 :  n0 = (l5.length : Int)) (g2 :  (l6.length : Int) = (l5.length : Int)) : Imp (fn_Ls103b_2_t [.n n0, .n n1, .l TS l2, .l TPt l3, .l TPt l4, .l TRt l5, .l TU l6, .n n7, .n n8, .n n9, .n n10, .n n11, .n n12, .l (Ty.pair (Ty.int IntKind.u8) TI) l13]) (st_Ls103b_2 [.k 0, .n n0, .n n1, .l TS l2, .l TPt l3, .l TPt l4, .l TRt l5, .l TU l6, .n n7, .n n10, .n n11, .n n12, .l TCmd l13, .l TS l2, .l TPt l3, .l TPt l4, .l TRt l5, .l TU l6, .n n7, .n n8, .n n9]) :=
(.pa [1]
(.nd (fun h0 =>
(.pt (c := (!decide (n1 < (0 : Int)))) (by kernel_rfl) (by kernel_rfl) (by (simp [*]; done))
(.nd (fun h1 =>
(.pa [1]
(.pq (c := (inR n1 (List.length l5)))
(.pa [1,1]
(.nd (fun h2 =>
(.pa [1,1]
(.nd (fun h3 =>
(.pa [1,1,1,1]
.lf)) (fun h3 =>
(.pa [1,1]
(.nd (fun h4 =>
(.pa [1,1,1]
(.nd (fun h5 =>
(.pa [1]
.lf)) (fun h5 =>
(.pa [1]
.lf))))) (fun h4 =>
.none))))))) (fun h2 =>
.none)))))) (fun h1 =>
(.pa [0,0,1]
.lf))))) (fun h0 =>
(.pa [1]
.lf))))
theorem ls_s103b_ok : LsOk Try.prog (List.length ([gB 8, fuB 96 [.ptr 2 0], ipB 14] : List PB)) (lsM [(2, Ls103b_2)] (List.length ([gB 8, fuB 96 [.ptr 2 0], ipB 14] : List PB))) (bodyOf Try.prog 103) := LsOk.many fun j B hB hk c hc hi => by
 simp only [lookM] at hB
 split at hB
 ·rename_i e; have := Nat.eq_of_beq_eq_true e; subst this; cases hB
  rw [onlyC (f := 103) (i := 2) (loopAt_one (by kernel_rfl)) (loopsAt_mem hc hi)]; exact Ls103b_2_run
 cases hB
def ks103b (f : OpT) : FBox := mkF [gV 0, ouV 6, fnV 106 [.ptr 0 0, .ptr 1 0]] [gB 8, fuB 96 [.ptr 2 0], ipB 14] [] [(.bool 0, [.gone, .gone, .gone])] f
noncomputable def ev_s103b (env : LDt) : TD := Lk.boxC false LK cs_s145b 103 (lsM [(2, Ls103b_2)] (List.length ([gB 8, fuB 96 [.ptr 2 0], ipB 14] : List PB))) (ks103b fun _ => none) env
noncomputable def op_s103b : OpT := Classical.choose (opq (fun env => (ev_s103b env).sel))
theorem op_s103b_eq (env : LDt) : op_s103b env = (ev_s103b env).sel := Classical.choose_spec (opq (fun env => (ev_s103b env).sel)) env
noncomputable def Bs103b : FBox := ks103b op_s103b
theorem Bs103b_ok : RunOk Try.prog 103 (boxRun Bs103b) := mkF_ok (op := op_s103b) cs_s145b_ok hmix false (ls_s103b_ok) (fun env x h => by rw [op_s103b_eq] at h; rw [← boxC_lk]; exact h)
noncomputable def fn_s103b_t : LDt → TD
 | [.l TS l0, .l TPt l1, .l TPt l2, .l TRt l3, .l TU l4, .n n5, .n n6, .n n7, .n n8, .n n9, .n n10, .l (Ty.pair (Ty.int IntKind.u8) TI) l11] =>
  (let r1 : OD := (op_Ls103b_2 [.k 0, .n (↑(List.length l3) : Int), .n (0 : Int), .l TS l0, .l TPt l1, .l TPt l2, .l TRt l3, .l TU l4, .n n5, .n n8, .n n9, .n n10, .l (Ty.pair (Ty.int IntKind.u8) TI) l11, .l TS l0, .l TPt l1, .l TPt l2, .l TRt l3, .l TU l4, .n n5, .n n6, .n n7]);
   (.node (isK 0 [] r1)
   (.leaf ((0, [.b false])))
   (.node (isK 1 [HK.b] r1)
    (.leaf ((0, [.b (gb (dOf r1) 0)])))
    (.bad 351))))
 | _ => .bad 0
theorem fn_s103b_t_im (l0 : DS) (l1 : DP) (l2 : DP) (l3 : DR) (l4 : List (Ty.den TU)) (n5 : Int) (n6 : Int) (n7 : Int) (n8 : Int) (n9 : Int) (n10 : Int) (l11 : List (Ty.den (Ty.pair (Ty.int IntKind.u8) TI))) : Imp (fn_s103b_t [.l TS l0, .l TPt l1, .l TPt l2, .l TRt l3, .l TU l4, .n n5, .n n6, .n n7, .n n8, .n n9, .n n10, .l (Ty.pair (Ty.int IntKind.u8) TI) l11]) (ev_s103b [.l TS l0, .l TPt l1, .l TPt l2, .l TRt l3, .l TU l4, .n n5, .n n6, .n n7, .l TS l0, .l TPt l1, .l TPt l2, .l TRt l3, .l TU l4, .n n5, .n n8, .n n9, .n n10, .l TCmd l11]) :=
(.nd (fun h0 =>
(.pa [1]
.lf)) (fun h0 =>
(.nd (fun h1 =>
(.pa [1]
.lf)) (fun h1 =>
.none))))
def kLs103c_2 (f : OpT) : MBox := mkM 4 [] [(sh 27 [(2, fnV 109 [.ptr 0 0, .ptr 1 0]), (3, .ptr 4 0), (4, .ptr 5 0), (11, .int .i64 0), (12, .int .i64 1)], [gB 2, fuB 97 [.ptr 2 0, .ptr 3 0], cW 8, cW 9, gB 10, ouB 16])] [] [(.exit 0, sh 27 [], [.gone, .gone, .gone, .gone]), (.ret, sh 27 [(6, .bool 0)], [.gone, .gone, .gone, .gone])] f
noncomputable def st_Ls103c_2 (env : LDt) : Tree Step := Lk.stepMC false LK cs_s145b 103 2 ls0 (kLs103c_2 fun _ => none) env
noncomputable def op_Ls103c_2 : OpT := Classical.choose (opq (iterS st_Ls103c_2 FU))
theorem op_Ls103c_2_eq (env : LDt) : op_Ls103c_2 env = iterS st_Ls103c_2 FU env := Classical.choose_spec (opq (iterS st_Ls103c_2 FU)) env
noncomputable def Ls103c_2 : MBox := kLs103c_2 op_Ls103c_2
theorem Ls103c_2_eqs : Ls103c_2 = kLs103c_2 (iterS st_Ls103c_2 FU) := congrArg kLs103c_2 (funext op_Ls103c_2_eq)
theorem Ls103c_2_run : ∀ t s x, (manyRun Ls103c_2 t s).sel = some x → CodeOk Try.prog 4 (.loop (cAt Try.prog 103 2)) t s x := by
 rw [Ls103c_2_eqs]
 exact mkM_ok (st := st_Ls103c_2) (m := FU) cs_s145b_ok hmix false (LsOk.none _ _ _) (by kernel_rfl) (fun env y h => by rw [← stepMC_lk]; exact h)
noncomputable def fn_Ls103c_2_t : LDt → Tree Step
 | [.n n0, .n n1, .l TS l2, .l TPt l3, .l TPt l4, .l TRt l5, .l TU l6, .n n7, .n n8, .n n9, .n n10, .n n11] =>
  (.node (decide (n1 < n0))
   (.node (iand IntKind.u64 (ishr IntKind.u64 n8 n1) (1 : Int) == (1 : Int))
   (let r1 : OD := (op_s145a [.l TNd (Prod.fst (Prod.snd (Prod.snd (Prod.snd (List.getD l5 (Int.toNat n1) (Ty.dflt TRt)))))), .n n10, .n n11]);
    (.node (isK 0 [HK.n] r1)
    (.node (decide (gn (dOf r1) 0 ≥ (0 : Int)))
     (.leaf (Step.stop 1 [.b true]))
     (let r2 : OD := (op_s145a [.l TNd (Prod.snd (Prod.snd (Prod.snd (Prod.snd (Prod.snd (List.getD l5 (Int.toNat n1) (Ty.dflt TRt))))))), .n n10, .n n11]);
     (.node (isK 0 [HK.n] r2)
      (.node (decide (gn (dOf r2) 0 ≥ (0 : Int)))
      (.leaf (Step.stop 1 [.b true]))
      (.leaf (Step.go [.k 0, .n n0, .n (IntKind.wrap .i64 (n1 + (1 : Int))), .l TS l2, .l TPt l3, .l TPt l4, .l TRt l5, .l TU l6, .n n7, .n n10, .n n11, .l TS l2, .l TPt l3, .l TPt l4, .l TRt l5, .l TU l6, .n n7, .n n8, .n n9])))
      (.bad 351))))
    (.bad 351)))
   (.leaf (Step.go [.k 0, .n n0, .n (IntKind.wrap .i64 (n1 + (1 : Int))), .l TS l2, .l TPt l3, .l TPt l4, .l TRt l5, .l TU l6, .n n7, .n n10, .n n11, .l TS l2, .l TPt l3, .l TPt l4, .l TRt l5, .l TU l6, .n n7, .n n8, .n n9])))
   (.leaf (Step.stop 0 [])))
 | _ => .bad 0
theorem fn_Ls103c_2_t_im (n0 : Int) (n1 : Int) (l2 : DS) (l3 : DP) (l4 : DP) (l5 : DR) (l6 : List (Ty.den TU)) (n7 : Int) (n8 : Int) (n9 : Int) (n10 : Int) (n11 : Int) (g0 : 0 ≤ n1) (g1 :  n0 = (l5.length : Int)) (g2 :  (l6.length : Int) = (l5.length : Int)) : Imp (fn_Ls103c_2_t [.n n0, .n n1, .l TS l2, .l TPt l3, .l TPt l4, .l TRt l5, .l TU l6, .n n7, .n n8, .n n9, .n n10, .n n11]) (st_Ls103c_2 [.k 0, .n n0, .n n1, .l TS l2, .l TPt l3, .l TPt l4, .l TRt l5, .l TU l6, .n n7, .n n10, .n n11, .l TS l2, .l TPt l3, .l TPt l4, .l TRt l5, .l TU l6, .n n7, .n n8, .n n9]) :=
(.pa [1]
(.nd (fun h0 =>
(.pt (c := (!decide (n1 < (0 : Int)))) (by kernel_rfl) (by kernel_rfl) (by (simp [*]; done))
(.nd (fun h1 =>
(.pa [1,1]
(.pq (c := (inR n1 (List.length l5)))
(.pa [1,1]
(.nd (fun h2 =>
(.pa [1,1]
(.nd (fun h3 =>
(.pa [1,1,1,1,1]
.lf)) (fun h3 =>
(.pq (c := (inR n1 (List.length l5)))
(.pa [1,1]
(.nd (fun h4 =>
(.pa [1,1,1,1]
(.nd (fun h5 =>
(.pa [1]
.lf)) (fun h5 =>
(.pa [1]
.lf))))) (fun h4 =>
.none)))))))) (fun h2 =>
.none)))))) (fun h1 =>
(.pa [0,0,1]
.lf))))) (fun h0 =>
(.pa [1]
.lf))))
theorem ls_s103c_ok : LsOk Try.prog (List.length ([gB 8, fuB 97 [.ptr 2 0, .ptr 3 0], cW 14, cW 15] : List PB)) (lsM [(2, Ls103c_2)] (List.length ([gB 8, fuB 97 [.ptr 2 0, .ptr 3 0], cW 14, cW 15] : List PB))) (bodyOf Try.prog 103) := LsOk.many fun j B hB hk c hc hi => by
 simp only [lookM] at hB
 split at hB
 ·rename_i e; have := Nat.eq_of_beq_eq_true e; subst this; cases hB
  rw [onlyC (f := 103) (i := 2) (loopAt_one (by kernel_rfl)) (loopsAt_mem hc hi)]; exact Ls103c_2_run
 cases hB
def ks103c (f : OpT) : FBox := mkF [gV 0, ouV 6, fnV 109 [.ptr 0 0, .ptr 1 0]] [gB 8, fuB 97 [.ptr 2 0, .ptr 3 0], cW 14, cW 15] [] [(.bool 0, [.gone, .gone, .gone, .gone])] f
noncomputable def ev_s103c (env : LDt) : TD := Lk.boxC false LK cs_s145b 103 (lsM [(2, Ls103c_2)] (List.length ([gB 8, fuB 97 [.ptr 2 0, .ptr 3 0], cW 14, cW 15] : List PB))) (ks103c fun _ => none) env
noncomputable def op_s103c : OpT := Classical.choose (opq (fun env => (ev_s103c env).sel))
theorem op_s103c_eq (env : LDt) : op_s103c env = (ev_s103c env).sel := Classical.choose_spec (opq (fun env => (ev_s103c env).sel)) env
noncomputable def Bs103c : FBox := ks103c op_s103c
theorem Bs103c_ok : RunOk Try.prog 103 (boxRun Bs103c) := mkF_ok (op := op_s103c) cs_s145b_ok hmix false (ls_s103c_ok) (fun env x h => by rw [op_s103c_eq] at h; rw [← boxC_lk]; exact h)
noncomputable def fn_s103c_t : LDt → TD
 | [.l TS l0, .l TPt l1, .l TPt l2, .l TRt l3, .l TU l4, .n n5, .n n6, .n n7, .n n8, .n n9] =>
  (let r1 : OD := (op_Ls103c_2 [.k 0, .n (↑(List.length l3) : Int), .n (0 : Int), .l TS l0, .l TPt l1, .l TPt l2, .l TRt l3, .l TU l4, .n n5, .n n8, .n n9, .l TS l0, .l TPt l1, .l TPt l2, .l TRt l3, .l TU l4, .n n5, .n n6, .n n7]);
   (.node (isK 0 [] r1)
   (.leaf ((0, [.b false])))
   (.node (isK 1 [HK.b] r1)
    (.leaf ((0, [.b (gb (dOf r1) 0)])))
    (.bad 351))))
 | _ => .bad 0
theorem fn_s103c_t_im (l0 : DS) (l1 : DP) (l2 : DP) (l3 : DR) (l4 : List (Ty.den TU)) (n5 : Int) (n6 : Int) (n7 : Int) (n8 : Int) (n9 : Int) : Imp (fn_s103c_t [.l TS l0, .l TPt l1, .l TPt l2, .l TRt l3, .l TU l4, .n n5, .n n6, .n n7, .n n8, .n n9]) (ev_s103c [.l TS l0, .l TPt l1, .l TPt l2, .l TRt l3, .l TU l4, .n n5, .n n6, .n n7, .l TS l0, .l TPt l1, .l TPt l2, .l TRt l3, .l TU l4, .n n5, .n n8, .n n9]) :=
(.nd (fun h0 =>
(.pa [1]
.lf)) (fun h0 =>
(.nd (fun h1 =>
(.pa [1]
.lf)) (fun h1 =>
.none))))
def kLs103d_2 (f : OpT) : MBox := mkM 3 [] [(sh 27 [(2, fnV 112 [.ptr 0 0, .ptr 1 0]), (3, .ptr 3 0), (4, .ptr 4 0), (11, .int .i64 0), (12, .int .i64 1)], [gB 2, fuB 98 [.ptr 2 0], ouB 8, gB 10, ouB 16])] [] [(.exit 0, sh 27 [], [.gone, .gone, .gone]), (.ret, sh 27 [(6, .bool 0)], [.gone, .gone, .gone])] f
noncomputable def st_Ls103d_2 (env : LDt) : Tree Step := Lk.stepMC false LK cs_s145b 103 2 ls0 (kLs103d_2 fun _ => none) env
noncomputable def op_Ls103d_2 : OpT := Classical.choose (opq (iterS st_Ls103d_2 FU))
theorem op_Ls103d_2_eq (env : LDt) : op_Ls103d_2 env = iterS st_Ls103d_2 FU env := Classical.choose_spec (opq (iterS st_Ls103d_2 FU)) env
noncomputable def Ls103d_2 : MBox := kLs103d_2 op_Ls103d_2
theorem Ls103d_2_eqs : Ls103d_2 = kLs103d_2 (iterS st_Ls103d_2 FU) := congrArg kLs103d_2 (funext op_Ls103d_2_eq)
theorem Ls103d_2_run : ∀ t s x, (manyRun Ls103d_2 t s).sel = some x → CodeOk Try.prog 3 (.loop (cAt Try.prog 103 2)) t s x := by
 rw [Ls103d_2_eqs]
 exact mkM_ok (st := st_Ls103d_2) (m := FU) cs_s145b_ok hmix false (LsOk.none _ _ _) (by kernel_rfl) (fun env y h => by rw [← stepMC_lk]; exact h)
noncomputable def fn_Ls103d_2_t : LDt → Tree Step
 | [.n n0, .n n1, .l TS l2, .l TPt l3, .l TPt l4, .l TRt l5, .l TU l6, .n n7, .n n8, .n n9] =>
  (.node (decide (n1 < n0))
   (.node (iand IntKind.u64 (ishr IntKind.u64 n8 n1) (1 : Int) == (1 : Int))
   (let r1 : OD := (op_s145b [.l TNd (Prod.fst (Prod.snd (Prod.snd (Prod.snd (List.getD l5 (Int.toNat n1) (Ty.dflt TRt)))))), .n n8, .n n9]);
    (.node (isK 0 [HK.n] r1)
    (.node (decide (gn (dOf r1) 0 ≥ (0 : Int)))
     (.leaf (Step.stop 1 [.b true]))
     (let r2 : OD := (op_s145b [.l TNd (Prod.snd (Prod.snd (Prod.snd (Prod.snd (Prod.snd (List.getD l5 (Int.toNat n1) (Ty.dflt TRt))))))), .n n8, .n n9]);
     (.node (isK 0 [HK.n] r2)
      (.node (decide (gn (dOf r2) 0 ≥ (0 : Int)))
      (.leaf (Step.stop 1 [.b true]))
      (.leaf (Step.go [.k 0, .n n0, .n (IntKind.wrap .i64 (n1 + (1 : Int))), .l TS l2, .l TPt l3, .l TPt l4, .l TRt l5, .l TU l6, .n n7, .n n8, .n n9, .l TS l2, .l TPt l3, .l TPt l4, .l TRt l5, .l TU l6, .n n7, .n n8, .n n9])))
      (.bad 351))))
    (.bad 351)))
   (.leaf (Step.go [.k 0, .n n0, .n (IntKind.wrap .i64 (n1 + (1 : Int))), .l TS l2, .l TPt l3, .l TPt l4, .l TRt l5, .l TU l6, .n n7, .n n8, .n n9, .l TS l2, .l TPt l3, .l TPt l4, .l TRt l5, .l TU l6, .n n7, .n n8, .n n9])))
   (.leaf (Step.stop 0 [])))
 | _ => .bad 0
theorem fn_Ls103d_2_t_im (n0 : Int) (n1 : Int) (l2 : DS) (l3 : DP) (l4 : DP) (l5 : DR) (l6 : List (Ty.den TU)) (n7 : Int) (n8 : Int) (n9 : Int) (g0 : 0 ≤ n1) (g1 :  n0 = (l5.length : Int)) (g2 :  (l6.length : Int) = (l5.length : Int)) : Imp (fn_Ls103d_2_t [.n n0, .n n1, .l TS l2, .l TPt l3, .l TPt l4, .l TRt l5, .l TU l6, .n n7, .n n8, .n n9]) (st_Ls103d_2 [.k 0, .n n0, .n n1, .l TS l2, .l TPt l3, .l TPt l4, .l TRt l5, .l TU l6, .n n7, .n n8, .n n9, .l TS l2, .l TPt l3, .l TPt l4, .l TRt l5, .l TU l6, .n n7, .n n8, .n n9]) :=
(.pa [1]
(.nd (fun h0 =>
(.pt (c := (!decide (n1 < (0 : Int)))) (by kernel_rfl) (by kernel_rfl) (by (simp [*]; done))
(.nd (fun h1 =>
(.pa [1,1]
(.pq (c := (inR n1 (List.length l5)))
(.pa [1,1]
(.nd (fun h2 =>
(.pa [1,1]
(.nd (fun h3 =>
(.pa [1,1,1,1,1]
.lf)) (fun h3 =>
(.pq (c := (inR n1 (List.length l5)))
(.pa [1,1]
(.nd (fun h4 =>
(.pa [1,1,1,1]
(.nd (fun h5 =>
(.pa [1]
.lf)) (fun h5 =>
(.pa [1]
.lf))))) (fun h4 =>
.none)))))))) (fun h2 =>
.none)))))) (fun h1 =>
(.pa [0,0,1]
.lf))))) (fun h0 =>
(.pa [1]
.lf))))
theorem ls_s103d_ok : LsOk Try.prog (List.length ([gB 8, fuB 98 [.ptr 2 0], ouB 14] : List PB)) (lsM [(2, Ls103d_2)] (List.length ([gB 8, fuB 98 [.ptr 2 0], ouB 14] : List PB))) (bodyOf Try.prog 103) := LsOk.many fun j B hB hk c hc hi => by
 simp only [lookM] at hB
 split at hB
 ·rename_i e; have := Nat.eq_of_beq_eq_true e; subst this; cases hB
  rw [onlyC (f := 103) (i := 2) (loopAt_one (by kernel_rfl)) (loopsAt_mem hc hi)]; exact Ls103d_2_run
 cases hB
def ks103d (f : OpT) : FBox := mkF [gV 0, ouV 6, fnV 112 [.ptr 0 0, .ptr 1 0]] [gB 8, fuB 98 [.ptr 2 0], ouB 14] [] [(.bool 0, [.gone, .gone, .gone])] f
noncomputable def ev_s103d (env : LDt) : TD := Lk.boxC false LK cs_s145b 103 (lsM [(2, Ls103d_2)] (List.length ([gB 8, fuB 98 [.ptr 2 0], ouB 14] : List PB))) (ks103d fun _ => none) env
noncomputable def op_s103d : OpT := Classical.choose (opq (fun env => (ev_s103d env).sel))
theorem op_s103d_eq (env : LDt) : op_s103d env = (ev_s103d env).sel := Classical.choose_spec (opq (fun env => (ev_s103d env).sel)) env
noncomputable def Bs103d : FBox := ks103d op_s103d
theorem Bs103d_ok : RunOk Try.prog 103 (boxRun Bs103d) := mkF_ok (op := op_s103d) cs_s145b_ok hmix false (ls_s103d_ok) (fun env x h => by rw [op_s103d_eq] at h; rw [← boxC_lk]; exact h)
noncomputable def fn_s103d_t : LDt → TD
 | [.l TS l0, .l TPt l1, .l TPt l2, .l TRt l3, .l TU l4, .n n5, .n n6, .n n7] =>
  (let r1 : OD := (op_Ls103d_2 [.k 0, .n (↑(List.length l3) : Int), .n (0 : Int), .l TS l0, .l TPt l1, .l TPt l2, .l TRt l3, .l TU l4, .n n5, .n n6, .n n7, .l TS l0, .l TPt l1, .l TPt l2, .l TRt l3, .l TU l4, .n n5, .n n6, .n n7]);
   (.node (isK 0 [] r1)
   (.leaf ((0, [.b false])))
   (.node (isK 1 [HK.b] r1)
    (.leaf ((0, [.b (gb (dOf r1) 0)])))
    (.bad 351))))
 | _ => .bad 0
theorem fn_s103d_t_im (l0 : DS) (l1 : DP) (l2 : DP) (l3 : DR) (l4 : List (Ty.den TU)) (n5 : Int) (n6 : Int) (n7 : Int) : Imp (fn_s103d_t [.l TS l0, .l TPt l1, .l TPt l2, .l TRt l3, .l TU l4, .n n5, .n n6, .n n7]) (ev_s103d [.l TS l0, .l TPt l1, .l TPt l2, .l TRt l3, .l TU l4, .n n5, .n n6, .n n7, .l TS l0, .l TPt l1, .l TPt l2, .l TRt l3, .l TU l4, .n n5, .n n6, .n n7]) :=
(.nd (fun h0 =>
(.pa [1]
.lf)) (fun h0 =>
(.nd (fun h1 =>
(.pa [1]
.lf)) (fun h1 =>
.none))))
noncomputable def cs_s103d : FuncId → Option CSpec := csAdd 103 [Bs103a, Bs103b, Bs103c, Bs103d] cs_s145b
theorem cs_s103d_ok : CsOk Try.prog cs_s103d := csAdd_ok cs_s145b_ok fun B hB => by
 simp only [List.mem_cons, List.not_mem_nil, or_false] at hB
 rcases hB with rfl | rfl | rfl | rfl
 ·exact Bs103a_ok
 ·exact Bs103b_ok
 ·exact Bs103c_ok
 ·exact Bs103d_ok
def ks67 (f : OpT) : FBox := mkF [gV 0, ipV 6, ouV 10] [] [] [(.int .u8 0, [])] f
noncomputable def ev_s67 (env : LDt) : TD := Lk.boxC false LK cs_s103d 67 ls0 (ks67 fun _ => none) env
noncomputable def op_s67 : OpT := Classical.choose (opq (fun env => (ev_s67 env).sel))
theorem op_s67_eq (env : LDt) : op_s67 env = (ev_s67 env).sel := Classical.choose_spec (opq (fun env => (ev_s67 env).sel)) env
noncomputable def Bs67 : FBox := ks67 op_s67
theorem Bs67_ok : RunOk Try.prog 67 (boxRun Bs67) := mkF_ok (op := op_s67) cs_s103d_ok hmix false (LsOk.none _ _ _) (fun env x h => by rw [op_s67_eq] at h; rw [← boxC_lk]; exact h)
noncomputable def fn_s67_t : LDt → TD
 | [.l TS l0, .l TPt l1, .l TPt l2, .l TRt l3, .l TU l4, .n n5, .n n6, .n n7, .n n8, .l (Ty.pair (Ty.int IntKind.u8) TI) l9, .n n10, .n n11] =>
  (.node (n5 != (0 : Int))
   (.leaf ((0, [.n (1 : Int)])))
   (.node (ishr IntKind.u64 n10 (↑(List.length l3) : Int) != (0 : Int))
   (.leaf ((0, [.n (2 : Int)])))
   (.node (ishr IntKind.u32 n11 (↑(List.length l1) : Int) != (0 : Int))
    (.leaf ((0, [.n (2 : Int)])))
    (let r1 : OD := (op_s103a [.l TS l0, .l TPt l1, .l TPt l2, .l TRt l3, .l TU l4, .n n5, .n n10, .n n11, .l TS l0, .l TPt l1, .l TPt l2, .l TRt l3, .l TU l4, .n n5, .n n10, .n n11]);
    (.node (isK 0 [HK.b] r1)
     (.node (gb (dOf r1) 0)
     (.leaf ((0, [.n (3 : Int)])))
     (let r2 : OD := (op_s103b [.l TS l0, .l TPt l1, .l TPt l2, .l TRt l3, .l TU l4, .n n5, .n n10, .n n11, .l TS l0, .l TPt l1, .l TPt l2, .l TRt l3, .l TU l4, .n n5, .n n6, .n n7, .n n8, .l (Ty.pair (Ty.int IntKind.u8) TI) l9]);
      (.node (isK 0 [HK.b] r2)
      (.node (gb (dOf r2) 0)
       (.leaf ((0, [.n (4 : Int)])))
       (let r3 : OD := (op_s103c [.l TS l0, .l TPt l1, .l TPt l2, .l TRt l3, .l TU l4, .n n5, .n n10, .n n11, .l TS l0, .l TPt l1, .l TPt l2, .l TRt l3, .l TU l4, .n n5, .n (iandnot IntKind.u32 n8 n7), .n (iandnot IntKind.u32 n7 n8)]);
       (.node (isK 0 [HK.b] r3)
        (.node (gb (dOf r3) 0)
        (.leaf ((0, [.n (5 : Int)])))
        (let r4 : OD := (op_s103d [.l TS l0, .l TPt l1, .l TPt l2, .l TRt l3, .l TU l4, .n n5, .n n10, .n n11, .l TS l0, .l TPt l1, .l TPt l2, .l TRt l3, .l TU l4, .n n5, .n n10, .n n11]);
         (.node (isK 0 [HK.b] r4)
         (.node (gb (dOf r4) 0)
          (.leaf ((0, [.n (6 : Int)])))
          (.leaf ((0, [.n (0 : Int)]))))
         (.bad 351))))
        (.bad 351))))
      (.bad 351))))
     (.bad 351))))))
 | _ => .bad 0
theorem fn_s67_t_im (l0 : DS) (l1 : DP) (l2 : DP) (l3 : DR) (l4 : List (Ty.den TU)) (n5 : Int) (n6 : Int) (n7 : Int) (n8 : Int) (l9 : List (Ty.den (Ty.pair (Ty.int IntKind.u8) TI))) (n10 : Int) (n11 : Int) : Imp (fn_s67_t [.l TS l0, .l TPt l1, .l TPt l2, .l TRt l3, .l TU l4, .n n5, .n n6, .n n7, .n n8, .l (Ty.pair (Ty.int IntKind.u8) TI) l9, .n n10, .n n11]) (ev_s67 [.l TS l0, .l TPt l1, .l TPt l2, .l TRt l3, .l TU l4, .n n5, .n n6, .n n7, .n n8, .l TCmd l9, .n n10, .n n11]) :=
(.pa [1,1,1,1,1,1,1,0,1,0,1,1,1]
(.nd (fun h0 =>
(.pa [1]
.lf)) (fun h0 =>
(.pa [1,0,0,1,1,1]
(.nd (fun h1 =>
(.pa [1,1,1,1]
.lf)) (fun h1 =>
(.pa [1,1]
(.nd (fun h2 =>
(.pa [1]
.lf)) (fun h2 =>
(.pa [1,0,0,0,1,1,1]
(.nd (fun h3 =>
(.pa [1,1]
(.nd (fun h4 =>
(.pa [1]
.lf)) (fun h4 =>
(.pa [1,0,0,0,0,1,1,1]
(.nd (fun h5 =>
(.pa [1,1]
(.nd (fun h6 =>
(.pa [1]
.lf)) (fun h6 =>
(.pa [1,0,0,0,0,0,1,1,1]
(.nd (fun h7 =>
(.pa [1,1]
(.nd (fun h8 =>
(.pa [1]
.lf)) (fun h8 =>
(.pa [1,0,0,0,0,0,0,1,1,1]
(.nd (fun h9 =>
(.pa [1,1]
(.nd (fun h10 =>
(.pa [1]
.lf)) (fun h10 =>
(.pa [0,1]
.lf))))) (fun h9 =>
.none))))))) (fun h7 =>
.none))))))) (fun h5 =>
.none))))))) (fun h3 =>
.none))))))))))))
noncomputable def cs_s67 : FuncId → Option CSpec := csLend 67 Bs67 cs_s103d
theorem cs_s67_ok : CsOk Try.prog cs_s67 := csLend_ok cs_s103d_ok Bs67_ok
end Go.Proofs.Ytfkcodaiiheniaa.Vx
namespace Go.Proofs.Ytfkcodaiiheniaa.Vx
open Go Go.RowKit
set_option linter.unusedVariables false
set_option maxRecDepth 100000
set_option maxHeartbeats 0
noncomputable def op_w37 : List Dat → Option (Nat × List Dat) := fun _ => some (0, [.b true])
noncomputable def Bw37 : FBox := (mkF [] [] [] [(.bool 0, [])] op_w37)
theorem fn_w37_ok (env : List Dat) (y : Nat × List Dat) (h : op_w37 env = some y) : (boxC true Try.prog cs_Q0 37 ls0 (mkF [] [] [] [(.bool 0, [])] fun _ => none) env).sel = some y := by
 cases h
 kernel_rfl
theorem Bw37_ok : RunOk Try.prog 37 (boxRun Bw37) := mkF_ok (op := op_w37) cs_Q0_ok hmix true (LsOk.none _ _ _) fn_w37_ok
end Go.Proofs.Ytfkcodaiiheniaa.Vx
namespace Go.Proofs.Ytfkcodaiiheniaa.Vx
open Go Go.RowKit
set_option linter.unusedVariables false
noncomputable def cs_Z29 : FuncId → Option CSpec := csAdd 37 [Bw37] cs_s67
theorem cs_Z29_ok : CsOk Try.prog cs_Z29 := csAdd_ok cs_s67_ok fun B hB => by
 cases List.mem_singleton.1 hB
 exact Bw37_ok
end Go.Proofs.Ytfkcodaiiheniaa.Vx
namespace Go.Proofs.Ytfkcodaiiheniaa.Vx
open Go Go.RowKit
set_option linter.unusedVariables false
set_option linter.unusedSimpArgs false
set_option maxRecDepth 100000
set_option maxHeartbeats 0
def kLq31_3 (f : OpT) : MBox := mkM 0 [] [(sh 13 [(0, .int .i64 0), (3, .int .u64 1), (4, .int .i64 2)], [])] [] [(.exit 0, sh 13 [(3, .int .u64 0)], [])] f
noncomputable def st_Lq31_3 (env : LDt) : Tree Step := Lk.stepMC false LK cs_Z29 63 3 ls0 (kLq31_3 fun _ => none) env
noncomputable def op_Lq31_3 : OpT := Classical.choose (opq (iterS st_Lq31_3 FU))
theorem op_Lq31_3_eq (env : LDt) : op_Lq31_3 env = iterS st_Lq31_3 FU env := Classical.choose_spec (opq (iterS st_Lq31_3 FU)) env
noncomputable def Lq31_3 : MBox := kLq31_3 op_Lq31_3
theorem Lq31_3_eqs : Lq31_3 = kLq31_3 (iterS st_Lq31_3 FU) := congrArg kLq31_3 (funext op_Lq31_3_eq)
theorem Lq31_3_run : ∀ t s x, (manyRun Lq31_3 t s).sel = some x → CodeOk Try.prog 0 (.loop (cAt Try.prog 63 3)) t s x := by
 rw [Lq31_3_eqs]
 exact mkM_ok (st := st_Lq31_3) (m := FU) cs_Z29_ok hmix false (LsOk.none _ _ _) (by kernel_rfl) (fun env y h => by rw [← stepMC_lk]; exact h)
noncomputable def fn_Lq31_3_t : LDt → Tree Step
 | [.n n0, .n n1, .n n2] =>
  (.node (decide (n2 < n0))
   (.leaf (Step.go [.k 0, .n n0, .n (IntKind.wrap .u64 (n1 * (2 : Int))), .n (IntKind.wrap .i64 (n2 + (1 : Int)))]))
   (.leaf (Step.stop 0 [.n n1])))
 | _ => .bad 0
theorem fn_Lq31_3_t_im (n0 : Int) (n1 : Int) (n2 : Int) : Imp (fn_Lq31_3_t [.n n0, .n n1, .n n2]) (st_Lq31_3 [.k 0, .n n0, .n n1, .n n2]) :=
(.pa [1]
(.nd (fun h0 =>
(.pa [1]
.lf)) (fun h0 =>
(.pa [1]
.lf))))
theorem ls_q31_ok : LsOk Try.prog (z0) (lsM [(3, Lq31_3)] (z0)) (bodyOf Try.prog 63) := LsOk.many fun j B hB hk c hc hi => by
 simp only [lookM] at hB
 split at hB
 ·rename_i e; have := Nat.eq_of_beq_eq_true e; subst this; cases hB
  rw [onlyC (f := 63) (i := 3) (loopAt_one (by kernel_rfl)) (loopsAt_mem hc hi)]; exact Lq31_3_run
 cases hB
def kq31 (f : OpT) : FBox := mkF [.int .i64 0] [] [] [(.int .u64 0, [])] f
noncomputable def ev_q31 (env : LDt) : TD := Lk.boxC false LK cs_Z29 63 (lsM [(3, Lq31_3)] (z0)) (kq31 fun _ => none) env
noncomputable def op_q31 : OpT := Classical.choose (opq (fun env => (ev_q31 env).sel))
theorem op_q31_eq (env : LDt) : op_q31 env = (ev_q31 env).sel := Classical.choose_spec (opq (fun env => (ev_q31 env).sel)) env
noncomputable def Bq31 : FBox := kq31 op_q31
theorem Bq31_ok : RunOk Try.prog 63 (boxRun Bq31) := mkF_ok (op := op_q31) cs_Z29_ok hmix false (ls_q31_ok) (fun env x h => by rw [op_q31_eq] at h; rw [← boxC_lk]; exact h)
noncomputable def fn_q31_t : LDt → TD
 | [.n n0] =>
  (let r1 : OD := (op_Lq31_3 [.k 0, .n n0, .n (1 : Int), .n (0 : Int)]);
   (.node (isK 0 [HK.n] r1)
   (.leaf ((0, [.n (gn (dOf r1) 0)])))
   (.bad 351)))
 | _ => .bad 0
theorem fn_q31_t_im (n0 : Int) : Imp (fn_q31_t [.n n0]) (ev_q31 [.n n0]) :=
(.nd (fun h0 =>
(.pa [1]
.lf)) (fun h0 =>
.none))
noncomputable def cs_q31 : FuncId → Option CSpec := csLend 63 Bq31 cs_Z29
theorem cs_q31_ok : CsOk Try.prog cs_q31 := csLend_ok cs_Z29_ok Bq31_ok
def kq11 (f : OpT) : FBox := mkF [.int .u64 0, .int .i64 1] [] [] [(.bool 0, [])] f
noncomputable def ev_q11 (env : LDt) : TD := Lk.boxC false LK cs_q31 33 ls0 (kq11 fun _ => none) env
noncomputable def op_q11 : OpT := Classical.choose (opq (fun env => (ev_q11 env).sel))
theorem op_q11_eq (env : LDt) : op_q11 env = (ev_q11 env).sel := Classical.choose_spec (opq (fun env => (ev_q11 env).sel)) env
noncomputable def Bq11 : FBox := kq11 op_q11
theorem Bq11_ok : RunOk Try.prog 33 (boxRun Bq11) := mkF_ok (op := op_q11) cs_q31_ok hmix false (LsOk.none _ _ _) (fun env x h => by rw [op_q11_eq] at h; rw [← boxC_lk]; exact h)
noncomputable def fn_q11_t : LDt → TD
 | [.n n0, .n n1] =>
  (.node (decide (n1 ≥ (0 : Int)))
   (.node (decide (n1 ≤ (63 : Int)))
   (let r1 : OD := (op_q31 [.n n1]);
    (.node (isK 0 [HK.n] r1)
    (.node (!decide (gn (dOf r1) 0 = (0 : Int)))
     (.leaf ((0, [.b (Int.tmod (IntKind.wrap .u64 (Int.tdiv n0 (gn (dOf r1) 0))) (2 : Int) == (1 : Int))])))
     (.bad 80))
    (.bad 351)))
   (.leaf ((0, [.b false]))))
   (.leaf ((0, [.b false]))))
 | _ => .bad 0
theorem fn_q11_t_im (n0 : Int) (n1 : Int) : Imp (fn_q11_t [.n n0, .n n1]) (ev_q11 [.n n0, .n n1]) :=
(.nd (fun h0 =>
(.nd (fun h1 =>
(.nd (fun h2 =>
(.pa [1]
(.nd (fun h3 =>
(.pa [1,1]
.lf)) (fun h3 =>
.none)))) (fun h2 =>
.none))) (fun h1 =>
(.pa [0,1]
.lf)))) (fun h0 =>
(.pa [0,0,0,1]
.lf)))
noncomputable def cs_q11 : FuncId → Option CSpec := csLend 33 Bq11 cs_q31
theorem cs_q11_ok : CsOk Try.prog cs_q11 := csLend_ok cs_q31_ok Bq11_ok
def kq13 (f : OpT) : FBox := mkF [.int .u64 0, .int .i64 1] [] [] [(.int .u64 0, [])] f
noncomputable def ev_q13 (env : LDt) : TD := Lk.boxC false LK cs_q11 75 ls0 (kq13 fun _ => none) env
noncomputable def op_q13 : OpT := Classical.choose (opq (fun env => (ev_q13 env).sel))
theorem op_q13_eq (env : LDt) : op_q13 env = (ev_q13 env).sel := Classical.choose_spec (opq (fun env => (ev_q13 env).sel)) env
noncomputable def Bq13 : FBox := kq13 op_q13
theorem Bq13_ok : RunOk Try.prog 75 (boxRun Bq13) := mkF_ok (op := op_q13) cs_q11_ok hmix false (LsOk.none _ _ _) (fun env x h => by rw [op_q13_eq] at h; rw [← boxC_lk]; exact h)
noncomputable def fn_q13_t : LDt → TD
 | [.n n0, .n n1] =>
  (.node (decide (n1 < (0 : Int)))
   (.leaf ((0, [.n n0])))
   (.node (decide (n1 > (63 : Int)))
   (.leaf ((0, [.n n0])))
   (let r1 : OD := (op_q11 [.n n0, .n n1]);
    (.node (isK 0 [HK.b] r1)
    (.node (gb (dOf r1) 0)
     (.leaf ((0, [.n n0])))
     (let r2 : OD := (op_q31 [.n n1]);
     (.node (isK 0 [HK.n] r2)
      (.leaf ((0, [.n (IntKind.wrap .u64 (n0 + gn (dOf r2) 0))])))
      (.bad 351))))
    (.bad 351)))))
 | _ => .bad 0
theorem fn_q13_t_im (n0 : Int) (n1 : Int) : Imp (fn_q13_t [.n n0, .n n1]) (ev_q13 [.n n0, .n n1]) :=
(.nd (fun h0 =>
(.pa [1,1,1,1,1]
.lf)) (fun h0 =>
(.nd (fun h1 =>
(.pa [1,1,1]
.lf)) (fun h1 =>
(.nd (fun h2 =>
(.pa [1]
(.nd (fun h3 =>
(.pa [1]
.lf)) (fun h3 =>
(.nd (fun h4 =>
(.pa [1,1]
.lf)) (fun h4 =>
.none)))))) (fun h2 =>
.none))))))
noncomputable def cs_q13 : FuncId → Option CSpec := csLend 75 Bq13 cs_q11
theorem cs_q13_ok : CsOk Try.prog cs_q13 := csLend_ok cs_q11_ok Bq13_ok
def kLq27_3 (f : OpT) : MBox := mkM 0 [] [(sh 18 [(0, .int .i64 0), (3, .int .u64 1), (4, .int .i64 2)], [])] [] [(.exit 0, sh 18 [(3, .int .u64 0)], [])] f
noncomputable def st_Lq27_3 (env : LDt) : Tree Step := Lk.stepMC false LK cs_q13 41 3 ls0 (kLq27_3 fun _ => none) env
noncomputable def op_Lq27_3 : OpT := Classical.choose (opq (iterS st_Lq27_3 FU))
theorem op_Lq27_3_eq (env : LDt) : op_Lq27_3 env = iterS st_Lq27_3 FU env := Classical.choose_spec (opq (iterS st_Lq27_3 FU)) env
noncomputable def Lq27_3 : MBox := kLq27_3 op_Lq27_3
theorem Lq27_3_eqs : Lq27_3 = kLq27_3 (iterS st_Lq27_3 FU) := congrArg kLq27_3 (funext op_Lq27_3_eq)
theorem Lq27_3_run : ∀ t s x, (manyRun Lq27_3 t s).sel = some x → CodeOk Try.prog 0 (.loop (cAt Try.prog 41 3)) t s x := by
 rw [Lq27_3_eqs]
 exact mkM_ok (st := st_Lq27_3) (m := FU) cs_q13_ok hmix false (LsOk.none _ _ _) (by kernel_rfl) (fun env y h => by rw [← stepMC_lk]; exact h)
noncomputable def fn_Lq27_3_t : LDt → Tree Step
 | [.n n0, .n n1, .n n2] =>
  (.node (decide (n2 < n0))
   (.node (decide (n2 < (64 : Int)))
   (let r1 : OD := (op_q13 [.n n1, .n n2]);
    (.node (isK 0 [HK.n] r1)
    (.leaf (Step.go [.k 0, .n n0, .n (gn (dOf r1) 0), .n (IntKind.wrap .i64 (n2 + (1 : Int)))]))
    (.bad 351)))
   (.leaf (Step.stop 0 [.n n1])))
   (.leaf (Step.stop 0 [.n n1])))
 | _ => .bad 0
theorem fn_Lq27_3_t_im (n0 : Int) (n1 : Int) (n2 : Int) : Imp (fn_Lq27_3_t [.n n0, .n n1, .n n2]) (st_Lq27_3 [.k 0, .n n0, .n n1, .n n2]) :=
(.pa [1]
(.nd (fun h0 =>
(.nd (fun h1 =>
(.nd (fun h2 =>
(.pa [1,1]
.lf)) (fun h2 =>
.none))) (fun h1 =>
(.pa [1]
.lf)))) (fun h0 =>
(.pa [0,0,1]
.lf))))
theorem ls_q27_ok : LsOk Try.prog (z0) (lsM [(3, Lq27_3)] (z0)) (bodyOf Try.prog 41) := LsOk.many fun j B hB hk c hc hi => by
 simp only [lookM] at hB
 split at hB
 ·rename_i e; have := Nat.eq_of_beq_eq_true e; subst this; cases hB
  rw [onlyC (f := 41) (i := 3) (loopAt_one (by kernel_rfl)) (loopsAt_mem hc hi)]; exact Lq27_3_run
 cases hB
noncomputable def ev_q27 (env : LDt) : TD := Lk.boxC false LK cs_q13 41 (lsM [(3, Lq27_3)] (z0)) (kq31 fun _ => none) env
noncomputable def op_q27 : OpT := Classical.choose (opq (fun env => (ev_q27 env).sel))
theorem op_q27_eq (env : LDt) : op_q27 env = (ev_q27 env).sel := Classical.choose_spec (opq (fun env => (ev_q27 env).sel)) env
noncomputable def Bq27 : FBox := kq31 op_q27
theorem Bq27_ok : RunOk Try.prog 41 (boxRun Bq27) := mkF_ok (op := op_q27) cs_q13_ok hmix false (ls_q27_ok) (fun env x h => by rw [op_q27_eq] at h; rw [← boxC_lk]; exact h)
noncomputable def fn_q27_t : LDt → TD
 | [.n n0] =>
  (let r1 : OD := (op_Lq27_3 [.k 0, .n n0, .n (0 : Int), .n (0 : Int)]);
   (.node (isK 0 [HK.n] r1)
   (.leaf ((0, [.n (gn (dOf r1) 0)])))
   (.bad 351)))
 | _ => .bad 0
theorem fn_q27_t_im (n0 : Int) : Imp (fn_q27_t [.n n0]) (ev_q27 [.n n0]) :=
(.nd (fun h0 =>
(.pa [1]
.lf)) (fun h0 =>
.none))
noncomputable def cs_q27 : FuncId → Option CSpec := csLend 41 Bq27 cs_q13
theorem cs_q27_ok : CsOk Try.prog cs_q27 := csLend_ok cs_q13_ok Bq27_ok
noncomputable def ev_W12 (env : LDt) : Tree Bool := Lk.lawB false LK cs_q27 12 ls0 (instL [laV 0, ipV 4, ouV 8, .int .u64 10] env)
theorem W12_law (env : LDt) (h : (ev_W12 env).sel = some true) {w : World} {args : Array Value} (ha : LRel R0 (snapOf w) (instL [laV 0, ipV 4, ouV 8, .int .u64 10] env) args) :
  Calls Try.prog 12 args w fun e w' => e = .returned (.bool true) ∧ Below w.heap.size w w' :=
 lawB_ok cs_q27_ok hmix false (ls := ls0) (LsOk.none _ _ _) (by rw [← lawB_lk]; exact h) ha
noncomputable def fn_W12_t : LDt → Tree Bool
 | [.l TS l0, .l TPt l1, .l TPt l2, .l TRt l3, .n n4, .n n5, .n n6, .l (Ty.pair (Ty.int IntKind.u8) TI) l7, .n n8, .n n9, .n n10] =>
  (let r1 : OD := (op_15 [.l TS l0, .l TPt l1, .l TPt l2, .l TRt l3, .n (400 : Int)]);
   (.node (isK 0 [HK.n] r1)
   (.node (decide (gn (dOf r1) 0 > (400 : Int)))
    (.leaf (true))
    (.node (decide ((↑(List.length l7) : Int) > (100 : Int)))
    (.leaf (true))
    (let r2 : OD := (op_c17 [.l TS l0, .l TPt l1, .l TPt l2, .l TRt l3]);
     (.node (isK 0 [HK.n, HK.l TU] r2)
     (let r3 : OD := (op_s67 [.l TS l0, .l TPt l1, .l TPt l2, .l TRt l3, .l TU (gl TU (dOf r2) 1), .n (gn (dOf r2) 0), .n n4, .n n5, .n n6, .l (Ty.pair (Ty.int IntKind.u8) TI) l7, .n n8, .n n9]);
      (.node (isK 0 [HK.n] r3)
      (.node (gn (dOf r3) 0 == (0 : Int))
       (let r4 : OD := (op_s67 [.l TS l0, .l TPt l1, .l TPt l2, .l TRt l3, .l TU (gl TU (dOf r2) 1), .n (gn (dOf r2) 0), .n n4, .n n5, .n n6, .l (Ty.pair (Ty.int IntKind.u8) TI) l7, .n (iand IntKind.u64 n8 n10), .n n9]);
       (.node (isK 0 [HK.n] r4)
        (.node (gn (dOf r4) 0 != (0 : Int))
        (.leaf (false))
        (let r5 : OD := (op_19 [.l TS l0, .l TPt l1, .l TPt l2, .l TRt l3]);
         (.node (isK 0 [HK.n, HK.n] r5)
         (let r6 : OD := (op_q27 [.n (imin (↑(List.length l1) : Int) (32 : Int))]);
          (.node (isK 0 [HK.n] r6)
          (let r7 : OD := (op_s67 [.l TS l0, .l TPt l1, .l TPt l2, .l TRt l3, .l TU (gl TU (dOf r2) 1), .n (gn (dOf r2) 0), .n n4, .n n5, .n n6, .l (Ty.pair (Ty.int IntKind.u8) TI) l7, .n (0 : Int), .n (iand IntKind.u32 n9 (IntKind.wrap .u32 (gn (dOf r6) 0)))]);
           (.node (isK 0 [HK.n] r7)
           (.node ((gn (dOf r7) 0 == (0 : Int)) == (gn (dOf r5) 0 == (0 : Int)))
            (.leaf (true))
            (.leaf (false)))
           (.bad 351)))
          (.bad 351)))
         (.bad 351))))
        (.bad 351)))
       (let r4 : OD := (op_19 [.l TS l0, .l TPt l1, .l TPt l2, .l TRt l3]);
       (.node (isK 0 [HK.n, HK.n] r4)
        (let r5 : OD := (op_q27 [.n (imin (↑(List.length l1) : Int) (32 : Int))]);
        (.node (isK 0 [HK.n] r5)
         (let r6 : OD := (op_s67 [.l TS l0, .l TPt l1, .l TPt l2, .l TRt l3, .l TU (gl TU (dOf r2) 1), .n (gn (dOf r2) 0), .n n4, .n n5, .n n6, .l (Ty.pair (Ty.int IntKind.u8) TI) l7, .n (0 : Int), .n (iand IntKind.u32 n9 (IntKind.wrap .u32 (gn (dOf r5) 0)))]);
         (.node (isK 0 [HK.n] r6)
          (.node ((gn (dOf r6) 0 == (0 : Int)) == (gn (dOf r4) 0 == (0 : Int)))
          (.leaf (true))
          (.leaf (false)))
          (.bad 351)))
         (.bad 351)))
        (.bad 351))))
      (.bad 351)))
     (.node (isK 1 [HK.n] r2)
      (let r3 : OD := (op_s67 [.l TS l0, .l TPt l1, .l TPt l2, .l TRt l3, .l TU [], .n (gn (dOf r2) 0), .n n4, .n n5, .n n6, .l (Ty.pair (Ty.int IntKind.u8) TI) l7, .n n8, .n n9]);
      (.node (isK 0 [HK.n] r3)
       (.node (gn (dOf r3) 0 == (0 : Int))
       (let r4 : OD := (op_s67 [.l TS l0, .l TPt l1, .l TPt l2, .l TRt l3, .l TU [], .n (gn (dOf r2) 0), .n n4, .n n5, .n n6, .l (Ty.pair (Ty.int IntKind.u8) TI) l7, .n (iand IntKind.u64 n8 n10), .n n9]);
        (.node (isK 0 [HK.n] r4)
        (.node (gn (dOf r4) 0 != (0 : Int))
         (.leaf (false))
         (let r5 : OD := (op_19 [.l TS l0, .l TPt l1, .l TPt l2, .l TRt l3]);
         (.node (isK 0 [HK.n, HK.n] r5)
          (let r6 : OD := (op_q27 [.n (imin (↑(List.length l1) : Int) (32 : Int))]);
          (.node (isK 0 [HK.n] r6)
           (let r7 : OD := (op_s67 [.l TS l0, .l TPt l1, .l TPt l2, .l TRt l3, .l TU [], .n (gn (dOf r2) 0), .n n4, .n n5, .n n6, .l (Ty.pair (Ty.int IntKind.u8) TI) l7, .n (0 : Int), .n (iand IntKind.u32 n9 (IntKind.wrap .u32 (gn (dOf r6) 0)))]);
           (.node (isK 0 [HK.n] r7)
            (.node ((gn (dOf r7) 0 == (0 : Int)) == (gn (dOf r5) 0 == (0 : Int)))
            (.leaf (true))
            (.leaf (false)))
            (.bad 351)))
           (.bad 351)))
          (.bad 351))))
        (.bad 351)))
       (let r4 : OD := (op_19 [.l TS l0, .l TPt l1, .l TPt l2, .l TRt l3]);
        (.node (isK 0 [HK.n, HK.n] r4)
        (let r5 : OD := (op_q27 [.n (imin (↑(List.length l1) : Int) (32 : Int))]);
         (.node (isK 0 [HK.n] r5)
         (let r6 : OD := (op_s67 [.l TS l0, .l TPt l1, .l TPt l2, .l TRt l3, .l TU [], .n (gn (dOf r2) 0), .n n4, .n n5, .n n6, .l (Ty.pair (Ty.int IntKind.u8) TI) l7, .n (0 : Int), .n (iand IntKind.u32 n9 (IntKind.wrap .u32 (gn (dOf r5) 0)))]);
          (.node (isK 0 [HK.n] r6)
          (.node ((gn (dOf r6) 0 == (0 : Int)) == (gn (dOf r4) 0 == (0 : Int)))
           (.leaf (true))
           (.leaf (false)))
          (.bad 351)))
         (.bad 351)))
        (.bad 351))))
       (.bad 351)))
      (.bad 351))))))
   (.bad 351)))
 | _ => .bad 0
theorem fn_W12_t_im (l0 : DS) (l1 : DP) (l2 : DP) (l3 : DR) (n4 : Int) (n5 : Int) (n6 : Int) (l7 : List (Ty.den (Ty.pair (Ty.int IntKind.u8) TI))) (n8 : Int) (n9 : Int) (n10 : Int) : Imp (fn_W12_t [.l TS l0, .l TPt l1, .l TPt l2, .l TRt l3, .n n4, .n n5, .n n6, .l (Ty.pair (Ty.int IntKind.u8) TI) l7, .n n8, .n n9, .n n10]) (ev_W12 [.l TS l0, .l TPt l1, .l TPt l2, .l TRt l3, .n n4, .n n5, .n n6, .l TCmd l7, .n n8, .n n9, .n n10]) :=
(.nd (fun h0 =>
(.pa [1]
(.nd (fun h1 =>
(.pa [1,1,1,1,1]
.lf)) (fun h1 =>
(.nd (fun h2 =>
(.pa [1,1,1]
.lf)) (fun h2 =>
(.pa [1,1]
(.nd (fun h3 =>
(.pa [1,1]
(.nd (fun h4 =>
(.pa [1,1,1]
(.nd (fun h5 =>
(.pa [1,1]
(.pt (by kernel_rfl) (by kernel_rfl) h3
(.pa [1,1]
(.nd (fun h6 =>
(.pa [1,1,1]
(.nd (fun h7 =>
.lf) (fun h7 =>
(.nd (fun h8 =>
(.pa [1]
(.nd (fun h9 =>
(.pa [1,1,1,1]
(.pt (by kernel_rfl) (by kernel_rfl) h3
(.pa [1,1]
(.nd (fun h10 =>
(.pa [1,1,1]
(.nd (fun h11 =>
(.pa [1,1,1]
.lf)) (fun h11 =>
(.pa [0]
.lf))))) (fun h10 =>
.none)))))) (fun h9 =>
.none)))) (fun h8 =>
.none)))))) (fun h6 =>
.none)))))) (fun h5 =>
(.pa [0,0]
(.nd (fun h6 =>
(.pa [1]
(.nd (fun h7 =>
(.pa [1,1,1,1]
(.pt (by kernel_rfl) (by kernel_rfl) h3
(.pa [1,1]
(.nd (fun h8 =>
(.pa [1,1,1]
(.nd (fun h9 =>
(.pa [1,1,1]
.lf)) (fun h9 =>
(.pa [0]
.lf))))) (fun h8 =>
.none)))))) (fun h7 =>
.none)))) (fun h6 =>
.none))))))) (fun h4 =>
.none)))) (fun h3 =>
(.nd (fun h4 =>
(.pa [1,1]
(.nd (fun h5 =>
(.pa [1,1,1]
(.nd (fun h6 =>
(.pa [1,1]
(.pf (by kernel_rfl) (by kernel_rfl) h3
(.pt (by kernel_rfl) (by kernel_rfl) h4
(.pa [1,1]
(.nd (fun h7 =>
(.pa [1,1,1]
(.nd (fun h8 =>
.lf) (fun h8 =>
(.nd (fun h9 =>
(.pa [1]
(.nd (fun h10 =>
(.pa [1,1,1,1]
(.pf (by kernel_rfl) (by kernel_rfl) h3
(.pt (by kernel_rfl) (by kernel_rfl) h4
(.pa [1,1]
(.nd (fun h11 =>
(.pa [1,1,1]
(.nd (fun h12 =>
(.pa [1,1,1]
.lf)) (fun h12 =>
(.pa [0]
.lf))))) (fun h11 =>
.none))))))) (fun h10 =>
.none)))) (fun h9 =>
.none)))))) (fun h7 =>
.none))))))) (fun h6 =>
(.pa [0,0]
(.nd (fun h7 =>
(.pa [1]
(.nd (fun h8 =>
(.pa [1,1,1,1]
(.pf (by kernel_rfl) (by kernel_rfl) h3
(.pt (by kernel_rfl) (by kernel_rfl) h4
(.pa [1,1]
(.nd (fun h9 =>
(.pa [1,1,1]
(.nd (fun h10 =>
(.pa [1,1,1]
.lf)) (fun h10 =>
(.pa [0]
.lf))))) (fun h9 =>
.none))))))) (fun h8 =>
.none)))) (fun h7 =>
.none))))))) (fun h5 =>
.none)))) (fun h4 =>
.none))))))))))) (fun h0 =>
.none))
end Go.Proofs.Ytfkcodaiiheniaa.Vx
namespace Go.Proofs.Ytfkcodaiiheniaa.Vx
open Go Go.RowKit
set_option linter.unusedVariables false
set_option linter.unusedSimpArgs false
set_option maxRecDepth 100000
set_option maxHeartbeats 1000000
def p2 (k : Nat) : B64 := 1#64 <<< k
def inN (n : Int) : Bool := decide (0 ≤ n) && decide (n < 64)
def hasB (X : B64) (n : Int) : Bool := inN n && X.getLsbD n.toNat
def withB (X : B64) (n : Int) : B64 := bif inN n then X ||| p2 n.toNat else X
theorem p2_bit (k i : Nat) : (p2 k).getLsbD i = (decide (i < 64) && decide (i = k)) := by
 unfold p2
 rw [BitVec.getLsbD_shiftLeft]
 by_cases h : i = k
 ·subst h; simp
 ·by_cases h2 : i < k
  ·simp [h, h2]
  ·have : i - k ≠ 0 := by omega
   simp [h, h2, this]
theorem p2_nat {k : Nat} (h : k < 64) : (p2 k).toNat = 2 ^ k := by
 unfold p2
 rw [BitVec.toNat_shiftLeft, Nat.shiftLeft_eq]
 have : 2 ^ k < 2 ^ 64 := Nat.pow_lt_pow_right (by omega) h
 rw [show (1#64).toNat = 1 from rfl, Nat.one_mul, Nat.mod_eq_of_lt this]
theorem getN (X : B64) (k : Nat) : X.getLsbD k = decide (X.toNat / 2 ^ k % 2 = 1) := by
 rw [← BitVec.testBit_toNat, Nat.testBit_eq_decide_div_mod_eq]
theorem with_add {X : B64} {k : Nat} (hk : k < 64) (h : X.getLsbD k = false) : X + p2 k = X ||| p2 k := by
 apply BitVec.add_eq_or_of_and_eq_zero
 apply BitVec.eq_of_getLsbD_eq
 intro i hi
 rw [BitVec.getLsbD_and, p2_bit]
 by_cases e : i = k
 ·subst e; simp [h]
 ·simp [e]
theorem N_add (X Y : B64) : IntKind.wrap .u64 (N X + N Y) = N (X + Y) := by
 rw [wrapN_u64]
 refine congrArg N ?_
 apply BitVec.eq_of_toNat_eq
 rw [BitVec.toNat_ofInt, BitVec.toNat_add]
 unfold N
 omega
theorem w64x {x : Int} (h0 : -9223372036854775808 ≤ x) (h1 : x < 9223372036854775808) : IntKind.wrap .i64 x = x := by unfold IntKind.wrap; simp [IntKind.bits, IntKind.signed]; omega
theorem wu64' {x : Int} (h0 : 0 ≤ x) (h1 : x < 18446744073709551616) : IntKind.wrap .u64 x = x := by unfold IntKind.wrap; simp [IntKind.bits, IntKind.signed]; omega
theorem q_pw (k : Nat) (hk : k < 64) : op_q31 [.n (k : Int)] = some (0, [.n (N (p2 k))]) := by
 have hl : op_Lq31_3 [.k 0, .n (k : Int), .n (1 : Int), .n (0 : Int)] = some (0, [.n (N (p2 k))]) := by
  rw [op_Lq31_3_eq]
  refine iter_count (fun i => [.k 0, .n (k : Int), .n (N (p2 i)), .n (i : Int)]) k (0, [.n (N (p2 k))]) (fun i hi => ?_) ?_ FU (lt_FU (by omega))
  ·refine fn_Lq31_3_t_im _ _ _ _ ?_
   unfold fn_Lq31_3_t
   refine sel_t (by simpa using hi) ?_
   have e1 : IntKind.wrap .u64 (N (p2 i) * (2 : Int)) = N (p2 (i + 1)) := by
    unfold N
    rw [p2_nat (by omega), p2_nat (by omega), Nat.pow_succ]
    have : 2 ^ (i + 1) ≤ 2 ^ 63 := Nat.pow_le_pow_right (by omega) (by omega)
    rw [Nat.pow_succ] at this
    rw [wu64' (by omega) (by omega)]; omega
   rw [e1, w64x (by omega) (by omega)]
   rfl
  ·refine fn_Lq31_3_t_im _ _ _ _ ?_
   unfold fn_Lq31_3_t
   exact sel_f (by simp) rfl
 rw [op_q31_eq]
 refine fn_q31_t_im _ _ ?_
 unfold fn_q31_t
 dsimp only
 rw [hl]; rfl
theorem q_e11 (X : B64) (n : Int) : op_q11 [.n (N X), .n n] = some (0, [.b (hasB X n)]) := by
 rw [op_q11_eq]
 refine fn_q11_t_im _ _ _ ?_
 unfold fn_q11_t hasB inN
 by_cases h0 : 0 ≤ n
 ·by_cases h1 : n < 64
  ·obtain ⟨k, rfl⟩ : ∃ k : Nat, n = k := ⟨n.toNat, by omega⟩
   refine sel_t (by simp) (sel_t (by simp; omega) ?_)
   rw [q_pw k (by omega)]
   have hp : N (p2 k) = ((2 ^ k : Nat) : Int) := by unfold N; rw [p2_nat (by omega)]
   have hpos : 0 < 2 ^ k := Nat.pow_pos (by omega)
   refine sel_t rfl (sel_t ?_ ?_)
   ·show (!decide (N (p2 k) = 0)) = true
    have hne : ((2 ^ k : Nat) : Int) ≠ 0 := by have := Nat.pos_iff_ne_zero.1 hpos; exact_mod_cast this
    rw [hp, decide_eq_false hne]; rfl
   ·show some (0, [Dat.b (Int.tmod (IntKind.wrap .u64 (Int.tdiv (N X) (N (p2 k)))) (2 : Int) == (1 : Int))]) = _
    rw [hp]
    have e1 : Int.tdiv (N X) ((2 ^ k : Nat) : Int) = ((X.toNat / 2 ^ k : Nat) : Int) := by unfold N; rfl
    have hlt : X.toNat / 2 ^ k < 2 ^ 64 := Nat.lt_of_le_of_lt (Nat.div_le_self _ _) X.isLt
    rw [e1, wu64' (Int.natCast_nonneg _) (Int.ofNat_lt.2 (Nat.lt_of_lt_of_le hlt (by decide)))]
    have e2 : Int.tmod ((X.toNat / 2 ^ k : Nat) : Int) 2 = ((X.toNat / 2 ^ k % 2 : Nat) : Int) := rfl
    rw [e2, getN]
    simp only [Option.some.injEq, Prod.mk.injEq, List.cons.injEq, and_true, true_and, Dat.b.injEq]
    rw [show decide (0 ≤ (k : Int)) = true by simp, show decide ((k : Int) < 64) = true by simpa using h1, Bool.true_and, Bool.true_and, Bool.eq_iff_iff, beq_iff_eq, decide_eq_true_eq]
    simp only [Int.toNat_natCast]
    omega
  ·refine sel_t (by simpa using h0) (sel_f (by simp; omega) ?_)
   simp [Tree.sel, h1]
 ·refine sel_f (by simpa using h0) ?_
  simp [Tree.sel, h0]
theorem q_e13 (X : B64) (n : Int) : op_q13 [.n (N X), .n n] = some (0, [.n (N (withB X n))]) := by
 rw [op_q13_eq]
 refine fn_q13_t_im _ _ _ ?_
 unfold fn_q13_t
 by_cases h0 : 0 ≤ n
 ·by_cases h1 : n < 64
  ·have hi : inN n = true := by simp [inN, h0, h1]
   refine sel_f (by simpa using h0) (sel_f (by simp; omega) ?_)
   rw [q_e11]
   refine sel_t rfl ?_
   cases hb : hasB X n with
   | true =>
    refine sel_t rfl ?_
    have hg : X.getLsbD n.toNat = true := by unfold hasB at hb; rw [hi] at hb; simpa using hb
    have : X ||| p2 n.toNat = X := by
     apply BitVec.eq_of_getLsbD_eq
     intro i hlt
     rw [BitVec.getLsbD_or, p2_bit]
     by_cases e : i = n.toNat
     ·subst e; simp [hg]
     ·simp [e]
    simp only [Tree.sel, withB, hi, cond_true, this]
   | false =>
    refine sel_f rfl ?_
    have hg : X.getLsbD n.toNat = false := by unfold hasB at hb; rw [hi] at hb; simpa using hb
    obtain ⟨k, rfl⟩ : ∃ k : Nat, n = k := ⟨n.toNat, by omega⟩
    rw [q_pw k (by omega)]
    refine sel_t rfl ?_
    show some (0, [Dat.n (IntKind.wrap .u64 (N X + N (p2 k)))]) = _
    rw [Int.toNat_natCast] at hg
    rw [N_add, with_add (by omega) hg]
    simp only [withB, hi, cond_true, Int.toNat_natCast]
  ·refine sel_f (by simpa using h0) (sel_t (by simp; omega) ?_)
   simp [Tree.sel, withB, inN, h1]
 ·refine sel_t (by simp; omega) ?_
  simp [Tree.sel, withB, inN, h0]
def firB (k : Nat) : B64 := BitVec.ofNat 64 (2 ^ k - 1)
theorem firB_nat {k : Nat} (h : k ≤ 64) : (firB k).toNat = 2 ^ k - 1 := by
 unfold firB
 rw [BitVec.toNat_ofNat]
 have : 2 ^ k ≤ 2 ^ 64 := Nat.pow_le_pow_right (by omega) h
 exact Nat.mod_eq_of_lt (by omega)
theorem firB_bit {k : Nat} (h : k ≤ 64) (i : Nat) : (firB k).getLsbD i = decide (i < k) := by
 rw [← BitVec.testBit_toNat, firB_nat h, Nat.testBit_two_pow_sub_one]
theorem firB_step {k : Nat} (h : k < 64) : withB (firB k) (k : Int) = firB (k + 1) := by
 unfold withB
 have : inN (k : Int) = true := by simp [inN]; omega
 rw [this, cond_true, Int.toNat_natCast]
 apply BitVec.eq_of_getLsbD_eq
 intro i hi
 rw [BitVec.getLsbD_or, p2_bit, firB_bit (by omega), firB_bit (by omega)]
 by_cases e : i = k
 ·subst e; simp [hi]
 ·have : decide (i < k) = decide (i < k + 1) := by rw [Bool.eq_iff_iff]; simp; omega
  simp [e, this]
theorem q_e27 (n : Int) : op_q27 [.n n] = some (0, [.n (N (firB (min n.toNat 64)))]) := by
 have h1 : op_Lq27_3 [.k 0, .n n, .n (0 : Int), .n (0 : Int)] = some (0, [.n (N (firB (min n.toNat 64)))]) := by
  rw [op_Lq27_3_eq]
  refine iter_count (fun i => [.k 0, .n n, .n (N (firB i)), .n (i : Int)]) (min n.toNat 64) (0, [.n (N (firB (min n.toNat 64)))]) (fun i hi => ?_) ?_ FU (lt_FU (by omega))
  ·refine fn_Lq27_3_t_im _ _ _ _ ?_
   unfold fn_Lq27_3_t
   refine sel_t (decide_eq_true (show (i : Int) < n by omega)) (sel_t (decide_eq_true (show (i : Int) < 64 by omega)) ?_)
   dsimp only
   rw [q_e13]
   refine sel_t rfl ?_
   rw [w64x (by omega) (by omega), firB_step (by omega)]; rfl
  ·refine fn_Lq27_3_t_im _ _ _ _ ?_
   unfold fn_Lq27_3_t
   by_cases h : ((min n.toNat 64 : Nat) : Int) < n
   ·exact sel_t (decide_eq_true h) (sel_f (decide_eq_false (by omega)) rfl)
   ·exact sel_f (decide_eq_false h) rfl
 rw [op_q27_eq]
 refine fn_q27_t_im _ _ ?_
 unfold fn_q27_t
 dsimp only
 rw [h1]
 exact sel_t rfl rfl
end Go.Proofs.Ytfkcodaiiheniaa.Vx
namespace Go.Proofs.Ytfkcodaiiheniaa.Vx
open Go Go.RowKit
set_option linter.unusedVariables false
set_option linter.unusedSimpArgs false
set_option maxRecDepth 100000
set_option maxHeartbeats 1000000
theorem nneg_t {x : Int} (h : 0 ≤ x) : (!decide (x < 0)) = true := by rw [df (Int.not_lt.2 h)]; rfl
def bitU (x n : Int) : Bool := iand IntKind.u64 (ishr IntKind.u64 x n) (1 : Int) == (1 : Int)
def zerU (x n : Int) : Bool := iand IntKind.u32 (ishr IntKind.u32 x n) (1 : Int) == (0 : Int)
def undT (rv nm : Int) (d : Ty.den TNd) : Bool := bif g2 d then zerU rv (f1 d) else zerU nm (f1 d)
def turT (pt : Int) (d : Ty.den TNd) : Bool := !((iand IntKind.u32 (ishr IntKind.u32 pt (f1 d)) (1 : Int) == (1 : Int)) == g2 d)
def shownF (r : LR) (pr : Int) (ask : Nat → Bool) : Bool := (List.range' 0 r.length).any fun i => bitU pr (i : Int) && ask i
def clsA (T : List Int) (pr : Int) (i : Nat) : Bool := iand IntKind.u64 (T.getD i 0) pr != (0 : Int)
def occA (r : LR) (oc : Int) (i : Nat) : Bool := (eP (r.getD i (Ty.dflt TRt))).any (bitU oc) || (eO (r.getD i (Ty.dflt TRt))).any (bitU oc)
def undA (r : LR) (rv nm : Int) (i : Nat) : Bool := (eQ (r.getD i (Ty.dflt TRt))).any (undT rv nm) || (eF (r.getD i (Ty.dflt TRt))).any (undT rv nm)
def turA (r : LR) (pt : Int) (i : Nat) : Bool := (eQ (r.getD i (Ty.dflt TRt))).any (turT pt) || (eF (r.getD i (Ty.dflt TRt))).any (turT pt)
theorem may_sec {a : LS} {b c : LP} {r : LR} (h : mayL a b c r = true) : ∀ i, i < r.length → (∀ x ∈ eP (r.getD i (Ty.dflt TRt)), 0 ≤ x) ∧ (∀ x ∈ eO (r.getD i (Ty.dflt TRt)), 0 ≤ x) := by
 unfold mayL at h
 rw [Bool.and_eq_true] at h
 have h := h.2
 simp only [Bool.and_eq_true] at h
 obtain ⟨h5, h6, h7, h8⟩ := h
 intro i hi
 have k := List.all_eq_true.1 h7 i (List.mem_range'_1.2 (by omega))
 unfold okR mayR at k
 simp only [Bool.and_eq_true, decide_eq_true_eq] at k
 obtain ⟨k1, k2, k3, k4, k5, k6⟩ := k
 exact ⟨fun x hx => ((inB_t k3).2 x hx).1, fun x hx => ((inB_t k5).2 x hx).1⟩
theorem o139c (l : List (Ty.den TI)) (oc nm rv : Int) (cm : List (Ty.den TCmd)) (hl : l.length ≤ 100000) (hp : ∀ x ∈ l, (0 : Int) ≤ x) : ∃ z, op_s139 [.l TI l, .n oc, .n nm, .n rv, .l TCmd cm] = some (0, [.n z]) ∧ decide (z ≥ 0) = l.any (bitU oc) := by
 have key : ∀ i, i < l.length → (st_Ls139_2 [.k 0, .l TI l, .n (l.length : Int), .n (i : Int), .n oc, .n nm, .n rv, .l TCmd cm]).sel = some (bif bitU oc (l.getD i (0 : Int)) then .stop 1 [.n (i : Int)] else .go [.k 0, .l TI l, .n (l.length : Int), .n ((i + 1 : Nat) : Int), .n oc, .n nm, .n rv, .l TCmd cm]) := by
  intro i hi
  have hq := hp _ (getD_mem (d := (0 : Int)) hi)
  refine fn_Ls139_2_t_im _ _ _ _ _ _ _ (by omega) rfl _ ?_
  unfold fn_Ls139_2_t
  refine sel_t (dt (show (i : Int) < (l.length : Int) by omega)) ?_
  refine sel_t (nneg_t hq) ?_
  cases h : bitU oc (l.getD i (0 : Int)) with
  | true => exact sel_t h rfl
  | false => refine sel_f h ?_; rw [w1n i (by omega)]; rfl
 have stop : (st_Ls139_2 [.k 0, .l TI l, .n (l.length : Int), .n (l.length : Int), .n oc, .n nm, .n rv, .l TCmd cm]).sel = some (.stop 0 []) := by
  refine fn_Ls139_2_t_im _ _ _ _ _ _ _ (by omega) rfl _ ?_
  unfold fn_Ls139_2_t
  exact sel_f (df (show ¬ (l.length : Int) < (l.length : Int) by omega)) rfl
 have e := iter_find (st := st_Ls139_2) (fun i => [.k 0, .l TI l, .n (l.length : Int), .n (i : Int), .n oc, .n nm, .n rv, .l TCmd cm]) l.length (fun i => bitU oc (l.getD i (0 : Int))) (fun k => (1, [.n (k : Int)])) (0, []) (fun i hi h => by have := key i hi; rw [h] at this; exact this) (fun i hi h => by have := key i hi; rw [h] at this; exact this) stop FU (by unfold FU; omega)
 rw [← op_Ls139_2_eq] at e
 have ha := any_rng l (0 : Int) (bitU oc)
 rw [op_s139_eq]
 cases hf : firstHit (fun i => bitU oc (l.getD i (0 : Int))) l.length with
 | none =>
  rw [hf] at e
  refine ⟨-1, ?_, ?_⟩
  ·refine fn_s139_t_im _ _ _ _ _ _ ?_
   unfold fn_s139_t
   dsimp only
   erw [e]; exact sel_t rfl rfl
  ·rw [← ha]
   refine (?_ : _ = false).symm
   rw [List.any_eq_false]
   intro i hi
   rw [List.mem_range'_1] at hi
   rw [firstHit_none hf i (by omega)]; simp
 | some k =>
  rw [hf] at e
  obtain ⟨g1, g2', _⟩ := firstHit_some hf
  refine ⟨(k : Int), ?_, ?_⟩
  ·refine fn_s139_t_im _ _ _ _ _ _ ?_
   unfold fn_s139_t
   dsimp only
   erw [e]; exact sel_f rfl (sel_t rfl rfl)
  ·rw [← ha, dt (show (k : Int) ≥ 0 by omega)]
   exact (List.any_eq_true.2 ⟨k, List.mem_range'_1.2 (by omega), g2'⟩).symm
theorem o145a (l : List (Ty.den TNd)) (rv nm : Int) (hl : l.length ≤ 100000) (hp : ∀ d ∈ l, 0 ≤ f1 d) : ∃ z, op_s145a [.l TNd l, .n rv, .n nm] = some (0, [.n z]) ∧ decide (z ≥ 0) = l.any (undT rv nm) := by
 have key : ∀ i, i < l.length → (st_Ls145a_2 [.k 0, .l TNd l, .n (l.length : Int), .n (i : Int), .n rv, .n nm]).sel = some (bif undT rv nm (l.getD i (Ty.dflt TNd)) then .stop 1 [.n (i : Int)] else .go [.k 0, .l TNd l, .n (l.length : Int), .n ((i + 1 : Nat) : Int), .n rv, .n nm]) := by
  intro i hi
  have hq := hp _ (getD_mem (d := (Ty.dflt TNd)) hi)
  refine fn_Ls145a_2_t_im _ _ _ _ _ (by omega) rfl _ ?_
  unfold fn_Ls145a_2_t
  refine sel_t (dt (show (i : Int) < (l.length : Int) by omega)) ?_
  cases hg : g2 (l.getD i (Ty.dflt TNd)) with
  | true =>
   have hu : undT rv nm (l.getD i (Ty.dflt TNd)) = zerU rv (f1 (l.getD i (Ty.dflt TNd))) := by unfold undT; rw [hg]; rfl
   rw [hu]
   refine sel_t hg (sel_t (show (!decide (f1 (l.getD i (Ty.dflt TNd)) < 0)) = true by rw [df (by omega)]; rfl) ?_)
   cases h : zerU rv (f1 (l.getD i (Ty.dflt TNd))) with
   | true => exact sel_t h rfl
   | false => refine sel_f h ?_; rw [w1n i (by omega)]; rfl
  | false =>
   have hu : undT rv nm (l.getD i (Ty.dflt TNd)) = zerU nm (f1 (l.getD i (Ty.dflt TNd))) := by unfold undT; rw [hg]; rfl
   rw [hu]
   refine sel_f hg (sel_t (show (!decide (f1 (l.getD i (Ty.dflt TNd)) < 0)) = true by rw [df (by omega)]; rfl) ?_)
   cases h : zerU nm (f1 (l.getD i (Ty.dflt TNd))) with
   | true => exact sel_t h rfl
   | false => refine sel_f h ?_; rw [w1n i (by omega)]; rfl
 have stop : (st_Ls145a_2 [.k 0, .l TNd l, .n (l.length : Int), .n (l.length : Int), .n rv, .n nm]).sel = some (.stop 0 []) := by
  refine fn_Ls145a_2_t_im _ _ _ _ _ (by omega) rfl _ ?_
  unfold fn_Ls145a_2_t
  exact sel_f (df (show ¬ (l.length : Int) < (l.length : Int) by omega)) rfl
 have e := iter_find (st := st_Ls145a_2) (fun i => [.k 0, .l TNd l, .n (l.length : Int), .n (i : Int), .n rv, .n nm]) l.length (fun i => undT rv nm (l.getD i (Ty.dflt TNd))) (fun k => (1, [.n (k : Int)])) (0, []) (fun i hi h => by have := key i hi; rw [h] at this; exact this) (fun i hi h => by have := key i hi; rw [h] at this; exact this) stop FU (by unfold FU; omega)
 rw [← op_Ls145a_2_eq] at e
 have ha := any_rng l (Ty.dflt TNd) (undT rv nm)
 rw [op_s145a_eq]
 cases hf : firstHit (fun i => undT rv nm (l.getD i (Ty.dflt TNd))) l.length with
 | none =>
  rw [hf] at e
  refine ⟨-1, ?_, ?_⟩
  ·refine fn_s145a_t_im _ _ _ _ ?_
   unfold fn_s145a_t
   dsimp only
   erw [e]; exact sel_t rfl rfl
  ·rw [← ha]
   refine (?_ : _ = false).symm
   rw [List.any_eq_false]
   intro i hi
   rw [List.mem_range'_1] at hi
   rw [firstHit_none hf i (by omega)]; simp
 | some k =>
  rw [hf] at e
  obtain ⟨g1, g2', _⟩ := firstHit_some hf
  refine ⟨(k : Int), ?_, ?_⟩
  ·refine fn_s145a_t_im _ _ _ _ ?_
   unfold fn_s145a_t
   dsimp only
   erw [e]; exact sel_f rfl (sel_t rfl rfl)
  ·rw [← ha, dt (show (k : Int) ≥ 0 by omega)]
   exact (List.any_eq_true.2 ⟨k, List.mem_range'_1.2 (by omega), g2'⟩).symm
theorem o145b (l : List (Ty.den TNd)) (pr pt : Int) (hl : l.length ≤ 100000) (hp : ∀ d ∈ l, 0 ≤ f1 d) : ∃ z, op_s145b [.l TNd l, .n pr, .n pt] = some (0, [.n z]) ∧ decide (z ≥ 0) = l.any (turT pt) := by
 have key : ∀ i, i < l.length → (st_Ls145b_2 [.k 0, .l TNd l, .n (l.length : Int), .n (i : Int), .n pr, .n pt]).sel = some (bif turT pt (l.getD i (Ty.dflt TNd)) then .stop 1 [.n (i : Int)] else .go [.k 0, .l TNd l, .n (l.length : Int), .n ((i + 1 : Nat) : Int), .n pr, .n pt]) := by
  intro i hi
  have hq := hp _ (getD_mem (d := (Ty.dflt TNd)) hi)
  refine fn_Ls145b_2_t_im _ _ _ _ _ (by omega) rfl _ ?_
  unfold fn_Ls145b_2_t
  refine sel_t (dt (show (i : Int) < (l.length : Int) by omega)) ?_
  refine sel_t (show (!decide (f1 (l.getD i (Ty.dflt TNd)) < 0)) = true by rw [df (by omega)]; rfl) ?_
  cases h : turT pt (l.getD i (Ty.dflt TNd)) with
  | true => exact sel_t h rfl
  | false => refine sel_f h ?_; rw [w1n i (by omega)]; rfl
 have stop : (st_Ls145b_2 [.k 0, .l TNd l, .n (l.length : Int), .n (l.length : Int), .n pr, .n pt]).sel = some (.stop 0 []) := by
  refine fn_Ls145b_2_t_im _ _ _ _ _ (by omega) rfl _ ?_
  unfold fn_Ls145b_2_t
  exact sel_f (df (show ¬ (l.length : Int) < (l.length : Int) by omega)) rfl
 have e := iter_find (st := st_Ls145b_2) (fun i => [.k 0, .l TNd l, .n (l.length : Int), .n (i : Int), .n pr, .n pt]) l.length (fun i => turT pt (l.getD i (Ty.dflt TNd))) (fun k => (1, [.n (k : Int)])) (0, []) (fun i hi h => by have := key i hi; rw [h] at this; exact this) (fun i hi h => by have := key i hi; rw [h] at this; exact this) stop FU (by unfold FU; omega)
 rw [← op_Ls145b_2_eq] at e
 have ha := any_rng l (Ty.dflt TNd) (turT pt)
 rw [op_s145b_eq]
 cases hf : firstHit (fun i => turT pt (l.getD i (Ty.dflt TNd))) l.length with
 | none =>
  rw [hf] at e
  refine ⟨-1, ?_, ?_⟩
  ·refine fn_s145b_t_im _ _ _ _ ?_
   unfold fn_s145b_t
   dsimp only
   erw [e]; exact sel_t rfl rfl
  ·rw [← ha]
   refine (?_ : _ = false).symm
   rw [List.any_eq_false]
   intro i hi
   rw [List.mem_range'_1] at hi
   rw [firstHit_none hf i (by omega)]; simp
 | some k =>
  rw [hf] at e
  obtain ⟨g1, g2', _⟩ := firstHit_some hf
  refine ⟨(k : Int), ?_, ?_⟩
  ·refine fn_s145b_t_im _ _ _ _ ?_
   unfold fn_s145b_t
   dsimp only
   erw [e]; exact sel_f rfl (sel_t rfl rfl)
  ·rw [← ha, dt (show (k : Int) ≥ 0 by omega)]
   exact (List.any_eq_true.2 ⟨k, List.mem_range'_1.2 (by omega), g2'⟩).symm
theorem os103a (a : LS) (b c : LP) (r : LR) (T : List Int) (e : Int) (pr pt : Int)  (hm : mayL a b c r = true) (hT : T.length = r.length) : op_s103a [.l TS a, .l TPt b, .l TPt c, .l TRt r, .l TU T, .n e, .n pr, .n pt, .l TS a, .l TPt b, .l TPt c, .l TRt r, .l TU T, .n e, .n pr, .n pt] = some (0, [.b (shownF r pr (clsA T pr))]) := by
 obtain ⟨lb, lr, hr⟩ := may_rt hm
 have hsec := may_sec hm
 have key : ∀ i, i < r.length → (st_Ls103a_2 [.k 0, .n (r.length : Int), .n (i : Int), .l TS a, .l TPt b, .l TPt c, .l TRt r, .l TU T, .n e, .n pr, .n pt, .l TS a, .l TPt b, .l TPt c, .l TRt r, .l TU T, .n e, .n pr, .n pt]).sel = some (bif bitU pr (i : Int) && (clsA T pr) i then .stop 1 [.b true] else .go [.k 0, .n (r.length : Int), .n ((i + 1 : Nat) : Int), .l TS a, .l TPt b, .l TPt c, .l TRt r, .l TU T, .n e, .n pr, .n pt, .l TS a, .l TPt b, .l TPt c, .l TRt r, .l TU T, .n e, .n pr, .n pt]) := by
  intro i hi
  obtain ⟨_, ⟨p1, p2, p3, p4⟩, p5, p6⟩ := hr i hi
  obtain ⟨s1, s2⟩ := hsec i hi
  refine fn_Ls103a_2_t_im _ _ _ _ _ _ _ _ _ _ (by omega) rfl (congrArg Int.ofNat hT) _ ?_
  unfold fn_Ls103a_2_t
  refine sel_t (dt (show (i : Int) < (r.length : Int) by omega)) ?_
  cases h1 : bitU pr (i : Int) with
  | false => refine sel_f h1 ?_; rw [w1n i (by omega)]; rfl
  | true =>
   refine sel_t h1 ?_
   rw [Bool.true_and]
   show _ = some (bif (iand IntKind.u64 (T.getD i 0) pr != (0 : Int)) then _ else _)
   cases h2 : (iand IntKind.u64 (T.getD i 0) pr != (0 : Int)) with
   | true => exact sel_t h2 rfl
   | false => refine sel_f h2 ?_; rw [w1n i (by omega)]; rfl
 have stop : (st_Ls103a_2 [.k 0, .n (r.length : Int), .n (r.length : Int), .l TS a, .l TPt b, .l TPt c, .l TRt r, .l TU T, .n e, .n pr, .n pt, .l TS a, .l TPt b, .l TPt c, .l TRt r, .l TU T, .n e, .n pr, .n pt]).sel = some (.stop 0 []) := by
  refine fn_Ls103a_2_t_im _ _ _ _ _ _ _ _ _ _ (by omega) rfl (congrArg Int.ofNat hT) _ ?_
  unfold fn_Ls103a_2_t
  exact sel_f (df (show ¬ (r.length : Int) < (r.length : Int) by omega)) rfl
 have ee : op_Ls103a_2 [.k 0, .n (r.length : Int), .n (0 : Int), .l TS a, .l TPt b, .l TPt c, .l TRt r, .l TU T, .n e, .n pr, .n pt, .l TS a, .l TPt b, .l TPt c, .l TRt r, .l TU T, .n e, .n pr, .n pt] = some (bif shownF r pr (clsA T pr) then (1, [.b true]) else (0, [])) := by
  unfold shownF
  rw [op_Ls103a_2_eq]
  exact iter_any (st := st_Ls103a_2) (fun i => [.k 0, .n (r.length : Int), .n (i : Int), .l TS a, .l TPt b, .l TPt c, .l TRt r, .l TU T, .n e, .n pr, .n pt, .l TS a, .l TPt b, .l TPt c, .l TRt r, .l TU T, .n e, .n pr, .n pt]) r.length (fun i => bitU pr (i : Int) && (clsA T pr) i) (1, [.b true]) (0, []) (fun i hi h => by have := key i hi; rw [h] at this; exact this) (fun i hi h => by have := key i hi; rw [h] at this; exact this) stop FU (by unfold FU; omega)
 rw [op_s103a_eq]
 refine fn_s103a_t_im _ _ _ _ _ _ _ _ _ ?_
 unfold fn_s103a_t
 dsimp only
 erw [ee]
 cases shownF r pr (clsA T pr) with
 | true => exact sel_f rfl (sel_t rfl rfl)
 | false => exact sel_t rfl rfl
theorem os103b (a : LS) (b c : LP) (r : LR) (T : List Int) (e : Int) (pr pt : Int) (oc nm rv : Int) (cm : List (Ty.den TCmd)) (hm : mayL a b c r = true) (hT : T.length = r.length) : op_s103b [.l TS a, .l TPt b, .l TPt c, .l TRt r, .l TU T, .n e, .n pr, .n pt, .l TS a, .l TPt b, .l TPt c, .l TRt r, .l TU T, .n e, .n oc, .n nm, .n rv, .l TCmd cm] = some (0, [.b (shownF r pr (occA r oc))]) := by
 obtain ⟨lb, lr, hr⟩ := may_rt hm
 have hsec := may_sec hm
 have key : ∀ i, i < r.length → (st_Ls103b_2 [.k 0, .n (r.length : Int), .n (i : Int), .l TS a, .l TPt b, .l TPt c, .l TRt r, .l TU T, .n e, .n oc, .n nm, .n rv, .l TCmd cm, .l TS a, .l TPt b, .l TPt c, .l TRt r, .l TU T, .n e, .n pr, .n pt]).sel = some (bif bitU pr (i : Int) && (occA r oc) i then .stop 1 [.b true] else .go [.k 0, .n (r.length : Int), .n ((i + 1 : Nat) : Int), .l TS a, .l TPt b, .l TPt c, .l TRt r, .l TU T, .n e, .n oc, .n nm, .n rv, .l TCmd cm, .l TS a, .l TPt b, .l TPt c, .l TRt r, .l TU T, .n e, .n pr, .n pt]) := by
  intro i hi
  obtain ⟨_, ⟨p1, p2, p3, p4⟩, p5, p6⟩ := hr i hi
  obtain ⟨s1, s2⟩ := hsec i hi
  refine fn_Ls103b_2_t_im _ _ _ _ _ _ _ _ _ _ _ _ _ _ (by omega) rfl (congrArg Int.ofNat hT) _ ?_
  unfold fn_Ls103b_2_t
  refine sel_t (dt (show (i : Int) < (r.length : Int) by omega)) ?_
  cases h1 : bitU pr (i : Int) with
  | false => refine sel_f h1 ?_; rw [w1n i (by omega)]; rfl
  | true =>
   refine sel_t h1 ?_
   rw [Bool.true_and]
   obtain ⟨z1, e1, d1⟩ := o139c (eP (r.getD i (Ty.dflt TRt))) oc nm rv cm (Nat.le_trans p1 (by decide)) s1
   obtain ⟨z2, e2, d2⟩ := o139c (eO (r.getD i (Ty.dflt TRt))) oc nm rv cm (Nat.le_trans p3 (by decide)) s2
   have d1 : decide (z1 ≥ 0) = (eP (r.getD i (Ty.dflt TRt))).any (bitU oc) := d1
   have d2 : decide (z2 ≥ 0) = (eO (r.getD i (Ty.dflt TRt))).any (bitU oc) := d2
   show _ = some (bif ((eP (r.getD i (Ty.dflt TRt))).any (bitU oc) || (eO (r.getD i (Ty.dflt TRt))).any (bitU oc)) then _ else _)
   rw [← d1, ← d2]
   dsimp only
   erw [e1]; refine sel_t rfl ?_
   cases hz1 : decide (z1 ≥ 0) with
   | true => exact sel_t hz1 rfl
   | false =>
    refine sel_f hz1 ?_
    erw [e2]; refine sel_t rfl ?_
    cases hz2 : decide (z2 ≥ 0) with
    | true => exact sel_t hz2 rfl
    | false => refine sel_f hz2 ?_; rw [w1n i (by omega)]; rfl
 have stop : (st_Ls103b_2 [.k 0, .n (r.length : Int), .n (r.length : Int), .l TS a, .l TPt b, .l TPt c, .l TRt r, .l TU T, .n e, .n oc, .n nm, .n rv, .l TCmd cm, .l TS a, .l TPt b, .l TPt c, .l TRt r, .l TU T, .n e, .n pr, .n pt]).sel = some (.stop 0 []) := by
  refine fn_Ls103b_2_t_im _ _ _ _ _ _ _ _ _ _ _ _ _ _ (by omega) rfl (congrArg Int.ofNat hT) _ ?_
  unfold fn_Ls103b_2_t
  exact sel_f (df (show ¬ (r.length : Int) < (r.length : Int) by omega)) rfl
 have ee : op_Ls103b_2 [.k 0, .n (r.length : Int), .n (0 : Int), .l TS a, .l TPt b, .l TPt c, .l TRt r, .l TU T, .n e, .n oc, .n nm, .n rv, .l TCmd cm, .l TS a, .l TPt b, .l TPt c, .l TRt r, .l TU T, .n e, .n pr, .n pt] = some (bif shownF r pr (occA r oc) then (1, [.b true]) else (0, [])) := by
  unfold shownF
  rw [op_Ls103b_2_eq]
  exact iter_any (st := st_Ls103b_2) (fun i => [.k 0, .n (r.length : Int), .n (i : Int), .l TS a, .l TPt b, .l TPt c, .l TRt r, .l TU T, .n e, .n oc, .n nm, .n rv, .l TCmd cm, .l TS a, .l TPt b, .l TPt c, .l TRt r, .l TU T, .n e, .n pr, .n pt]) r.length (fun i => bitU pr (i : Int) && (occA r oc) i) (1, [.b true]) (0, []) (fun i hi h => by have := key i hi; rw [h] at this; exact this) (fun i hi h => by have := key i hi; rw [h] at this; exact this) stop FU (by unfold FU; omega)
 rw [op_s103b_eq]
 refine fn_s103b_t_im _ _ _ _ _ _ _ _ _ _ _ _ _ ?_
 unfold fn_s103b_t
 dsimp only
 erw [ee]
 cases shownF r pr (occA r oc) with
 | true => exact sel_f rfl (sel_t rfl rfl)
 | false => exact sel_t rfl rfl
theorem os103c (a : LS) (b c : LP) (r : LR) (T : List Int) (e : Int) (pr pt : Int) (rv nm : Int) (hm : mayL a b c r = true) (hT : T.length = r.length) : op_s103c [.l TS a, .l TPt b, .l TPt c, .l TRt r, .l TU T, .n e, .n pr, .n pt, .l TS a, .l TPt b, .l TPt c, .l TRt r, .l TU T, .n e, .n rv, .n nm] = some (0, [.b (shownF r pr (undA r rv nm))]) := by
 obtain ⟨lb, lr, hr⟩ := may_rt hm
 have hsec := may_sec hm
 have key : ∀ i, i < r.length → (st_Ls103c_2 [.k 0, .n (r.length : Int), .n (i : Int), .l TS a, .l TPt b, .l TPt c, .l TRt r, .l TU T, .n e, .n rv, .n nm, .l TS a, .l TPt b, .l TPt c, .l TRt r, .l TU T, .n e, .n pr, .n pt]).sel = some (bif bitU pr (i : Int) && (undA r rv nm) i then .stop 1 [.b true] else .go [.k 0, .n (r.length : Int), .n ((i + 1 : Nat) : Int), .l TS a, .l TPt b, .l TPt c, .l TRt r, .l TU T, .n e, .n rv, .n nm, .l TS a, .l TPt b, .l TPt c, .l TRt r, .l TU T, .n e, .n pr, .n pt]) := by
  intro i hi
  obtain ⟨_, ⟨p1, p2, p3, p4⟩, p5, p6⟩ := hr i hi
  obtain ⟨s1, s2⟩ := hsec i hi
  refine fn_Ls103c_2_t_im _ _ _ _ _ _ _ _ _ _ _ _ (by omega) rfl (congrArg Int.ofNat hT) _ ?_
  unfold fn_Ls103c_2_t
  refine sel_t (dt (show (i : Int) < (r.length : Int) by omega)) ?_
  cases h1 : bitU pr (i : Int) with
  | false => refine sel_f h1 ?_; rw [w1n i (by omega)]; rfl
  | true =>
   refine sel_t h1 ?_
   rw [Bool.true_and]
   obtain ⟨z1, e1, d1⟩ := o145a (eQ (r.getD i (Ty.dflt TRt))) rv nm (Nat.le_trans p2 (by decide)) (fun d hd => (p5 d hd).1)
   obtain ⟨z2, e2, d2⟩ := o145a (eF (r.getD i (Ty.dflt TRt))) rv nm (Nat.le_trans p4 (by decide)) (fun d hd => (p6 d hd).1)
   have d1 : decide (z1 ≥ 0) = (eQ (r.getD i (Ty.dflt TRt))).any (undT rv nm) := d1
   have d2 : decide (z2 ≥ 0) = (eF (r.getD i (Ty.dflt TRt))).any (undT rv nm) := d2
   show _ = some (bif ((eQ (r.getD i (Ty.dflt TRt))).any (undT rv nm) || (eF (r.getD i (Ty.dflt TRt))).any (undT rv nm)) then _ else _)
   rw [← d1, ← d2]
   dsimp only
   erw [e1]; refine sel_t rfl ?_
   cases hz1 : decide (z1 ≥ 0) with
   | true => exact sel_t hz1 rfl
   | false =>
    refine sel_f hz1 ?_
    erw [e2]; refine sel_t rfl ?_
    cases hz2 : decide (z2 ≥ 0) with
    | true => exact sel_t hz2 rfl
    | false => refine sel_f hz2 ?_; rw [w1n i (by omega)]; rfl
 have stop : (st_Ls103c_2 [.k 0, .n (r.length : Int), .n (r.length : Int), .l TS a, .l TPt b, .l TPt c, .l TRt r, .l TU T, .n e, .n rv, .n nm, .l TS a, .l TPt b, .l TPt c, .l TRt r, .l TU T, .n e, .n pr, .n pt]).sel = some (.stop 0 []) := by
  refine fn_Ls103c_2_t_im _ _ _ _ _ _ _ _ _ _ _ _ (by omega) rfl (congrArg Int.ofNat hT) _ ?_
  unfold fn_Ls103c_2_t
  exact sel_f (df (show ¬ (r.length : Int) < (r.length : Int) by omega)) rfl
 have ee : op_Ls103c_2 [.k 0, .n (r.length : Int), .n (0 : Int), .l TS a, .l TPt b, .l TPt c, .l TRt r, .l TU T, .n e, .n rv, .n nm, .l TS a, .l TPt b, .l TPt c, .l TRt r, .l TU T, .n e, .n pr, .n pt] = some (bif shownF r pr (undA r rv nm) then (1, [.b true]) else (0, [])) := by
  unfold shownF
  rw [op_Ls103c_2_eq]
  exact iter_any (st := st_Ls103c_2) (fun i => [.k 0, .n (r.length : Int), .n (i : Int), .l TS a, .l TPt b, .l TPt c, .l TRt r, .l TU T, .n e, .n rv, .n nm, .l TS a, .l TPt b, .l TPt c, .l TRt r, .l TU T, .n e, .n pr, .n pt]) r.length (fun i => bitU pr (i : Int) && (undA r rv nm) i) (1, [.b true]) (0, []) (fun i hi h => by have := key i hi; rw [h] at this; exact this) (fun i hi h => by have := key i hi; rw [h] at this; exact this) stop FU (by unfold FU; omega)
 rw [op_s103c_eq]
 refine fn_s103c_t_im _ _ _ _ _ _ _ _ _ _ _ ?_
 unfold fn_s103c_t
 dsimp only
 erw [ee]
 cases shownF r pr (undA r rv nm) with
 | true => exact sel_f rfl (sel_t rfl rfl)
 | false => exact sel_t rfl rfl
theorem os103d (a : LS) (b c : LP) (r : LR) (T : List Int) (e : Int) (pr pt : Int)  (hm : mayL a b c r = true) (hT : T.length = r.length) : op_s103d [.l TS a, .l TPt b, .l TPt c, .l TRt r, .l TU T, .n e, .n pr, .n pt, .l TS a, .l TPt b, .l TPt c, .l TRt r, .l TU T, .n e, .n pr, .n pt] = some (0, [.b (shownF r pr (turA r pt))]) := by
 obtain ⟨lb, lr, hr⟩ := may_rt hm
 have hsec := may_sec hm
 have key : ∀ i, i < r.length → (st_Ls103d_2 [.k 0, .n (r.length : Int), .n (i : Int), .l TS a, .l TPt b, .l TPt c, .l TRt r, .l TU T, .n e, .n pr, .n pt, .l TS a, .l TPt b, .l TPt c, .l TRt r, .l TU T, .n e, .n pr, .n pt]).sel = some (bif bitU pr (i : Int) && (turA r pt) i then .stop 1 [.b true] else .go [.k 0, .n (r.length : Int), .n ((i + 1 : Nat) : Int), .l TS a, .l TPt b, .l TPt c, .l TRt r, .l TU T, .n e, .n pr, .n pt, .l TS a, .l TPt b, .l TPt c, .l TRt r, .l TU T, .n e, .n pr, .n pt]) := by
  intro i hi
  obtain ⟨_, ⟨p1, p2, p3, p4⟩, p5, p6⟩ := hr i hi
  obtain ⟨s1, s2⟩ := hsec i hi
  refine fn_Ls103d_2_t_im _ _ _ _ _ _ _ _ _ _ (by omega) rfl (congrArg Int.ofNat hT) _ ?_
  unfold fn_Ls103d_2_t
  refine sel_t (dt (show (i : Int) < (r.length : Int) by omega)) ?_
  cases h1 : bitU pr (i : Int) with
  | false => refine sel_f h1 ?_; rw [w1n i (by omega)]; rfl
  | true =>
   refine sel_t h1 ?_
   rw [Bool.true_and]
   obtain ⟨z1, e1, d1⟩ := o145b (eQ (r.getD i (Ty.dflt TRt))) pr pt (Nat.le_trans p2 (by decide)) (fun d hd => (p5 d hd).1)
   obtain ⟨z2, e2, d2⟩ := o145b (eF (r.getD i (Ty.dflt TRt))) pr pt (Nat.le_trans p4 (by decide)) (fun d hd => (p6 d hd).1)
   have d1 : decide (z1 ≥ 0) = (eQ (r.getD i (Ty.dflt TRt))).any (turT pt) := d1
   have d2 : decide (z2 ≥ 0) = (eF (r.getD i (Ty.dflt TRt))).any (turT pt) := d2
   show _ = some (bif ((eQ (r.getD i (Ty.dflt TRt))).any (turT pt) || (eF (r.getD i (Ty.dflt TRt))).any (turT pt)) then _ else _)
   rw [← d1, ← d2]
   dsimp only
   erw [e1]; refine sel_t rfl ?_
   cases hz1 : decide (z1 ≥ 0) with
   | true => exact sel_t hz1 rfl
   | false =>
    refine sel_f hz1 ?_
    erw [e2]; refine sel_t rfl ?_
    cases hz2 : decide (z2 ≥ 0) with
    | true => exact sel_t hz2 rfl
    | false => refine sel_f hz2 ?_; rw [w1n i (by omega)]; rfl
 have stop : (st_Ls103d_2 [.k 0, .n (r.length : Int), .n (r.length : Int), .l TS a, .l TPt b, .l TPt c, .l TRt r, .l TU T, .n e, .n pr, .n pt, .l TS a, .l TPt b, .l TPt c, .l TRt r, .l TU T, .n e, .n pr, .n pt]).sel = some (.stop 0 []) := by
  refine fn_Ls103d_2_t_im _ _ _ _ _ _ _ _ _ _ (by omega) rfl (congrArg Int.ofNat hT) _ ?_
  unfold fn_Ls103d_2_t
  exact sel_f (df (show ¬ (r.length : Int) < (r.length : Int) by omega)) rfl
 have ee : op_Ls103d_2 [.k 0, .n (r.length : Int), .n (0 : Int), .l TS a, .l TPt b, .l TPt c, .l TRt r, .l TU T, .n e, .n pr, .n pt, .l TS a, .l TPt b, .l TPt c, .l TRt r, .l TU T, .n e, .n pr, .n pt] = some (bif shownF r pr (turA r pt) then (1, [.b true]) else (0, [])) := by
  unfold shownF
  rw [op_Ls103d_2_eq]
  exact iter_any (st := st_Ls103d_2) (fun i => [.k 0, .n (r.length : Int), .n (i : Int), .l TS a, .l TPt b, .l TPt c, .l TRt r, .l TU T, .n e, .n pr, .n pt, .l TS a, .l TPt b, .l TPt c, .l TRt r, .l TU T, .n e, .n pr, .n pt]) r.length (fun i => bitU pr (i : Int) && (turA r pt) i) (1, [.b true]) (0, []) (fun i hi h => by have := key i hi; rw [h] at this; exact this) (fun i hi h => by have := key i hi; rw [h] at this; exact this) stop FU (by unfold FU; omega)
 rw [op_s103d_eq]
 refine fn_s103d_t_im _ _ _ _ _ _ _ _ _ ?_
 unfold fn_s103d_t
 dsimp only
 erw [ee]
 cases shownF r pr (turA r pt) with
 | true => exact sel_f rfl (sel_t rfl rfl)
 | false => exact sel_t rfl rfl
def wrF (b : LP) (r : LR) (T : List Int) (e oc rv nm pr pt : Int) : Int :=
 bif e != 0 then 1 else bif ishr IntKind.u64 pr (r.length : Int) != 0 then 2 else bif ishr IntKind.u32 pt (b.length : Int) != 0 then 2
 else bif shownF r pr (clsA T pr) then 3 else bif shownF r pr (occA r oc) then 4 else bif shownF r pr (undA r rv nm) then 5 else bif shownF r pr (turA r pt) then 6 else 0
theorem o67 (a : LS) (b c : LP) (r : LR) (T : List Int) (e : Int) (oc nm rv : Int) (cm : List (Ty.den TCmd)) (pr pt : Int) (h : e ≠ 0 ∨ (mayL a b c r = true ∧ T.length = r.length)) : op_s67 [.l TS a, .l TPt b, .l TPt c, .l TRt r, .l TU T, .n e, .n oc, .n nm, .n rv, .l TCmd cm, .n pr, .n pt] = some (0, [.n (wrF b r T e oc (iandnot IntKind.u32 rv nm) (iandnot IntKind.u32 nm rv) pr pt)]) := by
 rw [op_s67_eq]
 refine fn_s67_t_im _ _ _ _ _ _ _ _ _ _ _ _ _ ?_
 unfold fn_s67_t wrF
 by_cases he : e = 0
 ·obtain ⟨hm, hT⟩ := h.resolve_left (fun q => q he)
  rw [nbf he]
  refine sel_f (nbf he) ?_
  cases h1 : (ishr IntKind.u64 pr (r.length : Int) != 0) with
  | true => exact sel_t rfl rfl
  | false =>
   refine sel_f rfl ?_
   cases h2 : (ishr IntKind.u32 pt (b.length : Int) != 0) with
   | true => exact sel_t rfl rfl
   | false =>
    refine sel_f rfl ?_
    have e1 := os103a a b c r T e pr pt hm hT
    have e2 := os103b a b c r T e pr pt oc nm rv cm hm hT
    have e3 := os103c a b c r T e pr pt (iandnot IntKind.u32 rv nm) (iandnot IntKind.u32 nm rv) hm hT
    have e4 := os103d a b c r T e pr pt hm hT
    dsimp only
    erw [e1]; refine sel_t rfl ?_
    cases shownF r pr (clsA T pr) with
    | true => exact sel_t rfl rfl
    | false =>
     refine sel_f rfl ?_
     erw [e2]; refine sel_t rfl ?_
     cases shownF r pr (occA r oc) with
     | true => exact sel_t rfl rfl
     | false =>
      refine sel_f rfl ?_
      erw [e3]; refine sel_t rfl ?_
      cases shownF r pr (undA r (iandnot IntKind.u32 rv nm) (iandnot IntKind.u32 nm rv)) with
      | true => exact sel_t rfl rfl
      | false =>
       refine sel_f rfl ?_
       erw [e4]; refine sel_t rfl ?_
       cases shownF r pr (turA r pt) with
       | true => exact sel_t rfl rfl
       | false => exact sel_f rfl rfl
 ·rw [nb he]
  exact sel_t (nb he) rfl
end Go.Proofs.Ytfkcodaiiheniaa.Vx
namespace Go.Proofs.Ytfkcodaiiheniaa.Vx
open Go Go.RowKit
set_option linter.unusedVariables false
set_option linter.unusedSimpArgs false
set_option maxRecDepth 100000
set_option maxHeartbeats 1000000
theorem bitU_N (X : B64) (i : Nat) : bitU (N X) (i : Int) = X.getLsbD i := iandB X i
theorem nz {w : Nat} (Y : BitVec w) : (N Y != 0) = !(Y == 0#w) := by
 have e : (0 : Int) = N (0#w) := by unfold N; simp
 show (!(N Y == 0)) = _
 rw [e, N_beq]
theorem nz_f {w : Nat} {Y : BitVec w} : (N Y != 0) = false ↔ Y = 0#w := by rw [nz]; simp
theorem wr0 {b : LP} {r : LR} {T : List Int} {e oc rv nm pr pt : Int} : wrF b r T e oc rv nm pr pt = 0 ↔ ((e != 0) = false ∧ (ishr IntKind.u64 pr (r.length : Int) != 0) = false ∧ (ishr IntKind.u32 pt (b.length : Int) != 0) = false ∧ shownF r pr (clsA T pr) = false ∧ shownF r pr (occA r oc) = false ∧ shownF r pr (undA r rv nm) = false ∧ shownF r pr (turA r pt) = false) := by
 unfold wrF
 generalize (e != 0) = x1
 generalize (ishr IntKind.u64 pr (r.length : Int) != 0) = x2
 generalize (ishr IntKind.u32 pt (b.length : Int) != 0) = x3
 generalize shownF r pr (clsA T pr) = x4
 generalize shownF r pr (occA r oc) = x5
 generalize shownF r pr (undA r rv nm) = x6
 generalize shownF r pr (turA r pt) = x7
 cases x1
 ·cases x2
  ·cases x3
   ·cases x4
    ·cases x5
     ·cases x6
      ·cases x7 <;> simp
      ·simp
     ·simp
    ·simp
   ·simp
  ·simp
 ·simp
theorem shown_le {r : LR} {pr pr' : Int} {ask ask' : Nat → Bool} (h : shownF r pr ask = false) (h1 : ∀ i : Nat, bitU pr' (i : Int) = true → bitU pr (i : Int) = true) (h2 : ∀ i, ask' i = true → ask i = true) : shownF r pr' ask' = false := by
 unfold shownF at *
 rw [List.any_eq_false] at *
 intro i hi hh
 refine h i hi ?_
 rw [Bool.and_eq_true] at hh ⊢
 exact ⟨h1 i hh.1, h2 i hh.2⟩
theorem and_le {X M : B64} (i : Nat) (h : bitU (N (X &&& M)) (i : Int) = true) : bitU (N X) (i : Int) = true := by
 rw [bitU_N] at *
 rw [BitVec.getLsbD_and, Bool.and_eq_true] at h
 exact h.1
theorem less0 {b : LP} {r : LR} {T : LB64} {e oc rv nm pt : Int} {X M : B64} (h : wrF b r (NL T) e oc rv nm (N X) pt = 0) : wrF b r (NL T) e oc rv nm (iand IntKind.u64 (N X) (N M)) pt = 0 := by
 rw [iand_u64]
 obtain ⟨h1, h2, h3, h4, h5, h6, h7⟩ := wr0.1 h
 refine wr0.2 ⟨h1, ?_, h3, shown_le h4 and_le (fun i hi => ?_), shown_le h5 and_le (fun _ q => q), shown_le h6 and_le (fun _ q => q), shown_le h7 and_le (fun _ q => q)⟩
 ·rw [ishr_u64, nz_f] at h2 ⊢
  rw [BitVec.ushiftRight_and_distrib, h2, BitVec.zero_and]
 ·unfold clsA at *
  rw [NL_at, iand_u64, nz] at hi ⊢
  cases hz : (T.getD i 0#64 &&& X == 0#64) with
  | false => rfl
  | true =>
   have e0 : T.getD i 0#64 &&& X = 0#64 := by simpa using hz
   rw [← BitVec.and_assoc, e0, BitVec.zero_and] at hi
   simp at hi
theorem shown_none (r : LR) (ask : Nat → Bool) : shownF r 0 ask = false := by
 unfold shownF
 rw [List.any_eq_false]
 intro i hi hh
 rw [Bool.and_eq_true] at hh
 have e : (0 : Int) = N (0#64) := by unfold N; simp
 have h := hh.1
 rw [e, bitU_N] at h
 simp at h
theorem ofInt_N (Y : B64) : BitVec.ofInt 32 (N Y) = Y.setWidth 32 := by
 apply BitVec.eq_of_toNat_eq
 rw [BitVec.toNat_ofInt, BitVec.toNat_setWidth]
 unfold N
 omega
theorem none0 {b : LP} {r : LR} {T : List Int} {oc rv nm : Int} {P : BitVec 32} (hb : b.length ≤ 32) : wrF b r T 0 oc rv nm 0 (iand IntKind.u32 (N P) (IntKind.wrap .u32 (N (firB b.length)))) = 0 := by
 refine wr0.2 ⟨rfl, ?_, ?_, shown_none _ _, shown_none _ _, shown_none _ _, shown_none _ _⟩
 ·have e : (0 : Int) = N (0#64) := by unfold N; simp
  have e2 : ishr IntKind.u64 (0 : Int) (r.length : Int) = N ((0#64) >>> r.length) := by rw [← ishr_u64, ← e]
  rw [e2, nz_f, BitVec.zero_ushiftRight]
 ·rw [wrapN_u32, ofInt_N, iand_u32, ishr_u32, nz_f]
  apply BitVec.eq_of_getLsbD_eq
  intro i hi
  rw [BitVec.getLsbD_ushiftRight, BitVec.getLsbD_and, BitVec.getLsbD_setWidth, firB_bit (by omega), df (show ¬ b.length + i < b.length by omega)]
  simp
theorem imin_le {n : Nat} (h : n ≤ 32) : imin (n : Int) 32 = (n : Int) := by
 unfold imin
 simp
 try omega
theorem W12_true (a : LS) (b c : LP) (r : LR) (oc nm rv : Int) (cm : List (Ty.den TCmd)) (X M : B64) (P : BitVec 32) (hs : okS a b c r) : (ev_W12 [.l TS a, .l TPt b, .l TPt c, .l TRt r, .n oc, .n nm, .n rv, .l TCmd cm, .n (N X), .n (N P), .n (N M)]).sel = some true := by
 refine fn_W12_t_im _ _ _ _ _ _ _ _ _ _ _ _ ?_
 unfold fn_W12_t
 obtain ⟨z, e1⟩ := o15 a b c r 400 hs
 dsimp only
 erw [e1]; refine sel_t rfl ?_
 by_cases h : z > 400
 ·exact sel_t (dt h) rfl
 refine sel_f (df h) ?_
 by_cases h' : (List.length cm : Int) > 100
 ·exact sel_t (dt h') rfl
 refine sel_f (df h') ?_
 have e2 := o17c a b c r hs
 have e3 := o19 a b c r hs
 have e4 := q_e27 (imin (b.length : Int) 32)
 by_cases hc : (ckA a b c r).1 = 0
 ·rw [if_pos hc] at e2
  obtain ⟨hm, _⟩ := (ck_ok a b c r).1 hc
  have lb := (may_rt hm).1
  rw [imin_le lb, Int.toNat_natCast, Nat.min_eq_left (by omega)] at e4
  have hl : (NL (tabB b r)).length = r.length := by rw [NL_len]; exact tabI_len ..
  have f1 := o67 a b c r (NL (tabB b r)) 0 oc nm rv cm (N X) (N P) (Or.inr ⟨hm, hl⟩)
  have f2 := o67 a b c r (NL (tabB b r)) 0 oc nm rv cm (iand IntKind.u64 (N X) (N M)) (N P) (Or.inr ⟨hm, hl⟩)
  have f3 := o67 a b c r (NL (tabB b r)) 0 oc nm rv cm 0 (iand IntKind.u32 (N P) (IntKind.wrap .u32 (N (firB b.length)))) (Or.inr ⟨hm, hl⟩)
  rw [none0 lb] at f3
  erw [e2]; refine sel_t rfl ?_
  erw [f1]; refine sel_t rfl ?_
  by_cases hw : wrF b r (NL (tabB b r)) 0 oc (iandnot IntKind.u32 rv nm) (iandnot IntKind.u32 nm rv) (N X) (N P) = 0
  ·refine sel_t (bt hw) ?_
   rw [less0 hw] at f2
   erw [f2]; refine sel_t rfl (sel_f rfl ?_)
   erw [e3]; refine sel_t rfl ?_
   erw [imin_le lb, e4]; refine sel_t rfl ?_
   erw [f3]; refine sel_t rfl (sel_t ?_ rfl)
   show ((0 : Int) == 0) == ((ckA a b c r).1 == 0)
   rw [bt hc]; rfl
  ·refine sel_f (bf hw) ?_
   erw [e3]; refine sel_t rfl ?_
   erw [imin_le lb, e4]; refine sel_t rfl ?_
   erw [f3]; refine sel_t rfl (sel_t ?_ rfl)
   show ((0 : Int) == 0) == ((ckA a b c r).1 == 0)
   rw [bt hc]; rfl
 ·rw [if_neg hc] at e2
  have w1 : ∀ pr pt, wrF b r [] (ckA a b c r).1 oc (iandnot IntKind.u32 rv nm) (iandnot IntKind.u32 nm rv) pr pt = 1 := fun pr pt => by unfold wrF; rw [nb hc]; rfl
  have f := fun pr pt => o67 a b c r [] (ckA a b c r).1 oc nm rv cm pr pt (Or.inl hc)
  have f1 := f (N X) (N P)
  have f3 := f 0 (iand IntKind.u32 (N P) (IntKind.wrap .u32 (N (firB (min (imin (b.length : Int) 32).toNat 64)))))
  rw [w1] at f1 f3
  erw [e2]; refine sel_f rfl (sel_t rfl ?_)
  erw [f1]; refine sel_t rfl (sel_f rfl ?_)
  erw [e3]; refine sel_t rfl ?_
  erw [e4]; refine sel_t rfl ?_
  erw [f3]; refine sel_t rfl (sel_t ?_ rfl)
  show ((1 : Int) == 0) == ((ckA a b c r).1 == 0)
  rw [bf hc]; rfl
end Go.Proofs.Ytfkcodaiiheniaa.Vx
namespace Go.Proofs.Ytfkcodaiiheniaa.Vx
open Go Go.RowKit
set_option linter.unusedVariables false
abbrev TIn : Ty := .pair (.int .u64) (.pair (.int .u32) (.pair (.int .u32) (.sl TCmd)))
abbrev TOu : Ty := .pair (.int .u64) (.int .u32)
theorem u64_w {n : Int} (h : wfD (.int .u64) n = true) : N (BitVec.ofInt 64 n) = n := by
 have h := wfi h
 simp [IntKind.min, IntKind.max, IntKind.bits, IntKind.signed] at h
 exact N_of h.1 (by omega)
theorem u32_w {n : Int} (h : wfD (.int .u32) n = true) : N (BitVec.ofInt 32 n) = n := by
 have h := wfi h
 simp [IntKind.min, IntKind.max, IntKind.bits, IntKind.signed] at h
 exact N_of h.1 (by omega)
theorem W12_all (a : LS) (b c : LP) (r : LR) (oc nm rv : Int) (cm : List (Ty.den TCmd)) (pr pt mk : Int) (hs : okS a b c r) (h1 : wfD (.int .u64) pr = true) (h2 : wfD (.int .u32) pt = true) (h3 : wfD (.int .u64) mk = true) :
  (ev_W12 [.l TS a, .l TPt b, .l TPt c, .l TRt r, .n oc, .n nm, .n rv, .l TCmd cm, .n pr, .n pt, .n mk]).sel = some true := by
 have := W12_true a b c r oc nm rv cm (BitVec.ofInt 64 pr) (BitVec.ofInt 64 mk) (BitVec.ofInt 32 pt) hs
 rw [u64_w h1, u64_w h3, u32_w h2] at this
 exact this
end Go.Proofs.Ytfkcodaiiheniaa.Vx
