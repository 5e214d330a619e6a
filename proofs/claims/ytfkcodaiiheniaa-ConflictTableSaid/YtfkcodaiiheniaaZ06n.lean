import Derived.Test.YtfkcodaiiheniaaVxIm
import Derived.Test.YtfkcodaiiheniaaVxLk
import Derived.Test.YtfkcodaiiheniaaVxLaw
import Derived.Test.YtfkcodaiiheniaaZ06m
import Derived.KernelRfl
import Derived.Test.YtfkcodaiiheniaaVxSize
namespace Go.Proofs.Ytfkcodaiiheniaa.Vx
open Go Go.RowKit
set_option linter.unusedVariables false
set_option linter.unusedSimpArgs false
set_option maxRecDepth 100000
set_option maxHeartbeats 0
@[match_pattern] abbrev TU : Ty := .int .u64
def kLc17_9 (f : OpT) : MBox := mkM 0 [] [(sh 54 [(1, .ptr 0 0), (6, .own 1), (7, .int .i64 0), (23, .int .i64 1), (24, .int .i64 2), (27, .int .i64 3), (28, .int .i64 4)], [laB 5, .arr TU 9])] [] [(.exit 2, sh 54 [(1, .ptr 0 0), (6, .own 1), (7, .int .i64 0), (23, .int .i64 1), (24, .int .i64 2)], [laB 3, .arr TU 7])] f
noncomputable def st_Lc17_9 (env : LDt) : Tree Step := Lk.stepMC false LK cs_Z 17 9 ls0 (kLc17_9 fun _ => none) env
noncomputable def op_Lc17_9 : OpT := Classical.choose (opq (iterS st_Lc17_9 FU))
theorem op_Lc17_9_eq (env : LDt) : op_Lc17_9 env = iterS st_Lc17_9 FU env := Classical.choose_spec (opq (iterS st_Lc17_9 FU)) env
noncomputable def Lc17_9 : MBox := kLc17_9 op_Lc17_9
theorem Lc17_9_eqs : Lc17_9 = kLc17_9 (iterS st_Lc17_9 FU) := congrArg kLc17_9 (funext op_Lc17_9_eq)
theorem Lc17_9_run : ∀ t s x, (manyRun Lc17_9 t s).sel = some x → CodeOk Try.prog 0 (.loop (cAt Try.prog 17 9)) t s x := by
 rw [Lc17_9_eqs]
 exact mkM_ok (st := st_Lc17_9) (m := FU) cs_Z_ok hmix false (LsOk.none _ _ _) (by kernel_rfl) (fun env y h => by rw [← stepMC_lk]; exact h)
noncomputable def fn_Lc17_9_t : LDt → Tree Step
 | [.n n0, .n n1, .n n2, .n n3, .n n4, .l TS l5, .l TPt l6, .l TPt l7, .l TRt l8, .l TU l9] =>
  (.node (decide (n4 < n3))
   (let r1 : OD := (op_cl [.l TS l5, .l TPt l6, .l TPt l7, .l TRt l8, .n n0, .n n4]);
   (.node (isK 0 [HK.b] r1)
    (.node (gb (dOf r1) 0)
    (.node (inR n0 (List.length l9))
     (.node (inR n4 (List.length (List.set l9 (Int.toNat n0) (ior IntKind.u64 (List.getD l9 (Int.toNat n0) (0 : Int)) (ishl IntKind.u64 (1 : Int) n4)))))
     (.leaf (Step.go [.k 0, .n n0, .n n1, .n n2, .n n3, .n (IntKind.wrap .i64 (n4 + (1 : Int))), .l TS l5, .l TPt l6, .l TPt l7, .l TRt l8, .l TU (List.set (List.set l9 (Int.toNat n0) (ior IntKind.u64 (List.getD l9 (Int.toNat n0) (0 : Int)) (ishl IntKind.u64 (1 : Int) n4))) (Int.toNat n4) (ior IntKind.u64 (List.getD (List.set l9 (Int.toNat n0) (ior IntKind.u64 (List.getD l9 (Int.toNat n0) (0 : Int)) (ishl IntKind.u64 (1 : Int) n4))) (Int.toNat n4) (0 : Int)) (ishl IntKind.u64 (1 : Int) n0)))]))
     (.bad 12))
     (.bad 12))
    (.leaf (Step.go [.k 0, .n n0, .n n1, .n n2, .n n3, .n (IntKind.wrap .i64 (n4 + (1 : Int))), .l TS l5, .l TPt l6, .l TPt l7, .l TRt l8, .l TU l9])))
    (.bad 351)))
   (.leaf (Step.stop 0 [.n n0, .n n1, .n n2, .l TS l5, .l TPt l6, .l TPt l7, .l TRt l8, .l TU l9])))
 | _ => .bad 0
theorem fn_Lc17_9_t_im (n0 : Int) (n1 : Int) (n2 : Int) (n3 : Int) (n4 : Int) (l5 : DS) (l6 : DP) (l7 : DP) (l8 : DR) (l9 : List (Ty.den TU)) (g0 : 0 ≤ n0) (g1 :  0 ≤ n4) (g2 :  n0 ≤ (l9.length : Int)) (g3 :  n3 = n0) : Imp (fn_Lc17_9_t [.n n0, .n n1, .n n2, .n n3, .n n4, .l TS l5, .l TPt l6, .l TPt l7, .l TRt l8, .l TU l9]) (st_Lc17_9 [.k 0, .n n0, .n n1, .n n2, .n n3, .n n4, .l TS l5, .l TPt l6, .l TPt l7, .l TRt l8, .l TU l9]) :=
(.pa [1]
(.nd (fun h0 =>
(.nd (fun h1 =>
(.pa [1]
(.nd (fun h2 =>
(.nd (fun h3 =>
(.pt (c := (!decide (n4 < (0 : Int)))) (by kernel_rfl) (by kernel_rfl) (by (simp [*]; done))
(.pt (by kernel_rfl) (by kernel_rfl) h3
(.pa [1]
(.nd (fun h4 =>
(.pt (c := (!decide (n0 < (0 : Int)))) (by kernel_rfl) (by kernel_rfl) (by (simp [*]; done))
(.pt (by kernel_rfl) (by kernel_rfl) h4
(.pa [1,1]
.lf)))) (fun h4 =>
.none)))))) (fun h3 =>
.none))) (fun h2 =>
(.pa [1]
.lf))))) (fun h1 =>
.none))) (fun h0 =>
(.pa [1]
.lf))))
def kLc17_6 (f : OpT) : MBox := mkM 0 [] [(sh 54 [(1, .ptr 0 0), (6, .own 1), (23, .int .i64 0), (24, .int .i64 1)], [laB 2, .arr TU 6])] [] [(.exit 0, sh 54 [(6, .own 0)], [.arr TU 0])] f
noncomputable def st_Lc17_6 (env : LDt) : Tree Step := Lk.stepMC false LK cs_Z 17 6 (lsM [(9, Lc17_9)] 0) (kLc17_6 fun _ => none) env
noncomputable def op_Lc17_6 : OpT := Classical.choose (opq (iterS st_Lc17_6 FU))
theorem op_Lc17_6_eq (env : LDt) : op_Lc17_6 env = iterS st_Lc17_6 FU env := Classical.choose_spec (opq (iterS st_Lc17_6 FU)) env
noncomputable def Lc17_6 : MBox := kLc17_6 op_Lc17_6
theorem Lc17_6_eqs : Lc17_6 = kLc17_6 (iterS st_Lc17_6 FU) := congrArg kLc17_6 (funext op_Lc17_6_eq)
theorem Lc17_6_in : LsOk Try.prog 0 (lsM [(9, Lc17_9)] 0) (cAt Try.prog 17 6) := LsOk.many fun j B hB hk c hc hi => by
 simp only [lookM] at hB
 split at hB
 ·rename_i e; have := Nat.eq_of_beq_eq_true e; subst this; cases hB
  have e1 : loopsAt (cAt Try.prog 17 6) 9 = [cAt Try.prog 17 9] := by kernel_rfl
  have e2 := loopsAt_mem hc hi
  rw [e1] at e2; cases List.mem_singleton.1 e2; exact Lc17_9_run
 cases hB
theorem Lc17_6_run : ∀ t s x, (manyRun Lc17_6 t s).sel = some x → CodeOk Try.prog 0 (.loop (cAt Try.prog 17 6)) t s x := by
 rw [Lc17_6_eqs]
 exact mkM_ok (st := st_Lc17_6) (m := FU) cs_Z_ok hmix false (Lc17_6_in) (by kernel_rfl) (fun env y h => by rw [← stepMC_lk]; exact h)
noncomputable def fn_Lc17_6_t : LDt → Tree Step
 | [.n n0, .n n1, .l TS l2, .l TPt l3, .l TPt l4, .l TRt l5, .l TU l6] =>
  (.node (decide (n1 < n0))
   (let r1 : OD := (op_Lc17_9 [.k 0, .n n1, .n n0, .n n1, .n n1, .n (0 : Int), .l TS l2, .l TPt l3, .l TPt l4, .l TRt l5, .l TU l6]);
   (.node (isK 0 [HK.n, HK.n, HK.n, HK.l Ty.str, HK.l TPt, HK.l TPt, HK.l TRt, HK.l TU] r1)
    (.leaf (Step.go [.k 0, .n (gn (dOf r1) 1), .n (IntKind.wrap .i64 (gn (dOf r1) 2 + (1 : Int))), .l TS (gl Ty.str (dOf r1) 3), .l TPt (gl TPt (dOf r1) 4), .l TPt (gl TPt (dOf r1) 5), .l TRt (gl TRt (dOf r1) 6), .l TU (gl TU (dOf r1) 7)]))
    (.bad 351)))
   (.leaf (Step.stop 0 [.l TU l6])))
 | _ => .bad 0
theorem fn_Lc17_6_t_im (n0 : Int) (n1 : Int) (l2 : DS) (l3 : DP) (l4 : DP) (l5 : DR) (l6 : List (Ty.den TU)) (g0 : 0 ≤ n1) (g1 :  n0 = (l5.length : Int)) (g2 :  n0 = (l6.length : Int)) : Imp (fn_Lc17_6_t [.n n0, .n n1, .l TS l2, .l TPt l3, .l TPt l4, .l TRt l5, .l TU l6]) (st_Lc17_6 [.k 0, .n n0, .n n1, .l TS l2, .l TPt l3, .l TPt l4, .l TRt l5, .l TU l6]) :=
(.pa [1]
(.nd (fun h0 =>
(.nd (fun h1 =>
(.pa [1]
.lf)) (fun h1 =>
.none))) (fun h0 =>
(.pa [1]
.lf))))
theorem ls_c17_ok : LsOk Try.prog (z0) (lsM [(6, Lc17_6)] (z0)) (bodyOf Try.prog 17) := LsOk.many fun j B hB hk c hc hi => by
 simp only [lookM] at hB
 split at hB
 ·rename_i e; have := Nat.eq_of_beq_eq_true e; subst this; cases hB
  rw [onlyC (f := 17) (i := 6) (loopAt_one (by kernel_rfl)) (loopsAt_mem hc hi)]; exact Lc17_6_run
 cases hB
def kc17 (f : OpT) : FBox := mkF [laV 0] [] [] [(.tup [.own 0, .int .i64 0], [.arr TU 1]), (.tup [.nilsl, .int .i64 0], [])] f
noncomputable def ev_c17 (env : LDt) : TD := Lk.boxC false LK cs_Z 17 (lsM [(6, Lc17_6)] (z0)) (kc17 fun _ => none) env
noncomputable def op_c17 : OpT := Classical.choose (opq (fun env => (ev_c17 env).sel))
theorem op_c17_eq (env : LDt) : op_c17 env = (ev_c17 env).sel := Classical.choose_spec (opq (fun env => (ev_c17 env).sel)) env
noncomputable def Bc17 : FBox := kc17 op_c17
theorem Bc17_ok : RunOk Try.prog 17 (boxRun Bc17) := mkF_ok (op := op_c17) cs_Z_ok hmix false (ls_c17_ok) (fun env x h => by rw [op_c17_eq] at h; rw [← boxC_lk]; exact h)
noncomputable def fn_c17_t : LDt → TD
 | [.l TS l0, .l TPt l1, .l TPt l2, .l TRt l3] =>
  (let r1 : OD := (op_18 [.l TS l0, .l TPt l1, .l TPt l2, .l TRt l3]);
   (.node (isK 0 [HK.n, HK.n] r1)
   (.node (gn (dOf r1) 0 != (0 : Int))
    (.leaf ((1, [.n (gn (dOf r1) 0)])))
    (.node (true && decide ((↑(List.length l3) : Int) ≤ (↑(List.length l3) : Int)) && decide ((↑(List.length l3) : Int) * (8 : Int) ≤ (281474976710656 : Int)))
    (let r2 : OD := (op_Lc17_6
 [.k 0, .n (↑(List.length l3) : Int), .n (0 : Int), .l TS l0, .l TPt l1, .l TPt l2, .l TRt l3,
  .l TU
   (repC (α := Ty.den TU) (Int.toNat (↑(List.length l3) : Int)) (0 : Int))]);
     (.node (isK 0 [HK.l TU] r2)
     (.leaf ((0, [.n (0 : Int), .l TU (gl TU (dOf r2) 0)])))
     (.bad 351)))
    (.bad 50)))
   (.bad 351)))
 | _ => .bad 0
theorem fn_c17_t_im (l0 : DS) (l1 : DP) (l2 : DP) (l3 : DR) : Imp (fn_c17_t [.l TS l0, .l TPt l1, .l TPt l2, .l TRt l3]) (ev_c17 [.l TS l0, .l TPt l1, .l TPt l2, .l TRt l3]) :=
(.nd (fun h0 =>
(.pa [1]
(.nd (fun h1 =>
(.pa [1]
.lf)) (fun h1 =>
(.nd (fun h2 =>
(.nd (fun h3 =>
(.pa [1]
.lf)) (fun h3 =>
.none))) (fun h2 =>
.none)))))) (fun h0 =>
.none))
noncomputable def cs_c17 : FuncId → Option CSpec := csLend 17 Bc17 cs_Z
theorem cs_c17_ok : CsOk Try.prog cs_c17 := csLend_ok cs_Z_ok Bc17_ok
def kc20 (f : OpT) : FBox := mkF [laV 0, .int .i64 4, .int .i64 5] [] [] [(.bool 0, [])] f
noncomputable def ev_c20 (env : LDt) : TD := Lk.boxC false LK cs_c17 20 ls0 (kc20 fun _ => none) env
noncomputable def op_c20 : OpT := Classical.choose (opq (fun env => (ev_c20 env).sel))
theorem op_c20_eq (env : LDt) : op_c20 env = (ev_c20 env).sel := Classical.choose_spec (opq (fun env => (ev_c20 env).sel)) env
noncomputable def Bc20 : FBox := kc20 op_c20
theorem Bc20_ok : RunOk Try.prog 20 (boxRun Bc20) := mkF_ok (op := op_c20) cs_c17_ok hmix false (LsOk.none _ _ _) (fun env x h => by rw [op_c20_eq] at h; rw [← boxC_lk]; exact h)
noncomputable def cs_c20 : FuncId → Option CSpec := csLend 20 Bc20 cs_c17
theorem cs_c20_ok : CsOk Try.prog cs_c20 := csLend_ok cs_c17_ok Bc20_ok
end Go.Proofs.Ytfkcodaiiheniaa.Vx
namespace Go.Proofs.Ytfkcodaiiheniaa.Vx
open Go Go.RowKit
set_option linter.unusedVariables false
set_option linter.unusedSimpArgs false
set_option maxRecDepth 100000
set_option maxHeartbeats 0
def kLc77_2 (f : OpT) : MBox := mkM 0 [] [(sh 18 [(0, .imm TI 0), (1, .int .i64 1), (5, .int .i64 2)], [])] [] [(.exit 0, sh 18 [], []), (.ret, sh 18 [(4, .bool 0)], [])] f
noncomputable def st_Lc77_2 (env : LDt) : Tree Step := Lk.stepMC false LK cs_c20 77 2 ls0 (kLc77_2 fun _ => none) env
noncomputable def op_Lc77_2 : OpT := Classical.choose (opq (iterS st_Lc77_2 FU))
theorem op_Lc77_2_eq (env : LDt) : op_Lc77_2 env = iterS st_Lc77_2 FU env := Classical.choose_spec (opq (iterS st_Lc77_2 FU)) env
noncomputable def Lc77_2 : MBox := kLc77_2 op_Lc77_2
theorem Lc77_2_eqs : Lc77_2 = kLc77_2 (iterS st_Lc77_2 FU) := congrArg kLc77_2 (funext op_Lc77_2_eq)
theorem Lc77_2_run : ∀ t s x, (manyRun Lc77_2 t s).sel = some x → CodeOk Try.prog 0 (.loop (cAt Try.prog 77 2)) t s x := by
 rw [Lc77_2_eqs]
 exact mkM_ok (st := st_Lc77_2) (m := FU) cs_c20_ok hmix false (LsOk.none _ _ _) (by kernel_rfl) (fun env y h => by rw [← stepMC_lk]; exact h)
noncomputable def fn_Lc77_2_t : LDt → Tree Step
 | [.l TI l0, .n n1, .n n2] =>
  (.node (decide (n2 < (↑(List.length l0) : Int)))
   (.node ((List.getD l0 (Int.toNat n2) (0 : Int) : Int) == n1)
   (.leaf (Step.stop 1 [.b true]))
   (.leaf (Step.go [.k 0, .l TI l0, .n n1, .n (IntKind.wrap .i64 (n2 + (1 : Int)))])))
   (.leaf (Step.stop 0 [])))
 | _ => .bad 0
theorem fn_Lc77_2_t_im (l0 : DI) (n1 : Int) (n2 : Int) (g0 : 0 ≤ n2) : Imp (fn_Lc77_2_t [.l TI l0, .n n1, .n n2]) (st_Lc77_2 [.k 0, .l TI l0, .n n1, .n n2]) :=
(.pa [1]
(.nd (fun h0 =>
(.pq (c := (inR n2 (List.length l0)))
(.nd (fun h1 =>
(.pa [1]
.lf)) (fun h1 =>
(.pa [1]
.lf))))) (fun h0 =>
(.pa [1]
.lf))))
theorem ls_c77_ok : LsOk Try.prog (z0) (lsM [(2, Lc77_2)] (z0)) (bodyOf Try.prog 77) := LsOk.many fun j B hB hk c hc hi => by
 simp only [lookM] at hB
 split at hB
 ·rename_i e; have := Nat.eq_of_beq_eq_true e; subst this; cases hB
  rw [onlyC (f := 77) (i := 2) (loopAt_one (by kernel_rfl)) (loopsAt_mem hc hi)]; exact Lc77_2_run
 cases hB
def kc77 (f : OpT) : FBox := mkF [.imm TI 0, .int .i64 1] [] [] [(.bool 0, [])] f
noncomputable def ev_c77 (env : LDt) : TD := Lk.boxC false LK cs_c20 77 (lsM [(2, Lc77_2)] (z0)) (kc77 fun _ => none) env
noncomputable def op_c77 : OpT := Classical.choose (opq (fun env => (ev_c77 env).sel))
theorem op_c77_eq (env : LDt) : op_c77 env = (ev_c77 env).sel := Classical.choose_spec (opq (fun env => (ev_c77 env).sel)) env
noncomputable def Bc77 : FBox := kc77 op_c77
theorem Bc77_ok : RunOk Try.prog 77 (boxRun Bc77) := mkF_ok (op := op_c77) cs_c20_ok hmix false (ls_c77_ok) (fun env x h => by rw [op_c77_eq] at h; rw [← boxC_lk]; exact h)
noncomputable def fn_c77_t : LDt → TD
 | [.l TI l0, .n n1] =>
  (let r1 : OD := (op_Lc77_2 [.k 0, .l TI l0, .n n1, .n (0 : Int)]);
   (.node (isK 0 [] r1)
   (.leaf ((0, [.b false])))
   (.node (isK 1 [HK.b] r1)
    (.leaf ((0, [.b (gb (dOf r1) 0)])))
    (.bad 351))))
 | _ => .bad 0
theorem fn_c77_t_im (l0 : DI) (n1 : Int) : Imp (fn_c77_t [.l TI l0, .n n1]) (ev_c77 [.l TI l0, .n n1]) :=
(.nd (fun h0 =>
(.pa [1]
.lf)) (fun h0 =>
(.nd (fun h1 =>
(.pa [1]
.lf)) (fun h1 =>
.none))))
noncomputable def cs_c77 : FuncId → Option CSpec := csLend 77 Bc77 cs_c20
theorem cs_c77_ok : CsOk Try.prog cs_c77 := csLend_ok cs_c20_ok Bc77_ok
def kLc78_3 (f : OpT) : MBox := mkM 0 [] [(sh 36 [(1, .int .i64 0), (5, .own 0), (6, .int .i64 1)], [.arr TNd 2])] [] [(.exit 0, sh 36 [], []), (.ret, sh 36 [(4, .int .i64 0)], [])] f
noncomputable def st_Lc78_3 (env : LDt) : Tree Step := Lk.stepMC false LK cs_c77 78 3 ls0 (kLc78_3 fun _ => none) env
noncomputable def op_Lc78_3 : OpT := Classical.choose (opq (iterS st_Lc78_3 FU))
theorem op_Lc78_3_eq (env : LDt) : op_Lc78_3 env = iterS st_Lc78_3 FU env := Classical.choose_spec (opq (iterS st_Lc78_3 FU)) env
noncomputable def Lc78_3 : MBox := kLc78_3 op_Lc78_3
theorem Lc78_3_eqs : Lc78_3 = kLc78_3 (iterS st_Lc78_3 FU) := congrArg kLc78_3 (funext op_Lc78_3_eq)
theorem Lc78_3_run : ∀ t s x, (manyRun Lc78_3 t s).sel = some x → CodeOk Try.prog 0 (.loop (cAt Try.prog 78 3)) t s x := by
 rw [Lc78_3_eqs]
 exact mkM_ok (st := st_Lc78_3) (m := FU) cs_c77_ok hmix false (LsOk.none _ _ _) (by kernel_rfl) (fun env y h => by rw [← stepMC_lk]; exact h)
noncomputable def fn_Lc78_3_t : LDt → Tree Step
 | [.n n0, .n n1, .l TNd l2] =>
  (.node (decide (n1 < (↑(List.length l2) : Int)))
   (.node (Prod.fst (List.getD l2 (Int.toNat n1) (Ty.dflt TNd)) == n0)
   (.node (Prod.snd (List.getD l2 (Int.toNat n1) (Ty.dflt TNd)))
    (.leaf (Step.stop 1 [.n (2 : Int)]))
    (.leaf (Step.stop 1 [.n (1 : Int)])))
   (.leaf (Step.go [.k 0, .n n0, .n (IntKind.wrap .i64 (n1 + (1 : Int))), .l TNd l2])))
   (.leaf (Step.stop 0 [])))
 | _ => .bad 0
theorem fn_Lc78_3_t_im (n0 : Int) (n1 : Int) (l2 : DD) (g0 : 0 ≤ n1) : Imp (fn_Lc78_3_t [.n n0, .n n1, .l TNd l2]) (st_Lc78_3 [.k 0, .n n0, .n n1, .l TNd l2]) :=
(.pa [1]
(.nd (fun h0 =>
(.pq (c := (inR n1 (List.length l2)))
(.nd (fun h1 =>
(.pq (c := (inR n1 (List.length l2)))
(.nd (fun h2 =>
(.pa [1]
.lf)) (fun h2 =>
(.pq (c := (inR n1 (List.length l2)))
(.pt (by kernel_rfl) (by kernel_rfl) h1
(.pa [1]
.lf))))))) (fun h1 =>
(.pa [0,0]
(.pq (c := (inR n1 (List.length l2)))
(.pf (by kernel_rfl) (by kernel_rfl) h1
(.pa [1]
.lf)))))))) (fun h0 =>
(.pa [1]
.lf))))
theorem ls_c78_ok : LsOk Try.prog (z0) (lsM [(3, Lc78_3)] (z0)) (bodyOf Try.prog 78) := LsOk.many fun j B hB hk c hc hi => by
 simp only [lookM] at hB
 split at hB
 ·rename_i e; have := Nat.eq_of_beq_eq_true e; subst this; cases hB
  rw [onlyC (f := 78) (i := 3) (loopAt_one (by kernel_rfl)) (loopsAt_mem hc hi)]; exact Lc78_3_run
 cases hB
def kc78 (f : OpT) : FBox := mkF [rtV 0, .int .i64 6] [] [] [(.int .i64 0, [])] f
noncomputable def ev_c78 (env : LDt) : TD := Lk.boxC false LK cs_c77 78 (lsM [(3, Lc78_3)] (z0)) (kc78 fun _ => none) env
noncomputable def op_c78 : OpT := Classical.choose (opq (fun env => (ev_c78 env).sel))
theorem op_c78_eq (env : LDt) : op_c78 env = (ev_c78 env).sel := Classical.choose_spec (opq (fun env => (ev_c78 env).sel)) env
noncomputable def Bc78 : FBox := kc78 op_c78
theorem Bc78_ok : RunOk Try.prog 78 (boxRun Bc78) := mkF_ok (op := op_c78) cs_c77_ok hmix false (ls_c78_ok) (fun env x h => by rw [op_c78_eq] at h; rw [← boxC_lk]; exact h)
noncomputable def fn_c78_t : LDt → TD
 | [.s s0, .n n1, .l TI l2, .l TNd l3, .l TI l4, .l TNd l5, .n n6] =>
  (let r1 : OD := (op_12 [.s s0, .n n1, .l TI l2, .l TNd l3, .l TI l4, .l TNd l5]);
   (.node (isK 0 [HK.l TNd] r1)
   (let r2 : OD := (op_Lc78_3 [.k 0, .n n6, .n (0 : Int), .l TNd (gl TNd (dOf r1) 0)]);
    (.node (isK 0 [] r2)
    (.leaf ((0, [.n (0 : Int)])))
    (.node (isK 1 [HK.n] r2)
     (.leaf ((0, [.n (gn (dOf r2) 0)])))
     (.bad 351))))
   (.bad 351)))
 | _ => .bad 0
theorem fn_c78_t_im (s0 : ByteArray) (n1 : Int) (l2 : DI) (l3 : DD) (l4 : DI) (l5 : DD) (n6 : Int) : Imp (fn_c78_t [.s s0, .n n1, .l TI l2, .l TNd l3, .l TI l4, .l TNd l5, .n n6]) (ev_c78 [.s s0, .n n1, .l TI l2, .l TNd l3, .l TI l4, .l TNd l5, .n n6]) :=
(.nd (fun h0 =>
(.pa [1]
(.nd (fun h1 =>
(.pa [1]
.lf)) (fun h1 =>
(.nd (fun h2 =>
(.pa [1]
.lf)) (fun h2 =>
.none)))))) (fun h0 =>
.none))
noncomputable def cs_c78 : FuncId → Option CSpec := csLend 78 Bc78 cs_c77
theorem cs_c78_ok : CsOk Try.prog cs_c78 := csLend_ok cs_c77_ok Bc78_ok
def kLc46_5 (f : OpT) : MBox := mkM 0 [] [(sh 83 [(3, .ptr 0 0), (4, .ptr 1 0), (5, .ptr 2 0), (7, .own 3), (8, .own 4), (9, .int .i64 0)], [laB 1, rtB 5, rtB 11, .arr TI 17, .arr TI 18])] [] [(.exit 0, sh 83 [(3, .ptr 0 0), (4, .ptr 1 0), (5, .ptr 2 0), (7, .own 3), (8, .own 4)], [laB 0, rtB 4, rtB 10, .arr TI 16, .arr TI 17]), (.ret, sh 83 [(6, .bool 0)], [])] f
noncomputable def st_Lc46_5 (env : LDt) : Tree Step := Lk.stepMC false LK cs_c78 46 5 ls0 (kLc46_5 fun _ => none) env
noncomputable def op_Lc46_5 : OpT := Classical.choose (opq (iterS st_Lc46_5 FU))
theorem op_Lc46_5_eq (env : LDt) : op_Lc46_5 env = iterS st_Lc46_5 FU env := Classical.choose_spec (opq (iterS st_Lc46_5 FU)) env
noncomputable def Lc46_5 : MBox := kLc46_5 op_Lc46_5
theorem Lc46_5_eqs : Lc46_5 = kLc46_5 (iterS st_Lc46_5 FU) := congrArg kLc46_5 (funext op_Lc46_5_eq)
theorem Lc46_5_run : ∀ t s x, (manyRun Lc46_5 t s).sel = some x → CodeOk Try.prog 0 (.loop (cAt Try.prog 46 5)) t s x := by
 rw [Lc46_5_eqs]
 exact mkM_ok (st := st_Lc46_5) (m := FU) cs_c78_ok hmix false (LsOk.none _ _ _) (by kernel_rfl) (fun env y h => by rw [← stepMC_lk]; exact h)
noncomputable def fn_Lc46_5_t : LDt → Tree Step
 | [.n n0, .l TS l1, .l TPt l2, .l TPt l3, .l TRt l4, .s s5, .n n6, .l TI l7, .l TNd l8, .l TI l9, .l TNd l10, .s s11, .n n12, .l TI l13, .l TNd l14, .l TI l15, .l TNd l16, .l TI l17, .l TI l18] =>
  (.node (decide (n0 < (↑(List.length l17) : Int)))
   (let r1 : OD := (op_c77 [.l TI l18, .n (List.getD l17 (Int.toNat n0) (0 : Int))]);
   (.node (isK 0 [HK.b] r1)
    (.node (gb (dOf r1) 0)
    (.leaf (Step.stop 1 [.b true]))
    (.leaf (Step.go [.k 0, .n (IntKind.wrap .i64 (n0 + (1 : Int))), .l TS l1, .l TPt l2, .l TPt l3, .l TRt l4, .s s5, .n n6, .l TI l7, .l TNd l8, .l TI l9, .l TNd l10, .s s11, .n n12, .l TI l13, .l TNd l14, .l TI l15, .l TNd l16, .l TI l17, .l TI l18])))
    (.bad 351)))
   (.leaf (Step.stop 0 [.l TS l1, .l TPt l2, .l TPt l3, .l TRt l4, .s s5, .n n6, .l TI l7, .l TNd l8, .l TI l9, .l TNd l10, .s s11, .n n12, .l TI l13, .l TNd l14, .l TI l15, .l TNd l16, .l TI l17, .l TI l18])))
 | _ => .bad 0
theorem fn_Lc46_5_t_im (n0 : Int) (l1 : DS) (l2 : DP) (l3 : DP) (l4 : DR) (s5 : ByteArray) (n6 : Int) (l7 : DI) (l8 : DD) (l9 : DI) (l10 : DD) (s11 : ByteArray) (n12 : Int) (l13 : DI) (l14 : DD) (l15 : DI) (l16 : DD) (l17 : DI) (l18 : DI) (g0 : 0 ≤ n0) : Imp (fn_Lc46_5_t [.n n0, .l TS l1, .l TPt l2, .l TPt l3, .l TRt l4, .s s5, .n n6, .l TI l7, .l TNd l8, .l TI l9, .l TNd l10, .s s11, .n n12, .l TI l13, .l TNd l14, .l TI l15, .l TNd l16, .l TI l17, .l TI l18]) (st_Lc46_5 [.k 0, .n n0, .l TS l1, .l TPt l2, .l TPt l3, .l TRt l4, .s s5, .n n6, .l TI l7, .l TNd l8, .l TI l9, .l TNd l10, .s s11, .n n12, .l TI l13, .l TNd l14, .l TI l15, .l TNd l16, .l TI l17, .l TI l18]) :=
(.pa [1]
(.nd (fun h0 =>
(.pq (c := (inR n0 (List.length l17)))
(.nd (fun h1 =>
(.pa [1]
(.nd (fun h2 =>
(.pa [1]
.lf)) (fun h2 =>
(.pa [1]
.lf))))) (fun h1 =>
.none)))) (fun h0 =>
(.pa [1]
.lf))))
def kLc46_10 (f : OpT) : MBox := mkM 0 [] [(sh 83 [(3, .ptr 0 0), (4, .ptr 1 0), (5, .ptr 2 0), (7, .own 3), (8, .own 4), (10, .int .i64 0)], [laB 1, rtB 5, rtB 11, .arr TI 17, .arr TI 18])] [] [(.exit 2, sh 83 [], []), (.ret, sh 83 [(6, .bool 0)], [])] f
noncomputable def st_Lc46_10 (env : LDt) : Tree Step := Lk.stepMC false LK cs_c78 46 10 ls0 (kLc46_10 fun _ => none) env
noncomputable def op_Lc46_10 : OpT := Classical.choose (opq (iterS st_Lc46_10 FU))
theorem op_Lc46_10_eq (env : LDt) : op_Lc46_10 env = iterS st_Lc46_10 FU env := Classical.choose_spec (opq (iterS st_Lc46_10 FU)) env
noncomputable def Lc46_10 : MBox := kLc46_10 op_Lc46_10
theorem Lc46_10_eqs : Lc46_10 = kLc46_10 (iterS st_Lc46_10 FU) := congrArg kLc46_10 (funext op_Lc46_10_eq)
theorem Lc46_10_run : ∀ t s x, (manyRun Lc46_10 t s).sel = some x → CodeOk Try.prog 0 (.loop (cAt Try.prog 46 10)) t s x := by
 rw [Lc46_10_eqs]
 exact mkM_ok (st := st_Lc46_10) (m := FU) cs_c78_ok hmix false (LsOk.none _ _ _) (by kernel_rfl) (fun env y h => by rw [← stepMC_lk]; exact h)
noncomputable def fn_Lc46_10_t : LDt → Tree Step
 | [.n n0, .l TS l1, .l TPt l2, .l TPt l3, .l TRt l4, .s s5, .n n6, .l TI l7, .l TNd l8, .l TI l9, .l TNd l10, .s s11, .n n12, .l TI l13, .l TNd l14, .l TI l15, .l TNd l16, .l TI l17, .l TI l18] =>
  (.node (decide (n0 < (↑(List.length l2) : Int)))
   (let r1 : OD := (op_c78 [.s s5, .n n6, .l TI l7, .l TNd l8, .l TI l9, .l TNd l10, .n n0]);
   (.node (isK 0 [HK.n] r1)
    (let r2 : OD := (op_c78 [.s s11, .n n12, .l TI l13, .l TNd l14, .l TI l15, .l TNd l16, .n n0]);
    (.node (isK 0 [HK.n] r2)
     (.node (gn (dOf r1) 0 != gn (dOf r2) 0)
     (.node (decide (gn (dOf r1) 0 > (0 : Int)))
      (.node (decide (gn (dOf r2) 0 > (0 : Int)))
      (.leaf (Step.stop 1 [.b true]))
      (let r3 : OD := (op_c77 [.l TI l18, .n (Prod.snd (List.getD l2 (Int.toNat n0) (Ty.dflt TPt)))]);
       (.node (isK 0 [HK.b] r3)
       (.node (gb (dOf r3) 0)
        (.leaf (Step.stop 1 [.b true]))
        (.leaf (Step.go [.k 0, .n (IntKind.wrap .i64 (n0 + (1 : Int))), .l TS l1, .l TPt l2, .l TPt l3, .l TRt l4, .s s5, .n n6, .l TI l7, .l TNd l8, .l TI l9, .l TNd l10, .s s11, .n n12, .l TI l13, .l TNd l14, .l TI l15, .l TNd l16, .l TI l17, .l TI l18])))
       (.bad 351))))
      (.node (decide (gn (dOf r2) 0 > (0 : Int)))
      (let r3 : OD := (op_c77 [.l TI l17, .n (Prod.snd (List.getD l2 (Int.toNat n0) (Ty.dflt TPt)))]);
       (.node (isK 0 [HK.b] r3)
       (.node (gb (dOf r3) 0)
        (.leaf (Step.stop 1 [.b true]))
        (.leaf (Step.go [.k 0, .n (IntKind.wrap .i64 (n0 + (1 : Int))), .l TS l1, .l TPt l2, .l TPt l3, .l TRt l4, .s s5, .n n6, .l TI l7, .l TNd l8, .l TI l9, .l TNd l10, .s s11, .n n12, .l TI l13, .l TNd l14, .l TI l15, .l TNd l16, .l TI l17, .l TI l18])))
       (.bad 351)))
      (.leaf (Step.go [.k 0, .n (IntKind.wrap .i64 (n0 + (1 : Int))), .l TS l1, .l TPt l2, .l TPt l3, .l TRt l4, .s s5, .n n6, .l TI l7, .l TNd l8, .l TI l9, .l TNd l10, .s s11, .n n12, .l TI l13, .l TNd l14, .l TI l15, .l TNd l16, .l TI l17, .l TI l18]))))
     (.leaf (Step.go [.k 0, .n (IntKind.wrap .i64 (n0 + (1 : Int))), .l TS l1, .l TPt l2, .l TPt l3, .l TRt l4, .s s5, .n n6, .l TI l7, .l TNd l8, .l TI l9, .l TNd l10, .s s11, .n n12, .l TI l13, .l TNd l14, .l TI l15, .l TNd l16, .l TI l17, .l TI l18])))
     (.bad 351)))
    (.bad 351)))
   (.leaf (Step.stop 0 [])))
 | _ => .bad 0
theorem fn_Lc46_10_t_im (n0 : Int) (l1 : DS) (l2 : DP) (l3 : DP) (l4 : DR) (s5 : ByteArray) (n6 : Int) (l7 : DI) (l8 : DD) (l9 : DI) (l10 : DD) (s11 : ByteArray) (n12 : Int) (l13 : DI) (l14 : DD) (l15 : DI) (l16 : DD) (l17 : DI) (l18 : DI) (g0 : 0 ≤ n0) : Imp (fn_Lc46_10_t [.n n0, .l TS l1, .l TPt l2, .l TPt l3, .l TRt l4, .s s5, .n n6, .l TI l7, .l TNd l8, .l TI l9, .l TNd l10, .s s11, .n n12, .l TI l13, .l TNd l14, .l TI l15, .l TNd l16, .l TI l17, .l TI l18]) (st_Lc46_10 [.k 0, .n n0, .l TS l1, .l TPt l2, .l TPt l3, .l TRt l4, .s s5, .n n6, .l TI l7, .l TNd l8, .l TI l9, .l TNd l10, .s s11, .n n12, .l TI l13, .l TNd l14, .l TI l15, .l TNd l16, .l TI l17, .l TI l18]) :=
(.pa [1]
(.nd (fun h0 =>
(.nd (fun h1 =>
(.pa [1]
(.nd (fun h2 =>
(.pa [1,1]
(.pq (c := (inR n0 (List.length l2)))
(.nd (fun h3 =>
(.nd (fun h4 =>
(.nd (fun h5 =>
(.pa [1,1,1,1,1]
.lf)) (fun h5 =>
(.pt (by kernel_rfl) (by kernel_rfl) h4
(.nd (fun h6 =>
(.pa [1]
(.nd (fun h7 =>
(.pa [1,1,1]
.lf)) (fun h7 =>
(.pf (by kernel_rfl) (by kernel_rfl) h5
(.pa [0,0,1]
.lf)))))) (fun h6 =>
.none)))))) (fun h4 =>
(.pa [0,0]
(.pf (by kernel_rfl) (by kernel_rfl) h4
(.pa [0,0]
(.nd (fun h5 =>
(.nd (fun h6 =>
(.pa [1]
(.nd (fun h7 =>
(.pa [1]
.lf)) (fun h7 =>
(.pa [1]
.lf))))) (fun h6 =>
.none))) (fun h5 =>
(.pa [0,0,1]
.lf))))))))) (fun h3 =>
(.pa [0,0,1]
.lf)))))) (fun h2 =>
.none)))) (fun h1 =>
.none))) (fun h0 =>
(.pa [1]
.lf))))
theorem ls_c46_ok : LsOk Try.prog (z0) (lsM [(5, Lc46_5), (10, Lc46_10)] (z0)) (bodyOf Try.prog 46) := LsOk.many fun j B hB hk c hc hi => by
 simp only [lookM] at hB
 split at hB
 ·rename_i e; have := Nat.eq_of_beq_eq_true e; subst this; cases hB
  rw [onlyC (f := 46) (i := 5) (loopAt_one (by kernel_rfl)) (loopsAt_mem hc hi)]; exact Lc46_5_run
 split at hB
 ·rename_i e; have := Nat.eq_of_beq_eq_true e; subst this; cases hB
  rw [onlyC (f := 46) (i := 10) (loopAt_one (by kernel_rfl)) (loopsAt_mem hc hi)]; exact Lc46_10_run
 cases hB
def kc46 (f : OpT) : FBox := mkF [laV 0, rtV 4, rtV 10] [] [] [(.bool 0, [])] f
noncomputable def ev_c46 (env : LDt) : TD := Lk.boxC false LK cs_c78 46 (lsM [(5, Lc46_5), (10, Lc46_10)] (z0)) (kc46 fun _ => none) env
noncomputable def op_c46 : OpT := Classical.choose (opq (fun env => (ev_c46 env).sel))
theorem op_c46_eq (env : LDt) : op_c46 env = (ev_c46 env).sel := Classical.choose_spec (opq (fun env => (ev_c46 env).sel)) env
noncomputable def Bc46 : FBox := kc46 op_c46
theorem Bc46_ok : RunOk Try.prog 46 (boxRun Bc46) := mkF_ok (op := op_c46) cs_c78_ok hmix false (ls_c46_ok) (fun env x h => by rw [op_c46_eq] at h; rw [← boxC_lk]; exact h)
noncomputable def fn_c46_t : LDt → TD
 | [.l TS l0, .l TPt l1, .l TPt l2, .l TRt l3, .s s4, .n n5, .l TI l6, .l TNd l7, .l TI l8, .l TNd l9, .s s10, .n n11, .l TI l12, .l TNd l13, .l TI l14, .l TNd l15] =>
  (.node (n5 == n11)
   (.leaf ((0, [.b true])))
   (let r1 : OD := (op_11 [.s s4, .n n5, .l TI l6, .l TNd l7, .l TI l8, .l TNd l9]);
   (.node (isK 0 [HK.l TI] r1)
    (let r2 : OD := (op_11 [.s s10, .n n11, .l TI l12, .l TNd l13, .l TI l14, .l TNd l15]);
    (.node (isK 0 [HK.l TI] r2)
     (let r3 : OD := (op_Lc46_5 [.k 0, .n (0 : Int), .l TS l0, .l TPt l1, .l TPt l2, .l TRt l3, .s s4, .n n5, .l TI l6, .l TNd l7, .l TI l8, .l TNd l9, .s s10, .n n11, .l TI l12, .l TNd l13, .l TI l14, .l TNd l15, .l TI (gl TI (dOf r1) 0), .l TI (gl TI (dOf r2) 0)]);
     (.node (isK 0 [HK.l Ty.str, HK.l TPt, HK.l TPt, HK.l TRt, HK.s, HK.n, HK.l TI, HK.l TNd, HK.l TI, HK.l TNd, HK.s, HK.n, HK.l TI, HK.l TNd, HK.l TI, HK.l TNd, HK.l TI, HK.l TI] r3)
      (let r4 : OD := (op_Lc46_10 [.k 0, .n (0 : Int), .l TS (gl Ty.str (dOf r3) 0), .l TPt (gl TPt (dOf r3) 1), .l TPt (gl TPt (dOf r3) 2), .l TRt (gl TRt (dOf r3) 3), .s (gs (dOf r3) 4), .n (gn (dOf r3) 5), .l TI (gl TI (dOf r3) 6), .l TNd (gl TNd (dOf r3) 7), .l TI (gl TI (dOf r3) 8), .l TNd (gl TNd (dOf r3) 9), .s (gs (dOf r3) 10), .n (gn (dOf r3) 11), .l TI (gl TI (dOf r3) 12), .l TNd (gl TNd (dOf r3) 13), .l TI (gl TI (dOf r3) 14), .l TNd (gl TNd (dOf r3) 15), .l TI (gl TI (dOf r3) 16), .l TI (gl TI (dOf r3) 17)]);
      (.node (isK 0 [] r4)
       (.leaf ((0, [.b false])))
       (.node (isK 1 [HK.b] r4)
       (.leaf ((0, [.b (gb (dOf r4) 0)])))
       (.bad 351))))
      (.node (isK 1 [HK.b] r3)
      (.leaf ((0, [.b (gb (dOf r3) 0)])))
      (.bad 351))))
     (.bad 351)))
    (.bad 351))))
 | _ => .bad 0
theorem fn_c46_t_im (l0 : DS) (l1 : DP) (l2 : DP) (l3 : DR) (s4 : ByteArray) (n5 : Int) (l6 : DI) (l7 : DD) (l8 : DI) (l9 : DD) (s10 : ByteArray) (n11 : Int) (l12 : DI) (l13 : DD) (l14 : DI) (l15 : DD) : Imp (fn_c46_t [.l TS l0, .l TPt l1, .l TPt l2, .l TRt l3, .s s4, .n n5, .l TI l6, .l TNd l7, .l TI l8, .l TNd l9, .s s10, .n n11, .l TI l12, .l TNd l13, .l TI l14, .l TNd l15]) (ev_c46 [.l TS l0, .l TPt l1, .l TPt l2, .l TRt l3, .s s4, .n n5, .l TI l6, .l TNd l7, .l TI l8, .l TNd l9, .s s10, .n n11, .l TI l12, .l TNd l13, .l TI l14, .l TNd l15]) :=
(.nd (fun h0 =>
(.pa [1]
.lf)) (fun h0 =>
(.nd (fun h1 =>
(.pa [1]
(.nd (fun h2 =>
(.pa [1,1]
(.nd (fun h3 =>
(.nd (fun h4 =>
(.pa [1]
.lf)) (fun h4 =>
(.nd (fun h5 =>
(.pa [1]
.lf)) (fun h5 =>
.none))))) (fun h3 =>
(.nd (fun h4 =>
(.pa [1]
.lf)) (fun h4 =>
.none)))))) (fun h2 =>
.none)))) (fun h1 =>
.none))))
noncomputable def cs_c46 : FuncId → Option CSpec := csLend 46 Bc46 cs_c78
theorem cs_c46_ok : CsOk Try.prog cs_c46 := csLend_ok cs_c78_ok Bc46_ok
end Go.Proofs.Ytfkcodaiiheniaa.Vx
namespace Go.Proofs.Ytfkcodaiiheniaa.Vx
open Go Go.RowKit
set_option linter.unusedVariables false
set_option linter.unusedSimpArgs false
set_option maxRecDepth 100000
set_option maxHeartbeats 0
def apR (l : DR) (e : Ty.den TRt) : DR := l ++ [e]
def oC (b : Nat) : PB := .cells [.own b, .own (b+1), .own (b+2), .own (b+3)]
def nC : PB := .cells [.nilsl, .nilsl, .nilsl, .nilsl]
def kLc42_4 (f : OpT) : MBox := mkM 0 [] [(sh 26 [(0, .imm TI 0), (1, .imm TI 1), (5, .int .i64 2)], [])] [] [(.exit 0, sh 26 [], []), (.ret, sh 26 [(4, .bool 0)], [])] f
noncomputable def st_Lc42_4 (env : LDt) : Tree Step := Lk.stepMC false LK cs_c46 42 4 ls0 (kLc42_4 fun _ => none) env
noncomputable def op_Lc42_4 : OpT := Classical.choose (opq (iterS st_Lc42_4 FU))
theorem op_Lc42_4_eq (env : LDt) : op_Lc42_4 env = iterS st_Lc42_4 FU env := Classical.choose_spec (opq (iterS st_Lc42_4 FU)) env
noncomputable def Lc42_4 : MBox := kLc42_4 op_Lc42_4
theorem Lc42_4_eqs : Lc42_4 = kLc42_4 (iterS st_Lc42_4 FU) := congrArg kLc42_4 (funext op_Lc42_4_eq)
theorem Lc42_4_run : ∀ t s x, (manyRun Lc42_4 t s).sel = some x → CodeOk Try.prog 0 (.loop (cAt Try.prog 42 4)) t s x := by
 rw [Lc42_4_eqs]
 exact mkM_ok (st := st_Lc42_4) (m := FU) cs_c46_ok hmix false (LsOk.none _ _ _) (by kernel_rfl) (fun env y h => by rw [← stepMC_lk]; exact h)
noncomputable def fn_Lc42_4_v : LDt → Tree Step
 | [.l TI l0, .l TI l1, .n n2] =>
  (.node (decide (n2 < (↑(List.length l0) : Int)))
   (.node ((List.getD l0 (Int.toNat n2) (0 : Int) : Int) != (List.getD l1 (Int.toNat n2) (0 : Int) : Int))
   (.leaf (Step.stop 1 [.b false]))
   (.leaf (Step.go [.k 0, .l TI l0, .l TI l1, .n (IntKind.wrap .i64 (n2 + (1 : Int)))])))
   (.leaf (Step.stop 0 [])))
 | _ => .bad 0
theorem fn_Lc42_4_v_im (l0 : DI) (l1 : DI) (n2 : Int) (g0 : 0 ≤ n2) (g1 :  (l0.length : Int) = (l1.length : Int)) : Imp (fn_Lc42_4_v [.l TI l0, .l TI l1, .n n2]) (st_Lc42_4 [.k 0, .l TI l0, .l TI l1, .n n2]) :=
(.pa [1]
(.nd (fun h0 =>
(.pq (c := (inR n2 (List.length l0)))
(.pq (c := (inR n2 (List.length l1)))
(.pa [1]
(.nd (fun h1 =>
(.pa [1]
.lf)) (fun h1 =>
(.pa [1]
.lf))))))) (fun h0 =>
(.pa [1]
.lf))))
theorem ls_c42_ok : LsOk Try.prog (z0) (lsM [(4, Lc42_4)] (z0)) (bodyOf Try.prog 42) := LsOk.many fun j B hB hk c hc hi => by
 simp only [lookM] at hB
 split at hB
 ·rename_i e; have := Nat.eq_of_beq_eq_true e; subst this; cases hB
  rw [onlyC (f := 42) (i := 4) (loopAt_one (by kernel_rfl)) (loopsAt_mem hc hi)]; exact Lc42_4_run
 cases hB
def kc42 (f : OpT) : FBox := mkF [.imm TI 0, .imm TI 1] [] [] [(.bool 0, [])] f
noncomputable def ev_c42 (env : LDt) : TD := Lk.boxC false LK cs_c46 42 (lsM [(4, Lc42_4)] (z0)) (kc42 fun _ => none) env
noncomputable def op_c42 : OpT := Classical.choose (opq (fun env => (ev_c42 env).sel))
theorem op_c42_eq (env : LDt) : op_c42 env = (ev_c42 env).sel := Classical.choose_spec (opq (fun env => (ev_c42 env).sel)) env
noncomputable def Bc42 : FBox := kc42 op_c42
theorem Bc42_ok : RunOk Try.prog 42 (boxRun Bc42) := mkF_ok (op := op_c42) cs_c46_ok hmix false (ls_c42_ok) (fun env x h => by rw [op_c42_eq] at h; rw [← boxC_lk]; exact h)
noncomputable def fn_c42_v : LDt → TD
 | [.l TI l0, .l TI l1] =>
  (.node ((↑(List.length l0) : Int) != (↑(List.length l1) : Int))
   (.leaf ((0, [.b false])))
   (let r1 : OD := (op_Lc42_4 [.k 0, .l TI l0, .l TI l1, .n (0 : Int)]);
   (.node (isK 0 [] r1)
    (.leaf ((0, [.b true])))
    (.node (isK 1 [HK.b] r1)
    (.leaf ((0, [.b (gb (dOf r1) 0)])))
    (.bad 351)))))
 | _ => .bad 0
theorem fn_c42_v_im (l0 : DI) (l1 : DI) : Imp (fn_c42_v [.l TI l0, .l TI l1]) (ev_c42 [.l TI l0, .l TI l1]) :=
(.nd (fun h0 =>
(.pa [1]
.lf)) (fun h0 =>
(.nd (fun h1 =>
(.pa [1]
.lf)) (fun h1 =>
(.nd (fun h2 =>
(.pa [1]
.lf)) (fun h2 =>
.none))))))
noncomputable def cs_c42 : FuncId → Option CSpec := csLend 42 Bc42 cs_c46
theorem cs_c42_ok : CsOk Try.prog cs_c42 := csLend_ok cs_c46_ok Bc42_ok
def kLc79_4 (f : OpT) : MBox := mkM 0 [] [(sh 26 [(0, .imm TNd 0), (1, .imm TNd 1), (5, .int .i64 2)], [])] [] [(.exit 0, sh 26 [], []), (.ret, sh 26 [(4, .bool 0)], [])] f
noncomputable def st_Lc79_4 (env : LDt) : Tree Step := Lk.stepMC false LK cs_c42 79 4 ls0 (kLc79_4 fun _ => none) env
noncomputable def op_Lc79_4 : OpT := Classical.choose (opq (iterS st_Lc79_4 FU))
theorem op_Lc79_4_eq (env : LDt) : op_Lc79_4 env = iterS st_Lc79_4 FU env := Classical.choose_spec (opq (iterS st_Lc79_4 FU)) env
noncomputable def Lc79_4 : MBox := kLc79_4 op_Lc79_4
theorem Lc79_4_eqs : Lc79_4 = kLc79_4 (iterS st_Lc79_4 FU) := congrArg kLc79_4 (funext op_Lc79_4_eq)
theorem Lc79_4_run : ∀ t s x, (manyRun Lc79_4 t s).sel = some x → CodeOk Try.prog 0 (.loop (cAt Try.prog 79 4)) t s x := by
 rw [Lc79_4_eqs]
 exact mkM_ok (st := st_Lc79_4) (m := FU) cs_c42_ok hmix false (LsOk.none _ _ _) (by kernel_rfl) (fun env y h => by rw [← stepMC_lk]; exact h)
noncomputable def fn_Lc79_4_v : LDt → Tree Step
 | [.l TNd l0, .l TNd l1, .n n2] =>
  (.node (decide (n2 < (↑(List.length l0) : Int)))
   (.node (!(Prod.fst (List.getD l0 (Int.toNat n2) (Ty.dflt TNd)) == Prod.fst (List.getD l1 (Int.toNat n2) (Ty.dflt TNd)) && (Prod.snd (List.getD l0 (Int.toNat n2) (Ty.dflt TNd)) == Prod.snd (List.getD l1 (Int.toNat n2) (Ty.dflt TNd)) && true)))
   (.leaf (Step.stop 1 [.b false]))
   (.leaf (Step.go [.k 0, .l TNd l0, .l TNd l1, .n (IntKind.wrap .i64 (n2 + (1 : Int)))])))
   (.leaf (Step.stop 0 [])))
 | _ => .bad 0
theorem fn_Lc79_4_v_im (l0 : DD) (l1 : DD) (n2 : Int) (g0 : 0 ≤ n2) (g1 :  (l0.length : Int) = (l1.length : Int)) : Imp (fn_Lc79_4_v [.l TNd l0, .l TNd l1, .n n2]) (st_Lc79_4 [.k 0, .l TNd l0, .l TNd l1, .n n2]) :=
(.pa [1]
(.nd (fun h0 =>
(.pq (c := (inR n2 (List.length l0)))
(.pq (c := (inR n2 (List.length l1)))
(.pa [1]
(.nd (fun h1 =>
(.pa [1]
.lf)) (fun h1 =>
(.pa [1]
.lf))))))) (fun h0 =>
(.pa [1]
.lf))))
theorem ls_c79_ok : LsOk Try.prog (z0) (lsM [(4, Lc79_4)] (z0)) (bodyOf Try.prog 79) := LsOk.many fun j B hB hk c hc hi => by
 simp only [lookM] at hB
 split at hB
 ·rename_i e; have := Nat.eq_of_beq_eq_true e; subst this; cases hB
  rw [onlyC (f := 79) (i := 4) (loopAt_one (by kernel_rfl)) (loopsAt_mem hc hi)]; exact Lc79_4_run
 cases hB
def kc79 (f : OpT) : FBox := mkF [.imm TNd 0, .imm TNd 1] [] [] [(.bool 0, [])] f
noncomputable def ev_c79 (env : LDt) : TD := Lk.boxC false LK cs_c42 79 (lsM [(4, Lc79_4)] (z0)) (kc79 fun _ => none) env
noncomputable def op_c79 : OpT := Classical.choose (opq (fun env => (ev_c79 env).sel))
theorem op_c79_eq (env : LDt) : op_c79 env = (ev_c79 env).sel := Classical.choose_spec (opq (fun env => (ev_c79 env).sel)) env
noncomputable def Bc79 : FBox := kc79 op_c79
theorem Bc79_ok : RunOk Try.prog 79 (boxRun Bc79) := mkF_ok (op := op_c79) cs_c42_ok hmix false (ls_c79_ok) (fun env x h => by rw [op_c79_eq] at h; rw [← boxC_lk]; exact h)
noncomputable def fn_c79_v : LDt → TD
 | [.l TNd l0, .l TNd l1] =>
  (.node ((↑(List.length l0) : Int) != (↑(List.length l1) : Int))
   (.leaf ((0, [.b false])))
   (let r1 : OD := (op_Lc79_4 [.k 0, .l TNd l0, .l TNd l1, .n (0 : Int)]);
   (.node (isK 0 [] r1)
    (.leaf ((0, [.b true])))
    (.node (isK 1 [HK.b] r1)
    (.leaf ((0, [.b (gb (dOf r1) 0)])))
    (.bad 351)))))
 | _ => .bad 0
theorem fn_c79_v_im (l0 : DD) (l1 : DD) : Imp (fn_c79_v [.l TNd l0, .l TNd l1]) (ev_c79 [.l TNd l0, .l TNd l1]) :=
(.nd (fun h0 =>
(.pa [1]
.lf)) (fun h0 =>
(.nd (fun h1 =>
(.pa [1]
.lf)) (fun h1 =>
(.nd (fun h2 =>
(.pa [1]
.lf)) (fun h2 =>
.none))))))
noncomputable def cs_c79 : FuncId → Option CSpec := csLend 79 Bc79 cs_c42
theorem cs_c79_ok : CsOk Try.prog cs_c79 := csLend_ok cs_c42_ok Bc79_ok
def kLc47_4 (f : OpT) : MBox := mkM 0 [] [(sh 26 [(0, .imm TS 0), (1, .imm TS 1), (5, .int .i64 2)], [])] [] [(.exit 0, sh 26 [], []), (.ret, sh 26 [(4, .bool 0)], [])] f
noncomputable def st_Lc47_4 (env : LDt) : Tree Step := Lk.stepMC false LK cs_c79 47 4 ls0 (kLc47_4 fun _ => none) env
noncomputable def op_Lc47_4 : OpT := Classical.choose (opq (iterS st_Lc47_4 FU))
theorem op_Lc47_4_eq (env : LDt) : op_Lc47_4 env = iterS st_Lc47_4 FU env := Classical.choose_spec (opq (iterS st_Lc47_4 FU)) env
noncomputable def Lc47_4 : MBox := kLc47_4 op_Lc47_4
theorem Lc47_4_eqs : Lc47_4 = kLc47_4 (iterS st_Lc47_4 FU) := congrArg kLc47_4 (funext op_Lc47_4_eq)
theorem Lc47_4_run : ∀ t s x, (manyRun Lc47_4 t s).sel = some x → CodeOk Try.prog 0 (.loop (cAt Try.prog 47 4)) t s x := by
 rw [Lc47_4_eqs]
 exact mkM_ok (st := st_Lc47_4) (m := FU) cs_c79_ok hmix false (LsOk.none _ _ _) (by kernel_rfl) (fun env y h => by rw [← stepMC_lk]; exact h)
noncomputable def fn_Lc47_4_v : LDt → Tree Step
 | [.l TS l0, .l TS l1, .n n2] =>
  (.node (decide (n2 < (↑(List.length l0) : Int)))
   (.node (!strEq (List.getD l0 (Int.toNat n2) (Ty.dflt Ty.str)) (List.getD l1 (Int.toNat n2) (Ty.dflt Ty.str)))
   (.leaf (Step.stop 1 [.b false]))
   (.leaf (Step.go [.k 0, .l TS l0, .l TS l1, .n (IntKind.wrap .i64 (n2 + (1 : Int)))])))
   (.leaf (Step.stop 0 [])))
 | _ => .bad 0
theorem fn_Lc47_4_v_im (l0 : DS) (l1 : DS) (n2 : Int) (g0 : 0 ≤ n2) (g1 :  (l0.length : Int) = (l1.length : Int)) : Imp (fn_Lc47_4_v [.l TS l0, .l TS l1, .n n2]) (st_Lc47_4 [.k 0, .l TS l0, .l TS l1, .n n2]) :=
(.pa [1]
(.nd (fun h0 =>
(.pq (c := (inR n2 (List.length l0)))
(.pq (c := (inR n2 (List.length l1)))
(.pa [1]
(.nd (fun h1 =>
(.pa [1]
.lf)) (fun h1 =>
(.pa [1]
.lf))))))) (fun h0 =>
(.pa [1]
.lf))))
theorem ls_c47_ok : LsOk Try.prog (z0) (lsM [(4, Lc47_4)] (z0)) (bodyOf Try.prog 47) := LsOk.many fun j B hB hk c hc hi => by
 simp only [lookM] at hB
 split at hB
 ·rename_i e; have := Nat.eq_of_beq_eq_true e; subst this; cases hB
  rw [onlyC (f := 47) (i := 4) (loopAt_one (by kernel_rfl)) (loopsAt_mem hc hi)]; exact Lc47_4_run
 cases hB
def kc47 (f : OpT) : FBox := mkF [.imm TS 0, .imm TS 1] [] [] [(.bool 0, [])] f
noncomputable def ev_c47 (env : LDt) : TD := Lk.boxC false LK cs_c79 47 (lsM [(4, Lc47_4)] (z0)) (kc47 fun _ => none) env
noncomputable def op_c47 : OpT := Classical.choose (opq (fun env => (ev_c47 env).sel))
theorem op_c47_eq (env : LDt) : op_c47 env = (ev_c47 env).sel := Classical.choose_spec (opq (fun env => (ev_c47 env).sel)) env
noncomputable def Bc47 : FBox := kc47 op_c47
theorem Bc47_ok : RunOk Try.prog 47 (boxRun Bc47) := mkF_ok (op := op_c47) cs_c79_ok hmix false (ls_c47_ok) (fun env x h => by rw [op_c47_eq] at h; rw [← boxC_lk]; exact h)
noncomputable def fn_c47_v : LDt → TD
 | [.l TS l0, .l TS l1] =>
  (.node ((↑(List.length l0) : Int) != (↑(List.length l1) : Int))
   (.leaf ((0, [.b false])))
   (let r1 : OD := (op_Lc47_4 [.k 0, .l TS l0, .l TS l1, .n (0 : Int)]);
   (.node (isK 0 [] r1)
    (.leaf ((0, [.b true])))
    (.node (isK 1 [HK.b] r1)
    (.leaf ((0, [.b (gb (dOf r1) 0)])))
    (.bad 351)))))
 | _ => .bad 0
theorem fn_c47_v_im (l0 : DS) (l1 : DS) : Imp (fn_c47_v [.l TS l0, .l TS l1]) (ev_c47 [.l TS l0, .l TS l1]) :=
(.nd (fun h0 =>
(.pa [1]
.lf)) (fun h0 =>
(.nd (fun h1 =>
(.pa [1]
.lf)) (fun h1 =>
(.nd (fun h2 =>
(.pa [1]
.lf)) (fun h2 =>
.none))))))
noncomputable def cs_c47 : FuncId → Option CSpec := csLend 47 Bc47 cs_c79
theorem cs_c47_ok : CsOk Try.prog cs_c47 := csLend_ok cs_c79_ok Bc47_ok
def kc48 (f : OpT) : FBox := mkF [rtV 0, rtV 6] [] [] [(.bool 0, [])] f
noncomputable def ev_c48 (env : LDt) : TD := Lk.boxC false LK cs_c47 48 ls0 (kc48 fun _ => none) env
noncomputable def op_c48 : OpT := Classical.choose (opq (fun env => (ev_c48 env).sel))
theorem op_c48_eq (env : LDt) : op_c48 env = (ev_c48 env).sel := Classical.choose_spec (opq (fun env => (ev_c48 env).sel)) env
noncomputable def Bc48 : FBox := kc48 op_c48
theorem Bc48_ok : RunOk Try.prog 48 (boxRun Bc48) := mkF_ok (op := op_c48) cs_c47_ok hmix false (LsOk.none _ _ _) (fun env x h => by rw [op_c48_eq] at h; rw [← boxC_lk]; exact h)
noncomputable def fn_c48_w : LDt → TD
 | [.s s0, .n n1, .l TI l2, .l TNd l3, .l TI l4, .l TNd l5] =>
  (.node (strEq s0 s0)
   (let r1 : OD := (op_c42 [.l TI l2, .l TI l2]);
   (.node (isK 0 [HK.b] r1)
    (.node (gb (dOf r1) 0)
    (let r2 : OD := (op_c79 [.l TNd l3, .l TNd l3]);
     (.node (isK 0 [HK.b] r2)
     (.node (gb (dOf r2) 0)
      (let r3 : OD := (op_c42 [.l TI l4, .l TI l4]);
      (.node (isK 0 [HK.b] r3)
       (.node (gb (dOf r3) 0)
       (let r4 : OD := (op_c79 [.l TNd l5, .l TNd l5]);
        (.node (isK 0 [HK.b] r4)
        (.leaf ((0, [.b (gb (dOf r4) 0)])))
        (.bad 351)))
       (.leaf ((0, [.b false]))))
       (.bad 351)))
      (.leaf ((0, [.b false]))))
     (.bad 351)))
    (.leaf ((0, [.b false]))))
    (.bad 351)))
   (.leaf ((0, [.b false]))))
 | _ => .bad 0
theorem fn_c48_w_im (s0 : ByteArray) (n1 : Int) (l2 : DI) (l3 : DD) (l4 : DI) (l5 : DD) : Imp (fn_c48_w [.s s0, .n n1, .l TI l2, .l TNd l3, .l TI l4, .l TNd l5]) (ev_c48 [.s s0, .n n1, .l TI l2, .l TNd l3, .l TI l4, .l TNd l5, .s s0, .n n1, .l TI l2, .l TNd l3, .l TI l4, .l TNd l5]) :=
(.nd (fun h0 =>
(.pt (c := (n1 == n1)) (by kernel_rfl) (by kernel_rfl) (by (simp [*]; done))
(.nd (fun h1 =>
(.pa [1]
(.nd (fun h2 =>
(.nd (fun h3 =>
(.pa [1]
(.nd (fun h4 =>
(.nd (fun h5 =>
(.pa [1]
(.nd (fun h6 =>
(.nd (fun h7 =>
(.pa [1,1]
.lf)) (fun h7 =>
.none))) (fun h6 =>
(.pa [0,1]
.lf))))) (fun h5 =>
.none))) (fun h4 =>
(.pa [0,0,0,1]
.lf))))) (fun h3 =>
.none))) (fun h2 =>
(.pa [0,0,0,0,0,1]
.lf))))) (fun h1 =>
.none)))) (fun h0 =>
(.pa [0,0,0,0,0,0,0,0,0,1]
.lf)))
noncomputable def cs_c48 : FuncId → Option CSpec := csLend 48 Bc48 cs_c47
theorem cs_c48_ok : CsOk Try.prog cs_c48 := csLend_ok cs_c47_ok Bc48_ok
def kLc19_4 (f : OpT) : MBox := mkM 0 [] [(sh 96 [(2, .ptr 0 0), (3, .ptr 1 0), (5, .int .i64 0)], [laB 1, laB 5])] [] [(.exit 0, sh 96 [(2, .ptr 0 0), (3, .ptr 1 0)], [laB 0, laB 4]), (.ret, sh 96 [(4, .bool 0)], [])] f
noncomputable def st_Lc19_4 (env : LDt) : Tree Step := Lk.stepMC false LK cs_c48 19 4 ls0 (kLc19_4 fun _ => none) env
noncomputable def op_Lc19_4 : OpT := Classical.choose (opq (iterS st_Lc19_4 FU))
theorem op_Lc19_4_eq (env : LDt) : op_Lc19_4 env = iterS st_Lc19_4 FU env := Classical.choose_spec (opq (iterS st_Lc19_4 FU)) env
noncomputable def Lc19_4 : MBox := kLc19_4 op_Lc19_4
theorem Lc19_4_eqs : Lc19_4 = kLc19_4 (iterS st_Lc19_4 FU) := congrArg kLc19_4 (funext op_Lc19_4_eq)
theorem Lc19_4_run : ∀ t s x, (manyRun Lc19_4 t s).sel = some x → CodeOk Try.prog 0 (.loop (cAt Try.prog 19 4)) t s x := by
 rw [Lc19_4_eqs]
 exact mkM_ok (st := st_Lc19_4) (m := FU) cs_c48_ok hmix false (LsOk.none _ _ _) (by kernel_rfl) (fun env y h => by rw [← stepMC_lk]; exact h)
noncomputable def fn_Lc19_4_t : LDt → Tree Step
 | [.n n0, .l TS l1, .l TPt l2, .l TPt l3, .l TRt l4] =>
  (.node (decide (n0 < (↑(List.length l2) : Int)))
   (.node (!(strEq (Prod.fst (List.getD l2 (Int.toNat n0) (Ty.dflt TPt))) (Prod.fst (List.getD l2 (Int.toNat n0) (Ty.dflt TPt))) && (Prod.snd (List.getD l2 (Int.toNat n0) (Ty.dflt TPt)) == Prod.snd (List.getD l2 (Int.toNat n0) (Ty.dflt TPt)) && true)))
   (.leaf (Step.stop 1 [.b false]))
   (.leaf (Step.go [.k 0, .n (IntKind.wrap .i64 (n0 + (1 : Int))), .l TS l1, .l TPt l2, .l TPt l3, .l TRt l4, .l TS l1, .l TPt l2, .l TPt l3, .l TRt l4])))
   (.leaf (Step.stop 0 [.l TS l1, .l TPt l2, .l TPt l3, .l TRt l4, .l TS l1, .l TPt l2, .l TPt l3, .l TRt l4])))
 | _ => .bad 0
theorem fn_Lc19_4_t_im (n0 : Int) (l1 : DS) (l2 : DP) (l3 : DP) (l4 : DR) (g0 : 0 ≤ n0) : Imp (fn_Lc19_4_t [.n n0, .l TS l1, .l TPt l2, .l TPt l3, .l TRt l4]) (st_Lc19_4 [.k 0, .n n0, .l TS l1, .l TPt l2, .l TPt l3, .l TRt l4, .l TS l1, .l TPt l2, .l TPt l3, .l TRt l4]) :=
(.pa [1]
(.nd (fun h0 =>
(.pq (c := (inR n0 (List.length l2)))
(.pq (c := (inR n0 (List.length l2)))
(.pa [1]
(.nd (fun h1 =>
(.pa [1]
.lf)) (fun h1 =>
(.pa [1]
.lf))))))) (fun h0 =>
(.pa [1]
.lf))))
def kLc19_9 (f : OpT) : MBox := mkM 0 [] [(sh 96 [(2, .ptr 0 0), (3, .ptr 1 0), (6, .int .i64 0)], [laB 1, laB 5])] [] [(.exit 2, sh 96 [(2, .ptr 0 0), (3, .ptr 1 0)], [laB 0, laB 4]), (.ret, sh 96 [(4, .bool 0)], [])] f
noncomputable def st_Lc19_9 (env : LDt) : Tree Step := Lk.stepMC false LK cs_c48 19 9 ls0 (kLc19_9 fun _ => none) env
noncomputable def op_Lc19_9 : OpT := Classical.choose (opq (iterS st_Lc19_9 FU))
theorem op_Lc19_9_eq (env : LDt) : op_Lc19_9 env = iterS st_Lc19_9 FU env := Classical.choose_spec (opq (iterS st_Lc19_9 FU)) env
noncomputable def Lc19_9 : MBox := kLc19_9 op_Lc19_9
theorem Lc19_9_eqs : Lc19_9 = kLc19_9 (iterS st_Lc19_9 FU) := congrArg kLc19_9 (funext op_Lc19_9_eq)
theorem Lc19_9_run : ∀ t s x, (manyRun Lc19_9 t s).sel = some x → CodeOk Try.prog 0 (.loop (cAt Try.prog 19 9)) t s x := by
 rw [Lc19_9_eqs]
 exact mkM_ok (st := st_Lc19_9) (m := FU) cs_c48_ok hmix false (LsOk.none _ _ _) (by kernel_rfl) (fun env y h => by rw [← stepMC_lk]; exact h)
noncomputable def fn_Lc19_9_t : LDt → Tree Step
 | [.n n0, .l TS l1, .l TPt l2, .l TPt l3, .l TRt l4] =>
  (.node (decide (n0 < (↑(List.length l3) : Int)))
   (.node (!(strEq (Prod.fst (List.getD l3 (Int.toNat n0) (Ty.dflt TPt))) (Prod.fst (List.getD l3 (Int.toNat n0) (Ty.dflt TPt))) && (Prod.snd (List.getD l3 (Int.toNat n0) (Ty.dflt TPt)) == Prod.snd (List.getD l3 (Int.toNat n0) (Ty.dflt TPt)) && true)))
   (.leaf (Step.stop 1 [.b false]))
   (.leaf (Step.go [.k 0, .n (IntKind.wrap .i64 (n0 + (1 : Int))), .l TS l1, .l TPt l2, .l TPt l3, .l TRt l4, .l TS l1, .l TPt l2, .l TPt l3, .l TRt l4])))
   (.leaf (Step.stop 0 [.l TS l1, .l TPt l2, .l TPt l3, .l TRt l4, .l TS l1, .l TPt l2, .l TPt l3, .l TRt l4])))
 | _ => .bad 0
theorem fn_Lc19_9_t_im (n0 : Int) (l1 : DS) (l2 : DP) (l3 : DP) (l4 : DR) (g0 : 0 ≤ n0) : Imp (fn_Lc19_9_t [.n n0, .l TS l1, .l TPt l2, .l TPt l3, .l TRt l4]) (st_Lc19_9 [.k 0, .n n0, .l TS l1, .l TPt l2, .l TPt l3, .l TRt l4, .l TS l1, .l TPt l2, .l TPt l3, .l TRt l4]) :=
(.pa [1]
(.nd (fun h0 =>
(.pq (c := (inR n0 (List.length l3)))
(.pq (c := (inR n0 (List.length l3)))
(.pa [1]
(.nd (fun h1 =>
(.pa [1]
.lf)) (fun h1 =>
(.pa [1]
.lf))))))) (fun h0 =>
(.pa [1]
.lf))))
def kLc19_14 (f : OpT) : MBox := mkM 0 [] [(sh 96 [(2, .ptr 0 0), (3, .ptr 1 0), (7, .int .i64 0)], [laB 1, laB 5])] [] [(.exit 4, sh 96 [], []), (.ret, sh 96 [(4, .bool 0)], [])] f
noncomputable def st_Lc19_14 (env : LDt) : Tree Step := Lk.stepMC false LK cs_c48 19 14 ls0 (kLc19_14 fun _ => none) env
noncomputable def op_Lc19_14 : OpT := Classical.choose (opq (iterS st_Lc19_14 FU))
theorem op_Lc19_14_eq (env : LDt) : op_Lc19_14 env = iterS st_Lc19_14 FU env := Classical.choose_spec (opq (iterS st_Lc19_14 FU)) env
noncomputable def Lc19_14 : MBox := kLc19_14 op_Lc19_14
theorem Lc19_14_eqs : Lc19_14 = kLc19_14 (iterS st_Lc19_14 FU) := congrArg kLc19_14 (funext op_Lc19_14_eq)
theorem Lc19_14_run : ∀ t s x, (manyRun Lc19_14 t s).sel = some x → CodeOk Try.prog 0 (.loop (cAt Try.prog 19 14)) t s x := by
 rw [Lc19_14_eqs]
 exact mkM_ok (st := st_Lc19_14) (m := FU) cs_c48_ok hmix false (LsOk.none _ _ _) (by kernel_rfl) (fun env y h => by rw [← stepMC_lk]; exact h)
noncomputable def fn_Lc19_14_t : LDt → Tree Step
 | [.n n0, .l TS l1, .l TPt l2, .l TPt l3, .l TRt l4] =>
  (.node (decide (n0 < (↑(List.length l4) : Int)))
   (let r1 : OD := (op_c48 [.s (Prod.fst (List.getD l4 (Int.toNat n0) (Ty.dflt TRt))), .n (Prod.fst (Prod.snd (List.getD l4 (Int.toNat n0) (Ty.dflt TRt)))), .l TI (Prod.fst (Prod.snd (Prod.snd (List.getD l4 (Int.toNat n0) (Ty.dflt TRt))))), .l TNd (Prod.fst (Prod.snd (Prod.snd (Prod.snd (List.getD l4 (Int.toNat n0) (Ty.dflt TRt)))))), .l TI (Prod.fst (Prod.snd (Prod.snd (Prod.snd (Prod.snd (List.getD l4 (Int.toNat n0) (Ty.dflt TRt))))))), .l TNd (Prod.snd (Prod.snd (Prod.snd (Prod.snd (Prod.snd (List.getD l4 (Int.toNat n0) (Ty.dflt TRt))))))), .s (Prod.fst (List.getD l4 (Int.toNat n0) (Ty.dflt TRt))), .n (Prod.fst (Prod.snd (List.getD l4 (Int.toNat n0) (Ty.dflt TRt)))), .l TI (Prod.fst (Prod.snd (Prod.snd (List.getD l4 (Int.toNat n0) (Ty.dflt TRt))))), .l TNd (Prod.fst (Prod.snd (Prod.snd (Prod.snd (List.getD l4 (Int.toNat n0) (Ty.dflt TRt)))))), .l TI (Prod.fst (Prod.snd (Prod.snd (Prod.snd (Prod.snd (List.getD l4 (Int.toNat n0) (Ty.dflt TRt))))))), .l TNd (Prod.snd (Prod.snd (Prod.snd (Prod.snd (Prod.snd (List.getD l4 (Int.toNat n0) (Ty.dflt TRt)))))))]);
   (.node (isK 0 [HK.b] r1)
    (.node (!gb (dOf r1) 0)
    (.leaf (Step.stop 1 [.b false]))
    (.leaf (Step.go [.k 0, .n (IntKind.wrap .i64 (n0 + (1 : Int))), .l TS l1, .l TPt l2, .l TPt l3, .l TRt l4, .l TS l1, .l TPt l2, .l TPt l3, .l TRt l4])))
    (.bad 351)))
   (.leaf (Step.stop 0 [])))
 | _ => .bad 0
theorem fn_Lc19_14_t_im (n0 : Int) (l1 : DS) (l2 : DP) (l3 : DP) (l4 : DR) (g0 : 0 ≤ n0) : Imp (fn_Lc19_14_t [.n n0, .l TS l1, .l TPt l2, .l TPt l3, .l TRt l4]) (st_Lc19_14 [.k 0, .n n0, .l TS l1, .l TPt l2, .l TPt l3, .l TRt l4, .l TS l1, .l TPt l2, .l TPt l3, .l TRt l4]) :=
(.pa [1]
(.nd (fun h0 =>
(.pq (c := (inR n0 (List.length l4)))
(.pq (c := (inR n0 (List.length l4)))
(.nd (fun h1 =>
(.pa [1,1]
(.nd (fun h2 =>
(.pa [1]
.lf)) (fun h2 =>
(.pa [1]
.lf))))) (fun h1 =>
.none))))) (fun h0 =>
(.pa [1]
.lf))))
theorem ls_c19_ok : LsOk Try.prog (z0) (lsM [(4, Lc19_4), (9, Lc19_9), (14, Lc19_14)] (z0)) (bodyOf Try.prog 19) := LsOk.many fun j B hB hk c hc hi => by
 simp only [lookM] at hB
 split at hB
 ·rename_i e; have := Nat.eq_of_beq_eq_true e; subst this; cases hB
  rw [onlyC (f := 19) (i := 4) (loopAt_one (by kernel_rfl)) (loopsAt_mem hc hi)]; exact Lc19_4_run
 split at hB
 ·rename_i e; have := Nat.eq_of_beq_eq_true e; subst this; cases hB
  rw [onlyC (f := 19) (i := 9) (loopAt_one (by kernel_rfl)) (loopsAt_mem hc hi)]; exact Lc19_9_run
 split at hB
 ·rename_i e; have := Nat.eq_of_beq_eq_true e; subst this; cases hB
  rw [onlyC (f := 19) (i := 14) (loopAt_one (by kernel_rfl)) (loopsAt_mem hc hi)]; exact Lc19_14_run
 cases hB
def kc19 (f : OpT) : FBox := mkF [laV 0, laV 4] [] [] [(.bool 0, [])] f
noncomputable def ev_c19 (env : LDt) : TD := Lk.boxC false LK cs_c48 19 (lsM [(4, Lc19_4), (9, Lc19_9), (14, Lc19_14)] (z0)) (kc19 fun _ => none) env
noncomputable def op_c19 : OpT := Classical.choose (opq (fun env => (ev_c19 env).sel))
theorem op_c19_eq (env : LDt) : op_c19 env = (ev_c19 env).sel := Classical.choose_spec (opq (fun env => (ev_c19 env).sel)) env
noncomputable def Bc19 : FBox := kc19 op_c19
theorem Bc19_ok : RunOk Try.prog 19 (boxRun Bc19) := mkF_ok (op := op_c19) cs_c48_ok hmix false (ls_c19_ok) (fun env x h => by rw [op_c19_eq] at h; rw [← boxC_lk]; exact h)
noncomputable def fn_c19_w : LDt → TD
 | [.l TS l0, .l TPt l1, .l TPt l2, .l TRt l3] =>
  (let r1 : OD := (op_c47 [.l TS l0, .l TS l0]);
   (.node (isK 0 [HK.b] r1)
   (.node (!gb (dOf r1) 0)
    (.leaf ((0, [.b false])))
    (let r2 : OD := (op_Lc19_4 [.k 0, .n (0 : Int), .l TS l0, .l TPt l1, .l TPt l2, .l TRt l3, .l TS l0, .l TPt l1, .l TPt l2, .l TRt l3]);
    (.node (isK 0 [HK.l Ty.str, HK.l TPt, HK.l TPt, HK.l TRt, HK.l Ty.str, HK.l TPt, HK.l TPt, HK.l TRt] r2)
     (let r3 : OD := (op_Lc19_9 [.k 0, .n (0 : Int), .l TS (gl Ty.str (dOf r2) 0), .l TPt (gl TPt (dOf r2) 1), .l TPt (gl TPt (dOf r2) 2), .l TRt (gl TRt (dOf r2) 3), .l TS (gl Ty.str (dOf r2) 4), .l TPt (gl TPt (dOf r2) 5), .l TPt (gl TPt (dOf r2) 6), .l TRt (gl TRt (dOf r2) 7)]);
     (.node (isK 0 [HK.l Ty.str, HK.l TPt, HK.l TPt, HK.l TRt, HK.l Ty.str, HK.l TPt, HK.l TPt, HK.l TRt] r3)
      (let r4 : OD := (op_Lc19_14 [.k 0, .n (0 : Int), .l TS (gl Ty.str (dOf r3) 0), .l TPt (gl TPt (dOf r3) 1), .l TPt (gl TPt (dOf r3) 2), .l TRt (gl TRt (dOf r3) 3), .l TS (gl Ty.str (dOf r3) 4), .l TPt (gl TPt (dOf r3) 5), .l TPt (gl TPt (dOf r3) 6), .l TRt (gl TRt (dOf r3) 7)]);
      (.node (isK 0 [] r4)
       (.leaf ((0, [.b true])))
       (.node (isK 1 [HK.b] r4)
       (.leaf ((0, [.b (gb (dOf r4) 0)])))
       (.bad 351))))
      (.node (isK 1 [HK.b] r3)
      (.leaf ((0, [.b (gb (dOf r3) 0)])))
      (.bad 351))))
     (.node (isK 1 [HK.b] r2)
     (.leaf ((0, [.b (gb (dOf r2) 0)])))
     (.bad 351)))))
   (.bad 351)))
 | _ => .bad 0
theorem fn_c19_w_im (l0 : DS) (l1 : DP) (l2 : DP) (l3 : DR) : Imp (fn_c19_w [.l TS l0, .l TPt l1, .l TPt l2, .l TRt l3]) (ev_c19 [.l TS l0, .l TPt l1, .l TPt l2, .l TRt l3, .l TS l0, .l TPt l1, .l TPt l2, .l TRt l3]) :=
(.nd (fun h0 =>
(.pa [1]
(.nd (fun h1 =>
(.pa [1,1,1,1,1,1,1]
.lf)) (fun h1 =>
(.pf (c := ((↑(List.length l1) : Int) != (↑(List.length l1) : Int))) (by kernel_rfl) (by kernel_rfl) (by (simp [*]; done))
(.pf (c := ((↑(List.length l2) : Int) != (↑(List.length l2) : Int))) (by kernel_rfl) (by kernel_rfl) (by (simp [*]; done))
(.pf (c := ((↑(List.length l3) : Int) != (↑(List.length l3) : Int))) (by kernel_rfl) (by kernel_rfl) (by (simp [*]; done))
(.nd (fun h2 =>
(.nd (fun h3 =>
(.nd (fun h4 =>
(.pa [1]
.lf)) (fun h4 =>
(.nd (fun h5 =>
(.pa [1]
.lf)) (fun h5 =>
.none))))) (fun h3 =>
(.nd (fun h4 =>
(.pa [1]
.lf)) (fun h4 =>
.none))))) (fun h2 =>
(.nd (fun h3 =>
(.pa [1]
.lf)) (fun h3 =>
.none))))))))))) (fun h0 =>
.none))
noncomputable def cs_c19 : FuncId → Option CSpec := csLend 19 Bc19 cs_c48
theorem cs_c19_ok : CsOk Try.prog cs_c19 := csLend_ok cs_c48_ok Bc19_ok
def kLc16_6 (f : OpT) : MBox := mkM (cv := [(3, [], 3, .own TRt)]) 0 [] [(sh 73 [(1, .ptr 0 0), (2, .ptr 1 0), (3, .ptr 2 0), (4, .int .i64 0)], [laB 1, nC, oC 3, .arr TS 5, .arr TPt 6, .arr TPt 7, .arr TRt 8])] [] [(.exit 0, sh 73 [(2, .ptr 0 0), (3, .ptr 1 0)], [nC, oC 2, .arr TS 0, .arr TPt 1, .arr TPt 2, .arr TRt 3])] f
noncomputable def st_Lc16_6 (env : LDt) : Tree Step := Lk.stepMC false LK cs_c19 16 6 ls0 (kLc16_6 fun _ => none) env
noncomputable def op_Lc16_6 : OpT := Classical.choose (opq (iterS st_Lc16_6 FU))
theorem op_Lc16_6_eq (env : LDt) : op_Lc16_6 env = iterS st_Lc16_6 FU env := Classical.choose_spec (opq (iterS st_Lc16_6 FU)) env
noncomputable def Lc16_6 : MBox := kLc16_6 op_Lc16_6
theorem Lc16_6_eqs : Lc16_6 = kLc16_6 (iterS st_Lc16_6 FU) := congrArg kLc16_6 (funext op_Lc16_6_eq)
theorem Lc16_6_run : ∀ t s x, (manyRun Lc16_6 t s).sel = some x → CodeOk Try.prog 0 (.loop (cAt Try.prog 16 6)) t s x := by
 rw [Lc16_6_eqs]
 exact mkM_ok (st := st_Lc16_6) (m := FU) cs_c19_ok hmix false (LsOk.none _ _ _) (by kernel_rfl) (fun env y h => by rw [← stepMC_lk]; exact h)
noncomputable def fn_Lc16_6_t : LDt → Tree Step
 | [.n n0, .l TS l1, .l TPt l2, .l TPt l3, .l TRt l4, .l TS l5, .l TPt l6, .l TPt l7, .l TRt l8] =>
  (.node (decide (n0 < (↑(List.length l4) : Int)))
   (.node (decide (List.length (Prod.fst (Prod.snd (Prod.snd (List.getD l4 (Int.toNat n0) (Ty.dflt TRt))))) * 8 ≤ 140737488355328))
   (.node (decide (List.length (Prod.fst (Prod.snd (Prod.snd (Prod.snd (List.getD l4 (Int.toNat n0) (Ty.dflt TRt)))))) * 16 ≤ 140737488355328))
    (.node (decide (List.length (Prod.fst (Prod.snd (Prod.snd (Prod.snd (Prod.snd (List.getD l4 (Int.toNat n0) (Ty.dflt TRt))))))) * 8 ≤ 140737488355328))
    (.node (decide (List.length (Prod.snd (Prod.snd (Prod.snd (Prod.snd (Prod.snd (List.getD l4 (Int.toNat n0) (Ty.dflt TRt))))))) * 16 ≤ 140737488355328))
     (.node (decide ((List.length l8 + 1) * 120 ≤ 140737488355328))
     (.leaf (Step.go [.k 0, .n (IntKind.wrap .i64 (n0 + (1 : Int))), .l TS l1, .l TPt l2, .l TPt l3, .l TRt l4, .l TS l5, .l TPt l6, .l TPt l7, .l TRt (apR (l8) (Prod.fst (List.getD l4 (Int.toNat n0) (Ty.dflt TRt)), Prod.fst (Prod.snd (List.getD l4 (Int.toNat n0) (Ty.dflt TRt))), Prod.fst (Prod.snd (Prod.snd (List.getD l4 (Int.toNat n0) (Ty.dflt TRt)))), Prod.fst (Prod.snd (Prod.snd (Prod.snd (List.getD l4 (Int.toNat n0) (Ty.dflt TRt))))), Prod.fst (Prod.snd (Prod.snd (Prod.snd (Prod.snd (List.getD l4 (Int.toNat n0) (Ty.dflt TRt)))))), Prod.snd (Prod.snd (Prod.snd (Prod.snd (Prod.snd (List.getD l4 (Int.toNat n0) (Ty.dflt TRt))))))))]))
     (.bad 62))
     (.bad 60))
    (.bad 60))
    (.bad 60))
   (.bad 60))
   (.leaf (Step.stop 0 [.l TS l5, .l TPt l6, .l TPt l7, .l TRt l8])))
 | _ => .bad 0
theorem fn_Lc16_6_t_im (n0 : Int) (l1 : DS) (l2 : DP) (l3 : DP) (l4 : DR) (l5 : DS) (l6 : DP) (l7 : DP) (l8 : DR) (g0 : 0 ≤ n0) : Imp (fn_Lc16_6_t [.n n0, .l TS l1, .l TPt l2, .l TPt l3, .l TRt l4, .l TS l5, .l TPt l6, .l TPt l7, .l TRt l8]) (st_Lc16_6 [.k 0, .n n0, .l TS l1, .l TPt l2, .l TPt l3, .l TRt l4, .l TS l5, .l TPt l6, .l TPt l7, .l TRt l8]) :=
(.pa [1]
(.nd (fun h0 =>
(.pq (c := (inR n0 (List.length l4)))
(.nd (fun h1 =>
(.nd (fun h2 =>
(.nd (fun h3 =>
(.nd (fun h4 =>
(.nd (fun h5 =>
(.pa [1]
.lf)) (fun h5 =>
.none))) (fun h4 =>
.none))) (fun h3 =>
.none))) (fun h2 =>
.none))) (fun h1 =>
.none)))) (fun h0 =>
(.pa [1]
.lf))))
theorem ls_c16_ok : LsOk Try.prog (z0) (lsM [(6, Lc16_6)] (z0)) (bodyOf Try.prog 16) := LsOk.many fun j B hB hk c hc hi => by
 simp only [lookM] at hB
 split at hB
 ·rename_i e; have := Nat.eq_of_beq_eq_true e; subst this; cases hB
  rw [onlyC (f := 16) (i := 6) (loopAt_one (by kernel_rfl)) (loopsAt_mem hc hi)]; exact Lc16_6_run
 cases hB
def kc16 (f : OpT) : FBox := mkF [laV 0] [] [] [(.agg [.own 0, .own 1, .own 2, .own 3], [.arr TS 0, .arr TPt 1, .arr TPt 2, .arr TRt 3])] f
noncomputable def ev_c16 (env : LDt) : TD := Lk.boxC false LK cs_c19 16 (lsM [(6, Lc16_6)] (z0)) (kc16 fun _ => none) env
noncomputable def op_c16 : OpT := Classical.choose (opq (fun env => (ev_c16 env).sel))
theorem op_c16_eq (env : LDt) : op_c16 env = (ev_c16 env).sel := Classical.choose_spec (opq (fun env => (ev_c16 env).sel)) env
noncomputable def Bc16 : FBox := kc16 op_c16
theorem Bc16_ok : RunOk Try.prog 16 (boxRun Bc16) := mkF_ok (op := op_c16) cs_c19_ok hmix false (ls_c16_ok) (fun env x h => by rw [op_c16_eq] at h; rw [← boxC_lk]; exact h)
noncomputable def fn_c16_t : LDt → TD
 | [.l TS l0, .l TPt l1, .l TPt l2, .l TRt l3] =>
  (.node (decide (List.length l0 * 16 ≤ 140737488355328))
   (.node (decide (List.length l1 * 24 ≤ 140737488355328))
   (.node (decide (List.length l2 * 24 ≤ 140737488355328))
    (let r1 : OD := (op_Lc16_6 [.k 0, .n (0 : Int), .l TS l0, .l TPt l1, .l TPt l2, .l TRt l3, .l TS l0, .l TPt l1, .l TPt l2, .l TRt []]);
    (.node (isK 0 [HK.l Ty.str, HK.l TPt, HK.l TPt, HK.l TRt] r1)
     (.leaf ((0, [.l TS (gl Ty.str (dOf r1) 0), .l TPt (gl TPt (dOf r1) 1), .l TPt (gl TPt (dOf r1) 2), .l TRt (gl TRt (dOf r1) 3)])))
     (.bad 351)))
    (.bad 60))
   (.bad 60))
   (.bad 60))
 | _ => .bad 0
theorem fn_c16_t_im (l0 : DS) (l1 : DP) (l2 : DP) (l3 : DR) : Imp (fn_c16_t [.l TS l0, .l TPt l1, .l TPt l2, .l TRt l3]) (ev_c16 [.l TS l0, .l TPt l1, .l TPt l2, .l TRt l3]) :=
(.nd (fun h0 =>
(.nd (fun h1 =>
(.nd (fun h2 =>
(.nd (fun h3 =>
(.pa [1]
.lf)) (fun h3 =>
.none))) (fun h2 =>
.none))) (fun h1 =>
.none))) (fun h0 =>
.none))
noncomputable def cs_c16 : FuncId → Option CSpec := csAdd 16 [Bc16] cs_c19
theorem cs_c16_ok : CsOk Try.prog cs_c16 := csAdd_ok cs_c19_ok fun B hB => by
 cases List.mem_singleton.1 hB
 exact Bc16_ok
def kLc18_10 (f : OpT) : MBox := mkM 0 [] [(sh 58 [(1, .ptr 0 0), (6, .own 1), (7, .int .i64 0), (8, .int .u64 1), (9, .int .i64 2)], [laB 3, .arr TU 7])] [] [(.exit 2, sh 58 [(1, .ptr 0 0), (6, .own 1), (7, .int .i64 0), (8, .int .u64 1)], [laB 2, .arr TU 6])] f
noncomputable def st_Lc18_10 (env : LDt) : Tree Step := Lk.stepMC false LK cs_c16 18 10 ls0 (kLc18_10 fun _ => none) env
noncomputable def op_Lc18_10 : OpT := Classical.choose (opq (iterS st_Lc18_10 FU))
theorem op_Lc18_10_eq (env : LDt) : op_Lc18_10 env = iterS st_Lc18_10 FU env := Classical.choose_spec (opq (iterS st_Lc18_10 FU)) env
noncomputable def Lc18_10 : MBox := kLc18_10 op_Lc18_10
theorem Lc18_10_eqs : Lc18_10 = kLc18_10 (iterS st_Lc18_10 FU) := congrArg kLc18_10 (funext op_Lc18_10_eq)
theorem Lc18_10_run : ∀ t s x, (manyRun Lc18_10 t s).sel = some x → CodeOk Try.prog 0 (.loop (cAt Try.prog 18 10)) t s x := by
 rw [Lc18_10_eqs]
 exact mkM_ok (st := st_Lc18_10) (m := FU) cs_c16_ok hmix false (LsOk.none _ _ _) (by kernel_rfl) (fun env y h => by rw [← stepMC_lk]; exact h)
noncomputable def fn_Lc18_10_t : LDt → Tree Step
 | [.n n0, .n n1, .n n2, .l TS l3, .l TPt l4, .l TPt l5, .l TRt l6, .l TU l7] =>
  (.node (decide (n2 < (↑(List.length l6) : Int)))
   (.node (n0 != n2)
   (let r1 : OD := (op_c46 [.l TS l3, .l TPt l4, .l TPt l5, .l TRt l6, .s (Prod.fst (List.getD l6 (Int.toNat n0) (Ty.dflt TRt))), .n (Prod.fst (Prod.snd (List.getD l6 (Int.toNat n0) (Ty.dflt TRt)))), .l TI (Prod.fst (Prod.snd (Prod.snd (List.getD l6 (Int.toNat n0) (Ty.dflt TRt))))), .l TNd (Prod.fst (Prod.snd (Prod.snd (Prod.snd (List.getD l6 (Int.toNat n0) (Ty.dflt TRt)))))), .l TI (Prod.fst (Prod.snd (Prod.snd (Prod.snd (Prod.snd (List.getD l6 (Int.toNat n0) (Ty.dflt TRt))))))), .l TNd (Prod.snd (Prod.snd (Prod.snd (Prod.snd (Prod.snd (List.getD l6 (Int.toNat n0) (Ty.dflt TRt))))))), .s (Prod.fst (List.getD l6 (Int.toNat n2) (Ty.dflt TRt))), .n (Prod.fst (Prod.snd (List.getD l6 (Int.toNat n2) (Ty.dflt TRt)))), .l TI (Prod.fst (Prod.snd (Prod.snd (List.getD l6 (Int.toNat n2) (Ty.dflt TRt))))), .l TNd (Prod.fst (Prod.snd (Prod.snd (Prod.snd (List.getD l6 (Int.toNat n2) (Ty.dflt TRt)))))), .l TI (Prod.fst (Prod.snd (Prod.snd (Prod.snd (Prod.snd (List.getD l6 (Int.toNat n2) (Ty.dflt TRt))))))), .l TNd (Prod.snd (Prod.snd (Prod.snd (Prod.snd (Prod.snd (List.getD l6 (Int.toNat n2) (Ty.dflt TRt)))))))]);
    (.node (isK 0 [HK.b] r1)
    (.node (gb (dOf r1) 0)
     (.leaf (Step.go [.k 0, .n n0, .n (ior IntKind.u64 n1 (ishl IntKind.u64 (1 : Int) n2)), .n (IntKind.wrap .i64 (n2 + (1 : Int))), .l TS l3, .l TPt l4, .l TPt l5, .l TRt l6, .l TU l7]))
     (.leaf (Step.go [.k 0, .n n0, .n n1, .n (IntKind.wrap .i64 (n2 + (1 : Int))), .l TS l3, .l TPt l4, .l TPt l5, .l TRt l6, .l TU l7])))
    (.bad 351)))
   (.leaf (Step.go [.k 0, .n n0, .n n1, .n (IntKind.wrap .i64 (n2 + (1 : Int))), .l TS l3, .l TPt l4, .l TPt l5, .l TRt l6, .l TU l7])))
   (.leaf (Step.stop 0 [.n n0, .n n1, .l TS l3, .l TPt l4, .l TPt l5, .l TRt l6, .l TU l7])))
 | _ => .bad 0
theorem fn_Lc18_10_t_im (n0 : Int) (n1 : Int) (n2 : Int) (l3 : DS) (l4 : DP) (l5 : DP) (l6 : DR) (l7 : List (Ty.den TU)) (g0 : 0 ≤ n0) (g1 :  0 ≤ n2) (g2 :  n0 < (l6.length : Int)) : Imp (fn_Lc18_10_t [.n n0, .n n1, .n n2, .l TS l3, .l TPt l4, .l TPt l5, .l TRt l6, .l TU l7]) (st_Lc18_10 [.k 0, .n n0, .n n1, .n n2, .l TS l3, .l TPt l4, .l TPt l5, .l TRt l6, .l TU l7]) :=
(.pa [1]
(.nd (fun h0 =>
(.nd (fun h1 =>
(.pq (c := (inR n0 (List.length l6)))
(.pq (c := (inR n2 (List.length l6)))
(.nd (fun h2 =>
(.pa [1,1]
(.nd (fun h3 =>
(.pt (c := (!decide (n2 < (0 : Int)))) (by kernel_rfl) (by kernel_rfl) (by (simp [*]; done))
(.pa [1]
.lf))) (fun h3 =>
(.pa [1]
.lf))))) (fun h2 =>
.none))))) (fun h1 =>
(.pa [0,1,0,1]
.lf)))) (fun h0 =>
(.pa [1]
.lf))))
def kLc18_6 (f : OpT) : MBox := mkM 0 [] [(sh 58 [(1, .ptr 0 0), (6, .own 1), (7, .int .i64 0)], [laB 1, .arr TU 5])] [(6, TU)] [(.exit 0, sh 58 [(6, .own 0)], [.arr TU 0])] f
noncomputable def st_Lc18_6 (env : LDt) : Tree Step := Lk.stepMC false LK cs_c16 18 6 (lsM [(10, Lc18_10)] 0) (kLc18_6 fun _ => none) env
noncomputable def op_Lc18_6 : OpT := Classical.choose (opq (iterS st_Lc18_6 FU))
theorem op_Lc18_6_eq (env : LDt) : op_Lc18_6 env = iterS st_Lc18_6 FU env := Classical.choose_spec (opq (iterS st_Lc18_6 FU)) env
noncomputable def Lc18_6 : MBox := kLc18_6 op_Lc18_6
theorem Lc18_6_eqs : Lc18_6 = kLc18_6 (iterS st_Lc18_6 FU) := congrArg kLc18_6 (funext op_Lc18_6_eq)
theorem Lc18_6_in : LsOk Try.prog 0 (lsM [(10, Lc18_10)] 0) (cAt Try.prog 18 6) := LsOk.many fun j B hB hk c hc hi => by
 simp only [lookM] at hB
 split at hB
 ·rename_i e; have := Nat.eq_of_beq_eq_true e; subst this; cases hB
  have e1 : loopsAt (cAt Try.prog 18 6) 10 = [cAt Try.prog 18 10] := by kernel_rfl
  have e2 := loopsAt_mem hc hi
  rw [e1] at e2; cases List.mem_singleton.1 e2; exact Lc18_10_run
 cases hB
theorem Lc18_6_run : ∀ t s x, (manyRun Lc18_6 t s).sel = some x → CodeOk Try.prog 0 (.loop (cAt Try.prog 18 6)) t s x := by
 rw [Lc18_6_eqs]
 exact mkM_ok (st := st_Lc18_6) (m := FU) cs_c16_ok hmix false (Lc18_6_in) (by kernel_rfl) (fun env y h => by rw [← stepMC_lk]; exact h)
noncomputable def fn_Lc18_6_t : LDt → Tree Step
 | [.n n0, .l TS l1, .l TPt l2, .l TPt l3, .l TRt l4, .l TU l5] =>
  (.node (decide (n0 < (↑(List.length l4) : Int)))
   (let r1 : OD := (op_Lc18_10 [.k 0, .n n0, .n (0 : Int), .n (0 : Int), .l TS l1, .l TPt l2, .l TPt l3, .l TRt l4, .l TU l5]);
   (.node (isK 0 [HK.n, HK.n, HK.l Ty.str, HK.l TPt, HK.l TPt, HK.l TRt, HK.l TU] r1)
    (.node (decide ((List.length (gl TU (dOf r1) 6) + 1) * 8 ≤ 140737488355328))
    (.leaf (Step.go [.k 0, .n (IntKind.wrap .i64 (gn (dOf r1) 0 + (1 : Int))), .l TS (gl Ty.str (dOf r1) 2), .l TPt (gl TPt (dOf r1) 3), .l TPt (gl TPt (dOf r1) 4), .l TRt (gl TRt (dOf r1) 5), .l TU (gl TU (dOf r1) 6 ++ [gn (dOf r1) 1])]))
    (.bad 62))
    (.bad 351)))
   (.leaf (Step.stop 0 [.l TU l5])))
 | _ => .bad 0
theorem fn_Lc18_6_t_im (n0 : Int) (l1 : DS) (l2 : DP) (l3 : DP) (l4 : DR) (l5 : List (Ty.den TU)) (g0 : 0 ≤ n0) : Imp (fn_Lc18_6_t [.n n0, .l TS l1, .l TPt l2, .l TPt l3, .l TRt l4, .l TU l5]) (st_Lc18_6 [.k 0, .n n0, .l TS l1, .l TPt l2, .l TPt l3, .l TRt l4, .l TU l5]) :=
(.pa [1]
(.nd (fun h0 =>
(.nd (fun h1 =>
(.nd (fun h2 =>
(.pa [1]
.lf)) (fun h2 =>
.none))) (fun h1 =>
.none))) (fun h0 =>
(.pa [1]
.lf))))
theorem ls_c18_ok : LsOk Try.prog (z0) (lsM [(6, Lc18_6)] (z0)) (bodyOf Try.prog 18) := LsOk.many fun j B hB hk c hc hi => by
 simp only [lookM] at hB
 split at hB
 ·rename_i e; have := Nat.eq_of_beq_eq_true e; subst this; cases hB
  rw [onlyC (f := 18) (i := 6) (loopAt_one (by kernel_rfl)) (loopsAt_mem hc hi)]; exact Lc18_6_run
 cases hB
def kc18 (f : OpT) : FBox := mkF [laV 0] [] [] [(.tup [.own 0, .int .i64 0], [.arr TU 1]), (.tup [.nilsl, .int .i64 0], [])] f
noncomputable def ev_c18 (env : LDt) : TD := Lk.boxC false LK cs_c16 18 (lsM [(6, Lc18_6)] (z0)) (kc18 fun _ => none) env
noncomputable def op_c18 : OpT := Classical.choose (opq (fun env => (ev_c18 env).sel))
theorem op_c18_eq (env : LDt) : op_c18 env = (ev_c18 env).sel := Classical.choose_spec (opq (fun env => (ev_c18 env).sel)) env
noncomputable def Bc18 : FBox := kc18 op_c18
theorem Bc18_ok : RunOk Try.prog 18 (boxRun Bc18) := mkF_ok (op := op_c18) cs_c16_ok hmix false (ls_c18_ok) (fun env x h => by rw [op_c18_eq] at h; rw [← boxC_lk]; exact h)
noncomputable def fn_c18_t : LDt → TD
 | [.l TS l0, .l TPt l1, .l TPt l2, .l TRt l3] =>
  (let r1 : OD := (op_19 [.l TS l0, .l TPt l1, .l TPt l2, .l TRt l3]);
   (.node (isK 0 [HK.n, HK.n] r1)
   (.node (gn (dOf r1) 0 != (0 : Int))
    (.leaf ((1, [.n (gn (dOf r1) 0)])))
    (let r2 : OD := (op_Lc18_6 [.k 0, .n (0 : Int), .l TS l0, .l TPt l1, .l TPt l2, .l TRt l3, .l TU []]);
    (.node (isK 0 [HK.l TU] r2)
     (.leaf ((0, [.n (0 : Int), .l TU (gl TU (dOf r2) 0)])))
     (.bad 351))))
   (.bad 351)))
 | _ => .bad 0
theorem fn_c18_t_im (l0 : DS) (l1 : DP) (l2 : DP) (l3 : DR) : Imp (fn_c18_t [.l TS l0, .l TPt l1, .l TPt l2, .l TRt l3]) (ev_c18 [.l TS l0, .l TPt l1, .l TPt l2, .l TRt l3]) :=
(.nd (fun h0 =>
(.pa [1]
(.nd (fun h1 =>
(.pa [1]
.lf)) (fun h1 =>
(.nd (fun h2 =>
(.pa [1]
.lf)) (fun h2 =>
.none)))))) (fun h0 =>
.none))
noncomputable def cs_c18 : FuncId → Option CSpec := csLend 18 Bc18 cs_c16
theorem cs_c18_ok : CsOk Try.prog cs_c18 := csLend_ok cs_c16_ok Bc18_ok
def kL3_9 (f : OpT) : MBox := mkM 0 [] [(sh 57 [(4, .own 0), (6, .own 1), (8, .int .i64 0)], [.arr TU 1, .arr TU 2])] [(4, TU), (6, TU)] [(.exit 0, sh 57 [], []), (.ret, sh 57 [(2, .bool 0)], [])] f
noncomputable def st_L3_9 (env : LDt) : Tree Step := Lk.stepMC false LK cs_c18 3 9 ls0 (kL3_9 fun _ => none) env
noncomputable def op_L3_9 : OpT := Classical.choose (opq (iterS st_L3_9 FU))
theorem op_L3_9_eq (env : LDt) : op_L3_9 env = iterS st_L3_9 FU env := Classical.choose_spec (opq (iterS st_L3_9 FU)) env
noncomputable def L3_9 : MBox := kL3_9 op_L3_9
theorem L3_9_eqs : L3_9 = kL3_9 (iterS st_L3_9 FU) := congrArg kL3_9 (funext op_L3_9_eq)
theorem L3_9_run : ∀ t s x, (manyRun L3_9 t s).sel = some x → CodeOk Try.prog 0 (.loop (cAt Try.prog 3 9)) t s x := by
 rw [L3_9_eqs]
 exact mkM_ok (st := st_L3_9) (m := FU) cs_c18_ok hmix false (LsOk.none _ _ _) (by kernel_rfl) (fun env y h => by rw [← stepMC_lk]; exact h)
noncomputable def fn_L3_9_t : LDt → Tree Step
 | [.n n0, .l TU l1] =>
  (.node (decide (n0 < (↑(List.length l1) : Int)))
   (.leaf (Step.go [.k 0, .n (IntKind.wrap .i64 (n0 + (1 : Int))), .l TU l1, .l TU l1]))
   (.leaf (Step.stop 0 [])))
 | _ => .bad 0
theorem fn_L3_9_t_im (n0 : Int) (l1 : List (Ty.den TU)) (g0 : 0 ≤ n0) : Imp (fn_L3_9_t [.n n0, .l TU l1]) (st_L3_9 [.k 0, .n n0, .l TU l1, .l TU l1]) :=
(.pa [1]
(.nd (fun h0 =>
(.pq (c := (inR n0 (List.length l1)))
(.pq (c := (inR n0 (List.length l1)))
(.pa [1]
(.pf (c := ((List.getD l1 (Int.toNat n0) (0 : Int) : Int) != (List.getD l1 (Int.toNat n0) (0 : Int) : Int))) (by kernel_rfl) (by kernel_rfl) (by (simp [*]; done))
(.pa [1]
.lf)))))) (fun h0 =>
(.pa [1]
.lf))))
theorem ls_3_ok : LsOk Try.prog (0) (lsM [(9, L3_9)] (0)) (bodyOf Try.prog 3) := LsOk.many fun j B hB hk c hc hi => by
 simp only [lookM] at hB
 split at hB
 ·rename_i e; have := Nat.eq_of_beq_eq_true e; subst this; cases hB
  rw [onlyC (f := 3) (i := 9) (loopAt_one (by kernel_rfl)) (loopsAt_mem hc hi)]; exact L3_9_run
 cases hB
noncomputable def ev_W3 (env : LDt) : Tree Bool := Lk.lawB false LK cs_c18 3 (lsM [(9, L3_9)] (0)) (instL [laV 0] env)
theorem W3_law (env : LDt) (h : (ev_W3 env).sel = some true) {w : World} {args : Array Value} (ha : LRel R0 (snapOf w) (instL [laV 0] env) args) :
  Calls Try.prog 3 args w fun e w' => e = .returned (.bool true) ∧ Below w.heap.size w w' :=
 lawB_ok cs_c18_ok hmix false (ls := (lsM [(9, L3_9)] (0))) (ls_3_ok) (by rw [← lawB_lk]; exact h) ha
noncomputable def fn_W3_t : LDt → Tree Bool
 | [.l TS l0, .l TPt l1, .l TPt l2, .l TRt l3] =>
  (let r1 : OD := (op_15 [.l TS l0, .l TPt l1, .l TPt l2, .l TRt l3, .n (1000 : Int)]);
   (.node (isK 0 [HK.n] r1)
   (.node (decide (gn (dOf r1) 0 > (1000 : Int)))
    (.leaf (true))
    (let r2 : OD := (op_c16 [.l TS l0, .l TPt l1, .l TPt l2, .l TRt l3]);
    (.node (isK 0 [HK.l Ty.str, HK.l TPt, HK.l TPt, HK.l TRt] r2)
     (let r3 : OD := (op_c17 [.l TS (gl Ty.str (dOf r2) 0), .l TPt (gl TPt (dOf r2) 1), .l TPt (gl TPt (dOf r2) 2), .l TRt (gl TRt (dOf r2) 3)]);
     (.node (isK 0 [HK.n, HK.l TU] r3)
      (let r4 : OD := (op_c18 [.l TS l0, .l TPt l1, .l TPt l2, .l TRt l3]);
      (.node (isK 0 [HK.n, HK.l TU] r4)
       (.node (gn (dOf r3) 0 != gn (dOf r4) 0)
       (.leaf (false))
       (.node ((↑(List.length (gl TU (dOf r3) 1)) : Int) != (↑(List.length (gl TU (dOf r4) 1)) : Int))
        (.leaf (false))
        (let r5 : OD := (op_c19 [.l TS (gl Ty.str (dOf r2) 0), .l TPt (gl TPt (dOf r2) 1), .l TPt (gl TPt (dOf r2) 2), .l TRt (gl TRt (dOf r2) 3), .l TS l0, .l TPt l1, .l TPt l2, .l TRt l3]);
        (.node (isK 0 [HK.b] r5)
         (.node (!gb (dOf r5) 0)
         (.leaf (false))
         (let r6 : OD := (op_L3_9 [.k 0, .n (0 : Int), .l TU (gl TU (dOf r3) 1), .l TU (gl TU (dOf r4) 1)]);
          (.node (isK 0 [] r6)
          (.leaf (true))
          (.node (isK 1 [HK.b] r6)
           (.leaf (gb (dOf r6) 0))
           (.bad 351)))))
         (.bad 351)))))
       (.node (isK 1 [HK.n] r4)
       (.node (gn (dOf r3) 0 != gn (dOf r4) 0)
        (.leaf (false))
        (.node ((↑(List.length (gl TU (dOf r3) 1)) : Int) != (0 : Int))
        (.leaf (false))
        (let r5 : OD := (op_c19 [.l TS (gl Ty.str (dOf r2) 0), .l TPt (gl TPt (dOf r2) 1), .l TPt (gl TPt (dOf r2) 2), .l TRt (gl TRt (dOf r2) 3), .l TS l0, .l TPt l1, .l TPt l2, .l TRt l3]);
         (.node (isK 0 [HK.b] r5)
         (.node (!gb (dOf r5) 0)
          (.leaf (false))
          (let r6 : OD := (op_L3_9 [.k 0, .n (0 : Int), .l TU (gl TU (dOf r3) 1), .l TU []]);
          (.node (isK 0 [] r6)
           (.leaf (true))
           (.node (isK 1 [HK.b] r6)
           (.leaf (gb (dOf r6) 0))
           (.bad 351)))))
         (.bad 351)))))
       (.bad 351))))
      (.node (isK 1 [HK.n] r3)
      (let r4 : OD := (op_c18 [.l TS l0, .l TPt l1, .l TPt l2, .l TRt l3]);
       (.node (isK 0 [HK.n, HK.l TU] r4)
       (.node (gn (dOf r3) 0 != gn (dOf r4) 0)
        (.leaf (false))
        (.node ((0 : Int) != (↑(List.length (gl TU (dOf r4) 1)) : Int))
        (.leaf (false))
        (let r5 : OD := (op_c19 [.l TS (gl Ty.str (dOf r2) 0), .l TPt (gl TPt (dOf r2) 1), .l TPt (gl TPt (dOf r2) 2), .l TRt (gl TRt (dOf r2) 3), .l TS l0, .l TPt l1, .l TPt l2, .l TRt l3]);
         (.node (isK 0 [HK.b] r5)
         (.node (!gb (dOf r5) 0)
          (.leaf (false))
          (let r6 : OD := (op_L3_9 [.k 0, .n (0 : Int), .l TU [], .l TU (gl TU (dOf r4) 1)]);
          (.node (isK 0 [] r6)
           (.leaf (true))
           (.node (isK 1 [HK.b] r6)
           (.leaf (gb (dOf r6) 0))
           (.bad 351)))))
         (.bad 351)))))
       (.node (isK 1 [HK.n] r4)
        (.node (gn (dOf r3) 0 != gn (dOf r4) 0)
        (.leaf (false))
        (let r5 : OD := (op_c19 [.l TS (gl Ty.str (dOf r2) 0), .l TPt (gl TPt (dOf r2) 1), .l TPt (gl TPt (dOf r2) 2), .l TRt (gl TRt (dOf r2) 3), .l TS l0, .l TPt l1, .l TPt l2, .l TRt l3]);
         (.node (isK 0 [HK.b] r5)
         (.node (!gb (dOf r5) 0)
          (.leaf (false))
          (let r6 : OD := (op_L3_9 [.k 0, .n (0 : Int), .l TU [], .l TU []]);
          (.node (isK 0 [] r6)
           (.leaf (true))
           (.node (isK 1 [HK.b] r6)
           (.leaf (gb (dOf r6) 0))
           (.bad 351)))))
         (.bad 351))))
        (.bad 351))))
      (.bad 351))))
     (.bad 351))))
   (.bad 351)))
 | _ => .bad 0
theorem fn_W3_t_im (l0 : DS) (l1 : DP) (l2 : DP) (l3 : DR) : Imp (fn_W3_t [.l TS l0, .l TPt l1, .l TPt l2, .l TRt l3]) (ev_W3 [.l TS l0, .l TPt l1, .l TPt l2, .l TRt l3]) :=
(.nd (fun h0 =>
(.pa [1]
(.nd (fun h1 =>
(.pa [1,1,1]
.lf)) (fun h1 =>
(.pa [1]
(.nd (fun h2 =>
(.pa [1]
(.nd (fun h3 =>
(.pa [1]
(.nd (fun h4 =>
(.pa [1]
(.nd (fun h5 =>
(.pa [1,1,1,1]
.lf)) (fun h5 =>
(.nd (fun h6 =>
(.pa [1,1]
.lf)) (fun h6 =>
(.nd (fun h7 =>
(.pa [1]
(.nd (fun h8 =>
.lf) (fun h8 =>
(.nd (fun h9 =>
(.pa [1,1,1]
.lf)) (fun h9 =>
(.nd (fun h10 =>
.lf) (fun h10 =>
.none)))))))) (fun h7 =>
.none)))))))) (fun h4 =>
(.nd (fun h5 =>
(.pa [1]
(.nd (fun h6 =>
(.pa [1,1,1,1]
.lf)) (fun h6 =>
(.nd (fun h7 =>
(.pa [1,1]
.lf)) (fun h7 =>
(.nd (fun h8 =>
(.pa [1]
(.nd (fun h9 =>
.lf) (fun h9 =>
(.nd (fun h10 =>
(.pa [1,1,1]
.lf)) (fun h10 =>
(.nd (fun h11 =>
.lf) (fun h11 =>
.none)))))))) (fun h8 =>
.none)))))))) (fun h5 =>
.none)))))) (fun h3 =>
(.nd (fun h4 =>
(.pa [1]
(.nd (fun h5 =>
(.pa [1]
(.nd (fun h6 =>
(.pa [1,1,1,1]
.lf)) (fun h6 =>
(.nd (fun h7 =>
(.pa [1,1]
.lf)) (fun h7 =>
(.nd (fun h8 =>
(.pa [1]
(.nd (fun h9 =>
.lf) (fun h9 =>
(.nd (fun h10 =>
(.pa [1,1,1]
.lf)) (fun h10 =>
(.nd (fun h11 =>
.lf) (fun h11 =>
.none)))))))) (fun h8 =>
.none)))))))) (fun h5 =>
(.nd (fun h6 =>
(.pa [1]
(.nd (fun h7 =>
(.pa [1,1,1,1]
.lf)) (fun h7 =>
(.pa [0]
(.nd (fun h8 =>
(.pa [1]
(.nd (fun h9 =>
.lf) (fun h9 =>
(.nd (fun h10 =>
(.pa [1,1,1]
.lf)) (fun h10 =>
(.nd (fun h11 =>
.lf) (fun h11 =>
.none)))))))) (fun h8 =>
.none))))))) (fun h6 =>
.none)))))) (fun h4 =>
.none)))))) (fun h2 =>
.none))))))) (fun h0 =>
.none))
end Go.Proofs.Ytfkcodaiiheniaa.Vx
namespace Go.Proofs.Ytfkcodaiiheniaa.Vx
open Go Go.RowKit
set_option linter.unusedVariables false
set_option linter.unusedSimpArgs false
set_option maxRecDepth 100000
set_option maxHeartbeats 1000000
theorem inR_t {i : Int} {n : Nat} (h0 : 0 ≤ i) (h1 : i < (n : Int)) : inR i n = true := inR_iff.2 ⟨h0, h1⟩
theorem rtG_of {b c : LP} {e : Rt} (h : rtOk b c e) : rtG b e = true := by
 obtain ⟨_, ⟨h1, h2, h3, h4⟩, h5, h6⟩ := h
 unfold rtG
 rw [dt h1, dt h2, dt h3, dt h4]
 simp only [Bool.true_and, List.all_eq_true]
 intro d hd
 rcases List.mem_append.1 (show d ∈ eQ e ++ eF e from hd) with hd | hd
 ·exact inR_iff.2 (h5 d hd)
 ·exact inR_iff.2 (h6 d hd)
theorem oCl (a : LS) (b c : LP) (r : LR) (i j : Int) (hm : mayL a b c r = true) (hi : 0 ≤ i ∧ i < (r.length : Int)) (hj : 0 ≤ j ∧ j < (r.length : Int)) :
  op_cl [.l TS a, .l TPt b, .l TPt c, .l TRt r, .n i, .n j] = some (0, [.b (clF b r i j)]) := by
 rw [op_cl_eq]
 obtain ⟨_, _, hr⟩ := may_rt hm
 have h1 : okC b r i j = true := by
  unfold okC
  rw [inR_t hi.1 hi.2, inR_t hj.1 hj.2]
  have g1 : rtG b (rAt r i) = true := rtG_of (hr i.toNat (by omega))
  have g2 : rtG b (rAt r j) = true := rtG_of (hr j.toNat (by omega))
  rw [g1, g2]; rfl
 show (match castL TS TS a, castL TPt TPt b, castL TPt TPt c, castL TRt TRt r with | some a, some b, some c, some r => bif okC b r i j then some (0, [Dat.b (clF b r i j)]) else none | _, _, _, _ => none) = _
 simp only [castL_self, h1]
 rfl
theorem sdF_nd {l : LN} (hn : (nd l).Nodup) {d : Ty.den TNd} (hd : d ∈ l) : sdF l (f1 d) = some (g2 d) := by
 induction l with
 | nil => cases hd
 | cons e l ih =>
  have hn' : (f1 e :: nd l).Nodup := hn
  rw [List.nodup_cons] at hn'
  unfold sdF
  rw [List.find?_cons]
  rcases List.mem_cons.1 hd with rfl | hd
  ·rw [show (f1 d == f1 d) = true from bt rfl]; rfl
  ·have : f1 e ≠ f1 d := fun h => hn'.1 (h ▸ List.mem_map_of_mem (f := f1) hd)
   rw [show (f1 e == f1 d) = false from bf this]
   exact ih hn'.2 hd
end Go.Proofs.Ytfkcodaiiheniaa.Vx
namespace Go.Proofs.Ytfkcodaiiheniaa.Vx
open Go Go.RowKit
set_option linter.unusedVariables false
set_option linter.unusedSimpArgs false
set_option maxRecDepth 100000
set_option maxHeartbeats 1000000
abbrev B64 := BitVec 64
def pw2 (k : Nat) : B64 := 1#64 <<< k
theorem pw2_bit (k i : Nat) : (pw2 k).getLsbD i = (decide (i < 64) && decide (i = k)) := by
 unfold pw2
 rw [BitVec.getLsbD_shiftLeft]
 by_cases h : i = k
 ·subst h; simp
 ·by_cases h2 : i < k
  ·simp [h, h2]
  ·have : i - k ≠ 0 := by omega
   simp [h, h2, this]
theorem ishlB (k : Nat) : ishl IntKind.u64 (1 : Int) (k : Int) = N (pw2 k) := by
 rw [show (1 : Int) = N (1#64) from rfl, ishl_u64]; rfl
abbrev LB64 := List B64
def NL (T : LB64) : List Int := T.map N
theorem NL_len (T : LB64) : (NL T).length = T.length := List.length_map ..
theorem NL_at (T : LB64) (x : Nat) : (NL T).getD x 0 = N (T.getD x 0#64) := by
 unfold NL
 rw [List.getD_eq_getElem?_getD, List.getD_eq_getElem?_getD, List.getElem?_map]
 cases T[x]? <;> rfl
theorem NL_set (T : LB64) (x : Nat) (v : B64) : (NL T).set x (N v) = NL (T.set x v) := by
 unfold NL; rw [List.map_set]
def bitT (T : LB64) (x y : Nat) : Bool := (T.getD x 0#64).getLsbD y
def orB (T : LB64) (x k : Nat) : LB64 := T.set x (T.getD x 0#64 ||| pw2 k)
theorem orB_len (T : LB64) (x k : Nat) : (orB T x k).length = T.length := List.length_set ..
theorem bt_or (T : LB64) {x k : Nat} (hx : x < T.length) (x' : Nat) {y : Nat} (hy : y < 64) : bitT (orB T x k) x' y = (bitT T x' y || (decide (x' = x) && decide (y = k))) := by
 unfold bitT orB
 rw [List.getD_eq_getElem?_getD, List.getElem?_set]
 by_cases h : x = x'
 ·subst h
  rw [if_pos rfl, if_pos hx, Option.getD_some, BitVec.getLsbD_or, pw2_bit, dt hy, dt rfl]
 ·rw [if_neg h, df (fun e => h e.symm), Bool.false_and, Bool.or_false, ← List.getD_eq_getElem?_getD]
def orII (T : LB64) (i k : Nat) : LB64 := orB (orB T i k) k i
def rowK (cl : Nat → Nat → Bool) (i : Nat) : Nat → LB64 → LB64
 | 0, T => T
 | k + 1, T => bif cl i k then orII (rowK cl i k T) i k else rowK cl i k T
def tabI (cl : Nat → Nat → Bool) (m : Nat) : Nat → LB64
 | 0 => List.replicate m 0#64
 | i + 1 => rowK cl i i (tabI cl m i)
theorem orII_len (T : LB64) (i k : Nat) : (orII T i k).length = T.length := by unfold orII; rw [orB_len, orB_len]
theorem rowK_len (cl : Nat → Nat → Bool) (i : Nat) (T : LB64) : ∀ k, (rowK cl i k T).length = T.length
 | 0 => rfl
 | k + 1 => by
  unfold rowK
  cases cl i k with
  | true => rw [cond_true, orII_len]; exact rowK_len cl i T k
  | false => exact rowK_len cl i T k
theorem tabI_len (cl : Nat → Nat → Bool) (m : Nat) : ∀ i, (tabI cl m i).length = m
 | 0 => List.length_replicate ..
 | i + 1 => by unfold tabI; rw [rowK_len]; exact tabI_len cl m i
theorem bt_row (cl : Nat → Nat → Bool) (i : Nat) (T : LB64) (hi : i < T.length) (x : Nat) {y : Nat} (hy : y < 64) : ∀ k, k ≤ i → bitT (rowK cl i k T) x y = (bitT T x y || ((decide (x = i) && (decide (y < k) && cl i y)) || (decide (y = i) && (decide (x < k) && cl i x))))
 | 0, _ => by
  show bitT T x y = _
  rw [df (show ¬ y < 0 by omega), df (show ¬ x < 0 by omega)]; simp
 | k + 1, hk => by
  have ih := bt_row cl i T hi x hy k (by omega)
  have hl := rowK_len cl i T k
  unfold rowK
  have e : bitT (bif cl i k then orII (rowK cl i k T) i k else rowK cl i k T) x y = (bitT (rowK cl i k T) x y || (cl i k && ((decide (x = i) && decide (y = k)) || (decide (x = k) && decide (y = i))))) := by
   cases hc : cl i k with
   | false => simp
   | true =>
    rw [cond_true]
    unfold orII
    rw [bt_or _ (by rw [orB_len, hl]; omega) x hy, bt_or _ (by rw [hl]; exact hi) x hy]
    simp [Bool.or_assoc]
  rw [e, ih]
  by_cases h1 : x = i
  ·by_cases h2 : y = k
   ·subst h1 h2
    rw [dt rfl, dt rfl, df (show ¬ y < y by omega), dt (show y < y + 1 by omega), df (show ¬ y = x by omega), df (show ¬ x = y by omega)]
    simp
   ·by_cases h3 : x = k
    ·omega
    ·subst h1
     rw [dt rfl, df h2, df h3, show decide (y < k + 1) = decide (y < k) from decide_eq_decide.2 (by omega), df (show ¬ x < k by omega), df (show ¬ x < k + 1 by omega)]
     simp
  ·by_cases h3 : x = k
   ·by_cases h4 : y = i
    ·subst h3 h4
     rw [df h1, dt rfl, dt rfl, df (show ¬ x < x by omega), dt (show x < x + 1 by omega)]
     simp
    ·subst h3
     rw [df h1, df h4]; simp
   ·rw [df h1, df h3, show decide (x < k + 1) = decide (x < k) from decide_eq_decide.2 (by omega)]; simp
theorem bt_tab (cl : Nat → Nat → Bool) (m : Nat) (x : Nat) {y : Nat} (hy : y < 64) : ∀ i, i ≤ m → bitT (tabI cl m i) x y = (decide (x < i) && decide (y < i) && ((decide (y < x) && cl x y) || (decide (x < y) && cl y x)))
 | 0, _ => by
  rw [df (show ¬ x < 0 by omega)]
  show bitT (List.replicate m 0#64) x y = _
  unfold bitT
  have : (List.replicate m 0#64).getD x 0#64 = 0#64 := by
   rw [List.getD_eq_getElem?_getD, List.getElem?_replicate]; split <;> rfl
  rw [this]; simp
 | i + 1, hi => by
  have ih := bt_tab cl m x hy i (by omega)
  unfold tabI
  rw [bt_row cl i _ (by rw [tabI_len]; omega) x hy i (Nat.le_refl _), ih]
  by_cases h1 : x = i
  ·subst h1
   rw [df (show ¬ x < x by omega), dt (show x < x + 1 by omega), dt rfl]
   by_cases h2 : y < x
   ·rw [dt h2, df (show ¬ y = x by omega), dt (show y < x + 1 by omega), df (show ¬ x < y by omega)]; simp
   ·by_cases h3 : y = x
    ·subst h3; rw [df h2, dt rfl]; simp
    ·rw [df h2, df h3, df (show ¬ y < x + 1 by omega)]; simp
  ·by_cases h2 : y = i
   ·subst h2
    rw [df h1, dt rfl, df (show ¬ y < y by omega), dt (show y < y + 1 by omega), show decide (x < y + 1) = decide (x < y) from decide_eq_decide.2 (by omega)]
    by_cases h3 : x < y
    ·rw [dt h3, df (show ¬ y < x by omega)]; simp
    ·rw [df h3]; simp
   ·rw [df h1, df h2, show decide (x < i + 1) = decide (x < i) from decide_eq_decide.2 (by omega), show decide (y < i + 1) = decide (y < i) from decide_eq_decide.2 (by omega)]; simp
theorem sdF_some {l : LN} {p : Int} {z : Bool} (h : sdF l p = some z) : ∃ d ∈ l, f1 d = p ∧ g2 d = z := by
 unfold sdF at h
 rw [Option.map_eq_some_iff] at h
 obtain ⟨d, h1, h2⟩ := h
 have hh : (f1 d == p) = true := List.find?_some (p := fun d => f1 d == p) h1
 exact ⟨d, List.mem_of_find?_eq_some h1, qeT hh, h2⟩
theorem sds_nodup (l : LN) : (nd (sds l)).Nodup := by
 unfold sds
 have : ∀ (l acc : LN), (nd acc).Nodup → (nd (l.foldl sdStep acc)).Nodup := by
  intro l
  induction l with
  | nil => intro acc h; exact h
  | cons d l ih =>
   intro acc h
   rw [List.foldl_cons]
   refine ih _ ?_
   unfold sdStep
   cases hc : sdF acc (f1 d) with
   | some _ => exact h
   | none =>
    have hm : f1 d ∉ nd acc := fun hm => by
     obtain ⟨e, he, h2⟩ := List.mem_map.1 hm
     have := sdF_nd h he
     rw [h2, hc] at this; cases this
    have e : nd (apN acc d) = nd acc ++ [f1 d] := by
     show List.map f1 (acc ++ [d]) = _
     rw [List.map_append]; rfl
    show (nd (apN acc d)).Nodup
    rw [e, List.nodup_append]
    refine ⟨h, List.nodup_cons.2 ⟨by simp, List.nodup_nil⟩, fun x hx y hy e => ?_⟩
    rw [List.mem_singleton.1 hy] at e
    exact hm (e ▸ hx)
 exact this l [] List.nodup_nil
theorem shF_comm (a b : LI) : shF a b = shF b a := by
 unfold shF
 rw [Bool.eq_iff_iff, List.any_eq_true, List.any_eq_true]
 constructor
 ·rintro ⟨x, h1, h2⟩; exact ⟨x, of_decide_eq_true h2, dt h1⟩
 ·rintro ⟨x, h1, h2⟩; exact ⟨x, of_decide_eq_true h2, dt h1⟩
theorem unF_le {a b : LN} (ha : (nd a).Nodup) (h : unF a b = true) : unF b a = true := by
 unfold unF at *
 rw [List.any_eq_true] at *
 obtain ⟨d, h1, h2⟩ := h
 unfold unAt at h2
 cases hs : sdF b (f1 d) with
 | none => rw [hs] at h2; cases h2
 | some z =>
  rw [hs] at h2
  have h2 : (z != g2 d) = true := h2
  obtain ⟨e, e1, e2, e3⟩ := sdF_some hs
  refine ⟨e, e1, ?_⟩
  unfold unAt
  rw [e2, sdF_nd ha h1]
  show (g2 d != g2 e) = true
  rw [e3]
  revert h2
  cases z <;> cases g2 d <;> simp
theorem unF_comm {a b : LN} (ha : (nd a).Nodup) (hb : (nd b).Nodup) : unF a b = unF b a := by
 rw [Bool.eq_iff_iff]; exact ⟨unF_le ha, unF_le hb⟩
theorem cfE_comm (b : LP) (x y : Rt) : cfE b x y = cfE b y x := by
 unfold cfE
 rw [shF_comm, unF_comm (sds_nodup _) (sds_nodup _), decide_eq_decide.2 (show eN x = eN y ↔ eN y = eN x from ⟨Eq.symm, Eq.symm⟩), Bool.or_comm (wayF b (sds (ndsE x)) (trk y) (sds (ndsE y)))]
theorem clF_comm (b : LP) (r : LR) (i j : Int) : clF b r i j = clF b r j i := by
 unfold clF
 rw [cfE_comm, decide_eq_decide.2 (show i = j ↔ j = i from ⟨Eq.symm, Eq.symm⟩)]
theorem clF_self (b : LP) (r : LR) (i : Int) : clF b r i i = false := by unfold clF; rw [dt rfl]; rfl
def clN (b : LP) (r : LR) (i k : Nat) : Bool := clF b r (i : Int) (k : Int)
def tabB (b : LP) (r : LR) : LB64 := tabI (clN b r) r.length r.length
theorem tab_bit (b : LP) (r : LR) {x y : Nat} (hx : x < r.length) (hr : r.length ≤ 64) (hy : y < 64) : bitT (tabB b r) x y = (decide (y < r.length) && clN b r x y) := by
 unfold tabB
 rw [bt_tab _ _ x hy _ (Nat.le_refl _), dt hx, Bool.true_and]
 by_cases h : y < x
 ·rw [dt h, df (show ¬ x < y by omega)]; simp
 ·by_cases h2 : x < y
  ·rw [df h, dt h2]
   have : clN b r y x = clN b r x y := clF_comm b r _ _
   rw [this]; simp
  ·obtain rfl : x = y := by omega
   have : clN b r x x = false := clF_self b r _
   rw [df h, this]; simp
end Go.Proofs.Ytfkcodaiiheniaa.Vx
namespace Go.Proofs.Ytfkcodaiiheniaa.Vx
open Go Go.RowKit
set_option linter.unusedVariables false
set_option linter.unusedSimpArgs false
set_option maxRecDepth 100000
set_option maxHeartbeats 1000000
theorem NL_orB (T : LB64) (x k : Nat) : (NL T).set x (ior IntKind.u64 ((NL T).getD x 0) (ishl IntKind.u64 (1 : Int) (k : Int))) = NL (orB T x k) := by
 rw [NL_at, ishlB, ior_u64, NL_set]; rfl
theorem lp17_9 (a : LS) (b c : LP) (r : LR) (i : Nat) (T : LB64) (hm : mayL a b c r = true) (hi : i < r.length) (hT : T.length = r.length) :
  op_Lc17_9 [.k 0, .n (i : Int), .n (r.length : Int), .n (i : Int), .n (i : Int), .n (0 : Int), .l TS a, .l TPt b, .l TPt c, .l TRt r, .l TU (NL T)] = some (0, [.n (i : Int), .n (r.length : Int), .n (i : Int), .l TS a, .l TPt b, .l TPt c, .l TRt r, .l TU (NL (rowK (clN b r) i i T))]) := by
 have lr := (may_rt hm).2.1
 rw [op_Lc17_9_eq]
 have ln : ∀ k, (NL (rowK (clN b r) i k T)).length = r.length := fun k => by rw [NL_len, rowK_len, hT]
 refine iter_count (st := st_Lc17_9) (fun k => [.k 0, .n (i : Int), .n (r.length : Int), .n (i : Int), .n (i : Int), .n (k : Int), .l TS a, .l TPt b, .l TPt c, .l TRt r, .l TU (NL (rowK (clN b r) i k T))]) i (0, [.n (i : Int), .n (r.length : Int), .n (i : Int), .l TS a, .l TPt b, .l TPt c, .l TRt r, .l TU (NL (rowK (clN b r) i i T))]) (fun k hk => ?_) ?_ FU (by unfold FU; omega)
 ·have h0 := ln k
  refine fn_Lc17_9_t_im _ _ _ _ _ _ _ _ _ _ (by omega) (by omega) (show (i : Int) ≤ ((NL (rowK (clN b r) i k T)).length : Int) by omega) rfl _ ?_
  unfold fn_Lc17_9_t
  refine sel_t (dt (show (k : Int) < (i : Int) by omega)) ?_
  have e := oCl a b c r (i : Int) (k : Int) hm ⟨by omega, by omega⟩ ⟨by omega, by omega⟩
  dsimp only
  erw [e]
  refine sel_t rfl ?_
  show _ = some (Step.go [.k 0, .n (i : Int), .n (r.length : Int), .n (i : Int), .n (i : Int), .n ((k + 1 : Nat) : Int), .l TS a, .l TPt b, .l TPt c, .l TRt r, .l TU (NL (bif clN b r i k then orII (rowK (clN b r) i k T) i k else rowK (clN b r) i k T))])
  cases hc : clN b r i k with
  | true =>
   refine sel_t hc (sel_t (inR_t (by omega) (show (i : Int) < ((NL (rowK (clN b r) i k T)).length : Int) by omega)) (sel_t (inR_t (by omega) ?_) ?_))
   ·show (k : Int) < (((NL (rowK (clN b r) i k T)).set i (ior IntKind.u64 ((NL (rowK (clN b r) i k T)).getD i 0) (ishl IntKind.u64 (1 : Int) (k : Int)))).length : Int)
    rw [List.length_set]; omega
   ·rw [w1n k (by omega)]
    have g1 := NL_orB (rowK (clN b r) i k T) i k
    have g2 := NL_orB (orB (rowK (clN b r) i k T) i k) k i
    rw [← g1] at g2
    exact congrArg (fun z : List Int => some (Step.go [.k 0, .n (i : Int), .n (r.length : Int), .n (i : Int), .n (i : Int), .n ((k + 1 : Nat) : Int), .l TS a, .l TPt b, .l TPt c, .l TRt r, .l TU z])) g2
  | false =>
   refine sel_f hc ?_
   rw [w1n k (by omega)]; rfl
 ·have h0 := ln i
  refine fn_Lc17_9_t_im _ _ _ _ _ _ _ _ _ _ (by omega) (by omega) (show (i : Int) ≤ ((NL (rowK (clN b r) i i T)).length : Int) by omega) rfl _ ?_
  unfold fn_Lc17_9_t
  exact sel_f (df (show ¬ (i : Int) < (i : Int) by omega)) rfl
theorem lp17_6 (a : LS) (b c : LP) (r : LR) (hm : mayL a b c r = true) : op_Lc17_6 [.k 0, .n (r.length : Int), .n (0 : Int), .l TS a, .l TPt b, .l TPt c, .l TRt r, .l TU (NL (List.replicate r.length 0#64))] = some (0, [.l TU (NL (tabB b r))]) := by
 have lr := (may_rt hm).2.1
 rw [op_Lc17_6_eq]
 refine iter_count (st := st_Lc17_6) (fun i => [.k 0, .n (r.length : Int), .n (i : Int), .l TS a, .l TPt b, .l TPt c, .l TRt r, .l TU (NL (tabI (clN b r) r.length i))]) r.length (0, [.l TU (NL (tabB b r))]) (fun i hi => ?_) ?_ FU (by unfold FU; omega)
 ·have h0 : (NL (tabI (clN b r) r.length i)).length = r.length := by rw [NL_len, tabI_len]
  refine fn_Lc17_6_t_im _ _ _ _ _ _ _ (by omega) rfl (show (r.length : Int) = ((NL (tabI (clN b r) r.length i)).length : Int) by omega) _ ?_
  unfold fn_Lc17_6_t
  refine sel_t (dt (show (i : Int) < (r.length : Int) by omega)) ?_
  have e := lp17_9 a b c r i (tabI (clN b r) r.length i) hm hi (tabI_len ..)
  dsimp only
  erw [e]
  refine sel_t rfl ?_
  show some (Step.go [.k 0, .n (r.length : Int), .n (IntKind.wrap .i64 ((i : Int) + 1)), .l TS a, .l TPt b, .l TPt c, .l TRt r, .l TU (NL (tabI (clN b r) r.length (i + 1)))]) = _
  rw [w1n i (by omega)]
 ·have h0 : (NL (tabI (clN b r) r.length r.length)).length = r.length := by rw [NL_len, tabI_len]
  refine fn_Lc17_6_t_im _ _ _ _ _ _ _ (by omega) rfl (show (r.length : Int) = ((NL (tabI (clN b r) r.length r.length)).length : Int) by omega) _ ?_
  unfold fn_Lc17_6_t
  exact sel_f (df (show ¬ (r.length : Int) < (r.length : Int) by omega)) rfl
theorem o17c (a : LS) (b c : LP) (r : LR) (hs : okS a b c r) : op_c17 [.l TS a, .l TPt b, .l TPt c, .l TRt r] = some (if (ckA a b c r).1 = 0 then (0, [.n (0 : Int), .l TU (NL (tabB b r))]) else (1, [.n (ckA a b c r).1])) := by
 rw [op_c17_eq]
 refine fn_c17_t_im _ _ _ _ _ ?_
 unfold fn_c17_t
 dsimp only
 erw [o18 a b c r hs]
 refine sel_t rfl ?_
 by_cases hc : (ckA a b c r).1 = 0
 ·rw [if_pos hc]
  refine sel_f (nbf hc) ?_
  obtain ⟨hm, _⟩ := (ck_ok a b c r).1 hc
  have lr := (may_rt hm).2.1
  refine sel_t ?_ ?_
  ·rw [dt (show (r.length : Int) ≤ (r.length : Int) by omega), dt (show (r.length : Int) * 8 ≤ 281474976710656 by omega)]; rfl
  ·have e := lp17_6 a b c r hm
   have e0 : NL (List.replicate r.length 0#64) = repC (α := Ty.den TU) (Int.toNat (r.length : Int)) (0 : Int) := by
    have g0 : NL (List.replicate r.length 0#64) = List.replicate r.length (0 : Int) := by unfold NL; rw [List.map_replicate]; rfl
    exact g0.trans (repC_eq (α := Int) r.length 0).symm
   rw [e0] at e
   erw [e]
   exact sel_t rfl rfl
 ·rw [if_neg hc]
  exact sel_t (nb hc) rfl
end Go.Proofs.Ytfkcodaiiheniaa.Vx
namespace Go.Proofs.Ytfkcodaiiheniaa.Vx
open Go Go.RowKit
set_option linter.unusedVariables false
set_option linter.unusedSimpArgs false
set_option maxRecDepth 100000
set_option maxHeartbeats 1000000
theorem sdF_app (l : LN) (d : Ty.den TNd) (p : Int) : sdF (apN l d) p = (sdF l p).or (bif f1 d == p then some (g2 d) else none) := by
 unfold sdF
 show Option.map g2 (List.find? (fun d => f1 d == p) (l ++ [d])) = _
 rw [List.find?_append]
 cases List.find? (fun d => f1 d == p) l with
 | some e => rfl
 | none =>
  cases h : (f1 d == p) with
  | true => simp [List.find?, h]
  | false => simp [List.find?, h]
theorem sdF_fold (p : Int) : ∀ (l acc : LN), sdF (l.foldl sdStep acc) p = (sdF acc p).or (sdF l p)
 | [], acc => by show sdF acc p = (sdF acc p).or none; exact (Option.or_none).symm
 | d :: l, acc => by
  rw [List.foldl_cons, sdF_fold p l]
  have e : sdF (d :: l) p = (bif f1 d == p then some (g2 d) else none).or (sdF l p) := by
   unfold sdF
   rw [List.find?_cons]
   cases h : (f1 d == p) <;> simp
  rw [e, ← Option.or_assoc]
  congr 1
  unfold sdStep
  cases h : sdF acc (f1 d) with
  | none => exact sdF_app acc d p
  | some z =>
   show sdF acc p = _
   cases hp : (f1 d == p) with
   | true =>
    have : f1 d = p := qeT hp
    rw [← this, h]; rfl
   | false => simp
theorem sdF_sds (l : LN) (p : Int) : sdF (sds l) p = sdF l p := by
 unfold sds
 rw [sdF_fold]; rfl
theorem sds_val {l : LN} {d : Ty.den TNd} (h : d ∈ sds l) : sdF l (f1 d) = some (g2 d) := by
 rw [← sdF_sds]; exact sdF_nd (sds_nodup l) h
theorem sds_get {l : LN} {p : Int} {z : Bool} (h : sdF l p = some z) : ∃ d ∈ sds l, f1 d = p ∧ g2 d = z := by
 rw [← sdF_sds] at h; exact sdF_some h
theorem unF_iff (a b : LN) : unF (sds a) (sds b) = true ↔ ∃ p z z', sdF a p = some z ∧ sdF b p = some z' ∧ z ≠ z' := by
 unfold unF
 rw [List.any_eq_true]
 constructor
 ·rintro ⟨d, h1, h2⟩
  unfold unAt at h2
  rw [sdF_sds] at h2
  cases hs : sdF b (f1 d) with
  | none => rw [hs] at h2; cases h2
  | some z =>
   rw [hs] at h2
   refine ⟨f1 d, g2 d, z, sds_val h1, hs, ?_⟩
   have h2 : (z != g2 d) = true := h2
   rintro e
   rw [e] at h2; simp at h2
 ·rintro ⟨p, z, z', h1, h2, h3⟩
  obtain ⟨d, d1, d2, d3⟩ := sds_get h1
  refine ⟨d, d1, ?_⟩
  unfold unAt
  rw [sdF_sds, d2, h2, d3]
  show (z' != z) = true
  revert h3
  cases z <;> cases z' <;> simp
theorem wayF_iff (pts : LP) (a : LN) (tr : LI) (b : LN) : wayF pts (sds a) tr (sds b) = true ↔ ∃ p z, sdF a p = some z ∧ ptS pts p ∈ tr ∧ sdF b p ≠ some z := by
 unfold wayF
 rw [List.any_eq_true]
 constructor
 ·rintro ⟨d, h1, h2⟩
  unfold wayAt at h2
  rw [sdF_sds, Bool.and_eq_true] at h2
  refine ⟨f1 d, g2 d, sds_val h1, of_decide_eq_true h2.1, fun e => ?_⟩
  have h3 := h2.2
  rw [e] at h3
  have h3 : (g2 d != g2 d) = true := h3
  simp at h3
 ·rintro ⟨p, z, h1, h2, h3⟩
  obtain ⟨d, d1, d2, d3⟩ := sds_get h1
  refine ⟨d, d1, ?_⟩
  unfold wayAt
  rw [sdF_sds, d2, dt h2, Bool.true_and]
  cases hs : sdF b p with
  | none => rfl
  | some z' =>
   show (z' != g2 d) = true
   rw [d3]
   rw [hs] at h3
   revert h3
   cases z <;> cases z' <;> simp
def nk (l : LN) (p : Int) : Int := match sdF l p with
 | none => 0
 | some false => 1
 | some true => 2
def hitR (b : LP) (A B : LN) (tx ty : LI) (p : Int) : Bool := (nk A p != nk B p) && (bif decide (nk A p > 0) then (bif decide (nk B p > 0) then true else decide (ptS b p ∈ ty)) else (bif decide (nk B p > 0) then decide (ptS b p ∈ tx) else false))
theorem hitR_iff (b : LP) (A B : LN) (tx ty : LI) (p : Int) : hitR b A B tx ty p = true ↔ (∃ z z', sdF A p = some z ∧ sdF B p = some z' ∧ z ≠ z') ∨ (∃ z, sdF A p = some z ∧ ptS b p ∈ ty ∧ sdF B p = none) ∨ (∃ z, sdF B p = some z ∧ ptS b p ∈ tx ∧ sdF A p = none) := by
 unfold hitR nk
 cases hA : sdF A p with
 | none =>
  cases hB : sdF B p with
  | none => simp
  | some z' => cases z' <;> simp
 | some z =>
  cases hB : sdF B p with
  | none => cases z <;> simp
  | some z' => cases z <;> cases z' <;> simp
theorem hit_all (b : LP) (A B : LN) (tx ty : LI) (hA : okPts b A) (hB : okPts b B) : (List.range' 0 b.length).any (fun i => hitR b A B tx ty (i : Int)) = (unF (sds A) (sds B) || (wayF b (sds A) ty (sds B) || wayF b (sds B) tx (sds A))) := by
 rw [Bool.eq_iff_iff, List.any_eq_true, Bool.or_eq_true, Bool.or_eq_true, unF_iff, wayF_iff, wayF_iff]
 constructor
 ·rintro ⟨i, _, h⟩
  rcases (hitR_iff ..).1 h with ⟨z, z', h1, h2, h3⟩ | ⟨z, h1, h2, h3⟩ | ⟨z, h1, h2, h3⟩
  ·exact Or.inl ⟨_, z, z', h1, h2, h3⟩
  ·exact Or.inr (Or.inl ⟨_, z, h1, h2, by rw [h3]; simp⟩)
  ·exact Or.inr (Or.inr ⟨_, z, h1, h2, by rw [h3]; simp⟩)
 ·have key : ∀ p, (∃ z, sdF A p = some z) ∨ (∃ z, sdF B p = some z) → ∃ i, i ∈ List.range' 0 b.length ∧ (i : Int) = p := by
   intro p h
   have hp : 0 ≤ p ∧ p < (b.length : Int) := by
    rcases h with ⟨z, h⟩ | ⟨z, h⟩
    ·obtain ⟨d, d1, d2, _⟩ := sdF_some h
     have := hA d d1; rw [d2] at this; exact this
    ·obtain ⟨d, d1, d2, _⟩ := sdF_some h
     have := hB d d1; rw [d2] at this; exact this
   exact ⟨p.toNat, List.mem_range'_1.2 (by omega), by omega⟩
  rintro (⟨p, z, z', h1, h2, h3⟩ | ⟨p, z, h1, h2, h3⟩ | ⟨p, z, h1, h2, h3⟩)
  ·obtain ⟨i, hi, rfl⟩ := key p (Or.inl ⟨z, h1⟩)
   exact ⟨i, hi, (hitR_iff ..).2 (Or.inl ⟨z, z', h1, h2, h3⟩)⟩
  ·obtain ⟨i, hi, rfl⟩ := key p (Or.inl ⟨z, h1⟩)
   refine ⟨i, hi, (hitR_iff ..).2 ?_⟩
   cases hs : sdF B (i : Int) with
   | none => exact Or.inr (Or.inl ⟨z, h1, h2, rfl⟩)
   | some z' => rw [hs] at h3; exact Or.inl ⟨z, z', h1, rfl, fun e => h3 (by rw [e])⟩
  ·obtain ⟨i, hi, rfl⟩ := key p (Or.inr ⟨z, h1⟩)
   refine ⟨i, hi, (hitR_iff ..).2 ?_⟩
   cases hs : sdF A (i : Int) with
   | none => exact Or.inr (Or.inr ⟨z, h1, h2, rfl⟩)
   | some z' => rw [hs] at h3; exact Or.inl ⟨z', z, rfl, h1, fun e => h3 (by rw [e])⟩
end Go.Proofs.Ytfkcodaiiheniaa.Vx
namespace Go.Proofs.Ytfkcodaiiheniaa.Vx
open Go Go.RowKit
set_option linter.unusedVariables false
set_option linter.unusedSimpArgs false
set_option maxRecDepth 100000
set_option maxHeartbeats 1000000
theorem o77 (l : LI) (p : Int) (hl : l.length ≤ 100000) : op_c77 [.l TI l, .n p] = some (0, [.b (decide (p ∈ l))]) := by
 have e : op_Lc77_2 [.k 0, .l TI l, .n p, .n (0 : Int)] = some (bif (List.range' 0 l.length).any (fun i => l.getD i 0 == p) then (1, [.b true]) else (0, [])) := by
  rw [op_Lc77_2_eq]
  refine iter_any (st := st_Lc77_2) (fun i => [.k 0, .l TI l, .n p, .n (i : Int)]) l.length (fun i => l.getD i 0 == p) (1, [.b true]) (0, []) (fun i hi h => ?_) (fun i hi h => ?_) ?_ FU (by unfold FU; omega)
  ·refine fn_Lc77_2_t_im _ _ _ (by omega) _ ?_
   unfold fn_Lc77_2_t
   refine sel_t (dt (show (i : Int) < (l.length : Int) by omega)) (sel_f h ?_)
   rw [w1n i (by omega)]; rfl
  ·refine fn_Lc77_2_t_im _ _ _ (by omega) _ ?_
   unfold fn_Lc77_2_t
   exact sel_t (dt (show (i : Int) < (l.length : Int) by omega)) (sel_t h rfl)
  ·refine fn_Lc77_2_t_im _ _ _ (by omega) _ ?_
   unfold fn_Lc77_2_t
   exact sel_f (df (show ¬ (l.length : Int) < (l.length : Int) by omega)) rfl
 have e0 : (List.range' 0 l.length).any (fun i => l.getD i 0 == p) = decide (p ∈ l) := by rw [← any_mem, ← any_rng l 0 (fun y => y == p)]
 rw [e0] at e
 rw [op_c77_eq]
 refine fn_c77_t_im _ _ _ ?_
 unfold fn_c77_t
 dsimp only
 erw [e]
 cases decide (p ∈ l)
 ·exact sel_t rfl rfl
 ·exact sel_f rfl (sel_t rfl rfl)
theorem o78 (s : ByteArray) (n : Int) (p : List (Ty.den TI)) (q : LN) (o : List (Ty.den TI)) (f : LN) (x : Int) (h1 : p.length ≤ 200) (h2 : q.length ≤ 200) (h3 : o.length ≤ 200) (h4 : f.length ≤ 200) : op_c78 [.s s, .n n, .l TI p, .l TNd q, .l TI o, .l TNd f, .n x] = some (0, [.n (nk (List.append q f) x)]) := by
 have hl : (List.append q f).length ≤ 100000 := by show (q ++ f).length ≤ 100000; rw [List.length_append]; omega
 revert hl
 have e0 := o12 s n p q o f h1 h2 h3 h4
 have e0 : op_12 [.s s, .n n, .l TI p, .l TNd q, .l TI o, .l TNd f] = some (0, [.l TNd (List.append q f)]) := e0
 revert e0
 generalize List.append q f = l
 intro e0 hl
 have e : op_Lc78_3 [.k 0, .n x, .n (0 : Int), .l TNd l] = some (match sdF l x with | some z => (1, [.n (bif z then 2 else 1)]) | none => (0, [])) := by
  have hh := find_hit l (Ty.dflt TNd) (fun d => f1 d == x)
  unfold sdF
  rw [hh, op_Lc78_3_eq]
  refine (iter_find (st := st_Lc78_3) (fun i => [.k 0, .n x, .n (i : Int), .l TNd l]) l.length (fun i => f1 (l.getD i (Ty.dflt TNd)) == x) (fun k => (1, [.n (bif g2 (l.getD k (Ty.dflt TNd)) then 2 else 1)])) (0, []) (fun i hi h => ?_) (fun i hi h => ?_) ?_ FU (by unfold FU; omega)).trans ?_
  rotate_right
  ·cases firstHit (fun i => f1 (l.getD i (Ty.dflt TNd)) == x) l.length <;> rfl
  ·refine fn_Lc78_3_t_im _ _ _ (by omega) _ ?_
   unfold fn_Lc78_3_t
   refine sel_t (dt (show (i : Int) < (l.length : Int) by omega)) (sel_f h ?_)
   rw [w1n i (by omega)]; rfl
  ·refine fn_Lc78_3_t_im _ _ _ (by omega) _ ?_
   unfold fn_Lc78_3_t
   refine sel_t (dt (show (i : Int) < (l.length : Int) by omega)) (sel_t h ?_)
   cases hg : g2 (l.getD i (Ty.dflt TNd)) with
   | true => exact sel_t hg rfl
   | false => exact sel_f hg rfl
  ·refine fn_Lc78_3_t_im _ _ _ (by omega) _ ?_
   unfold fn_Lc78_3_t
   exact sel_f (df (show ¬ (l.length : Int) < (l.length : Int) by omega)) rfl
 rw [op_c78_eq]
 refine fn_c78_t_im _ _ _ _ _ _ _ _ ?_
 unfold fn_c78_t
 dsimp only
 erw [e0]
 refine sel_t rfl ?_
 erw [e]
 unfold nk
 cases sdF l x with
 | none => exact sel_t rfl rfl
 | some z => cases z <;> exact sel_f rfl (sel_t rfl rfl)
theorem lp46_5 (a : LS) (b c : LP) (r : LR) (s : ByteArray) (n : Int) (p : List (Ty.den TI)) (q : LN) (o : List (Ty.den TI)) (f : LN) (s' : ByteArray) (n' : Int) (p' : List (Ty.den TI)) (q' : LN) (o' : List (Ty.den TI)) (f' : LN) (t u : LI) (ht : t.length ≤ 100000) (hu : u.length ≤ 100000) :
  op_Lc46_5 [.k 0, .n (0 : Int), .l TS a, .l TPt b, .l TPt c, .l TRt r, .s s, .n n, .l TI p, .l TNd q, .l TI o, .l TNd f, .s s', .n n', .l TI p', .l TNd q', .l TI o', .l TNd f', .l TI t, .l TI u] = some (bif shF t u then (1, [.b true]) else (0, [.l TS a, .l TPt b, .l TPt c, .l TRt r, .s s, .n n, .l TI p, .l TNd q, .l TI o, .l TNd f, .s s', .n n', .l TI p', .l TNd q', .l TI o', .l TNd f', .l TI t, .l TI u])) := by
 have e0 : (List.range' 0 t.length).any (fun i => decide (t.getD i 0 ∈ u)) = shF t u := any_rng t 0 (fun y => decide (y ∈ u))
 rw [op_Lc46_5_eq, ← e0]
 refine iter_any (st := st_Lc46_5) (fun i => [.k 0, .n (i : Int), .l TS a, .l TPt b, .l TPt c, .l TRt r, .s s, .n n, .l TI p, .l TNd q, .l TI o, .l TNd f, .s s', .n n', .l TI p', .l TNd q', .l TI o', .l TNd f', .l TI t, .l TI u]) t.length (fun i => decide (t.getD i 0 ∈ u)) (1, [.b true]) (0, [.l TS a, .l TPt b, .l TPt c, .l TRt r, .s s, .n n, .l TI p, .l TNd q, .l TI o, .l TNd f, .s s', .n n', .l TI p', .l TNd q', .l TI o', .l TNd f', .l TI t, .l TI u]) (fun i hi h => ?_) (fun i hi h => ?_) ?_ FU (by unfold FU; omega)
 ·refine fn_Lc46_5_t_im _ _ _ _ _ _ _ _ _ _ _ _ _ _ _ _ _ _ _ (by omega) _ ?_
  unfold fn_Lc46_5_t
  refine sel_t (dt (show (i : Int) < (t.length : Int) by omega)) ?_
  have e1 := o77 u (t.getD i 0) hu
  dsimp only
  erw [e1]
  refine sel_t rfl (sel_f h ?_)
  rw [w1n i (by omega)]; rfl
 ·refine fn_Lc46_5_t_im _ _ _ _ _ _ _ _ _ _ _ _ _ _ _ _ _ _ _ (by omega) _ ?_
  unfold fn_Lc46_5_t
  refine sel_t (dt (show (i : Int) < (t.length : Int) by omega)) ?_
  have e1 := o77 u (t.getD i 0) hu
  dsimp only
  erw [e1]
  exact sel_t rfl (sel_t h rfl)
 ·refine fn_Lc46_5_t_im _ _ _ _ _ _ _ _ _ _ _ _ _ _ _ _ _ _ _ (by omega) _ ?_
  unfold fn_Lc46_5_t
  exact sel_f (df (show ¬ (t.length : Int) < (t.length : Int) by omega)) rfl
theorem lp46_10 (a : LS) (b c : LP) (r : LR) (s : ByteArray) (n : Int) (p : List (Ty.den TI)) (q : LN) (o : List (Ty.den TI)) (f : LN) (s' : ByteArray) (n' : Int) (p' : List (Ty.den TI)) (q' : LN) (o' : List (Ty.den TI)) (f' : LN) (t u : LI) (h1 : p.length ≤ 200) (h2 : q.length ≤ 200) (h3 : o.length ≤ 200) (h4 : f.length ≤ 200) (k1 : p'.length ≤ 200) (k2 : q'.length ≤ 200) (k3 : o'.length ≤ 200) (k4 : f'.length ≤ 200) (hb : b.length ≤ 100000) (ht : t.length ≤ 100000) (hu : u.length ≤ 100000) :
  op_Lc46_10 [.k 0, .n (0 : Int), .l TS a, .l TPt b, .l TPt c, .l TRt r, .s s, .n n, .l TI p, .l TNd q, .l TI o, .l TNd f, .s s', .n n', .l TI p', .l TNd q', .l TI o', .l TNd f', .l TI t, .l TI u] = some (bif (List.range' 0 b.length).any (fun i => hitR b (List.append q f) (List.append q' f') t u (i : Int)) then (1, [.b true]) else (0, [])) := by
 have key : ∀ i : Nat, i < b.length → (st_Lc46_10 [.k 0, .n (i : Int), .l TS a, .l TPt b, .l TPt c, .l TRt r, .s s, .n n, .l TI p, .l TNd q, .l TI o, .l TNd f, .s s', .n n', .l TI p', .l TNd q', .l TI o', .l TNd f', .l TI t, .l TI u]).sel = some (bif hitR b (List.append q f) (List.append q' f') t u (i : Int) then .stop 1 [.b true] else .go [.k 0, .n ((i + 1 : Nat) : Int), .l TS a, .l TPt b, .l TPt c, .l TRt r, .s s, .n n, .l TI p, .l TNd q, .l TI o, .l TNd f, .s s', .n n', .l TI p', .l TNd q', .l TI o', .l TNd f', .l TI t, .l TI u]) := by
  intro i hi
  refine fn_Lc46_10_t_im _ _ _ _ _ _ _ _ _ _ _ _ _ _ _ _ _ _ _ (by omega) _ ?_
  unfold fn_Lc46_10_t
  refine sel_t (dt (show (i : Int) < (b.length : Int) by omega)) ?_
  have e1 := o78 s n p q o f (i : Int) h1 h2 h3 h4
  have e2 := o78 s' n' p' q' o' f' (i : Int) k1 k2 k3 k4
  have e3 := o77 u (ptS b (i : Int)) hu
  have e4 := o77 t (ptS b (i : Int)) ht
  unfold hitR
  revert e1 e2
  generalize nk (List.append q f) (i : Int) = x
  generalize nk (List.append q' f') (i : Int) = y
  intro e1 e2
  dsimp only
  erw [e1]; refine sel_t rfl ?_
  erw [e2]; refine sel_t rfl ?_
  cases hxy : (x != y) with
  | false => refine sel_f hxy ?_; rw [w1n i (by omega)]; rfl
  | true =>
   refine sel_t hxy ?_
   rw [Bool.true_and]
   cases hx : decide (x > 0) with
   | true =>
    refine sel_t hx ?_
    cases hy : decide (y > 0) with
    | true => exact sel_t hy rfl
    | false =>
     refine sel_f hy ?_
     erw [e3]; refine sel_t rfl ?_
     cases hz : decide (ptS b (i : Int) ∈ u) with
     | true => exact sel_t rfl rfl
     | false => refine sel_f rfl ?_; rw [w1n i (by omega)]; rfl
   | false =>
    refine sel_f hx ?_
    cases hy : decide (y > 0) with
    | true =>
     refine sel_t hy ?_
     erw [e4]; refine sel_t rfl ?_
     cases hz : decide (ptS b (i : Int) ∈ t) with
     | true => exact sel_t rfl rfl
     | false => refine sel_f rfl ?_; rw [w1n i (by omega)]; rfl
    | false => refine sel_f hy ?_; rw [w1n i (by omega)]; rfl
 rw [op_Lc46_10_eq]
 refine iter_any (st := st_Lc46_10) (fun i => [.k 0, .n (i : Int), .l TS a, .l TPt b, .l TPt c, .l TRt r, .s s, .n n, .l TI p, .l TNd q, .l TI o, .l TNd f, .s s', .n n', .l TI p', .l TNd q', .l TI o', .l TNd f', .l TI t, .l TI u]) b.length (fun i => hitR b (List.append q f) (List.append q' f') t u (i : Int)) (1, [.b true]) (0, []) (fun i hi h => ?_) (fun i hi h => ?_) ?_ FU (by unfold FU; omega)
 ·have := key i hi
  rw [h] at this; exact this
 ·have := key i hi
  rw [h] at this; exact this
 ·refine fn_Lc46_10_t_im _ _ _ _ _ _ _ _ _ _ _ _ _ _ _ _ _ _ _ (by omega) _ ?_
  unfold fn_Lc46_10_t
  exact sel_f (df (show ¬ (b.length : Int) < (b.length : Int) by omega)) rfl
theorem o46c (a : LS) (b c : LP) (r : LR) (x y : Rt) (h1 : (eP x).length ≤ 200) (h2 : (eQ x).length ≤ 200) (h3 : (eO x).length ≤ 200) (h4 : (eF x).length ≤ 200) (k1 : (eP y).length ≤ 200) (k2 : (eQ y).length ≤ 200) (k3 : (eO y).length ≤ 200) (k4 : (eF y).length ≤ 200)
  (hb : b.length ≤ 100000) (ha : okPts b (ndsE x)) (hc : okPts b (ndsE y)) :
  op_c46 [.l TS a, .l TPt b, .l TPt c, .l TRt r, .s (eS x), .n (eN x), .l TI (eP x), .l TNd (eQ x), .l TI (eO x), .l TNd (eF x), .s (eS y), .n (eN y), .l TI (eP y), .l TNd (eQ y), .l TI (eO y), .l TNd (eF y)] = some (0, [.b (cfE b x y)]) := by
 have ht : (trk x).length ≤ 100000 := by show (eP x ++ eO x).length ≤ _; rw [List.length_append]; omega
 have hu : (trk y).length ≤ 100000 := by show (eP y ++ eO y).length ≤ _; rw [List.length_append]; omega
 have hit := hit_all b (ndsE x) (ndsE y) (trk x) (trk y) ha hc
 have e1 := o11 (eS x) (eN x) (eP x) (eQ x) (eO x) (eF x) h1 h2 h3 h4
 have e2 := o11 (eS y) (eN y) (eP y) (eQ y) (eO y) (eF y) k1 k2 k3 k4
 have e3 := lp46_5 a b c r (eS x) (eN x) (eP x) (eQ x) (eO x) (eF x) (eS y) (eN y) (eP y) (eQ y) (eO y) (eF y) (trk x) (trk y) ht hu
 have e4 := lp46_10 a b c r (eS x) (eN x) (eP x) (eQ x) (eO x) (eF x) (eS y) (eN y) (eP y) (eQ y) (eO y) (eF y) (trk x) (trk y) h1 h2 h3 h4 k1 k2 k3 k4 hb ht hu
 have hit' : (List.range' 0 b.length).any (fun i => hitR b (List.append (eQ x) (eF x)) (List.append (eQ y) (eF y)) (trk x) (trk y) (i : Int)) = _ := hit
 rw [hit'] at e4
 unfold cfE
 revert e4
 generalize (unF (sds (ndsE x)) (sds (ndsE y)) || (wayF b (sds (ndsE x)) (trk y) (sds (ndsE y)) || wayF b (sds (ndsE y)) (trk x) (sds (ndsE x)))) = z
 intro e4
 rw [op_c46_eq]
 refine fn_c46_t_im _ _ _ _ _ _ _ _ _ _ _ _ _ _ _ _ _ ?_
 unfold fn_c46_t
 by_cases hn : eN x = eN y
 ·rw [dt hn]
  exact sel_t (bt hn) rfl
 ·rw [df hn]
  refine sel_f (bf hn) ?_
  dsimp only
  erw [e1]; refine sel_t rfl ?_
  erw [e2]; refine sel_t rfl ?_
  erw [e3]
  cases shF (trk x) (trk y) with
  | true => exact sel_f rfl (sel_t rfl rfl)
  | false =>
   refine sel_t rfl ?_
   erw [e4]
   cases z with
   | true => exact sel_f rfl (sel_t rfl rfl)
   | false => exact sel_t rfl rfl
end Go.Proofs.Ytfkcodaiiheniaa.Vx
namespace Go.Proofs.Ytfkcodaiiheniaa.Vx
open Go Go.RowKit
set_option linter.unusedVariables false
set_option linter.unusedSimpArgs false
set_option maxRecDepth 100000
set_option maxHeartbeats 1000000
theorem strEq_self (s : ByteArray) : strEq s s = true := (strEq_iff s s).2 rfl
theorem beq_self (x : Int) : (x == x) = true := by simp
theorem beqb_self (x : Bool) : (x == x) = true := by simp
theorem pt_self (e : Ty.den TPt) : (!(strEq (Prod.fst e) (Prod.fst e) && (Prod.snd e == Prod.snd e && true))) = false := by
 have e1 : strEq (Prod.fst e) (Prod.fst e) = true := strEq_self _
 have e2 : (Prod.snd e == Prod.snd e) = true := beq_self (Prod.snd e)
 rw [e1, e2]; rfl
theorem nd_self (e : Ty.den TNd) : (!(Prod.fst e == Prod.fst e && (Prod.snd e == Prod.snd e && true))) = false := by
 have e1 : (Prod.fst e == Prod.fst e) = true := beq_self (Prod.fst e)
 have e2 : (Prod.snd e == Prod.snd e) = true := beqb_self (Prod.snd e)
 rw [e1, e2]; rfl
theorem o42c (l : List (Ty.den TI)) (hl : l.length ≤ 100000) : op_c42 [.l TI l, .l TI l] = some (0, [.b true]) := by
 have e : op_Lc42_4 [.k 0, .l TI l, .l TI l, .n (0 : Int)] = some (0, []) := by
  rw [op_Lc42_4_eq]
  refine iter_count (st := st_Lc42_4) (fun i => [.k 0, .l TI l, .l TI l, .n (i : Int)]) l.length (0, []) (fun i hi => ?_) ?_ FU (by unfold FU; omega)
  ·refine fn_Lc42_4_v_im _ _ _ (by omega) rfl _ ?_
   unfold fn_Lc42_4_v
   refine sel_t (dt (show (i : Int) < (l.length : Int) by omega)) (sel_f (nbf rfl) ?_)
   rw [w1n i (by omega)]; rfl
  ·refine fn_Lc42_4_v_im _ _ _ (by omega) rfl _ ?_
   unfold fn_Lc42_4_v
   exact sel_f (df (show ¬ (l.length : Int) < (l.length : Int) by omega)) rfl
 rw [op_c42_eq]
 refine fn_c42_v_im _ _ _ ?_
 unfold fn_c42_v
 refine sel_f (nbf rfl) ?_
 dsimp only
 erw [e]
 exact sel_t rfl rfl
theorem o79c (l : List (Ty.den TNd)) (hl : l.length ≤ 100000) : op_c79 [.l TNd l, .l TNd l] = some (0, [.b true]) := by
 have e : op_Lc79_4 [.k 0, .l TNd l, .l TNd l, .n (0 : Int)] = some (0, []) := by
  rw [op_Lc79_4_eq]
  refine iter_count (st := st_Lc79_4) (fun i => [.k 0, .l TNd l, .l TNd l, .n (i : Int)]) l.length (0, []) (fun i hi => ?_) ?_ FU (by unfold FU; omega)
  ·refine fn_Lc79_4_v_im _ _ _ (by omega) rfl _ ?_
   unfold fn_Lc79_4_v
   refine sel_t (dt (show (i : Int) < (l.length : Int) by omega)) (sel_f (nd_self _) ?_)
   rw [w1n i (by omega)]; rfl
  ·refine fn_Lc79_4_v_im _ _ _ (by omega) rfl _ ?_
   unfold fn_Lc79_4_v
   exact sel_f (df (show ¬ (l.length : Int) < (l.length : Int) by omega)) rfl
 rw [op_c79_eq]
 refine fn_c79_v_im _ _ _ ?_
 unfold fn_c79_v
 refine sel_f (nbf rfl) ?_
 dsimp only
 erw [e]
 exact sel_t rfl rfl
theorem o47c (l : List (Ty.den TS)) (hl : l.length ≤ 100000) : op_c47 [.l TS l, .l TS l] = some (0, [.b true]) := by
 have e : op_Lc47_4 [.k 0, .l TS l, .l TS l, .n (0 : Int)] = some (0, []) := by
  rw [op_Lc47_4_eq]
  refine iter_count (st := st_Lc47_4) (fun i => [.k 0, .l TS l, .l TS l, .n (i : Int)]) l.length (0, []) (fun i hi => ?_) ?_ FU (by unfold FU; omega)
  ·refine fn_Lc47_4_v_im _ _ _ (by omega) rfl _ ?_
   unfold fn_Lc47_4_v
   refine sel_t (dt (show (i : Int) < (l.length : Int) by omega)) (sel_f (by rw [strEq_self]; rfl) ?_)
   rw [w1n i (by omega)]; rfl
  ·refine fn_Lc47_4_v_im _ _ _ (by omega) rfl _ ?_
   unfold fn_Lc47_4_v
   exact sel_f (df (show ¬ (l.length : Int) < (l.length : Int) by omega)) rfl
 rw [op_c47_eq]
 refine fn_c47_v_im _ _ _ ?_
 unfold fn_c47_v
 refine sel_f (nbf rfl) ?_
 dsimp only
 erw [e]
 exact sel_t rfl rfl
theorem o48c (s : ByteArray) (n : Int) (p : List (Ty.den TI)) (q : LN) (o : List (Ty.den TI)) (f : LN) (h1 : p.length ≤ 100000) (h2 : q.length ≤ 100000) (h3 : o.length ≤ 100000) (h4 : f.length ≤ 100000) :
  op_c48 [.s s, .n n, .l TI p, .l TNd q, .l TI o, .l TNd f, .s s, .n n, .l TI p, .l TNd q, .l TI o, .l TNd f] = some (0, [.b true]) := by
 rw [op_c48_eq]
 refine fn_c48_w_im _ _ _ _ _ _ _ ?_
 unfold fn_c48_w
 refine sel_t (strEq_self s) ?_
 have e1 := o42c p h1
 have e2 := o79c q h2
 have e3 := o42c o h3
 have e4 := o79c f h4
 dsimp only
 erw [e1]; refine sel_t rfl (sel_t rfl ?_)
 erw [e2]; refine sel_t rfl (sel_t rfl ?_)
 erw [e3]; refine sel_t rfl (sel_t rfl ?_)
 erw [e4]; exact sel_t rfl rfl
theorem lp19_4 (a : LS) (b c : LP) (r : LR) (hl : b.length ≤ 100000) : op_Lc19_4 [.k 0, .n (0 : Int), .l TS a, .l TPt b, .l TPt c, .l TRt r, .l TS a, .l TPt b, .l TPt c, .l TRt r] = some (0, [.l TS a, .l TPt b, .l TPt c, .l TRt r, .l TS a, .l TPt b, .l TPt c, .l TRt r]) := by
 rw [op_Lc19_4_eq]
 refine iter_count (st := st_Lc19_4) (fun i => [.k 0, .n (i : Int), .l TS a, .l TPt b, .l TPt c, .l TRt r, .l TS a, .l TPt b, .l TPt c, .l TRt r]) b.length (0, [.l TS a, .l TPt b, .l TPt c, .l TRt r, .l TS a, .l TPt b, .l TPt c, .l TRt r]) (fun i hi => ?_) ?_ FU (by unfold FU; omega)
 ·refine fn_Lc19_4_t_im _ _ _ _ _ (by omega) _ ?_
  unfold fn_Lc19_4_t
  refine sel_t (dt (show (i : Int) < (b.length : Int) by omega)) (sel_f (pt_self _) ?_)
  rw [w1n i (by omega)]; rfl
 ·refine fn_Lc19_4_t_im _ _ _ _ _ (by omega) _ ?_
  unfold fn_Lc19_4_t
  exact sel_f (df (show ¬ (b.length : Int) < (b.length : Int) by omega)) rfl
theorem lp19_9 (a : LS) (b c : LP) (r : LR) (hl : c.length ≤ 100000) : op_Lc19_9 [.k 0, .n (0 : Int), .l TS a, .l TPt b, .l TPt c, .l TRt r, .l TS a, .l TPt b, .l TPt c, .l TRt r] = some (0, [.l TS a, .l TPt b, .l TPt c, .l TRt r, .l TS a, .l TPt b, .l TPt c, .l TRt r]) := by
 rw [op_Lc19_9_eq]
 refine iter_count (st := st_Lc19_9) (fun i => [.k 0, .n (i : Int), .l TS a, .l TPt b, .l TPt c, .l TRt r, .l TS a, .l TPt b, .l TPt c, .l TRt r]) c.length (0, [.l TS a, .l TPt b, .l TPt c, .l TRt r, .l TS a, .l TPt b, .l TPt c, .l TRt r]) (fun i hi => ?_) ?_ FU (by unfold FU; omega)
 ·refine fn_Lc19_9_t_im _ _ _ _ _ (by omega) _ ?_
  unfold fn_Lc19_9_t
  refine sel_t (dt (show (i : Int) < (c.length : Int) by omega)) (sel_f (pt_self _) ?_)
  rw [w1n i (by omega)]; rfl
 ·refine fn_Lc19_9_t_im _ _ _ _ _ (by omega) _ ?_
  unfold fn_Lc19_9_t
  exact sel_f (df (show ¬ (c.length : Int) < (c.length : Int) by omega)) rfl
def lenR (r : LR) : Prop := ∀ i, i < r.length → (eP (r.getD i (Ty.dflt TRt))).length ≤ 1000 ∧ (eQ (r.getD i (Ty.dflt TRt))).length ≤ 1000 ∧ (eO (r.getD i (Ty.dflt TRt))).length ≤ 1000 ∧ (eF (r.getD i (Ty.dflt TRt))).length ≤ 1000
theorem lp19_14 (a : LS) (b c : LP) (r : LR) (hl : r.length ≤ 100000) (hr : lenR r) : op_Lc19_14 [.k 0, .n (0 : Int), .l TS a, .l TPt b, .l TPt c, .l TRt r, .l TS a, .l TPt b, .l TPt c, .l TRt r] = some (0, []) := by
 rw [op_Lc19_14_eq]
 refine iter_count (st := st_Lc19_14) (fun i => [.k 0, .n (i : Int), .l TS a, .l TPt b, .l TPt c, .l TRt r, .l TS a, .l TPt b, .l TPt c, .l TRt r]) r.length (0, []) (fun i hi => ?_) ?_ FU (by unfold FU; omega)
 ·refine fn_Lc19_14_t_im _ _ _ _ _ (by omega) _ ?_
  unfold fn_Lc19_14_t
  refine sel_t (dt (show (i : Int) < (r.length : Int) by omega)) ?_
  obtain ⟨h1, h2, h3, h4⟩ := hr i hi
  have e := o48c (eS (r.getD i (Ty.dflt TRt))) (eN (r.getD i (Ty.dflt TRt))) (eP (r.getD i (Ty.dflt TRt))) (eQ (r.getD i (Ty.dflt TRt))) (eO (r.getD i (Ty.dflt TRt))) (eF (r.getD i (Ty.dflt TRt))) (Nat.le_trans h1 (by decide)) (Nat.le_trans h2 (by decide)) (Nat.le_trans h3 (by decide)) (Nat.le_trans h4 (by decide))
  dsimp only
  erw [e]
  refine sel_t rfl (sel_f rfl ?_)
  rw [w1n i (by omega)]; rfl
 ·refine fn_Lc19_14_t_im _ _ _ _ _ (by omega) _ ?_
  unfold fn_Lc19_14_t
  exact sel_f (df (show ¬ (r.length : Int) < (r.length : Int) by omega)) rfl
theorem o19s (a : LS) (b c : LP) (r : LR) (ha : a.length ≤ 100000) (hb : b.length ≤ 100000) (hc : c.length ≤ 100000) (hl : r.length ≤ 100000) (hr : lenR r) : op_c19 [.l TS a, .l TPt b, .l TPt c, .l TRt r, .l TS a, .l TPt b, .l TPt c, .l TRt r] = some (0, [.b true]) := by
 rw [op_c19_eq]
 refine fn_c19_w_im _ _ _ _ _ ?_
 unfold fn_c19_w
 have e1 := o47c a ha
 have e2 := lp19_4 a b c r hb
 have e3 := lp19_9 a b c r hc
 have e4 := lp19_14 a b c r hl hr
 dsimp only
 erw [e1]; refine sel_t rfl (sel_f rfl ?_)
 erw [e2]; refine sel_t rfl ?_
 erw [e3]; refine sel_t rfl ?_
 erw [e4]; exact sel_t rfl rfl
theorem o16c (a : LS) (b c : LP) (r : LR) (ha : a.length ≤ 100000) (hb : b.length ≤ 100000) (hc : c.length ≤ 100000) (hl : r.length ≤ 100000) (hr : lenR r) : op_c16 [.l TS a, .l TPt b, .l TPt c, .l TRt r] = some (0, [.l TS a, .l TPt b, .l TPt c, .l TRt r]) := by
 have e : op_Lc16_6 [.k 0, .n (0 : Int), .l TS a, .l TPt b, .l TPt c, .l TRt r, .l TS a, .l TPt b, .l TPt c, .l TRt []] = some (0, [.l TS a, .l TPt b, .l TPt c, .l TRt r]) := by
  rw [op_Lc16_6_eq]
  refine iter_count (st := st_Lc16_6) (fun i => [.k 0, .n (i : Int), .l TS a, .l TPt b, .l TPt c, .l TRt r, .l TS a, .l TPt b, .l TPt c, .l TRt (r.take i)]) r.length (0, [.l TS a, .l TPt b, .l TPt c, .l TRt r]) (fun i hi => ?_) ?_ FU (by unfold FU; omega)
  ·have ln : (r.take i).length ≤ 100000 := by rw [List.length_take]; omega
   obtain ⟨h1, h2, h3, h4⟩ := hr i hi
   refine fn_Lc16_6_t_im _ _ _ _ _ _ _ _ _ (by omega) _ ?_
   unfold fn_Lc16_6_t
   refine sel_t (dt (show (i : Int) < (r.length : Int) by omega)) ?_
   refine sel_t (dt (show (eP (r.getD i (Ty.dflt TRt))).length * 8 ≤ 140737488355328 by omega)) ?_
   refine sel_t (dt (show (eQ (r.getD i (Ty.dflt TRt))).length * 16 ≤ 140737488355328 by omega)) ?_
   refine sel_t (dt (show (eO (r.getD i (Ty.dflt TRt))).length * 8 ≤ 140737488355328 by omega)) ?_
   refine sel_t (dt (show (eF (r.getD i (Ty.dflt TRt))).length * 16 ≤ 140737488355328 by omega)) ?_
   refine sel_t (dt (show ((r.take i).length + 1) * 120 ≤ 140737488355328 by omega)) ?_
   rw [w1n i (by omega), take_upG r (Ty.dflt TRt) hi]; rfl
  ·refine fn_Lc16_6_t_im _ _ _ _ _ _ _ _ _ (by omega) _ ?_
   unfold fn_Lc16_6_t
   refine sel_f (df (show ¬ (r.length : Int) < (r.length : Int) by omega)) ?_
   rw [List.take_length]; rfl
 have ha' : List.length (α := Ty.den TS) a ≤ 100000 := ha
 rw [op_c16_eq]
 refine fn_c16_t_im _ _ _ _ _ ?_
 unfold fn_c16_t
 refine sel_t (dt (show a.length * 16 ≤ 140737488355328 by omega)) (sel_t (dt (show b.length * 24 ≤ 140737488355328 by omega)) (sel_t (dt (show c.length * 24 ≤ 140737488355328 by omega)) ?_))
 dsimp only
 erw [e]
 exact sel_t rfl rfl
def rowR (cl : Nat → Nat → Bool) (i : Nat) : Nat → B64
 | 0 => 0#64
 | k + 1 => bif cl i k then rowR cl i k ||| pw2 k else rowR cl i k
theorem rowR_bit (cl : Nat → Nat → Bool) (i y : Nat) (hy : y < 64) : ∀ k, (rowR cl i k).getLsbD y = (decide (y < k) && cl i y)
 | 0 => by simp [rowR]
 | k + 1 => by
  have ih := rowR_bit cl i y hy k
  unfold rowR
  cases hc : cl i k with
  | true =>
   show (rowR cl i k ||| pw2 k).getLsbD y = _
   rw [BitVec.getLsbD_or, ih, pw2_bit, dt hy, Bool.true_and]
   by_cases h : y = k
   ·subst h; rw [dt rfl, dt (show y < y + 1 by omega), hc]; simp
   ·rw [df h, Bool.or_false]
    by_cases h2 : y < k
    ·rw [dt h2, dt (show y < k + 1 by omega)]
    ·rw [df h2, df (show ¬ y < k + 1 by omega)]
  | false =>
   show (rowR cl i k).getLsbD y = _
   rw [ih]
   by_cases h : y = k
   ·subst h; rw [hc]; simp
   ·by_cases h2 : y < k
    ·rw [dt h2, dt (show y < k + 1 by omega)]
    ·rw [df h2, df (show ¬ y < k + 1 by omega)]
theorem tab_row (b : LP) (r : LR) {i : Nat} (hi : i < r.length) (hr : r.length ≤ 64) : (tabB b r).getD i 0#64 = rowR (clN b r) i r.length := by
 refine BitVec.eq_of_getLsbD_eq fun y hy => ?_
 rw [rowR_bit _ _ _ hy]
 exact tab_bit b r hi hr hy
theorem lp18_10 (a : LS) (b c : LP) (r : LR) (T : List Int) (i : Nat) (hm : mayL a b c r = true) (hi : i < r.length) :
  op_Lc18_10 [.k 0, .n (i : Int), .n (0 : Int), .n (0 : Int), .l TS a, .l TPt b, .l TPt c, .l TRt r, .l TU T] = some (0, [.n (i : Int), .n (N (rowR (clN b r) i r.length)), .l TS a, .l TPt b, .l TPt c, .l TRt r, .l TU T]) := by
 obtain ⟨lb, lr, hr⟩ := may_rt hm
 rw [op_Lc18_10_eq]
 refine iter_count (st := st_Lc18_10) (fun k => [.k 0, .n (i : Int), .n (N (rowR (clN b r) i k)), .n (k : Int), .l TS a, .l TPt b, .l TPt c, .l TRt r, .l TU T]) r.length (0, [.n (i : Int), .n (N (rowR (clN b r) i r.length)), .l TS a, .l TPt b, .l TPt c, .l TRt r, .l TU T]) (fun k hk => ?_) ?_ FU (by unfold FU; omega)
 ·refine fn_Lc18_10_t_im _ _ _ _ _ _ _ _ (by omega) (by omega) (by omega) _ ?_
  unfold fn_Lc18_10_t
  refine sel_t (dt (show (k : Int) < (r.length : Int) by omega)) ?_
  show _ = some (Step.go [.k 0, .n (i : Int), .n (N (bif clN b r i k then rowR (clN b r) i k ||| pw2 k else rowR (clN b r) i k)), .n ((k + 1 : Nat) : Int), .l TS a, .l TPt b, .l TPt c, .l TRt r, .l TU T])
  rw [w1n k (by omega)]
  by_cases h : (i : Int) = (k : Int)
  ·refine sel_f (nbf h) ?_
   have e : clN b r i k = false := by unfold clN clF; rw [dt h]; rfl
   rw [e]; rfl
  ·refine sel_t (nb h) ?_
   have ec : clN b r i k = cfE b (r.getD i (Ty.dflt TRt)) (r.getD k (Ty.dflt TRt)) := by unfold clN clF; rw [df h]; rfl
   obtain ⟨_, ⟨p1, p2, p3, p4⟩, p5, p6⟩ := hr i hi
   obtain ⟨_, ⟨q1, q2, q3, q4⟩, q5, q6⟩ := hr k hk
   have ok : ∀ e : Rt, okPts b (eQ e) → okPts b (eF e) → okPts b (ndsE e) := fun e g1 g2 d hd => by
    have hd : d ∈ eQ e ++ eF e := hd
    rcases List.mem_append.1 hd with hd | hd
    ·exact g1 d hd
    ·exact g2 d hd
   have e := o46c a b c r (r.getD i (Ty.dflt TRt)) (r.getD k (Ty.dflt TRt)) p1 p2 p3 p4 q1 q2 q3 q4 (by omega) (ok _ p5 p6) (ok _ q5 q6)
   dsimp only
   erw [e]
   refine sel_t rfl ?_
   rw [ec]
   cases hc : cfE b (r.getD i (Ty.dflt TRt)) (r.getD k (Ty.dflt TRt)) with
   | true =>
    refine sel_t rfl ?_
    have g : ior IntKind.u64 (N (rowR (clN b r) i k)) (ishl IntKind.u64 (1 : Int) (k : Int)) = N (rowR (clN b r) i k ||| pw2 k) := by rw [ishlB, ior_u64]
    exact congrArg (fun z : Int => some (Step.go [.k 0, .n (i : Int), .n z, .n ((k + 1 : Nat) : Int), .l TS a, .l TPt b, .l TPt c, .l TRt r, .l TU T])) g
   | false => exact sel_f rfl rfl
 ·refine fn_Lc18_10_t_im _ _ _ _ _ _ _ _ (by omega) (by omega) (by omega) _ ?_
  unfold fn_Lc18_10_t
  exact sel_f (df (show ¬ (r.length : Int) < (r.length : Int) by omega)) rfl
theorem lp18_6 (a : LS) (b c : LP) (r : LR) (hm : mayL a b c r = true) : op_Lc18_6 [.k 0, .n (0 : Int), .l TS a, .l TPt b, .l TPt c, .l TRt r, .l TU []] = some (0, [.l TU (NL (tabB b r))]) := by
 have lr := (may_rt hm).2.1
 have lt : (tabB b r).length = r.length := tabI_len ..
 rw [op_Lc18_6_eq]
 refine iter_count (st := st_Lc18_6) (fun i => [.k 0, .n (i : Int), .l TS a, .l TPt b, .l TPt c, .l TRt r, .l TU (NL ((tabB b r).take i))]) r.length (0, [.l TU (NL (tabB b r))]) (fun i hi => ?_) ?_ FU (by unfold FU; omega)
 ·have ln : (NL ((tabB b r).take i)).length ≤ 64 := by rw [NL_len, List.length_take]; omega
  refine fn_Lc18_6_t_im _ _ _ _ _ _ (by omega) _ ?_
  unfold fn_Lc18_6_t
  refine sel_t (dt (show (i : Int) < (r.length : Int) by omega)) ?_
  have e := lp18_10 a b c r (NL ((tabB b r).take i)) i hm hi
  dsimp only
  erw [e]
  refine sel_t rfl (sel_t (dt (show ((NL ((tabB b r).take i)).length + 1) * 8 ≤ 140737488355328 by omega)) ?_)
  show some (Step.go [.k 0, .n (IntKind.wrap .i64 ((i : Int) + 1)), .l TS a, .l TPt b, .l TPt c, .l TRt r, .l TU (NL ((tabB b r).take i) ++ [N (rowR (clN b r) i r.length)])]) = _
  rw [w1n i (by omega)]
  have g : NL ((tabB b r).take (i + 1)) = NL ((tabB b r).take i) ++ [N (rowR (clN b r) i r.length)] := by
   rw [take_upG (tabB b r) 0#64 (by omega), ← tab_row b r hi lr]
   unfold NL
   rw [List.map_append]; rfl
  exact congrArg (fun z : List Int => some (Step.go [.k 0, .n ((i + 1 : Nat) : Int), .l TS a, .l TPt b, .l TPt c, .l TRt r, .l TU z])) g.symm
 ·refine fn_Lc18_6_t_im _ _ _ _ _ _ (by omega) _ ?_
  unfold fn_Lc18_6_t
  refine sel_f (df (show ¬ (r.length : Int) < (r.length : Int) by omega)) ?_
  have g : (tabB b r).take r.length = tabB b r := by rw [← lt, List.take_length]
  rw [g]; rfl
theorem o18c (a : LS) (b c : LP) (r : LR) (hs : okS a b c r) : op_c18 [.l TS a, .l TPt b, .l TPt c, .l TRt r] = some (if (ckA a b c r).1 = 0 then (0, [.n (0 : Int), .l TU (NL (tabB b r))]) else (1, [.n (ckA a b c r).1])) := by
 rw [op_c18_eq]
 refine fn_c18_t_im _ _ _ _ _ ?_
 unfold fn_c18_t
 dsimp only
 erw [o19 a b c r hs]
 refine sel_t rfl ?_
 by_cases hc : (ckA a b c r).1 = 0
 ·rw [if_pos hc]
  refine sel_f (nbf hc) ?_
  obtain ⟨hm, _⟩ := (ck_ok a b c r).1 hc
  have e := lp18_6 a b c r hm
  erw [e]
  exact sel_t rfl rfl
 ·rw [if_neg hc]
  exact sel_t (nb hc) rfl
theorem iter_inv {st : List Dat → Tree Step} (s : Nat → Int → List Dat) (m : Nat) (I : Nat → Int → Prop) (p : Nat × List Dat → Prop)
  (go : ∀ i n, i < m → I i n → (∃ n', I (i + 1) n' ∧ (st (s i n)).sel = some (.go (s (i + 1) n'))) ∨ ∃ y : Nat × List Dat, (st (s i n)).sel = some (.stop y.1 y.2) ∧ p y)
  (stop : ∀ n, I m n → ∃ y : Nat × List Dat, (st (s m n)).sel = some (.stop y.1 y.2) ∧ p y) : ∀ fuel, m < fuel → ∀ n, I 0 n → ∃ y, iterS st fuel (s 0 n) = some y ∧ p y := by
 have key : ∀ d i, i + d = m → ∀ fuel, d < fuel → ∀ n, I i n → ∃ y, iterS st fuel (s i n) = some y ∧ p y := by
  intro d
  induction d with
  | zero =>
   intro i hi fuel hf n hI
   obtain rfl : i = m := by omega
   obtain ⟨f, rfl⟩ : ∃ f, fuel = f + 1 := ⟨fuel - 1, by omega⟩
   obtain ⟨y, h1, h2⟩ := stop n hI
   exact ⟨y, iter_stop h1, h2⟩
  | succ d ih =>
   intro i hi fuel hf n hI
   obtain ⟨f, rfl⟩ : ∃ f, fuel = f + 1 := ⟨fuel - 1, by omega⟩
   rcases go i n (by omega) hI with ⟨n', hI', h⟩ | ⟨y, h1, h2⟩
   ·rw [iter_go h]
    exact ih (i + 1) (by omega) f (by omega) n' hI'
   ·exact ⟨y, iter_stop h1, h2⟩
 exact fun fuel hf n hI => key m 0 (by omega) fuel hf n hI
theorem w15_3 (a : LS) (b c : LP) (r : LR) (hl : a.length ≤ 9223372036854775807) (hz : ∀ i, i < a.length → ByteArray.size (a.getD i (Ty.dflt TS)) ≤ 140737488351232) (n : Int) (h0 : 0 ≤ n) :
  ∃ z, op_L15_3 [.k 0, .n 1000, .n n, .n (0 : Int), .l TS a, .l TPt b, .l TPt c, .l TRt r] = some (0, [.n 1000, .n z, .l TS a, .l TPt b, .l TPt c, .l TRt r]) ∧ n ≤ z ∧ (z ≤ 1000 → n + (a.length : Int) ≤ z) := by
 rw [op_L15_3_eq]
 have key := iter_inv (st := st_L15_3) (fun i n => [.k 0, .n 1000, .n n, .n (i : Int), .l TS a, .l TPt b, .l TPt c, .l TRt r]) a.length (fun i m => n + (i : Int) ≤ m) (fun y => ∃ z, y = (0, [.n 1000, .n z, .l TS a, .l TPt b, .l TPt c, .l TRt r]) ∧ n ≤ z ∧ (z ≤ 1000 → n + (a.length : Int) ≤ z)) (fun i m hi hI => ?_) (fun m hI => ?_) FU (by unfold FU; omega) n (by simp)
 ·obtain ⟨y, h, z, rfl, h1, h2⟩ := key
  exact ⟨z, h, h1, h2⟩
 ·by_cases h : m ≤ 1000
  ·left
   have hs := hz i hi
   have e : IntKind.wrap .i64 (IntKind.wrap .i64 (m + 1) + (ByteArray.size (a.getD i (Ty.dflt TS)) : Int)) = m + 1 + (ByteArray.size (a.getD i (Ty.dflt TS)) : Int) := by
    rw [w64 (x := m + 1) (by omega) (by omega), w64 (by omega) (by omega)]
   refine ⟨m + 1 + (ByteArray.size (a.getD i (Ty.dflt TS)) : Int), by omega, ?_⟩
   refine fn_L15_3_t_im _ _ _ _ _ _ _ (by omega) _ ?_
   unfold fn_L15_3_t
   refine sel_t (dt (show (i : Int) < (a.length : Int) by omega)) (sel_t (dt h) ?_)
   rw [w1n i (by omega)]
   exact congrArg (fun q : Int => some (Step.go [.k 0, .n 1000, .n q, .n ((i + 1 : Nat) : Int), .l TS a, .l TPt b, .l TPt c, .l TRt r])) e
  ·right
   refine ⟨(0, [.n 1000, .n m, .l TS a, .l TPt b, .l TPt c, .l TRt r]), ?_, m, rfl, by omega, fun q => (h q).elim⟩
   refine fn_L15_3_t_im _ _ _ _ _ _ _ (by omega) _ ?_
   unfold fn_L15_3_t
   exact sel_t (dt (show (i : Int) < (a.length : Int) by omega)) (sel_f (df h) rfl)
 ·refine ⟨(0, [.n 1000, .n m, .l TS a, .l TPt b, .l TPt c, .l TRt r]), ?_, m, rfl, by omega, fun q => by omega⟩
  refine fn_L15_3_t_im _ _ _ _ _ _ _ (by omega) _ ?_
  unfold fn_L15_3_t
  exact sel_f (df (show ¬ (a.length : Int) < (a.length : Int) by omega)) rfl
theorem w15_7 (a : LS) (b c : LP) (r : LR) (hl : b.length ≤ 9223372036854775807) (hz : ∀ i, i < b.length → ByteArray.size (Prod.fst (b.getD i (Ty.dflt TPt))) ≤ 140737488351232) (n : Int) (h0 : 0 ≤ n) :
  ∃ z, op_L15_7 [.k 0, .n 1000, .n n, .n (0 : Int), .l TS a, .l TPt b, .l TPt c, .l TRt r] = some (0, [.n 1000, .n z, .l TS a, .l TPt b, .l TPt c, .l TRt r]) ∧ n ≤ z ∧ (z ≤ 1000 → n + (b.length : Int) ≤ z) := by
 rw [op_L15_7_eq]
 have key := iter_inv (st := st_L15_7) (fun i n => [.k 0, .n 1000, .n n, .n (i : Int), .l TS a, .l TPt b, .l TPt c, .l TRt r]) b.length (fun i m => n + (i : Int) ≤ m) (fun y => ∃ z, y = (0, [.n 1000, .n z, .l TS a, .l TPt b, .l TPt c, .l TRt r]) ∧ n ≤ z ∧ (z ≤ 1000 → n + (b.length : Int) ≤ z)) (fun i m hi hI => ?_) (fun m hI => ?_) FU (by unfold FU; omega) n (by simp)
 ·obtain ⟨y, h, z, rfl, h1, h2⟩ := key
  exact ⟨z, h, h1, h2⟩
 ·by_cases h : m ≤ 1000
  ·left
   have hs := hz i hi
   have e : IntKind.wrap .i64 (IntKind.wrap .i64 (m + 1) + (ByteArray.size (Prod.fst (b.getD i (Ty.dflt TPt))) : Int)) = m + 1 + (ByteArray.size (Prod.fst (b.getD i (Ty.dflt TPt))) : Int) := by
    rw [w64 (x := m + 1) (by omega) (by omega), w64 (by omega) (by omega)]
   refine ⟨m + 1 + (ByteArray.size (Prod.fst (b.getD i (Ty.dflt TPt))) : Int), by omega, ?_⟩
   refine fn_L15_7_t_im _ _ _ _ _ _ _ (by omega) _ ?_
   unfold fn_L15_7_t
   refine sel_t (dt (show (i : Int) < (b.length : Int) by omega)) (sel_t (dt h) ?_)
   rw [w1n i (by omega)]
   exact congrArg (fun q : Int => some (Step.go [.k 0, .n 1000, .n q, .n ((i + 1 : Nat) : Int), .l TS a, .l TPt b, .l TPt c, .l TRt r])) e
  ·right
   refine ⟨(0, [.n 1000, .n m, .l TS a, .l TPt b, .l TPt c, .l TRt r]), ?_, m, rfl, by omega, fun q => (h q).elim⟩
   refine fn_L15_7_t_im _ _ _ _ _ _ _ (by omega) _ ?_
   unfold fn_L15_7_t
   exact sel_t (dt (show (i : Int) < (b.length : Int) by omega)) (sel_f (df h) rfl)
 ·refine ⟨(0, [.n 1000, .n m, .l TS a, .l TPt b, .l TPt c, .l TRt r]), ?_, m, rfl, by omega, fun q => by omega⟩
  refine fn_L15_7_t_im _ _ _ _ _ _ _ (by omega) _ ?_
  unfold fn_L15_7_t
  exact sel_f (df (show ¬ (b.length : Int) < (b.length : Int) by omega)) rfl
theorem w15_11 (a : LS) (b c : LP) (r : LR) (hl : c.length ≤ 9223372036854775807) (hz : ∀ i, i < c.length → ByteArray.size (Prod.fst (c.getD i (Ty.dflt TPt))) ≤ 140737488351232) (n : Int) (h0 : 0 ≤ n) :
  ∃ z, op_L15_11 [.k 0, .n 1000, .n n, .n (0 : Int), .l TS a, .l TPt b, .l TPt c, .l TRt r] = some (0, [.n 1000, .n z, .l TS a, .l TPt b, .l TPt c, .l TRt r]) ∧ n ≤ z ∧ (z ≤ 1000 → n + (c.length : Int) ≤ z) := by
 rw [op_L15_11_eq]
 have key := iter_inv (st := st_L15_11) (fun i n => [.k 0, .n 1000, .n n, .n (i : Int), .l TS a, .l TPt b, .l TPt c, .l TRt r]) c.length (fun i m => n + (i : Int) ≤ m) (fun y => ∃ z, y = (0, [.n 1000, .n z, .l TS a, .l TPt b, .l TPt c, .l TRt r]) ∧ n ≤ z ∧ (z ≤ 1000 → n + (c.length : Int) ≤ z)) (fun i m hi hI => ?_) (fun m hI => ?_) FU (by unfold FU; omega) n (by simp)
 ·obtain ⟨y, h, z, rfl, h1, h2⟩ := key
  exact ⟨z, h, h1, h2⟩
 ·by_cases h : m ≤ 1000
  ·left
   have hs := hz i hi
   have e : IntKind.wrap .i64 (IntKind.wrap .i64 (m + 1) + (ByteArray.size (Prod.fst (c.getD i (Ty.dflt TPt))) : Int)) = m + 1 + (ByteArray.size (Prod.fst (c.getD i (Ty.dflt TPt))) : Int) := by
    rw [w64 (x := m + 1) (by omega) (by omega), w64 (by omega) (by omega)]
   refine ⟨m + 1 + (ByteArray.size (Prod.fst (c.getD i (Ty.dflt TPt))) : Int), by omega, ?_⟩
   refine fn_L15_11_t_im _ _ _ _ _ _ _ (by omega) _ ?_
   unfold fn_L15_11_t
   refine sel_t (dt (show (i : Int) < (c.length : Int) by omega)) (sel_t (dt h) ?_)
   rw [w1n i (by omega)]
   exact congrArg (fun q : Int => some (Step.go [.k 0, .n 1000, .n q, .n ((i + 1 : Nat) : Int), .l TS a, .l TPt b, .l TPt c, .l TRt r])) e
  ·right
   refine ⟨(0, [.n 1000, .n m, .l TS a, .l TPt b, .l TPt c, .l TRt r]), ?_, m, rfl, by omega, fun q => (h q).elim⟩
   refine fn_L15_11_t_im _ _ _ _ _ _ _ (by omega) _ ?_
   unfold fn_L15_11_t
   exact sel_t (dt (show (i : Int) < (c.length : Int) by omega)) (sel_f (df h) rfl)
 ·refine ⟨(0, [.n 1000, .n m, .l TS a, .l TPt b, .l TPt c, .l TRt r]), ?_, m, rfl, by omega, fun q => by omega⟩
  refine fn_L15_11_t_im _ _ _ _ _ _ _ (by omega) _ ?_
  unfold fn_L15_11_t
  exact sel_f (df (show ¬ (c.length : Int) < (c.length : Int) by omega)) rfl
def wt2 (n : Int) (e : Rt) : Int := IntKind.wrap .i64 (IntKind.wrap .i64 (wt n e + ((eO e).length : Int)) + ((eF e).length : Int))
def szR (r : LR) : Prop := ∀ i, i < r.length → ByteArray.size (eS (r.getD i (Ty.dflt TRt))) ≤ 140737488351232 ∧ (eP (r.getD i (Ty.dflt TRt))).length ≤ 140737488351232 ∧ (eQ (r.getD i (Ty.dflt TRt))).length ≤ 140737488351232 ∧ (eO (r.getD i (Ty.dflt TRt))).length ≤ 140737488351232 ∧ (eF (r.getD i (Ty.dflt TRt))).length ≤ 140737488351232
theorem w15_15 (a : LS) (b c : LP) (r : LR) (hl : r.length ≤ 9223372036854775807) (hz : szR r) (n : Int) (h0 : 0 ≤ n) :
  ∃ z, op_L15_15 [.k 0, .n 1000, .n n, .n (0 : Int), .l TS a, .l TPt b, .l TPt c, .l TRt r] = some (0, [.n z]) ∧ n ≤ z ∧ (z ≤ 1000 → n + (r.length : Int) ≤ z ∧ lenR r) := by
 rw [op_L15_15_eq]
 have key := iter_inv (st := st_L15_15) (fun i n => [.k 0, .n 1000, .n n, .n (i : Int), .l TS a, .l TPt b, .l TPt c, .l TRt r]) r.length (fun i m => n + (i : Int) ≤ m ∧ (m ≤ 1000 → ∀ j, j < i → (eP (r.getD j (Ty.dflt TRt))).length ≤ 1000 ∧ (eQ (r.getD j (Ty.dflt TRt))).length ≤ 1000 ∧ (eO (r.getD j (Ty.dflt TRt))).length ≤ 1000 ∧ (eF (r.getD j (Ty.dflt TRt))).length ≤ 1000)) (fun y => ∃ z, y = (0, [.n z]) ∧ n ≤ z ∧ (z ≤ 1000 → n + (r.length : Int) ≤ z ∧ lenR r)) (fun i m hi hI => ?_) (fun m hI => ?_) FU (by unfold FU; omega) n ⟨by simp, fun _ j hj => by omega⟩
 ·obtain ⟨y, h, z, rfl, h1, h2⟩ := key
  exact ⟨z, h, h1, h2⟩
 ·obtain ⟨hI1, hI2⟩ := hI
  by_cases h : m ≤ 1000
  ·left
   obtain ⟨z1, z2, z3, z4, z5⟩ := hz i hi
   have ew : wt m (r.getD i (Ty.dflt TRt)) = m + 1 + (ByteArray.size (eS (r.getD i (Ty.dflt TRt))) : Int) + ((eP (r.getD i (Ty.dflt TRt))).length : Int) + ((eQ (r.getD i (Ty.dflt TRt))).length : Int) := by
    unfold wt
    rw [w64 (x := m + 1) (by omega) (by omega), w64 (x := m + 1 + _) (by omega) (by omega), w64 (x := m + 1 + _ + _) (by omega) (by omega), w64 (by omega) (by omega)]
   by_cases h2 : wt m (r.getD i (Ty.dflt TRt)) ≤ 1000
   ·have ew2 : wt2 m (r.getD i (Ty.dflt TRt)) = wt m (r.getD i (Ty.dflt TRt)) + ((eO (r.getD i (Ty.dflt TRt))).length : Int) + ((eF (r.getD i (Ty.dflt TRt))).length : Int) := by
     unfold wt2
     rw [w64 (x := wt m (r.getD i (Ty.dflt TRt)) + _) (by omega) (by omega), w64 (by omega) (by omega)]
    refine ⟨wt2 m (r.getD i (Ty.dflt TRt)), ⟨by omega, fun hq j hj => ?_⟩, ?_⟩
    ·rcases Nat.lt_or_ge j i with hj' | hj'
     ·exact hI2 h j hj'
     ·obtain rfl : j = i := by omega
      refine ⟨?_, ?_, ?_, ?_⟩ <;> omega
    ·refine fn_L15_15_t_im _ _ _ _ _ _ _ (by omega) _ ?_
     unfold fn_L15_15_t
     refine sel_t (dt (show (i : Int) < (r.length : Int) by omega)) (sel_t (dt h) (sel_t (dt h2) ?_))
     rw [w1n i (by omega)]; rfl
   ·refine ⟨wt m (r.getD i (Ty.dflt TRt)), ⟨by omega, fun hq => (h2 hq).elim⟩, ?_⟩
    refine fn_L15_15_t_im _ _ _ _ _ _ _ (by omega) _ ?_
    unfold fn_L15_15_t
    refine sel_t (dt (show (i : Int) < (r.length : Int) by omega)) (sel_t (dt h) (sel_f (df h2) ?_))
    rw [w1n i (by omega)]; rfl
  ·right
   refine ⟨(0, [.n m]), ?_, m, rfl, by omega, fun q => (h q).elim⟩
   refine fn_L15_15_t_im _ _ _ _ _ _ _ (by omega) _ ?_
   unfold fn_L15_15_t
   exact sel_t (dt (show (i : Int) < (r.length : Int) by omega)) (sel_f (df h) rfl)
 ·obtain ⟨hI1, hI2⟩ := hI
  refine ⟨(0, [.n m]), ?_, m, rfl, by omega, fun q => ⟨by omega, hI2 q⟩⟩
  refine fn_L15_15_t_im _ _ _ _ _ _ _ (by omega) _ ?_
  unfold fn_L15_15_t
  exact sel_f (df (show ¬ (r.length : Int) < (r.length : Int) by omega)) rfl
def szA (a : LS) (b c : LP) (r : LR) : Prop := (∀ i, i < a.length → ByteArray.size (a.getD i (Ty.dflt TS)) ≤ 140737488351232) ∧ (∀ i, i < b.length → ByteArray.size (Prod.fst (b.getD i (Ty.dflt TPt))) ≤ 140737488351232) ∧ (∀ i, i < c.length → ByteArray.size (Prod.fst (c.getD i (Ty.dflt TPt))) ≤ 140737488351232) ∧ szR r
theorem o15w (a : LS) (b c : LP) (r : LR) (hs : okS a b c r) (hz : szA a b c r) : ∃ z, op_15 [.l TS a, .l TPt b, .l TPt c, .l TRt r, .n 1000] = some (0, [.n z]) ∧ (z ≤ 1000 → (a.length : Int) ≤ 1000 ∧ (b.length : Int) ≤ 1000 ∧ (c.length : Int) ≤ 1000 ∧ (r.length : Int) ≤ 1000 ∧ lenR r) := by
 obtain ⟨z1, e1, a1, b1⟩ := w15_3 a b c r hs.1.1 hz.1 0 (by omega)
 obtain ⟨z2, e2, a2, b2⟩ := w15_7 a b c r hs.1.2.1 hz.2.1 z1 (by omega)
 obtain ⟨z3, e3, a3, b3⟩ := w15_11 a b c r hs.1.2.2.1 hz.2.2.1 z2 (by omega)
 obtain ⟨z4, e4, a4, b4⟩ := w15_15 a b c r hs.1.2.2.2 hz.2.2.2 z3 (by omega)
 refine ⟨z4, ?_, fun h => ?_⟩
 ·rw [op_15_eq]
  refine fn_15_t_im _ _ _ _ _ _ ?_
  unfold fn_15_t
  dsimp only
  erw [e1]; refine sel_t rfl ?_
  erw [e2]; refine sel_t rfl ?_
  erw [e3]; refine sel_t rfl ?_
  erw [e4]; exact sel_t rfl rfl
 ·obtain ⟨b4, hr⟩ := b4 h
  have b3 := b3 (by omega)
  have b2 := b2 (by omega)
  have b1 := b1 (by omega)
  exact ⟨by omega, by omega, by omega, by omega, hr⟩
theorem lp3_9 (T : List Int) (hT : T.length ≤ 100000) : op_L3_9 [.k 0, .n (0 : Int), .l TU T, .l TU T] = some (0, []) := by
 rw [op_L3_9_eq]
 refine iter_count (st := st_L3_9) (fun i => [.k 0, .n (i : Int), .l TU T, .l TU T]) T.length (0, []) (fun i hi => ?_) ?_ FU (by unfold FU; omega)
 ·refine fn_L3_9_t_im _ _ (by omega) _ ?_
  unfold fn_L3_9_t
  refine sel_t (dt (show (i : Int) < (T.length : Int) by omega)) ?_
  rw [w1n i (by omega)]; rfl
 ·refine fn_L3_9_t_im _ _ (by omega) _ ?_
  unfold fn_L3_9_t
  exact sel_f (df (show ¬ (T.length : Int) < (T.length : Int) by omega)) rfl
theorem W3_true (a : LS) (b c : LP) (r : LR) (hs : okS a b c r) (hz : szA a b c r) : (ev_W3 [.l TS a, .l TPt b, .l TPt c, .l TRt r]).sel = some true := by
  refine fn_W3_t_im _ _ _ _ _ ?_
  unfold fn_W3_t
  obtain ⟨z, e1, hw⟩ := o15w a b c r hs hz
  dsimp only
  erw [e1]; refine sel_t rfl ?_
  by_cases h : z > 1000
  · exact sel_t (dt h) rfl
  refine sel_f (df h) ?_
  obtain ⟨la, lb, lc, lr, hr⟩ := hw (by omega)
  have la' : List.length (α := ByteArray) a ≤ 100000 := by have : List.length (α := ByteArray) a ≤ 1000 := by exact Int.ofNat_le.1 la
                                                           omega
  have e2 := o16c a b c r la' (by omega) (by omega) (by omega) hr
  have e3 := o17c a b c r hs
  have e4 := o18c a b c r hs
  have e5 := o19s a b c r la' (by omega) (by omega) (by omega) hr
  erw [e2]; refine sel_t rfl ?_
  by_cases hc : (ckA a b c r).1 = 0
  · rw [if_pos hc] at e3 e4
    obtain ⟨hm, _⟩ := (ck_ok a b c r).1 hc
    have l0 := (may_rt hm).2.1
    have hl : (NL (tabB b r)).length = r.length := by rw [NL_len]; exact tabI_len ..
    have e6 := lp3_9 (NL (tabB b r)) (by omega)
    erw [e3]; refine sel_t rfl ?_
    erw [e4]; refine sel_t rfl (sel_f rfl (sel_f (nbf rfl) ?_))
    erw [e5]; refine sel_t rfl (sel_f rfl ?_)
    erw [e6]; exact sel_t rfl rfl
  · rw [if_neg hc] at e3 e4
    have e6 := lp3_9 [] (by simp)
    erw [e3]; refine sel_f rfl (sel_t rfl ?_)
    erw [e4]; refine sel_f rfl (sel_t rfl (sel_f (nbf rfl) ?_))
    erw [e5]; refine sel_t rfl (sel_f rfl ?_)
    erw [e6]; exact sel_t rfl rfl
end Go.Proofs.Ytfkcodaiiheniaa.Vx
namespace Go.Proofs.Ytfkcodaiiheniaa.Vx
open Go Go.RowKit
set_option linter.unusedVariables false
theorem ws_all {B : Nat} {t : Ty} {l : List t.den} (h : wsD B (.sl t) l = true) : l.length ≤ B ∧ ∀ x ∈ l, wsD B t x = true := by
 have h : (decide (l.length ≤ B) && wfL (wsD B t) l) = true := h
 rw [Bool.and_eq_true] at h
 exact ⟨of_decide_eq_true h.1, wfL_iff.1 h.2⟩
theorem ws_str {B : Nat} {s : ByteArray} (h : wsD B .str s = true) : s.size ≤ B := of_decide_eq_true (show decide (s.size ≤ B) = true from h)
theorem wsh0 {B : Nat} {t : Ty} {ts : List Ty} {d : HL (t :: ts)} (h : wsH B (t :: ts) d = true) : wsD B t d.1 = true := by
 have h : (wsD B t d.1 && wsH B ts d.2) = true := h
 rw [Bool.and_eq_true] at h; exact h.1
theorem szA_ws (x : TLay.den) (h : wsD reachBytes TLay x = true) : szA x.1 x.2.1 x.2.2.1 x.2.2.2 := by
 obtain ⟨h1, h2⟩ := ws_get h
 obtain ⟨h2, h3⟩ := ws_get h2
 obtain ⟨h3, h4⟩ := ws_get h3
 refine ⟨fun i hi => ws_str ((ws_all h1).2 _ (getD_mem hi)), fun i hi => ws_str (ws_get ((ws_all h2).2 _ (getD_mem hi))).1, fun i hi => ws_str (ws_get ((ws_all h3).2 _ (getD_mem hi))).1, fun i hi => ?_⟩
 obtain ⟨g1, g2⟩ := ws_get ((ws_all h4).2 _ (getD_mem (d := Ty.dflt TRt) hi))
 obtain ⟨_, g3⟩ := ws_get g2
 obtain ⟨g4, g5⟩ := ws_get g3
 obtain ⟨g6, g7⟩ := ws_get g5
 obtain ⟨g8, g9⟩ := ws_get g7
 exact ⟨ws_str g1, (ws_all g4).1, (ws_all g6).1, (ws_all g8).1, (ws_all g9).1⟩
end Go.Proofs.Ytfkcodaiiheniaa.Vx
