/- AgreeKnown: for every input the law's function returns true, and leaves its arguments as they were. No condition. -/
import Derived.Test.YtcoamiaifbjofaaVxIm
import Derived.Test.YtcoamiaifbjofaaVxLk
import Derived.Test.YtcoamiaifbjofaaVxLaw
import Derived.Test.YtcoamiaifbjofaaX20
import Derived.Test.YtcoamiaifbjofaaX20ns
import Derived.Test.YtcoamiaifbjofaaY20z
import Derived.KernelRfl
import Derived.Test.YtcoamiaifbjofaaVxAid
import Derived.Carry
import Derived.ChangeOld
import Derived.ShutString
import Derived.Below
import Derived.Lib.SmallJoins
import Derived.Test.YtcoamiaifbjofaaRows
namespace Go.Proofs.Ytcoamiaifbjofaa.Vx
open Go Go.RowKit
set_option linter.unusedVariables false
set_option linter.unusedSimpArgs false
set_option maxRecDepth 100000
set_option maxHeartbeats 0

def kB (h b : Nat) : PB := .cells [.int .u64 h, .int .u32 (h+1), .int .u32 (h+2), .own b]
abbrev mkA (k c n : Int) (o a b : Int) (l : List (Ty.den TCmd)) : Ty.den TCall := (k, c, n, o, a, b, l)
abbrev c20 : List (Ty.den TCmd) := [((1 : Int), (2 : Int))]
abbrev calls20 : List (Ty.den TCall) := [mkA 0 0 1 1 0 0 c20, mkA 0 0 2 2 3 0 c20, mkA 0 0 0 0 0 0 [], mkA 1 1 1 2 3 0 c20, mkA 1 1 1 1 0 0 c20, mkA 1 1 2 1 0 0 c20, mkA 1 1 2 2 3 0 c20, mkA 1 1 3 2 3 0 c20, mkA 1 0 1 2 3 0 c20, mkA 1 1 0 2 3 0 c20]
noncomputable def op_k3 : List Dat → Option (Nat × List Dat) := lawOp [.n, .l TCall]
noncomputable def Bk3 : FBox := mkF [.int .i64 0, .imm TCall 1] [] [] [(.bool 0, [])] op_k3
noncomputable def cs_k3 : FuncId → Option CSpec := csLend 3 Bk3 cs_4
theorem Bk3_ok : RunOk Try.prog 3 (boxRun Bk3) := lawBox_ok (op := op_k3) cs_16n_ok hmix false (ls := (lsM [(10, L3_10)] (0))) ls_3_ok fun env x he => by
  obtain ⟨rfl, h⟩ := lawOp_some he
  refine ⟨rfl, ?_⟩
  obtain ⟨x0, _, rfl, h0⟩ := fits_n h
  obtain ⟨x1, _, rfl, h1⟩ := fits_l h0
  cases fits_nil h1
  rw [← lawB_lk]; exact t3 _ _
theorem cs_k3_ok : CsOk Try.prog cs_k3 := csLend_ok cs_4_ok Bk3_ok

noncomputable def op_k5 : List Dat → Option (Nat × List Dat) := lawOp [.n, .n, .n, .n, .n, .n, .l TCmd]
noncomputable def Bk5 : FBox := mkF [.int .i64 0, rzV 1] [] [] [(.bool 0, [])] op_k5
noncomputable def cs_k5 : FuncId → Option CSpec := csLend 5 Bk5 cs_k3
theorem Bk5_ok : RunOk Try.prog 5 (boxRun Bk5) := lawBox_ok (op := op_k5) cs_w_ok hmix false (ls := ls0) (LsOk.none _ _ _) fun env x he => by
  obtain ⟨rfl, h⟩ := lawOp_some he
  refine ⟨rfl, ?_⟩
  obtain ⟨x0, _, rfl, h0⟩ := fits_n h
  obtain ⟨x1, _, rfl, h1⟩ := fits_n h0
  obtain ⟨x2, _, rfl, h2⟩ := fits_n h1
  obtain ⟨x3, _, rfl, h3⟩ := fits_n h2
  obtain ⟨x4, _, rfl, h4⟩ := fits_n h3
  obtain ⟨x5, _, rfl, h5⟩ := fits_n h4
  obtain ⟨x6, _, rfl, h6⟩ := fits_l h5
  cases fits_nil h6
  rw [← lawB_lk]; exact t5 _ _ _ _ _ _ _
theorem cs_k5_ok : CsOk Try.prog cs_k5 := csLend_ok cs_k3_ok Bk5_ok

noncomputable def st_L6_11 (env : List Dat) : Tree Step := Lk.stepMC false LK cs_k5 6 11 ls0 (mkM 0 [] [(sh 126 [(1, .ptr 0 0), (2, .ptr 1 0), (3, .own 2), (4, .int .i64 0), (5, .int .i64 1), (6, .int .i64 2)], [kB 3 3, kB 6 4, .arr TCall 9, .frz TCmd 10, .frz TCmd 11])] [] [(.exit 4, sh 126 [(1, .ptr 0 0), (2, .ptr 1 0), (3, .own 2), (4, .int .i64 0), (5, .int .i64 1)], [kB 2 3, kB 5 4, .arr TCall 8, .frz TCmd 9, .frz TCmd 10]), (.ret, sh 126 [(0, .bool 0)], [])] fun _ => none) env
theorem op_L6_11_ex : ∃ f : List Dat → Option (Nat × List Dat), ∀ env, f env = iterS st_L6_11 FU env := ⟨iterS st_L6_11 FU, fun _ => rfl⟩
noncomputable def op_L6_11 : List Dat → Option (Nat × List Dat) := Classical.choose op_L6_11_ex
theorem op_L6_11_eq (env : List Dat) : op_L6_11 env = iterS st_L6_11 FU env := Classical.choose_spec op_L6_11_ex env
noncomputable def L6_11 : MBox := mkM 0 [] [(sh 126 [(1, .ptr 0 0), (2, .ptr 1 0), (3, .own 2), (4, .int .i64 0), (5, .int .i64 1), (6, .int .i64 2)], [kB 3 3, kB 6 4, .arr TCall 9, .frz TCmd 10, .frz TCmd 11])] [] [(.exit 4, sh 126 [(1, .ptr 0 0), (2, .ptr 1 0), (3, .own 2), (4, .int .i64 0), (5, .int .i64 1)], [kB 2 3, kB 5 4, .arr TCall 8, .frz TCmd 9, .frz TCmd 10]), (.ret, sh 126 [(0, .bool 0)], [])] op_L6_11
theorem L6_11_eqs : L6_11 = mkM 0 [] [(sh 126 [(1, .ptr 0 0), (2, .ptr 1 0), (3, .own 2), (4, .int .i64 0), (5, .int .i64 1), (6, .int .i64 2)], [kB 3 3, kB 6 4, .arr TCall 9, .frz TCmd 10, .frz TCmd 11])] [] [(.exit 4, sh 126 [(1, .ptr 0 0), (2, .ptr 1 0), (3, .own 2), (4, .int .i64 0), (5, .int .i64 1)], [kB 2 3, kB 5 4, .arr TCall 8, .frz TCmd 9, .frz TCmd 10]), (.ret, sh 126 [(0, .bool 0)], [])] (iterS st_L6_11 FU) := congrArg (fun f => mkM 0 [] [(sh 126 [(1, .ptr 0 0), (2, .ptr 1 0), (3, .own 2), (4, .int .i64 0), (5, .int .i64 1), (6, .int .i64 2)], [kB 3 3, kB 6 4, .arr TCall 9, .frz TCmd 10, .frz TCmd 11])] [] [(.exit 4, sh 126 [(1, .ptr 0 0), (2, .ptr 1 0), (3, .own 2), (4, .int .i64 0), (5, .int .i64 1)], [kB 2 3, kB 5 4, .arr TCall 8, .frz TCmd 9, .frz TCmd 10]), (.ret, sh 126 [(0, .bool 0)], [])] f) (funext op_L6_11_eq)
theorem L6_11_run : ∀ t s x, (manyRun L6_11 t s).sel = some x → CodeOk Try.prog 0 (.loop (cAt Try.prog 6 11)) t s x := by
  rw [L6_11_eqs]
  exact mkM_ok (st := st_L6_11) (m := FU) cs_k5_ok hmix false (LsOk.none _ _ _) (by kernel_rfl) (fun env y h => by rw [← stepMC_lk]; exact h)
theorem op_L6_11_good {p : Nat × List Dat → Prop} (Inv : List Dat → Prop) (μ : List Dat → Nat) (h : ∀ env, Inv env → Good (fun y => match y with | .go e => Inv e ∧ μ e < μ env | .stop k d => p (k, d)) (st_L6_11 env).sel) (env : List Dat) (hi : Inv env) (hm : μ env < FU) : Good p (op_L6_11 env) := by
  rw [op_L6_11_eq]
  exact iterS_good Inv μ p h FU env hi hm

noncomputable def fn_L6_11_t : List Dat → Tree Step
  | [.n n0, .n n1, .n n2] =>
    (.node (inR (Int.tmod (IntKind.wrap .i64 (n0 + n2)) (10 : Int)) 10)
     (.node (inR (Int.tmod (IntKind.wrap .i64 (n1 + IntKind.wrap .i64 ((3 : Int) * n2))) (10 : Int)) 10)
      (.leaf (Step.go [.k 0, .n n0, .n n1, .n (IntKind.wrap .i64 (n2 + (1 : Int))), .n (1 : Int), .n (0 : Int), .n (0 : Int), .n (2 : Int), .n (3 : Int), .n (0 : Int), .l TCall calls20, .l TCmd c20, .l TCmd c20]))
      (.bad 12))
     (.bad 12))
  | _ => .bad 0
theorem fn_L6_11_t_im (n0 : Int) (n1 : Int) (n2 : Int) (g0 : 0 ≤ n0) (g1 :  n0 < 10) (g2 :  0 ≤ n1) (g3 :  n1 < 10) (g4 :  0 ≤ n2) (g5 :  n2 < 10) : Imp (fn_L6_11_t [.n n0, .n n1, .n n2]) (st_L6_11 [.k 0, .n n0, .n n1, .n n2, .n 1, .n 0, .n 0, .n 2, .n 3, .n 0, .l TCall calls20, .l TCmd c20, .l TCmd c20]) :=
(.path [1] (by kernel_rfl)
(.pt (c := (decide (n2 < (10 : Int)))) (by kernel_rfl) (by kernel_rfl) (by (simp [*]; done))
(.pt (c := (inR n0 10)) (by kernel_rfl) (by kernel_rfl) (by (simp only [w64d, decide_eq_true_eq, decide_eq_false_iff_not, beq_iff_eq, beq_eq_false_iff_ne, bne_iff_ne, ne_eq, inR, Bool.and_eq_true, Bool.and_eq_false_iff, Bool.not_eq_true', Bool.not_eq_false', Bool.not_eq_eq_eq_not, Bool.not_true, Bool.not_false] at *; omega))
(.pt (c := (inR n1 10)) (by kernel_rfl) (by kernel_rfl) (by (simp only [w64d, decide_eq_true_eq, decide_eq_false_iff_not, beq_iff_eq, beq_eq_false_iff_ne, bne_iff_ne, ne_eq, inR, Bool.and_eq_true, Bool.and_eq_false_iff, Bool.not_eq_true', Bool.not_eq_false', Bool.not_eq_eq_eq_not, Bool.not_true, Bool.not_false] at *; omega))
(.pt (c := (inR n2 10)) (by kernel_rfl) (by kernel_rfl) (by (simp only [w64d, decide_eq_true_eq, decide_eq_false_iff_not, beq_iff_eq, beq_eq_false_iff_ne, bne_iff_ne, ne_eq, inR, Bool.and_eq_true, Bool.and_eq_false_iff, Bool.not_eq_true', Bool.not_eq_false', Bool.not_eq_eq_eq_not, Bool.not_true, Bool.not_false] at *; omega))
(.path [1] (by kernel_rfl)
(.node (by kernel_rfl) (by kernel_rfl) (fun h0 =>
(.path [1] (by kernel_rfl)
(.node (by kernel_rfl) (by kernel_rfl) (fun h1 =>
(.path [1,1,1,0,1] (by kernel_rfl)
(.leaf (by kernel_rfl)))) (fun h1 =>
.none)))) (fun h0 =>
.none))))))))

noncomputable def fn_L6_11_x : List Dat → Tree Step
  | [.n n0, .n n1, .n n2] =>
    (.leaf (Step.stop 0 [.n n0, .n n1, .n (1 : Int), .n (0 : Int), .n (0 : Int), .n (2 : Int), .n (3 : Int), .n (0 : Int), .l TCall calls20, .l TCmd c20, .l TCmd c20]))
  | _ => .bad 0
theorem fn_L6_11_x_im (n0 : Int) (n1 : Int) (n2 : Int) (g0 : n2 = 10) : Imp (fn_L6_11_x [.n n0, .n n1, .n n2]) (st_L6_11 [.k 0, .n n0, .n n1, .n n2, .n 1, .n 0, .n 0, .n 2, .n 3, .n 0, .l TCall calls20, .l TCmd c20, .l TCmd c20]) :=
(.path [1] (by kernel_rfl)
(.pf (c := (decide (n2 < (10 : Int)))) (by kernel_rfl) (by kernel_rfl) (by (simp [*]; done))
(.path [1] (by kernel_rfl)
(.leaf (by kernel_rfl)))))

noncomputable def st_L6_8 (env : List Dat) : Tree Step := Lk.stepMC false LK cs_k5 6 8 (lsM [(11, L6_11)] 0) (mkM 0 [] [(sh 126 [(1, .ptr 0 0), (2, .ptr 1 0), (3, .own 2), (4, .int .i64 0), (5, .int .i64 1)], [kB 2 3, kB 5 4, .arr TCall 8, .frz TCmd 9, .frz TCmd 10])] [] [(.exit 2, sh 126 [(1, .ptr 0 0), (2, .ptr 1 0), (3, .own 2), (4, .int .i64 0)], [kB 1 3, kB 4 4, .arr TCall 7, .frz TCmd 8, .frz TCmd 9]), (.ret, sh 126 [(0, .bool 0)], [])] fun _ => none) env
theorem op_L6_8_ex : ∃ f : List Dat → Option (Nat × List Dat), ∀ env, f env = iterS st_L6_8 FU env := ⟨iterS st_L6_8 FU, fun _ => rfl⟩
noncomputable def op_L6_8 : List Dat → Option (Nat × List Dat) := Classical.choose op_L6_8_ex
theorem op_L6_8_eq (env : List Dat) : op_L6_8 env = iterS st_L6_8 FU env := Classical.choose_spec op_L6_8_ex env
noncomputable def L6_8 : MBox := mkM 0 [] [(sh 126 [(1, .ptr 0 0), (2, .ptr 1 0), (3, .own 2), (4, .int .i64 0), (5, .int .i64 1)], [kB 2 3, kB 5 4, .arr TCall 8, .frz TCmd 9, .frz TCmd 10])] [] [(.exit 2, sh 126 [(1, .ptr 0 0), (2, .ptr 1 0), (3, .own 2), (4, .int .i64 0)], [kB 1 3, kB 4 4, .arr TCall 7, .frz TCmd 8, .frz TCmd 9]), (.ret, sh 126 [(0, .bool 0)], [])] op_L6_8
theorem L6_8_eqs : L6_8 = mkM 0 [] [(sh 126 [(1, .ptr 0 0), (2, .ptr 1 0), (3, .own 2), (4, .int .i64 0), (5, .int .i64 1)], [kB 2 3, kB 5 4, .arr TCall 8, .frz TCmd 9, .frz TCmd 10])] [] [(.exit 2, sh 126 [(1, .ptr 0 0), (2, .ptr 1 0), (3, .own 2), (4, .int .i64 0)], [kB 1 3, kB 4 4, .arr TCall 7, .frz TCmd 8, .frz TCmd 9]), (.ret, sh 126 [(0, .bool 0)], [])] (iterS st_L6_8 FU) := congrArg (fun f => mkM 0 [] [(sh 126 [(1, .ptr 0 0), (2, .ptr 1 0), (3, .own 2), (4, .int .i64 0), (5, .int .i64 1)], [kB 2 3, kB 5 4, .arr TCall 8, .frz TCmd 9, .frz TCmd 10])] [] [(.exit 2, sh 126 [(1, .ptr 0 0), (2, .ptr 1 0), (3, .own 2), (4, .int .i64 0)], [kB 1 3, kB 4 4, .arr TCall 7, .frz TCmd 8, .frz TCmd 9]), (.ret, sh 126 [(0, .bool 0)], [])] f) (funext op_L6_8_eq)
theorem L6_8_in : LsOk Try.prog 0 (lsM [(11, L6_11)] 0) (cAt Try.prog 6 8) := LsOk.many fun j B hB hk c hc hi => by
  simp only [lookM] at hB
  split at hB
  · rename_i e; have := Nat.eq_of_beq_eq_true e; subst this; cases hB
    have e1 : loopsAt (cAt Try.prog 6 8) 11 = [cAt Try.prog 6 11] := by kernel_rfl
    have e2 := loopsAt_mem hc hi
    rw [e1] at e2; cases List.mem_singleton.1 e2; exact L6_11_run
  cases hB
theorem L6_8_run : ∀ t s x, (manyRun L6_8 t s).sel = some x → CodeOk Try.prog 0 (.loop (cAt Try.prog 6 8)) t s x := by
  rw [L6_8_eqs]
  exact mkM_ok (st := st_L6_8) (m := FU) cs_k5_ok hmix false (L6_8_in) (by kernel_rfl) (fun env y h => by rw [← stepMC_lk]; exact h)
theorem op_L6_8_good {p : Nat × List Dat → Prop} (Inv : List Dat → Prop) (μ : List Dat → Nat) (h : ∀ env, Inv env → Good (fun y => match y with | .go e => Inv e ∧ μ e < μ env | .stop k d => p (k, d)) (st_L6_8 env).sel) (env : List Dat) (hi : Inv env) (hm : μ env < FU) : Good p (op_L6_8 env) := by
  rw [op_L6_8_eq]
  exact iterS_good Inv μ p h FU env hi hm

noncomputable def fn_L6_8_t : List Dat → Tree Step
  | [.n n0, .n n1] =>
    (let r1 : Option (Nat × List Dat) := (op_L6_11 [.k 0, .n n0, .n n1, .n (0 : Int), .n (1 : Int), .n (0 : Int), .n (0 : Int), .n (2 : Int), .n (3 : Int), .n (0 : Int), .l TCall calls20, .l TCmd c20, .l TCmd c20]);
     (.node (isK 0 [HK.n, HK.n, HK.n, HK.n, HK.n, HK.n, HK.n, HK.n, HK.l TCall, HK.l TCmd, HK.l TCmd] r1)
      (.leaf (Step.go [.k 0, .n (gn (dOf r1) 0), .n (IntKind.wrap .i64 (gn (dOf r1) 1 + (1 : Int))), .n (gn (dOf r1) 2), .n (gn (dOf r1) 3), .n (gn (dOf r1) 4), .n (gn (dOf r1) 5), .n (gn (dOf r1) 6), .n (gn (dOf r1) 7), .l TCall (gl TCall (dOf r1) 8), .l TCmd (gl TCmd (dOf r1) 9), .l TCmd (gl TCmd (dOf r1) 10)]))
      (.node (isK 1 [HK.b] r1)
       (.leaf (Step.stop 1 [.b (gb (dOf r1) 0)]))
       (.bad 351))))
  | _ => .bad 0
theorem fn_L6_8_t_im (n0 : Int) (n1 : Int) (g0 : 0 ≤ n0) (g1 :  n0 < 10) (g2 :  0 ≤ n1) (g3 :  n1 < 10) : Imp (fn_L6_8_t [.n n0, .n n1]) (st_L6_8 [.k 0, .n n0, .n n1, .n 1, .n 0, .n 0, .n 2, .n 3, .n 0, .l TCall calls20, .l TCmd c20, .l TCmd c20]) :=
(.path [1] (by kernel_rfl)
(.pt (c := (decide (n1 < (10 : Int)))) (by kernel_rfl) (by kernel_rfl) (by (simp [*]; done))
(.node (by kernel_rfl) (by kernel_rfl) (fun h0 =>
(.path [1] (by kernel_rfl)
(.leaf (by kernel_rfl)))) (fun h0 =>
(.node (by kernel_rfl) (by kernel_rfl) (fun h1 =>
(.path [1] (by kernel_rfl)
(.leaf (by kernel_rfl)))) (fun h1 =>
.none))))))

noncomputable def fn_L6_8_x : List Dat → Tree Step
  | [.n n0, .n n1] =>
    (.leaf (Step.stop 0 [.n n0, .n (1 : Int), .n (0 : Int), .n (0 : Int), .n (2 : Int), .n (3 : Int), .n (0 : Int), .l TCall calls20, .l TCmd c20, .l TCmd c20]))
  | _ => .bad 0
theorem fn_L6_8_x_im (n0 : Int) (n1 : Int) (g0 : n1 = 10) : Imp (fn_L6_8_x [.n n0, .n n1]) (st_L6_8 [.k 0, .n n0, .n n1, .n 1, .n 0, .n 0, .n 2, .n 3, .n 0, .l TCall calls20, .l TCmd c20, .l TCmd c20]) :=
(.path [1] (by kernel_rfl)
(.pf (c := (decide (n1 < (10 : Int)))) (by kernel_rfl) (by kernel_rfl) (by (simp [*]; done))
(.path [1] (by kernel_rfl)
(.leaf (by kernel_rfl)))))

noncomputable def st_L6_5 (env : List Dat) : Tree Step := Lk.stepMC false LK cs_k5 6 5 (lsM [(8, L6_8)] 0) (mkM 0 [] [(sh 126 [(1, .ptr 0 0), (2, .ptr 1 0), (3, .own 2), (4, .int .i64 0)], [kB 1 3, kB 4 4, .arr TCall 7, .frz TCmd 8, .frz TCmd 9])] [] [(.exit 0, sh 126 [(1, .ptr 0 0), (2, .ptr 1 0), (3, .own 2)], [kB 0 3, kB 3 4, .arr TCall 6, .frz TCmd 7, .frz TCmd 8]), (.ret, sh 126 [(0, .bool 0)], [])] fun _ => none) env
theorem op_L6_5_ex : ∃ f : List Dat → Option (Nat × List Dat), ∀ env, f env = iterS st_L6_5 FU env := ⟨iterS st_L6_5 FU, fun _ => rfl⟩
noncomputable def op_L6_5 : List Dat → Option (Nat × List Dat) := Classical.choose op_L6_5_ex
theorem op_L6_5_eq (env : List Dat) : op_L6_5 env = iterS st_L6_5 FU env := Classical.choose_spec op_L6_5_ex env
noncomputable def L6_5 : MBox := mkM 0 [] [(sh 126 [(1, .ptr 0 0), (2, .ptr 1 0), (3, .own 2), (4, .int .i64 0)], [kB 1 3, kB 4 4, .arr TCall 7, .frz TCmd 8, .frz TCmd 9])] [] [(.exit 0, sh 126 [(1, .ptr 0 0), (2, .ptr 1 0), (3, .own 2)], [kB 0 3, kB 3 4, .arr TCall 6, .frz TCmd 7, .frz TCmd 8]), (.ret, sh 126 [(0, .bool 0)], [])] op_L6_5
theorem L6_5_eqs : L6_5 = mkM 0 [] [(sh 126 [(1, .ptr 0 0), (2, .ptr 1 0), (3, .own 2), (4, .int .i64 0)], [kB 1 3, kB 4 4, .arr TCall 7, .frz TCmd 8, .frz TCmd 9])] [] [(.exit 0, sh 126 [(1, .ptr 0 0), (2, .ptr 1 0), (3, .own 2)], [kB 0 3, kB 3 4, .arr TCall 6, .frz TCmd 7, .frz TCmd 8]), (.ret, sh 126 [(0, .bool 0)], [])] (iterS st_L6_5 FU) := congrArg (fun f => mkM 0 [] [(sh 126 [(1, .ptr 0 0), (2, .ptr 1 0), (3, .own 2), (4, .int .i64 0)], [kB 1 3, kB 4 4, .arr TCall 7, .frz TCmd 8, .frz TCmd 9])] [] [(.exit 0, sh 126 [(1, .ptr 0 0), (2, .ptr 1 0), (3, .own 2)], [kB 0 3, kB 3 4, .arr TCall 6, .frz TCmd 7, .frz TCmd 8]), (.ret, sh 126 [(0, .bool 0)], [])] f) (funext op_L6_5_eq)
theorem L6_5_in : LsOk Try.prog 0 (lsM [(8, L6_8)] 0) (cAt Try.prog 6 5) := LsOk.many fun j B hB hk c hc hi => by
  simp only [lookM] at hB
  split at hB
  · rename_i e; have := Nat.eq_of_beq_eq_true e; subst this; cases hB
    have e1 : loopsAt (cAt Try.prog 6 5) 8 = [cAt Try.prog 6 8] := by kernel_rfl
    have e2 := loopsAt_mem hc hi
    rw [e1] at e2; cases List.mem_singleton.1 e2; exact L6_8_run
  cases hB
theorem L6_5_run : ∀ t s x, (manyRun L6_5 t s).sel = some x → CodeOk Try.prog 0 (.loop (cAt Try.prog 6 5)) t s x := by
  rw [L6_5_eqs]
  exact mkM_ok (st := st_L6_5) (m := FU) cs_k5_ok hmix false (L6_5_in) (by kernel_rfl) (fun env y h => by rw [← stepMC_lk]; exact h)
theorem op_L6_5_good {p : Nat × List Dat → Prop} (Inv : List Dat → Prop) (μ : List Dat → Nat) (h : ∀ env, Inv env → Good (fun y => match y with | .go e => Inv e ∧ μ e < μ env | .stop k d => p (k, d)) (st_L6_5 env).sel) (env : List Dat) (hi : Inv env) (hm : μ env < FU) : Good p (op_L6_5 env) := by
  rw [op_L6_5_eq]
  exact iterS_good Inv μ p h FU env hi hm

noncomputable def fn_L6_5_t : List Dat → Tree Step
  | [.n n0] =>
    (let r1 : Option (Nat × List Dat) := (op_L6_8 [.k 0, .n n0, .n (0 : Int), .n (1 : Int), .n (0 : Int), .n (0 : Int), .n (2 : Int), .n (3 : Int), .n (0 : Int), .l TCall calls20, .l TCmd c20, .l TCmd c20]);
     (.node (isK 0 [HK.n, HK.n, HK.n, HK.n, HK.n, HK.n, HK.n, HK.l TCall, HK.l TCmd, HK.l TCmd] r1)
      (.leaf (Step.go [.k 0, .n (IntKind.wrap .i64 (gn (dOf r1) 0 + (1 : Int))), .n (gn (dOf r1) 1), .n (gn (dOf r1) 2), .n (gn (dOf r1) 3), .n (gn (dOf r1) 4), .n (gn (dOf r1) 5), .n (gn (dOf r1) 6), .l TCall (gl TCall (dOf r1) 7), .l TCmd (gl TCmd (dOf r1) 8), .l TCmd (gl TCmd (dOf r1) 9)]))
      (.node (isK 1 [HK.b] r1)
       (.leaf (Step.stop 1 [.b (gb (dOf r1) 0)]))
       (.bad 351))))
  | _ => .bad 0
theorem fn_L6_5_t_im (n0 : Int) (g0 : 0 ≤ n0) (g1 :  n0 < 10) : Imp (fn_L6_5_t [.n n0]) (st_L6_5 [.k 0, .n n0, .n 1, .n 0, .n 0, .n 2, .n 3, .n 0, .l TCall calls20, .l TCmd c20, .l TCmd c20]) :=
(.path [1] (by kernel_rfl)
(.pt (c := (decide (n0 < (10 : Int)))) (by kernel_rfl) (by kernel_rfl) (by (simp [*]; done))
(.node (by kernel_rfl) (by kernel_rfl) (fun h0 =>
(.path [1] (by kernel_rfl)
(.leaf (by kernel_rfl)))) (fun h0 =>
(.node (by kernel_rfl) (by kernel_rfl) (fun h1 =>
(.path [1] (by kernel_rfl)
(.leaf (by kernel_rfl)))) (fun h1 =>
.none))))))

noncomputable def fn_L6_5_x : List Dat → Tree Step
  | [.n n0] =>
    (.leaf (Step.stop 0 [.n (1 : Int), .n (0 : Int), .n (0 : Int), .n (2 : Int), .n (3 : Int), .n (0 : Int), .l TCall calls20, .l TCmd c20, .l TCmd c20]))
  | _ => .bad 0
theorem fn_L6_5_x_im (n0 : Int) (g0 : n0 = 10) : Imp (fn_L6_5_x [.n n0]) (st_L6_5 [.k 0, .n n0, .n 1, .n 0, .n 0, .n 2, .n 3, .n 0, .l TCall calls20, .l TCmd c20, .l TCmd c20]) :=
(.path [1] (by kernel_rfl)
(.pf (c := (decide (n0 < (10 : Int)))) (by kernel_rfl) (by kernel_rfl) (by (simp [*]; done))
(.path [1] (by kernel_rfl)
(.leaf (by kernel_rfl)))))

noncomputable def st_L6_17 (env : List Dat) : Tree Step := Lk.stepMC false LK cs_k5 6 17 ls0 (mkM 0 [] [(sh 126 [(1, .ptr 0 0), (2, .ptr 1 0), (3, .own 2), (8, .int .i64 0)], [kB 1 3, kB 4 4, .arr TCall 7, .frz TCmd 8, .frz TCmd 9])] [] [(.exit 6, sh 126 [(1, .ptr 0 0), (2, .ptr 1 0)], [kB 0 2, kB 3 3, .frz TCmd 6, .frz TCmd 7]), (.ret, sh 126 [(0, .bool 0)], [])] fun _ => none) env
theorem op_L6_17_ex : ∃ f : List Dat → Option (Nat × List Dat), ∀ env, f env = iterS st_L6_17 FU env := ⟨iterS st_L6_17 FU, fun _ => rfl⟩
noncomputable def op_L6_17 : List Dat → Option (Nat × List Dat) := Classical.choose op_L6_17_ex
theorem op_L6_17_eq (env : List Dat) : op_L6_17 env = iterS st_L6_17 FU env := Classical.choose_spec op_L6_17_ex env
noncomputable def L6_17 : MBox := mkM 0 [] [(sh 126 [(1, .ptr 0 0), (2, .ptr 1 0), (3, .own 2), (8, .int .i64 0)], [kB 1 3, kB 4 4, .arr TCall 7, .frz TCmd 8, .frz TCmd 9])] [] [(.exit 6, sh 126 [(1, .ptr 0 0), (2, .ptr 1 0)], [kB 0 2, kB 3 3, .frz TCmd 6, .frz TCmd 7]), (.ret, sh 126 [(0, .bool 0)], [])] op_L6_17
theorem L6_17_eqs : L6_17 = mkM 0 [] [(sh 126 [(1, .ptr 0 0), (2, .ptr 1 0), (3, .own 2), (8, .int .i64 0)], [kB 1 3, kB 4 4, .arr TCall 7, .frz TCmd 8, .frz TCmd 9])] [] [(.exit 6, sh 126 [(1, .ptr 0 0), (2, .ptr 1 0)], [kB 0 2, kB 3 3, .frz TCmd 6, .frz TCmd 7]), (.ret, sh 126 [(0, .bool 0)], [])] (iterS st_L6_17 FU) := congrArg (fun f => mkM 0 [] [(sh 126 [(1, .ptr 0 0), (2, .ptr 1 0), (3, .own 2), (8, .int .i64 0)], [kB 1 3, kB 4 4, .arr TCall 7, .frz TCmd 8, .frz TCmd 9])] [] [(.exit 6, sh 126 [(1, .ptr 0 0), (2, .ptr 1 0)], [kB 0 2, kB 3 3, .frz TCmd 6, .frz TCmd 7]), (.ret, sh 126 [(0, .bool 0)], [])] f) (funext op_L6_17_eq)
theorem L6_17_run : ∀ t s x, (manyRun L6_17 t s).sel = some x → CodeOk Try.prog 0 (.loop (cAt Try.prog 6 17)) t s x := by
  rw [L6_17_eqs]
  exact mkM_ok (st := st_L6_17) (m := FU) cs_k5_ok hmix false (LsOk.none _ _ _) (by kernel_rfl) (fun env y h => by rw [← stepMC_lk]; exact h)
theorem op_L6_17_good {p : Nat × List Dat → Prop} (Inv : List Dat → Prop) (μ : List Dat → Nat) (h : ∀ env, Inv env → Good (fun y => match y with | .go e => Inv e ∧ μ e < μ env | .stop k d => p (k, d)) (st_L6_17 env).sel) (env : List Dat) (hi : Inv env) (hm : μ env < FU) : Good p (op_L6_17 env) := by
  rw [op_L6_17_eq]
  exact iterS_good Inv μ p h FU env hi hm

noncomputable def fn_L6_17_t : List Dat → Tree Step
  | [.n n0] =>
    (.leaf (Step.go [.k 0, .n (IntKind.wrap .i64 (n0 + (1 : Int))), .n (1 : Int), .n (0 : Int), .n (0 : Int), .n (2 : Int), .n (3 : Int), .n (0 : Int), .l TCall calls20, .l TCmd c20, .l TCmd c20]))
  | _ => .bad 0
theorem fn_L6_17_t_im (n0 : Int) (g0 : -1 ≤ n0) (g1 :  n0 < 3) : Imp (fn_L6_17_t [.n n0]) (st_L6_17 [.k 0, .n n0, .n 1, .n 0, .n 0, .n 2, .n 3, .n 0, .l TCall calls20, .l TCmd c20, .l TCmd c20]) :=
(.path [1] (by kernel_rfl)
(.pt (c := (decide (n0 < (3 : Int)))) (by kernel_rfl) (by kernel_rfl) (by (simp [*]; done))
(.path [1,1,0,1,1,0,1] (by kernel_rfl)
(.leaf (by kernel_rfl)))))

noncomputable def fn_L6_17_x : List Dat → Tree Step
  | [.n n0] =>
    (.leaf (Step.stop 0 [.n (1 : Int), .n (0 : Int), .n (0 : Int), .n (2 : Int), .n (3 : Int), .n (0 : Int), .l TCmd c20, .l TCmd c20]))
  | _ => .bad 0
theorem fn_L6_17_x_im (n0 : Int) (g0 : n0 = 3) : Imp (fn_L6_17_x [.n n0]) (st_L6_17 [.k 0, .n n0, .n 1, .n 0, .n 0, .n 2, .n 3, .n 0, .l TCall calls20, .l TCmd c20, .l TCmd c20]) :=
(.path [1] (by kernel_rfl)
(.pf (c := (decide (n0 < (3 : Int)))) (by kernel_rfl) (by kernel_rfl) (by (simp [*]; done))
(.path [1] (by kernel_rfl)
(.leaf (by kernel_rfl)))))

theorem ls_6_ok : LsOk Try.prog (0) (lsM [(5, L6_5), (17, L6_17)] (0)) (bodyOf Try.prog 6) := LsOk.many fun j B hB hk c hc hi => by
  simp only [lookM] at hB
  split at hB
  · rename_i e; have := Nat.eq_of_beq_eq_true e; subst this; cases hB
    have e1 : loopAt Try.prog 6 5 = [cAt Try.prog 6 5] := loopAt_one (by kernel_rfl)
    have e2 : c ∈ loopAt Try.prog 6 5 := loopsAt_mem hc hi
    rw [e1] at e2; cases List.mem_singleton.1 e2; exact L6_5_run
  split at hB
  · rename_i e; have := Nat.eq_of_beq_eq_true e; subst this; cases hB
    have e1 : loopAt Try.prog 6 17 = [cAt Try.prog 6 17] := loopAt_one (by kernel_rfl)
    have e2 : c ∈ loopAt Try.prog 6 17 := loopsAt_mem hc hi
    rw [e1] at e2; cases List.mem_singleton.1 e2; exact L6_17_run
  cases hB

noncomputable def ev_W6 (env : List Dat) : Tree Bool := Lk.lawB false LK cs_k5 6 (lsM [(5, L6_5), (17, L6_17)] (0)) (instL [] env)

theorem W6_law (env : List Dat) (h : (ev_W6 env).sel = some true) {w : World} {args : Array Value} (ha : LRel R0 (snapOf w) (instL [] env) args) :
    Calls Try.prog 6 args w fun e w' => e = .returned (.bool true) ∧ Below w.heap.size w w' :=
  lawB_ok cs_k5_ok hmix false (ls := (lsM [(5, L6_5), (17, L6_17)] (0))) (ls_6_ok) (by rw [← lawB_lk]; exact h) ha

noncomputable def fn_W6_t : List Dat → Tree Bool
  | [] =>
    (let r1 : Option (Nat × List Dat) := (op_L6_5 [.k 0, .n (0 : Int), .n (1 : Int), .n (0 : Int), .n (0 : Int), .n (2 : Int), .n (3 : Int), .n (0 : Int), .l TCall calls20, .l TCmd c20, .l TCmd c20]);
     (.node (isK 0 [HK.n, HK.n, HK.n, HK.n, HK.n, HK.n, HK.l TCall, HK.l TCmd, HK.l TCmd] r1)
      (let r2 : Option (Nat × List Dat) := (op_L6_17 [.k 0, .n (-1 : Int), .n (gn (dOf r1) 0), .n (gn (dOf r1) 1), .n (gn (dOf r1) 2), .n (gn (dOf r1) 3), .n (gn (dOf r1) 4), .n (gn (dOf r1) 5), .l TCall (gl TCall (dOf r1) 6), .l TCmd (gl TCmd (dOf r1) 7), .l TCmd (gl TCmd (dOf r1) 8)]);
       (.node (isK 0 [HK.n, HK.n, HK.n, HK.n, HK.n, HK.n, HK.l TCmd, HK.l TCmd] r2)
        (let r3 : Option (Nat × List Dat) := (op_4 [.l TCall [((0 : Int), (0 : Int), (1 : Int), gn (dOf r2) 0, gn (dOf r2) 1, gn (dOf r2) 2, gl TCmd (dOf r2) 6), ((0 : Int), (1 : Int), (1 : Int), gn (dOf r2) 3, gn (dOf r2) 4, gn (dOf r2) 5, gl TCmd (dOf r2) 7), ((1 : Int), (0 : Int), (1 : Int), (0 : Int), (0 : Int), (0 : Int), []), ((1 : Int), (1 : Int), (0 : Int), (0 : Int), (0 : Int), (0 : Int), []), ((3 : Int), (0 : Int), (0 : Int), (0 : Int), (0 : Int), (0 : Int), []), ((0 : Int), (1 : Int), (2 : Int), (0 : Int), (0 : Int), (0 : Int), []), ((1 : Int), (0 : Int), (2 : Int), (0 : Int), (0 : Int), (0 : Int), []), ((0 : Int), (0 : Int), (2 : Int), gn (dOf r2) 3, gn (dOf r2) 4, gn (dOf r2) 5, gl TCmd (dOf r2) 7), ((1 : Int), (1 : Int), (3 : Int), (0 : Int), (0 : Int), (0 : Int), []), ((1 : Int), (0 : Int), (1 : Int), (0 : Int), (0 : Int), (0 : Int), [])]]);
         (.node (isK 0 [HK.b] r3)
          (.node (gb (dOf r3) 0)
           (.leaf (true))
           (.leaf (false)))
          (.bad 351)))
        (.node (isK 1 [HK.b] r2)
         (.leaf (gb (dOf r2) 0))
         (.bad 351))))
      (.node (isK 1 [HK.b] r1)
       (.leaf (gb (dOf r1) 0))
       (.bad 351))))
  | _ => .bad 0
theorem fn_W6_t_im  : Imp (fn_W6_t []) (ev_W6 []) :=
(.node (by kernel_rfl) (by kernel_rfl) (fun h0 =>
(.node (by kernel_rfl) (by kernel_rfl) (fun h1 =>
(.node (by kernel_rfl) (by kernel_rfl) (fun h2 =>
(.path [1] (by kernel_rfl)
(.node (by kernel_rfl) (by kernel_rfl) (fun h3 =>
(.path [1,1,1] (by kernel_rfl)
(.leaf (by kernel_rfl)))) (fun h3 =>
(.path [0] (by kernel_rfl)
(.leaf (by kernel_rfl))))))) (fun h2 =>
.none))) (fun h1 =>
(.node (by kernel_rfl) (by kernel_rfl) (fun h2 =>
(.leaf (by kernel_rfl))) (fun h2 =>
.none))))) (fun h0 =>
(.node (by kernel_rfl) (by kernel_rfl) (fun h1 =>
(.leaf (by kernel_rfl))) (fun h1 =>
.none))))
end Go.Proofs.Ytcoamiaifbjofaa.Vx
namespace Go.Proofs.Ytcoamiaifbjofaa.Vx
open Go Go.RowKit
set_option linter.unusedVariables false
set_option linter.unusedSimpArgs false
set_option maxRecDepth 100000
set_option maxHeartbeats 400000
abbrev s20 : List Dat := [.n 1, .n 0, .n 0, .n 2, .n 3, .n 0]
abbrev r20 : List Dat := [.l TCmd c20, .l TCmd c20]
abbrev tl20 : List Dat := [.n 1, .n 0, .n 0, .n 2, .n 3, .n 0, .l TCall calls20, .l TCmd c20, .l TCmd c20]
abbrev e11 (i k n : Int) : List Dat := .k 0 :: .n i :: .n k :: .n n :: tl20
abbrev e8 (i k : Int) : List Dat := .k 0 :: .n i :: .n k :: tl20
abbrev e5' (i : Int) : List Dat := .k 0 :: .n i :: tl20
theorem in10 (x : Int) (h : 0 ≤ x) : inR (Int.tmod x 10) 10 = true := by
  have h1 : 0 ≤ Int.tmod x 10 := Int.tmod_nonneg _ h
  have h2 : Int.tmod x 10 < 10 := Int.tmod_lt_of_pos x (by omega)
  exact inR_true h1 h2
theorem run11 (i k : Int) (a : 0 ≤ i) (b : i < 10) (c : 0 ≤ k) (d : k < 10) : op_L6_11 (e11 i k 0) = some (0, .n i :: .n k :: tl20) := by
  rw [op_L6_11_eq]
  refine iterS_count (e11 i k) 10 (0, .n i :: .n k :: tl20) (fun n h0 h1 => ?_) ?_ FU 0 (by omega) (by omega) (by show (10 : Int).toNat < FU; unfold FU; omega)
  · have w := w64s (x := n + 1) (by omega) (by omega)
    refine fn_L6_11_t_im i k n a b c d h0 h1 _ ?_
    unfold fn_L6_11_t
    refine sel_t (in10 _ (by rw [w64s (by omega) (by omega)]; omega)) (sel_t (in10 _ (by rw [w64s (x := 3 * n) (by omega) (by omega), w64s (by omega) (by omega)]; omega)) ?_)
    exact congrArg (fun z => some (Step.go (e11 i k z))) w
  · exact fn_L6_11_x_im i k 10 rfl _ rfl
theorem run8 (i : Int) (a : 0 ≤ i) (b : i < 10) : op_L6_8 (e8 i 0) = some (0, .n i :: tl20) := by
  rw [op_L6_8_eq]
  refine iterS_count (e8 i) 10 (0, .n i :: tl20) (fun n h0 h1 => ?_) ?_ FU 0 (by omega) (by omega) (by show (10 : Int).toNat < FU; unfold FU; omega)
  · have w := w64s (x := n + 1) (by omega) (by omega)
    refine fn_L6_8_t_im i n a b h0 h1 _ ?_
    unfold fn_L6_8_t
    have e := run11 i n a b h0 h1
    refine sel_t (by erw [e]; rfl) ?_
    erw [e]
    exact congrArg (fun z => some (Step.go (e8 i z))) w
  · exact fn_L6_8_x_im i 10 rfl _ rfl
theorem run5 : op_L6_5 (e5' 0) = some (0, tl20) := by
  rw [op_L6_5_eq]
  refine iterS_count e5' 10 (0, tl20) (fun n h0 h1 => ?_) ?_ FU 0 (by omega) (by omega) (by show (10 : Int).toNat < FU; unfold FU; omega)
  · have w := w64s (x := n + 1) (by omega) (by omega)
    refine fn_L6_5_t_im n h0 h1 _ ?_
    unfold fn_L6_5_t
    have e := run8 n h0 h1
    refine sel_t (by erw [e]; rfl) ?_
    erw [e]
    exact congrArg (fun z => some (Step.go (e5' z))) w
  · exact fn_L6_5_x_im 10 rfl _ rfl
theorem run17 : op_L6_17 (e5' (-1)) = some (0, s20 ++ r20) := by
  have h := iterS_count (st := st_L6_17) (fun n => e5' (n - 1)) 4 (0, s20 ++ r20) (fun n h0 h1 => ?_) ?_ FU 0 (by omega) (by omega) (by show (4 : Int).toNat < FU; unfold FU; omega)
  · rw [op_L6_17_eq]
    exact h
  · have w : IntKind.wrap .i64 (n - 1 + 1) = n + 1 - 1 := by rw [w64s (by omega) (by omega)]; omega
    exact (fn_L6_17_t_im (n - 1) (by omega) (by omega) _ rfl).trans (congrArg (fun z => some (Step.go (e5' z))) w)
  · exact fn_L6_17_x_im 3 rfl _ rfl
theorem W6_true : (ev_W6 []).sel = some true := by
  refine fn_W6_t_im _ ?_
  unfold fn_W6_t
  have e := run5
  have e2 := run17
  dsimp only
  refine sel_t (by erw [e]; rfl) ?_
  erw [e]
  refine sel_t (by erw [e2]; rfl) ?_
  erw [e2]
  have e4 := o4
  refine sel_t (by erw [e4]; rfl) (sel_t (by erw [e4]; rfl) rfl)
end Go.Proofs.Ytcoamiaifbjofaa.Vx
namespace Go.Proofs.Ytcoamiaifbjofaa.agreeKnown
open Go Go.ChangeShapes Go.WideShapes Go.ChangeAt Go.RowKit Go.Joins Go.Proofs.Ytcoamiaifbjofaa.Vx
set_option linter.unusedVariables false
theorem own : ownKnob Try.prog.godebug = none := by kernel_rfl
theorem laidOut : laidOutB Try.prog = true := by kernel_rfl
theorem tys : tysOf Try.prog Try.f6.params.toList = some [] := by kernel_rfl
theorem argsAre  (u : HL []) : argSVs Try.prog Try.f6.params.toList [] u = instL [] [] := by kernel_rfl
set_option maxRecDepth 100000 in
theorem lifted (os : Os) (started : os.Started) (H : Type) (enc : TypeId × Value → H) :
    ReturnsInHanded {} Try.checked os 6 .any (Rows.agreeKnownSpec.pre6 enc Try.prog Try.f6 Rows.agreeKnownRow.domain false) (Rows.agreeKnownSpec.post enc Try.prog Try.f6 false true false false) := by
  refine returnsInHanded_of_change (C := Try.checked) own started (by kernel_rfl) Try.func6
    (ChangeSpec.witness6 (enc := enc) (C := Try.checked) false ⟨#[], #[], []⟩ 8 (by kernel_rfl) (by kernel_rfl) (by kernel_rfl) (by kernel_rfl)) ?_
  intro W base args ds gs before hval0 hW hcnd _
  have hW' := hW
  obtain ⟨p, q, hA, hV, rfl, hfz, hnd⟩ := hW
  obtain ⟨rfl, rfl⟩ := trodVars_none hV
  obtain ⟨u, hwf, hrel⟩ := args_rel (r := R0) _ _ _ _ _ tys hA (fun j t v a b => hval0 j t v (by simp at a) (by simp at a))
  have hrel' : LRel R0 (snapOf W) (instL [] []) args := by
    have := hrel
    rw [argsAre] at this
    exact this
  have hlen : ds.length = 0 := (trodAll_len hA).trans (by kernel_rfl)
  obtain rfl : ds = [] := List.eq_nil_of_length_eq_zero hlen
  refine (W6_law _ W6_true hrel').mono fun e W' ⟨he, bel⟩ => ?_
  subst he
  exact ⟨_, rfl, _, _, _, [], _, [], hW', trodAll_mk1 (shut_bool Try.underlying4 _), trodAll_below laidOut bel _ _ _ _ (by kernel_rfl) hA, rfl, bel.frame _, fun h => by cases h⟩
theorem over : Rows.agreeKnownRow.holds Try.pinned (OpenSpec.ofChange Rows.agreeKnownSpec) :=
  OpenClaim.holds_of_wide 6 Try.f6 rfl rfl rfl rfl rfl rfl rfl ⟨rfl, rfl, rfl, rfl, rfl⟩ rfl rfl rfl rfl rfl (by kernel_rfl) Try.func6 (by kernel_rfl)
    (of_decide_eq_true (by kernel_rfl)) (by unfold Func.isWrapper; first | (rw [if_pos (by decide +kernel)]; kernel_rfl) | (rw [if_neg (by decide +kernel)]; exact ⟨rfl, rfl⟩))
    (fun os started H enc _ => lifted os started H enc)
theorem proved : Rows.AgreeKnownSaid := over
end Go.Proofs.Ytcoamiaifbjofaa.agreeKnown
