/- TopoKnown: for every input the law's function returns true, and leaves its arguments as they were. No condition. -/
import Derived.Test.YtlocflgfoodiiaaVxIm
import Derived.Test.YtlocflgfoodiiaaVxLk
import Derived.Test.YtlocflgfoodiiaaVxLaw
import Derived.Test.YtlocflgfoodiiaaX05pq
import Derived.Test.YtlocflgfoodiiaaY05zc
import Derived.KernelRfl
import Derived.Test.YtlocflgfoodiiaaVxAid
import Derived.Carry
import Derived.ChangeOld
import Derived.ShutString
import Derived.Below
import Derived.Lib.SmallJoins
import Derived.Test.YtlocflgfoodiiaaRows
namespace Go.Proofs.Ytlocflgfoodiiaa.Vx
open Go Go.RowKit
set_option linter.unusedVariables false
set_option linter.unusedSimpArgs false
set_option maxRecDepth 100000
set_option maxHeartbeats 0

theorem fits_s {ks : List HK} {env : List Dat} (h : fitsK (.s :: ks) env = true) : ∃ n d, env = .s n :: d ∧ fitsK ks d = true := by
  match env, h with
  | .s n :: d, h => exact ⟨n, d, rfl, h⟩
abbrev TLaz : Ty := .pair (.sl TS) (.pair (.sl TPt) (.pair (.sl TPt) (.sl TRt)))
def layD (d : List Dat) : Bool := wfD TLaz ((gl TS d 0, gl TPt d 1, gl TPt d 2, gl TRt d 3) : Ty.den TLaz)
noncomputable def op_k3 : List Dat → Option (Nat × List Dat) := lawOp [.s, .n, .l TI, .l TNd, .l TI, .l TNd]
noncomputable def Bk3 : FBox := mkF [rtV 0] [] [] [(.bool 0, [])] op_k3
noncomputable def cs_k3 : FuncId → Option CSpec := csLend 3 Bk3 cs_8
theorem Bk3_ok : RunOk Try.prog 3 (boxRun Bk3) := lawBox_ok (op := op_k3) cs_14_ok hmix false (ls := (lsM [(8, L3_8), (12, L3_12)] (0))) ls_3_ok fun env x he => by
  obtain ⟨rfl, h⟩ := lawOp_some he
  refine ⟨rfl, ?_⟩
  obtain ⟨x0, _, rfl, h0⟩ := fits_s h
  obtain ⟨x1, _, rfl, h1⟩ := fits_n h0
  obtain ⟨x2, _, rfl, h2⟩ := fits_l h1
  obtain ⟨x3, _, rfl, h3⟩ := fits_l h2
  obtain ⟨x4, _, rfl, h4⟩ := fits_l h3
  obtain ⟨x5, _, rfl, h5⟩ := fits_l h4
  cases fits_nil h5
  rw [← lawB_lk]; exact W3_true _ _ _ _ _ _
theorem cs_k3_ok : CsOk Try.prog cs_k3 := csLend_ok cs_8_ok Bk3_ok

noncomputable def op_k4 : List Dat → Option (Nat × List Dat) := lawOpP [.l TS, .l TPt, .l TPt, .l TRt, .n] (layD)
noncomputable def Bk4 : FBox := mkF [laV 0, .int .i64 4] [] [] [(.bool 0, [])] op_k4
noncomputable def cs_k4 : FuncId → Option CSpec := csLend 4 Bk4 cs_k3
theorem Bk4_ok : RunOk Try.prog 4 (boxRun Bk4) := lawBox_ok (op := op_k4) cs_15_ok hmix false (ls := ls0) (LsOk.none _ _ _) fun env x he => by
  obtain ⟨rfl, h, hp⟩ := lawOpP_some he
  refine ⟨rfl, ?_⟩
  obtain ⟨x0, _, rfl, h0⟩ := fits_l h
  obtain ⟨x1, _, rfl, h1⟩ := fits_l h0
  obtain ⟨x2, _, rfl, h2⟩ := fits_l h1
  obtain ⟨x3, _, rfl, h3⟩ := fits_l h2
  obtain ⟨x4, _, rfl, h4⟩ := fits_n h3
  cases fits_nil h4
  rw [← lawB_lk]; exact W4_true _ _ _ _ _ (okS_wf ((x0, x1, x2, x3) : Ty.den TLay) hp)
theorem cs_k4_ok : CsOk Try.prog cs_k4 := csLend_ok cs_k3_ok Bk4_ok

noncomputable def op_k5 : List Dat → Option (Nat × List Dat) := lawOpP [.l TS, .l TPt, .l TPt, .l TRt] (layD)
noncomputable def Bk5 : FBox := mkF [laV 0] [] [] [(.bool 0, [])] op_k5
noncomputable def cs_k5 : FuncId → Option CSpec := csLend 5 Bk5 cs_k4
theorem Bk5_ok : RunOk Try.prog 5 (boxRun Bk5) := lawBox_ok (op := op_k5) cs_15_ok hmix false (ls := ls0) (LsOk.none _ _ _) fun env x he => by
  obtain ⟨rfl, h, hp⟩ := lawOpP_some he
  refine ⟨rfl, ?_⟩
  obtain ⟨x0, _, rfl, h0⟩ := fits_l h
  obtain ⟨x1, _, rfl, h1⟩ := fits_l h0
  obtain ⟨x2, _, rfl, h2⟩ := fits_l h1
  obtain ⟨x3, _, rfl, h3⟩ := fits_l h2
  cases fits_nil h3
  rw [← lawB_lk]; exact W5_true _ _ _ _ (okS_wf ((x0, x1, x2, x3) : Ty.den TLay) hp)
theorem cs_k5_ok : CsOk Try.prog cs_k5 := csLend_ok cs_k4_ok Bk5_ok

noncomputable def op_k6 : List Dat → Option (Nat × List Dat) := lawOpP [.l TS, .l TPt, .l TPt, .l TRt, .n] (layD)
noncomputable def Bk6 : FBox := mkF [laV 0, .int .i64 4] [] [] [(.bool 0, [])] op_k6
noncomputable def cs_k6 : FuncId → Option CSpec := csLend 6 Bk6 cs_k5
theorem Bk6_ok : RunOk Try.prog 6 (boxRun Bk6) := lawBox_ok (op := op_k6) cs_20_ok hmix false (ls := (lsM [(6, L6_6), (18, L6_18)] (0))) ls_6_ok fun env x he => by
  obtain ⟨rfl, h, hp⟩ := lawOpP_some he
  refine ⟨rfl, ?_⟩
  obtain ⟨x0, _, rfl, h0⟩ := fits_l h
  obtain ⟨x1, _, rfl, h1⟩ := fits_l h0
  obtain ⟨x2, _, rfl, h2⟩ := fits_l h1
  obtain ⟨x3, _, rfl, h3⟩ := fits_l h2
  obtain ⟨x4, _, rfl, h4⟩ := fits_n h3
  cases fits_nil h4
  rw [← lawB_lk]; exact W6_true _ _ _ _ _ (okS_wf ((x0, x1, x2, x3) : Ty.den TLay) hp)
theorem cs_k6_ok : CsOk Try.prog cs_k6 := csLend_ok cs_k5_ok Bk6_ok

noncomputable def st_L7_2 (env : List Dat) : Tree Step := Lk.stepMC false LK cs_k6 7 2 ls0 (mkM 0 [] [(sh 133 [(1, .int .i64 0)], [])] [] [(.exit 0, sh 133 [], []), (.ret, sh 133 [(0, .bool 0)], [])] fun _ => none) env
theorem op_L7_2_ex : ∃ f : List Dat → Option (Nat × List Dat), ∀ env, f env = iterS st_L7_2 FU env := ⟨iterS st_L7_2 FU, fun _ => rfl⟩
noncomputable def op_L7_2 : List Dat → Option (Nat × List Dat) := Classical.choose op_L7_2_ex
theorem op_L7_2_eq (env : List Dat) : op_L7_2 env = iterS st_L7_2 FU env := Classical.choose_spec op_L7_2_ex env
noncomputable def L7_2 : MBox := mkM 0 [] [(sh 133 [(1, .int .i64 0)], [])] [] [(.exit 0, sh 133 [], []), (.ret, sh 133 [(0, .bool 0)], [])] op_L7_2
theorem L7_2_eqs : L7_2 = mkM 0 [] [(sh 133 [(1, .int .i64 0)], [])] [] [(.exit 0, sh 133 [], []), (.ret, sh 133 [(0, .bool 0)], [])] (iterS st_L7_2 FU) := congrArg (fun f => mkM 0 [] [(sh 133 [(1, .int .i64 0)], [])] [] [(.exit 0, sh 133 [], []), (.ret, sh 133 [(0, .bool 0)], [])] f) (funext op_L7_2_eq)
theorem L7_2_run : ∀ t s x, (manyRun L7_2 t s).sel = some x → CodeOk Try.prog 0 (.loop (cAt Try.prog 7 2)) t s x := by
  rw [L7_2_eqs]
  exact mkM_ok (st := st_L7_2) (m := FU) cs_k6_ok hmix false (LsOk.none _ _ _) (by kernel_rfl) (fun env y h => by rw [← stepMC_lk]; exact h)
theorem op_L7_2_good {p : Nat × List Dat → Prop} (Inv : List Dat → Prop) (μ : List Dat → Nat) (h : ∀ env, Inv env → Good (fun y => match y with | .go e => Inv e ∧ μ e < μ env | .stop k d => p (k, d)) (st_L7_2 env).sel) (env : List Dat) (hi : Inv env) (hm : μ env < FU) : Good p (op_L7_2 env) := by
  rw [op_L7_2_eq]
  exact iterS_good Inv μ p h FU env hi hm

noncomputable def fn_L7_2_t0 : List Dat → Tree Step
  | [] =>
    (.leaf (Step.go [.k 0, .n (1 : Int)]))
  | _ => .bad 0
theorem fn_L7_2_t0_im  : Imp (fn_L7_2_t0 []) (st_L7_2 [.k 0, .n 0]) :=
(.path (1 ::1 ::1 ::1 ::1 ::1 ::1 ::1 ::1 ::1 ::0 ::1 ::1 ::0 ::1 ::1 ::1 ::0 ::1 ::1 ::0 ::1 ::1 ::1 ::0 ::1 ::1 ::0 ::1 ::1 ::1 ::0 ::1 ::1 ::0 ::1 ::1 ::1 ::0 ::1 ::1 ::0 ::1 ::1 ::1 ::0 ::1 ::1 ::0 ::1 ::1 ::1 ::0 ::1 ::1 ::0 ::0 ::1 ::1 ::0 ::1 ::1 ::0 ::1 :: []) (by kernel_rfl)
.lf)

noncomputable def fn_L7_2_t1 : List Dat → Tree Step
  | [] =>
    (.leaf (Step.go [.k 0, .n (2 : Int)]))
  | _ => .bad 0
theorem fn_L7_2_t1_im  : Imp (fn_L7_2_t1 []) (st_L7_2 [.k 0, .n 1]) :=
(.path (1 ::1 ::1 ::1 ::1 ::0 ::1 ::1 ::1 ::1 ::1 ::0 ::1 ::1 ::0 ::1 ::1 ::1 ::0 ::1 ::1 ::0 ::1 ::1 ::1 ::0 ::1 ::1 ::0 ::1 ::1 ::1 ::0 ::1 ::1 ::0 ::1 ::1 ::1 ::0 ::1 ::1 ::0 ::1 ::1 ::1 ::0 ::1 ::1 ::0 ::1 ::1 ::1 ::0 ::1 ::1 ::0 ::0 ::1 ::1 ::0 ::1 ::1 ::0 ::1 :: []) (by kernel_rfl)
.lf)

noncomputable def fn_L7_2_t2 : List Dat → Tree Step
  | [] =>
    (.leaf (Step.go [.k 0, .n (3 : Int)]))
  | _ => .bad 0
theorem fn_L7_2_t2_im  : Imp (fn_L7_2_t2 []) (st_L7_2 [.k 0, .n 2]) :=
(.path (1 ::1 ::1 ::1 ::1 ::0 ::0 ::1 ::1 ::1 ::1 ::1 ::0 ::1 ::1 ::0 ::1 ::1 ::1 ::0 ::1 ::1 ::0 ::1 ::1 ::1 ::0 ::1 ::1 ::0 ::1 ::1 ::1 ::0 ::1 ::1 ::0 ::1 ::1 ::1 ::0 ::1 ::1 ::0 ::1 ::1 ::1 ::0 ::1 ::1 ::0 ::1 ::1 ::1 ::0 ::1 ::1 ::0 ::0 ::1 ::1 ::0 ::1 ::1 ::0 ::1 :: []) (by kernel_rfl)
.lf)

noncomputable def fn_L7_2_t3 : List Dat → Tree Step
  | [] =>
    (.leaf (Step.go [.k 0, .n (4 : Int)]))
  | _ => .bad 0
theorem fn_L7_2_t3_im  : Imp (fn_L7_2_t3 []) (st_L7_2 [.k 0, .n 3]) :=
(.path (1 ::1 ::1 ::1 ::1 ::0 ::0 ::0 ::1 ::1 ::1 ::1 ::1 ::0 ::1 ::1 ::0 ::1 ::1 ::1 ::0 ::1 ::1 ::0 ::1 ::1 ::1 ::0 ::1 ::1 ::0 ::1 ::1 ::1 ::0 ::1 ::1 ::0 ::1 ::1 ::1 ::0 ::1 ::1 ::0 ::1 ::1 ::1 ::0 ::1 ::1 ::0 ::1 ::1 ::1 ::0 ::1 ::1 ::0 ::0 ::1 ::1 ::0 ::1 ::1 ::0 ::1 :: []) (by kernel_rfl)
.lf)

noncomputable def fn_L7_2_t4 : List Dat → Tree Step
  | [] =>
    (.leaf (Step.go [.k 0, .n (5 : Int)]))
  | _ => .bad 0
theorem fn_L7_2_t4_im  : Imp (fn_L7_2_t4 []) (st_L7_2 [.k 0, .n 4]) :=
(.path (1 ::1 ::1 ::1 ::1 ::0 ::0 ::0 ::0 ::1 ::1 ::1 ::1 ::1 ::0 ::1 ::1 ::0 ::1 ::1 ::1 ::0 ::1 ::1 ::0 ::1 ::1 ::1 ::0 ::1 ::1 ::0 ::1 ::1 ::1 ::0 ::1 ::1 ::0 ::1 ::1 ::1 ::0 ::1 ::1 ::0 ::1 ::1 ::1 ::0 ::1 ::1 ::0 ::1 ::1 ::1 ::0 ::1 ::1 ::0 ::0 ::1 ::1 ::0 ::1 ::1 ::0 ::1 :: []) (by kernel_rfl)
.lf)

noncomputable def fn_L7_2_t5 : List Dat → Tree Step
  | [] =>
    (.leaf (Step.go [.k 0, .n (6 : Int)]))
  | _ => .bad 0
theorem fn_L7_2_t5_im  : Imp (fn_L7_2_t5 []) (st_L7_2 [.k 0, .n 5]) :=
(.path (1 ::1 ::1 ::1 ::1 ::0 ::0 ::0 ::0 ::0 ::1 ::1 ::1 ::1 ::1 ::0 ::1 ::1 ::0 ::1 ::1 ::1 ::0 ::1 ::1 ::0 ::1 ::1 ::1 ::0 ::1 ::1 ::0 ::1 ::1 ::1 ::0 ::1 ::1 ::0 ::1 ::1 ::1 ::0 ::1 ::1 ::0 ::1 ::1 ::1 ::0 ::1 ::1 ::0 ::1 ::1 ::1 ::0 ::1 ::1 ::0 ::0 ::1 ::1 ::0 ::1 ::1 ::0 ::1 :: []) (by kernel_rfl)
.lf)

noncomputable def fn_L7_2_t6 : List Dat → Tree Step
  | [] =>
    (.leaf (Step.go [.k 0, .n (7 : Int)]))
  | _ => .bad 0
theorem fn_L7_2_t6_im  : Imp (fn_L7_2_t6 []) (st_L7_2 [.k 0, .n 6]) :=
(.path (1 ::1 ::1 ::1 ::1 ::0 ::0 ::0 ::0 ::0 ::0 ::1 ::1 ::1 ::1 ::1 ::0 ::1 ::1 ::0 ::1 ::1 ::1 ::0 ::1 ::1 ::0 ::1 ::1 ::1 ::0 ::1 ::1 ::0 ::1 ::1 ::1 ::0 ::1 ::1 ::0 ::1 ::1 ::1 ::0 ::1 ::1 ::0 ::1 ::1 ::1 ::0 ::1 ::1 ::0 ::1 ::1 ::1 ::0 ::1 ::1 ::0 ::0 ::1 ::1 ::0 ::1 ::1 ::0 ::1 :: []) (by kernel_rfl)
.lf)

noncomputable def fn_L7_2_t7 : List Dat → Tree Step
  | [] =>
    (.leaf (Step.go [.k 0, .n (8 : Int)]))
  | _ => .bad 0
theorem fn_L7_2_t7_im  : Imp (fn_L7_2_t7 []) (st_L7_2 [.k 0, .n 7]) :=
(.path (1 ::1 ::1 ::1 ::1 ::0 ::0 ::0 ::0 ::0 ::0 ::0 ::1 ::1 ::1 ::1 ::1 ::0 ::1 ::1 ::0 ::1 ::1 ::1 ::0 ::1 ::1 ::0 ::1 ::1 ::1 ::0 ::1 ::1 ::0 ::1 ::1 ::1 ::0 ::1 ::1 ::0 ::1 ::1 ::1 ::0 ::1 ::1 ::0 ::1 ::1 ::1 ::0 ::1 ::1 ::0 ::1 ::1 ::1 ::0 ::1 ::1 ::0 ::0 ::1 ::1 ::0 ::1 ::1 ::0 ::1 :: []) (by kernel_rfl)
.lf)

noncomputable def fn_L7_2_t8 : List Dat → Tree Step
  | [] =>
    (.leaf (Step.go [.k 0, .n (9 : Int)]))
  | _ => .bad 0
theorem fn_L7_2_t8_im  : Imp (fn_L7_2_t8 []) (st_L7_2 [.k 0, .n 8]) :=
(.path (1 ::1 ::1 ::1 ::1 ::0 ::0 ::0 ::0 ::0 ::0 ::0 ::0 ::1 ::1 ::1 ::1 ::1 ::0 ::1 ::1 ::0 ::1 ::1 ::1 ::0 ::1 ::1 ::0 ::1 ::1 ::1 ::0 ::1 ::1 ::0 ::1 ::1 ::1 ::0 ::1 ::1 ::0 ::1 ::1 ::1 ::0 ::1 ::1 ::0 ::1 ::1 ::1 ::0 ::1 ::1 ::0 ::1 ::1 ::1 ::0 ::1 ::1 ::0 ::0 ::1 ::1 ::0 ::1 ::1 ::0 ::1 :: []) (by kernel_rfl)
.lf)

noncomputable def fn_L7_2_t9 : List Dat → Tree Step
  | [] =>
    (.leaf (Step.go [.k 0, .n (10 : Int)]))
  | _ => .bad 0
theorem fn_L7_2_t9_im  : Imp (fn_L7_2_t9 []) (st_L7_2 [.k 0, .n 9]) :=
(.path (1 ::1 ::1 ::1 ::1 ::0 ::0 ::0 ::0 ::0 ::0 ::0 ::0 ::0 ::1 ::1 ::1 ::1 ::1 ::0 ::1 ::1 ::0 ::1 ::1 ::1 ::0 ::1 ::1 ::0 ::1 ::1 ::1 ::0 ::1 ::1 ::0 ::1 ::1 ::1 ::0 ::1 ::1 ::0 ::1 ::1 ::1 ::0 ::1 ::1 ::0 ::1 ::1 ::1 ::0 ::1 ::1 ::0 ::1 ::1 ::1 ::0 ::1 ::1 ::0 ::0 ::1 ::1 ::0 ::1 ::1 ::0 ::1 :: []) (by kernel_rfl)
.lf)

noncomputable def fn_L7_2_t10 : List Dat → Tree Step
  | [] =>
    (.leaf (Step.go [.k 0, .n (11 : Int)]))
  | _ => .bad 0
theorem fn_L7_2_t10_im  : Imp (fn_L7_2_t10 []) (st_L7_2 [.k 0, .n 10]) :=
(.path (1 ::1 ::1 ::1 ::1 ::0 ::0 ::0 ::0 ::0 ::0 ::0 ::0 ::0 ::0 ::1 ::1 ::1 ::1 ::1 ::0 ::1 ::1 ::0 ::1 ::1 ::1 ::0 ::1 ::1 ::0 ::1 ::1 ::1 ::0 ::1 ::1 ::0 ::1 ::1 ::1 ::0 ::1 ::1 ::0 ::1 ::1 ::1 ::0 ::1 ::1 ::0 ::1 ::1 ::1 ::0 ::1 ::1 ::0 ::1 ::1 ::1 ::0 ::1 ::1 ::0 ::0 ::1 ::1 ::0 ::1 ::1 ::0 ::1 :: []) (by kernel_rfl)
.lf)

noncomputable def fn_L7_2_t11 : List Dat → Tree Step
  | [] =>
    (.leaf (Step.go [.k 0, .n (12 : Int)]))
  | _ => .bad 0
theorem fn_L7_2_t11_im  : Imp (fn_L7_2_t11 []) (st_L7_2 [.k 0, .n 11]) :=
(.path (1 ::1 ::1 ::1 ::1 ::0 ::0 ::0 ::0 ::0 ::0 ::0 ::0 ::0 ::0 ::0 ::1 ::1 ::1 ::1 ::1 ::0 ::1 ::1 ::0 ::1 ::1 ::1 ::0 ::1 ::1 ::0 ::1 ::1 ::1 ::0 ::1 ::1 ::0 ::1 ::1 ::1 ::0 ::1 ::1 ::0 ::1 ::1 ::1 ::0 ::1 ::1 ::0 ::1 ::1 ::1 ::0 ::1 ::1 ::0 ::1 ::1 ::1 ::0 ::1 ::1 ::0 ::0 ::1 ::1 ::0 ::1 ::1 ::0 ::1 :: []) (by kernel_rfl)
.lf)

noncomputable def fn_L7_2_t12 : List Dat → Tree Step
  | [] =>
    (.leaf (Step.go [.k 0, .n (13 : Int)]))
  | _ => .bad 0
theorem fn_L7_2_t12_im  : Imp (fn_L7_2_t12 []) (st_L7_2 [.k 0, .n 12]) :=
(.path (1 ::1 ::1 ::1 ::1 ::0 ::0 ::0 ::0 ::0 ::0 ::0 ::0 ::0 ::0 ::0 ::0 ::1 ::1 ::1 ::1 ::1 ::0 ::1 ::1 ::0 ::1 ::1 ::1 ::0 ::1 ::1 ::0 ::1 ::1 ::1 ::0 ::1 ::1 ::0 ::1 ::1 ::1 ::0 ::1 ::1 ::0 ::1 ::1 ::1 ::0 ::1 ::1 ::0 ::1 ::1 ::1 ::0 ::1 ::1 ::0 ::1 ::1 ::1 ::0 ::1 ::1 ::0 ::0 ::1 ::1 ::0 ::1 ::1 ::0 ::1 :: []) (by kernel_rfl)
.lf)

noncomputable def fn_L7_2_t13 : List Dat → Tree Step
  | [] =>
    (.leaf (Step.go [.k 0, .n (14 : Int)]))
  | _ => .bad 0
theorem fn_L7_2_t13_im  : Imp (fn_L7_2_t13 []) (st_L7_2 [.k 0, .n 13]) :=
(.path (1 ::1 ::1 ::1 ::1 ::0 ::0 ::0 ::0 ::0 ::0 ::0 ::0 ::0 ::0 ::0 ::0 ::0 ::1 ::1 ::1 ::1 ::1 ::0 ::1 ::1 ::0 ::1 ::1 ::1 ::0 ::1 ::1 ::0 ::1 ::1 ::1 ::0 ::1 ::1 ::0 ::1 ::1 ::1 ::0 ::1 ::1 ::0 ::1 ::1 ::1 ::0 ::1 ::1 ::0 ::1 ::1 ::1 ::0 ::1 ::1 ::0 ::1 ::1 ::1 ::0 ::1 ::1 ::0 ::0 ::1 ::1 ::0 ::1 ::1 ::0 ::1 :: []) (by kernel_rfl)
.lf)

noncomputable def fn_L7_2_t14 : List Dat → Tree Step
  | [] =>
    (.leaf (Step.go [.k 0, .n (15 : Int)]))
  | _ => .bad 0
theorem fn_L7_2_t14_im  : Imp (fn_L7_2_t14 []) (st_L7_2 [.k 0, .n 14]) :=
(.path (1 ::1 ::1 ::1 ::1 ::0 ::0 ::0 ::0 ::0 ::0 ::0 ::0 ::0 ::0 ::0 ::0 ::0 ::0 ::1 ::1 ::1 ::1 ::1 ::0 ::1 ::1 ::0 ::1 ::1 ::1 ::0 ::1 ::1 ::0 ::1 ::1 ::1 ::0 ::1 ::1 ::0 ::1 ::1 ::1 ::0 ::1 ::1 ::0 ::1 ::1 ::1 ::0 ::1 ::1 ::0 ::1 ::1 ::1 ::0 ::1 ::1 ::0 ::1 ::1 ::1 ::0 ::1 ::1 ::0 ::0 ::1 ::1 ::0 ::1 ::1 ::0 ::1 :: []) (by kernel_rfl)
.lf)

noncomputable def fn_L7_2_t15 : List Dat → Tree Step
  | [] =>
    (.leaf (Step.go [.k 0, .n (16 : Int)]))
  | _ => .bad 0
theorem fn_L7_2_t15_im  : Imp (fn_L7_2_t15 []) (st_L7_2 [.k 0, .n 15]) :=
(.path (1 ::1 ::1 ::1 ::1 ::0 ::0 ::0 ::0 ::0 ::0 ::0 ::0 ::0 ::0 ::0 ::0 ::0 ::0 ::0 ::1 ::1 ::1 ::1 ::1 ::0 ::1 ::1 ::0 ::1 ::1 ::1 ::0 ::1 ::1 ::0 ::1 ::1 ::1 ::0 ::1 ::1 ::0 ::1 ::1 ::1 ::0 ::1 ::1 ::0 ::1 ::1 ::1 ::0 ::1 ::1 ::0 ::1 ::1 ::1 ::0 ::1 ::1 ::0 ::1 ::1 ::1 ::0 ::1 ::1 ::0 ::0 ::1 ::1 ::0 ::1 ::1 ::0 ::1 :: []) (by kernel_rfl)
.lf)

noncomputable def fn_L7_2_t16 : List Dat → Tree Step
  | [] =>
    (.leaf (Step.go [.k 0, .n (17 : Int)]))
  | _ => .bad 0
theorem fn_L7_2_t16_im  : Imp (fn_L7_2_t16 []) (st_L7_2 [.k 0, .n 16]) :=
(.path (1 ::1 ::1 ::1 ::1 ::0 ::0 ::0 ::0 ::0 ::0 ::0 ::0 ::0 ::0 ::0 ::0 ::0 ::0 ::0 ::0 ::1 ::1 ::1 ::1 ::1 ::1 ::0 ::1 ::1 ::0 ::1 ::1 ::1 ::0 ::1 ::1 ::0 ::1 ::1 ::1 ::0 ::1 ::1 ::0 ::1 ::1 ::1 ::0 ::1 ::1 ::0 ::1 ::1 ::1 ::0 ::1 ::1 ::0 ::1 ::1 ::1 ::0 ::1 ::1 ::0 ::1 ::1 ::1 ::0 ::1 ::1 ::0 ::0 ::1 ::1 ::0 ::1 ::1 ::0 ::1 :: []) (by kernel_rfl)
.lf)

noncomputable def fn_L7_2_t17 : List Dat → Tree Step
  | [] =>
    (.leaf (Step.go [.k 0, .n (18 : Int)]))
  | _ => .bad 0
theorem fn_L7_2_t17_im  : Imp (fn_L7_2_t17 []) (st_L7_2 [.k 0, .n 17]) :=
(.path (1 ::1 ::1 ::1 ::1 ::0 ::0 ::0 ::0 ::0 ::0 ::0 ::0 ::0 ::0 ::0 ::0 ::0 ::0 ::0 ::0 ::0 ::1 ::1 ::1 ::1 ::1 ::1 ::0 ::1 ::1 ::0 ::1 ::1 ::1 ::0 ::1 ::1 ::0 ::1 ::1 ::1 ::0 ::1 ::1 ::0 ::1 ::1 ::1 ::0 ::1 ::1 ::0 ::1 ::1 ::1 ::0 ::1 ::1 ::0 ::1 ::1 ::1 ::0 ::1 ::1 ::0 ::1 ::1 ::1 ::0 ::1 ::1 ::0 ::0 ::1 ::1 ::0 ::1 ::1 ::0 ::1 :: []) (by kernel_rfl)
.lf)

noncomputable def fn_L7_2_t18 : List Dat → Tree Step
  | [] =>
    (.leaf (Step.go [.k 0, .n (19 : Int)]))
  | _ => .bad 0
theorem fn_L7_2_t18_im  : Imp (fn_L7_2_t18 []) (st_L7_2 [.k 0, .n 18]) :=
(.path (1 ::1 ::1 ::1 ::1 ::0 ::0 ::0 ::0 ::0 ::0 ::0 ::0 ::0 ::0 ::0 ::0 ::0 ::0 ::0 ::0 ::0 ::0 ::1 ::1 ::1 ::1 ::0 ::1 ::1 ::0 ::1 ::1 ::1 ::0 ::1 ::1 ::0 ::1 ::1 ::1 ::0 ::1 ::1 ::0 ::1 ::1 ::1 ::0 ::1 ::1 ::0 ::1 ::1 ::1 ::0 ::1 ::1 ::0 ::1 ::1 ::1 ::0 ::1 ::1 ::0 ::1 ::1 ::1 ::0 ::1 ::1 ::0 ::0 ::1 ::1 ::0 ::1 ::1 ::0 ::1 :: []) (by kernel_rfl)
.lf)

noncomputable def fn_L7_2_t19 : List Dat → Tree Step
  | [] =>
    (.leaf (Step.go [.k 0, .n (20 : Int)]))
  | _ => .bad 0
theorem fn_L7_2_t19_im  : Imp (fn_L7_2_t19 []) (st_L7_2 [.k 0, .n 19]) :=
(.path (1 ::1 ::1 ::1 ::1 ::0 ::0 ::0 ::0 ::0 ::0 ::0 ::0 ::0 ::0 ::0 ::0 ::0 ::0 ::0 ::0 ::0 ::0 ::1 ::1 ::1 ::1 ::0 ::1 ::1 ::0 ::1 ::1 ::1 ::0 ::1 ::1 ::0 ::1 ::1 ::1 ::0 ::1 ::1 ::0 ::1 ::1 ::1 ::0 ::1 ::1 ::0 ::1 ::1 ::1 ::0 ::1 ::1 ::0 ::1 ::1 ::1 ::0 ::1 ::1 ::0 ::1 ::1 ::1 ::0 ::1 ::1 ::0 ::0 ::1 ::1 ::0 ::1 ::1 ::0 ::1 :: []) (by kernel_rfl)
.lf)

noncomputable def fn_L7_2_t20 : List Dat → Tree Step
  | [] =>
    (.leaf (Step.go [.k 0, .n (21 : Int)]))
  | _ => .bad 0
theorem fn_L7_2_t20_im  : Imp (fn_L7_2_t20 []) (st_L7_2 [.k 0, .n 20]) :=
(.path (1 ::1 ::1 ::1 ::1 ::0 ::0 ::0 ::0 ::0 ::0 ::0 ::0 ::0 ::0 ::0 ::0 ::0 ::0 ::0 ::0 ::0 ::0 ::1 ::1 ::1 ::1 ::0 ::1 ::1 ::0 ::1 ::1 ::1 ::0 ::1 ::1 ::0 ::1 ::1 ::1 ::0 ::1 ::1 ::0 ::1 ::1 ::1 ::0 ::1 ::1 ::0 ::1 ::1 ::1 ::0 ::1 ::1 ::0 ::1 ::1 ::1 ::0 ::1 ::1 ::0 ::1 ::1 ::1 ::0 ::1 ::1 ::0 ::0 ::1 ::1 ::0 ::1 ::1 ::0 ::1 :: []) (by kernel_rfl)
.lf)

noncomputable def fn_L7_2_t21 : List Dat → Tree Step
  | [] =>
    (.leaf (Step.go [.k 0, .n (22 : Int)]))
  | _ => .bad 0
theorem fn_L7_2_t21_im  : Imp (fn_L7_2_t21 []) (st_L7_2 [.k 0, .n 21]) :=
(.path (1 ::1 ::1 ::1 ::1 ::0 ::0 ::0 ::0 ::0 ::0 ::0 ::0 ::0 ::0 ::0 ::0 ::0 ::0 ::0 ::0 ::0 ::0 ::1 ::1 ::1 ::1 ::0 ::1 ::1 ::0 ::1 ::1 ::1 ::0 ::1 ::1 ::0 ::1 ::1 ::1 ::0 ::1 ::1 ::0 ::1 ::1 ::1 ::0 ::1 ::1 ::0 ::1 ::1 ::1 ::0 ::1 ::1 ::0 ::1 ::1 ::1 ::0 ::1 ::1 ::0 ::1 ::1 ::1 ::0 ::1 ::1 ::0 ::0 ::1 ::1 ::0 ::1 ::1 ::0 ::1 :: []) (by kernel_rfl)
.lf)

noncomputable def fn_L7_2_t22 : List Dat → Tree Step
  | [] =>
    (.leaf (Step.go [.k 0, .n (23 : Int)]))
  | _ => .bad 0
theorem fn_L7_2_t22_im  : Imp (fn_L7_2_t22 []) (st_L7_2 [.k 0, .n 22]) :=
(.path (1 ::1 ::1 ::1 ::1 ::0 ::0 ::0 ::0 ::0 ::0 ::0 ::0 ::0 ::0 ::0 ::0 ::0 ::0 ::0 ::0 ::0 ::0 ::1 ::1 ::1 ::1 ::0 ::1 ::1 ::0 ::1 ::1 ::1 ::0 ::1 ::1 ::0 ::1 ::1 ::1 ::0 ::1 ::1 ::0 ::1 ::1 ::1 ::0 ::1 ::1 ::0 ::1 ::1 ::1 ::0 ::1 ::1 ::0 ::1 ::1 ::1 ::0 ::1 ::1 ::0 ::1 ::1 ::1 ::0 ::1 ::1 ::0 ::0 ::1 ::1 ::0 ::1 ::1 ::0 ::1 :: []) (by kernel_rfl)
.lf)

noncomputable def fn_L7_2_t23 : List Dat → Tree Step
  | [] =>
    (.leaf (Step.go [.k 0, .n (24 : Int)]))
  | _ => .bad 0
theorem fn_L7_2_t23_im  : Imp (fn_L7_2_t23 []) (st_L7_2 [.k 0, .n 23]) :=
(.path (1 ::1 ::1 ::1 ::1 ::0 ::0 ::0 ::0 ::0 ::0 ::0 ::0 ::0 ::0 ::0 ::0 ::0 ::0 ::0 ::0 ::0 ::0 ::1 ::1 ::1 ::1 ::0 ::1 ::1 ::0 ::1 ::1 ::1 ::0 ::1 ::1 ::0 ::1 ::1 ::1 ::0 ::1 ::1 ::0 ::1 ::1 ::1 ::0 ::1 ::1 ::0 ::1 ::1 ::1 ::0 ::1 ::1 ::0 ::1 ::1 ::1 ::0 ::1 ::1 ::0 ::1 ::1 ::1 ::0 ::1 ::1 ::0 ::0 ::1 ::1 ::0 ::1 ::1 ::0 ::1 :: []) (by kernel_rfl)
.lf)

noncomputable def fn_L7_2_t24 : List Dat → Tree Step
  | [] =>
    (.leaf (Step.stop 0 []))
  | _ => .bad 0
theorem fn_L7_2_t24_im  : Imp (fn_L7_2_t24 []) (st_L7_2 [.k 0, .n 24]) :=
(.pa [1,0,1]
.lf)

theorem ls_7_ok : LsOk Try.prog (0) (lsM [(2, L7_2)] (0)) (bodyOf Try.prog 7) := LsOk.many fun j B hB hk c hc hi => by
  simp only [lookM] at hB
  split at hB
  · rename_i e; have := Nat.eq_of_beq_eq_true e; subst this; cases hB
    have e1 : loopAt Try.prog 7 2 = [cAt Try.prog 7 2] := loopAt_one (by kernel_rfl)
    have e2 : c ∈ loopAt Try.prog 7 2 := loopsAt_mem hc hi
    rw [e1] at e2; cases List.mem_singleton.1 e2; exact L7_2_run
  cases hB

noncomputable def ev_W7 (env : List Dat) : Tree Bool := Lk.lawB false LK cs_k6 7 (lsM [(2, L7_2)] (0)) (instL [] env)

theorem W7_law (env : List Dat) (h : (ev_W7 env).sel = some true) {w : World} {args : Array Value} (ha : LRel R0 (snapOf w) (instL [] env) args) :
    Calls Try.prog 7 args w fun e w' => e = .returned (.bool true) ∧ Below w.heap.size w w' :=
  lawB_ok cs_k6_ok hmix false (ls := (lsM [(2, L7_2)] (0))) (ls_7_ok) (by rw [← lawB_lk]; exact h) ha

noncomputable def fn_W7_t : List Dat → Tree Bool
  | [] =>
    (let r1 : Option (Nat × List Dat) := (op_L7_2 [.k 0, .n (0 : Int)]);
     (.node (isK 0 [] r1)
      (.leaf (true))
      (.node (isK 1 [HK.b] r1)
       (.leaf (gb (dOf r1) 0))
       (.bad 351))))
  | _ => .bad 0
theorem fn_W7_t_im  : Imp (fn_W7_t []) (ev_W7 []) :=
(.nd (fun h0 =>
(.pa [1,1,1,1,1,1,1,1,1,1,1,1]
.lf)) (fun h0 =>
(.nd (fun h1 =>
.lf) (fun h1 =>
.none))))
end Go.Proofs.Ytlocflgfoodiiaa.Vx
namespace Go.Proofs.Ytlocflgfoodiiaa.Vx
open Go Go.RowKit
set_option linter.unusedVariables false
set_option maxRecDepth 100000
set_option maxHeartbeats 0
theorem lp7 : op_L7_2 [.k 0, .n (0 : Int)] = some (0, []) := by
  rw [op_L7_2_eq]
  refine iterS_count (st := st_L7_2) (fun n => [.k 0, .n n]) 24 (0, []) (fun n h0 h1 => ?_) (fn_L7_2_t24_im _ rfl) FU 0 (by omega) (by omega) (by show (24 : Int).toNat < FU; unfold FU; omega)
  have : n = 0 ∨ n = 1 ∨ n = 2 ∨ n = 3 ∨ n = 4 ∨ n = 5 ∨ n = 6 ∨ n = 7 ∨ n = 8 ∨ n = 9 ∨ n = 10 ∨ n = 11 ∨ n = 12 ∨ n = 13 ∨ n = 14 ∨ n = 15 ∨ n = 16 ∨ n = 17 ∨ n = 18 ∨ n = 19 ∨ n = 20 ∨ n = 21 ∨ n = 22 ∨ n = 23 := by omega
  rcases this with rfl | rfl | rfl | rfl | rfl | rfl | rfl | rfl | rfl | rfl | rfl | rfl | rfl | rfl | rfl | rfl | rfl | rfl | rfl | rfl | rfl | rfl | rfl | rfl
  · exact fn_L7_2_t0_im _ rfl
  · exact fn_L7_2_t1_im _ rfl
  · exact fn_L7_2_t2_im _ rfl
  · exact fn_L7_2_t3_im _ rfl
  · exact fn_L7_2_t4_im _ rfl
  · exact fn_L7_2_t5_im _ rfl
  · exact fn_L7_2_t6_im _ rfl
  · exact fn_L7_2_t7_im _ rfl
  · exact fn_L7_2_t8_im _ rfl
  · exact fn_L7_2_t9_im _ rfl
  · exact fn_L7_2_t10_im _ rfl
  · exact fn_L7_2_t11_im _ rfl
  · exact fn_L7_2_t12_im _ rfl
  · exact fn_L7_2_t13_im _ rfl
  · exact fn_L7_2_t14_im _ rfl
  · exact fn_L7_2_t15_im _ rfl
  · exact fn_L7_2_t16_im _ rfl
  · exact fn_L7_2_t17_im _ rfl
  · exact fn_L7_2_t18_im _ rfl
  · exact fn_L7_2_t19_im _ rfl
  · exact fn_L7_2_t20_im _ rfl
  · exact fn_L7_2_t21_im _ rfl
  · exact fn_L7_2_t22_im _ rfl
  · exact fn_L7_2_t23_im _ rfl
theorem W7_true : (ev_W7 []).sel = some true := by
  refine fn_W7_t_im _ ?_
  unfold fn_W7_t
  dsimp only
  erw [lp7]
  exact sel_t rfl rfl
end Go.Proofs.Ytlocflgfoodiiaa.Vx
namespace Go.Proofs.Ytlocflgfoodiiaa.topoKnown
open Go Go.ChangeShapes Go.WideShapes Go.ChangeAt Go.RowKit Go.Joins Go.Proofs.Ytlocflgfoodiiaa.Vx
set_option linter.unusedVariables false
theorem own : ownKnob Try.prog.godebug = none := by kernel_rfl
theorem laidOut : laidOutB Try.prog = true := by kernel_rfl
theorem tys : tysOf Try.prog Try.f7.params.toList = some [] := by kernel_rfl
theorem argsAre  (u : HL []) : argSVs Try.prog Try.f7.params.toList [] u = instL [] [] := by kernel_rfl
set_option maxRecDepth 100000 in
theorem lifted (os : Os) (started : os.Started) (H : Type) (enc : TypeId × Value → H) :
    ReturnsInHanded {} Try.checked os 7 .any (Rows.topoKnownSpec.pre6 enc Try.prog Try.f7 Rows.topoKnownRow.domain false) (Rows.topoKnownSpec.post enc Try.prog Try.f7 false true false false) := by
  refine returnsInHanded_of_change (C := Try.checked) own started (by kernel_rfl) Try.func7
    (ChangeSpec.witness6 (enc := enc) (C := Try.checked) false ⟨#[], #[], []⟩ 8 (by kernel_rfl) (by kernel_rfl) (by kernel_rfl) (by kernel_rfl)) ?_
  intro W base args ds gs before hval0 hW hcnd _
  have hW' := hW
  obtain ⟨p, q, hA, hV, rfl, hfz, hnd⟩ := hW
  obtain ⟨rfl, rfl⟩ := trodVars_none hV
  obtain ⟨u, hwf, hrel⟩ := args_rel (r := R0) _ _ _ _ _ tys hA (fun j t v a b => hval0 j t v (by simp at a) (by simp at a))
  have hrel' : LRel R0 (snapOf W) (instL [] []) args := by
    have := hrel
    rw [argsAre] at this
    exact this
  have hlen : ds.length = 0 := (trodAll_len hA).trans (by kernel_rfl)
  obtain rfl : ds = [] := List.eq_nil_of_length_eq_zero hlen
  refine (W7_law _ W7_true hrel').mono fun e W' ⟨he, bel⟩ => ?_
  subst he
  exact ⟨_, rfl, _, _, _, [], _, [], hW', trodAll_mk1 (shut_bool Try.underlying4 _), trodAll_below laidOut bel _ _ _ _ (by kernel_rfl) hA, rfl, bel.frame _, fun h => by cases h⟩
theorem over : Rows.topoKnownRow.holds Try.pinned (OpenSpec.ofChange Rows.topoKnownSpec) :=
  OpenClaim.holds_of_wide 7 Try.f7 rfl rfl rfl rfl rfl rfl rfl ⟨rfl, rfl, rfl, rfl, rfl⟩ rfl rfl rfl rfl rfl (by kernel_rfl) Try.func7 (by kernel_rfl)
    (of_decide_eq_true (by kernel_rfl)) (by unfold Func.isWrapper; first | (rw [if_pos (by decide +kernel)]; kernel_rfl) | (rw [if_neg (by decide +kernel)]; exact ⟨rfl, rfl⟩))
    (fun os started H enc _ => lifted os started H enc)
theorem proved : Rows.TopoKnownSaid := over
end Go.Proofs.Ytlocflgfoodiiaa.topoKnown
