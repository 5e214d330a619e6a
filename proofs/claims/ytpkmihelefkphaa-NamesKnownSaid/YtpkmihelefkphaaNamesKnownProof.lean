/- NamesKnown: for every input the law's function returns true, and leaves its arguments as they were. No condition. -/
import Derived.Test.YtpkmihelefkphaaVxIm
import Derived.Test.YtpkmihelefkphaaVxLk
import Derived.Test.YtpkmihelefkphaaVxLaw
import Derived.Test.YtpkmihelefkphaaX03b
import Derived.Test.YtpkmihelefkphaaY03n
import Derived.KernelRfl
import Derived.Test.YtpkmihelefkphaaVxAid
import Derived.Carry
import Derived.ChangeOld
import Derived.ShutString
import Derived.Below
import Derived.Lib.SmallJoins
import Derived.Test.YtpkmihelefkphaaRows
namespace Go.Proofs.Ytpkmihelefkphaa.Vx
open Go Go.RowKit
set_option linter.unusedVariables false
set_option linter.unusedSimpArgs false
set_option maxRecDepth 100000
set_option maxHeartbeats 0

theorem fits_s {ks : List HK} {env : List Dat} (h : fitsK (.s :: ks) env = true) : ∃ n d, env = .s n :: d ∧ fitsK ks d = true := by
  match env, h with
  | .s n :: d, h => exact ⟨n, d, rfl, h⟩
abbrev texts : List (Ty.den TS) := ([(ByteArray.mk #[]), (ByteArray.mk #[32]), (ByteArray.mk #[35]), (ByteArray.mk #[58]), (ByteArray.mk #[97]), (ByteArray.mk #[71, 108, 101, 105, 115, 95, 55]), (ByteArray.mk #[97, 32, 98]), (ByteArray.mk #[195, 132, 112, 102, 101, 108]), (ByteArray.mk #[97, 98, 99, 100, 101, 102, 103, 104, 105, 106, 107, 108, 109, 110, 111, 112]), (ByteArray.mk #[97, 98, 99, 100, 101, 102, 103, 104, 105, 106, 107, 108, 109, 110, 111, 112, 113]), (ByteArray.mk #[195, 164, 195, 164, 195, 164, 195, 164, 195, 164, 195, 164, 195, 164, 195, 164, 195, 164, 195, 164, 195, 164, 195, 164, 195, 164, 195, 164, 195, 164, 195, 164]), (ByteArray.mk #[255]), (ByteArray.mk #[97, 255, 98]), (ByteArray.mk #[97, 32, 35, 32, 255]), (ByteArray.mk #[239, 191, 189]), (ByteArray.mk #[97, 239, 191, 189, 32, 98]), (ByteArray.mk #[239, 191]), (ByteArray.mk #[10]), (ByteArray.mk #[97, 10, 98, 10]), (ByteArray.mk #[10, 10]), (ByteArray.mk #[32, 114, 111, 117, 116, 101, 32, 82, 49, 32, 32, 58, 32, 83, 50, 32, 35, 32, 120]), (ByteArray.mk #[240, 159, 152, 128]), (ByteArray.mk #[237, 160, 128])] : List ByteArray)
noncomputable def op_k3 : List Dat → Option (Nat × List Dat) := lawOp [.n]
noncomputable def Bk3 : FBox := mkF [.int .i32 0] [] [] [(.bool 0, [])] op_k3
noncomputable def cs_k3 : FuncId → Option CSpec := csLend 3 Bk3 cs_12
theorem Bk3_ok : RunOk Try.prog 3 (boxRun Bk3) := lawBox_ok (op := op_k3) cs_19_ok hmix false (ls := ls0) (LsOk.none _ _ _) fun env x he => by
  obtain ⟨rfl, h⟩ := lawOp_some he
  refine ⟨rfl, ?_⟩
  obtain ⟨x0, _, rfl, h0⟩ := fits_n h
  cases fits_nil h0
  rw [← lawB_lk]; exact W3_true x0
theorem cs_k3_ok : CsOk Try.prog cs_k3 := csLend_ok cs_12_ok Bk3_ok

noncomputable def op_k4 : List Dat → Option (Nat × List Dat) := lawOp [.s]
noncomputable def Bk4 : FBox := mkF [.str 0] [] [] [(.bool 0, [])] op_k4
noncomputable def cs_k4 : FuncId → Option CSpec := csLend 4 Bk4 cs_k3
theorem Bk4_ok : RunOk Try.prog 4 (boxRun Bk4) := lawBox_ok (op := op_k4) cs_19_ok hmix false (ls := ls0) (LsOk.none _ _ _) fun env x he => by
  obtain ⟨rfl, h⟩ := lawOp_some he
  refine ⟨rfl, ?_⟩
  obtain ⟨x0, _, rfl, h0⟩ := fits_s h
  cases fits_nil h0
  rw [← lawB_lk]; exact W4_true x0
theorem cs_k4_ok : CsOk Try.prog cs_k4 := csLend_ok cs_k3_ok Bk4_ok

noncomputable def op_k5 : List Dat → Option (Nat × List Dat) := lawOp [.s]
noncomputable def Bk5 : FBox := mkF [.str 0] [] [] [(.bool 0, [])] op_k5
noncomputable def cs_k5 : FuncId → Option CSpec := csLend 5 Bk5 cs_k4
theorem Bk5_ok : RunOk Try.prog 5 (boxRun Bk5) := lawBox_ok (op := op_k5) cs_19_ok hmix false (ls := (lsM [(6, L5_6)] (0))) ls_5_ok fun env x he => by
  obtain ⟨rfl, h⟩ := lawOp_some he
  refine ⟨rfl, ?_⟩
  obtain ⟨x0, _, rfl, h0⟩ := fits_s h
  cases fits_nil h0
  rw [← lawB_lk]; exact W5_true x0
theorem cs_k5_ok : CsOk Try.prog cs_k5 := csLend_ok cs_k4_ok Bk5_ok

noncomputable def op_k6 : List Dat → Option (Nat × List Dat) := lawOp [.s]
noncomputable def Bk6 : FBox := mkF [.str 0] [] [] [(.bool 0, [])] op_k6
noncomputable def cs_k6 : FuncId → Option CSpec := csLend 6 Bk6 cs_k5
theorem Bk6_ok : RunOk Try.prog 6 (boxRun Bk6) := lawBox_ok (op := op_k6) cs_19_ok hmix false (ls := ls0) (LsOk.none _ _ _) fun env x he => by
  obtain ⟨rfl, h⟩ := lawOp_some he
  refine ⟨rfl, ?_⟩
  obtain ⟨x0, _, rfl, h0⟩ := fits_s h
  cases fits_nil h0
  rw [← lawB_lk]; exact W6_true x0
theorem cs_k6_ok : CsOk Try.prog cs_k6 := csLend_ok cs_k5_ok Bk6_ok

noncomputable def op_k7 : List Dat → Option (Nat × List Dat) := lawOp [.s]
noncomputable def Bk7 : FBox := mkF [.str 0] [] [] [(.bool 0, [])] op_k7
noncomputable def cs_k7 : FuncId → Option CSpec := csLend 7 Bk7 cs_k6
theorem Bk7_ok : RunOk Try.prog 7 (boxRun Bk7) := lawBox_ok (op := op_k7) cs_19_ok hmix false (ls := (lsM [(12, L7_12)] (0))) ls_7_ok fun env x he => by
  obtain ⟨rfl, h⟩ := lawOp_some he
  refine ⟨rfl, ?_⟩
  obtain ⟨x0, _, rfl, h0⟩ := fits_s h
  cases fits_nil h0
  rw [← lawB_lk]; exact W7_true x0
theorem cs_k7_ok : CsOk Try.prog cs_k7 := csLend_ok cs_k6_ok Bk7_ok

noncomputable def st_L9_2 (env : List Dat) : Tree Step := Lk.stepMC false LK cs_k7 9 2 ls0 (mkM 0 [] [(sh 85 [(1, .int .i32 0)], [])] [] [(.exit 0, sh 85 [], []), (.ret, sh 85 [(0, .bool 0)], [])] fun _ => none) env
theorem op_L9_2_ex : ∃ f : List Dat → Option (Nat × List Dat), ∀ env, f env = iterS st_L9_2 FU env := ⟨iterS st_L9_2 FU, fun _ => rfl⟩
noncomputable def op_L9_2 : List Dat → Option (Nat × List Dat) := Classical.choose op_L9_2_ex
theorem op_L9_2_eq (env : List Dat) : op_L9_2 env = iterS st_L9_2 FU env := Classical.choose_spec op_L9_2_ex env
noncomputable def L9_2 : MBox := mkM 0 [] [(sh 85 [(1, .int .i32 0)], [])] [] [(.exit 0, sh 85 [], []), (.ret, sh 85 [(0, .bool 0)], [])] op_L9_2
theorem L9_2_eqs : L9_2 = mkM 0 [] [(sh 85 [(1, .int .i32 0)], [])] [] [(.exit 0, sh 85 [], []), (.ret, sh 85 [(0, .bool 0)], [])] (iterS st_L9_2 FU) := congrArg (fun f => mkM 0 [] [(sh 85 [(1, .int .i32 0)], [])] [] [(.exit 0, sh 85 [], []), (.ret, sh 85 [(0, .bool 0)], [])] f) (funext op_L9_2_eq)
theorem L9_2_run : ∀ t s x, (manyRun L9_2 t s).sel = some x → CodeOk Try.prog 0 (.loop (cAt Try.prog 9 2)) t s x := by
  rw [L9_2_eqs]
  exact mkM_ok (st := st_L9_2) (m := FU) cs_k7_ok hmix false (LsOk.none _ _ _) (by kernel_rfl) (fun env y h => by rw [← stepMC_lk]; exact h)
theorem op_L9_2_good {p : Nat × List Dat → Prop} (Inv : List Dat → Prop) (μ : List Dat → Nat) (h : ∀ env, Inv env → Good (fun y => match y with | .go e => Inv e ∧ μ e < μ env | .stop k d => p (k, d)) (st_L9_2 env).sel) (env : List Dat) (hi : Inv env) (hm : μ env < FU) : Good p (op_L9_2 env) := by
  rw [op_L9_2_eq]
  exact iterS_good Inv μ p h FU env hi hm

noncomputable def fn_L9_2_u : List Dat → Tree Step
  | [.n n0] =>
    (.node (decide (1 + ByteArray.size (Utf8.encode n0) ≤ 9223372036854775807))
     (.node (decide (ByteArray.size (ByteArray.mk #[97] ++ Utf8.encode n0) + 1 ≤ 9223372036854775807))
      (.leaf (Step.go [.k 0, .n (IntKind.wrap .i32 (n0 + (1 : Int)))]))
      (.bad 84))
     (.bad 84))
  | _ => .bad 0
theorem fn_L9_2_u_im (n0 : Int) (g0 : -1 ≤ n0) (g1 :  n0 < 200) : Imp (fn_L9_2_u [.n n0]) (st_L9_2 [.k 0, .n n0]) :=
(.path [1] (by kernel_rfl)
(.pt (c := (decide (n0 < (200 : Int)))) (by kernel_rfl) (by kernel_rfl) (by (simp [*]; done))
(.path [1,1,0] (by kernel_rfl)
(.node (by kernel_rfl) (by kernel_rfl) (fun h0 =>
(.path [1,1,0] (by kernel_rfl)
(.pt (by kernel_rfl) (by kernel_rfl) h0
(.node (by kernel_rfl) (by kernel_rfl) (fun h1 =>
(.path [1,1,0,1,1,0,1] (by kernel_rfl)
(.leaf (by kernel_rfl)))) (fun h1 =>
.none))))) (fun h0 =>
.none)))))

noncomputable def fn_L9_2_x : List Dat → Tree Step
  | [.n n0] =>
    (.leaf (Step.stop 0 []))
  | _ => .bad 0
theorem fn_L9_2_x_im (n0 : Int) (g0 : n0 = 200) : Imp (fn_L9_2_x [.n n0]) (st_L9_2 [.k 0, .n n0]) :=
(.path [1] (by kernel_rfl)
(.pf (c := (decide (n0 < (200 : Int)))) (by kernel_rfl) (by kernel_rfl) (by (simp [*]; done))
(.path [1] (by kernel_rfl)
(.leaf (by kernel_rfl)))))

noncomputable def st_L9_7 (env : List Dat) : Tree Step := Lk.stepMC false LK cs_k7 9 7 ls0 (mkM 0 [] [(sh 85 [(32, .own 0), (33, .int .i64 0), (34, .int .i64 1)], [.arr TS 2])] [] [(.exit 2, sh 85 [], []), (.ret, sh 85 [(0, .bool 0)], [])] fun _ => none) env
theorem op_L9_7_ex : ∃ f : List Dat → Option (Nat × List Dat), ∀ env, f env = iterS st_L9_7 FU env := ⟨iterS st_L9_7 FU, fun _ => rfl⟩
noncomputable def op_L9_7 : List Dat → Option (Nat × List Dat) := Classical.choose op_L9_7_ex
theorem op_L9_7_eq (env : List Dat) : op_L9_7 env = iterS st_L9_7 FU env := Classical.choose_spec op_L9_7_ex env
noncomputable def L9_7 : MBox := mkM 0 [] [(sh 85 [(32, .own 0), (33, .int .i64 0), (34, .int .i64 1)], [.arr TS 2])] [] [(.exit 2, sh 85 [], []), (.ret, sh 85 [(0, .bool 0)], [])] op_L9_7
theorem L9_7_eqs : L9_7 = mkM 0 [] [(sh 85 [(32, .own 0), (33, .int .i64 0), (34, .int .i64 1)], [.arr TS 2])] [] [(.exit 2, sh 85 [], []), (.ret, sh 85 [(0, .bool 0)], [])] (iterS st_L9_7 FU) := congrArg (fun f => mkM 0 [] [(sh 85 [(32, .own 0), (33, .int .i64 0), (34, .int .i64 1)], [.arr TS 2])] [] [(.exit 2, sh 85 [], []), (.ret, sh 85 [(0, .bool 0)], [])] f) (funext op_L9_7_eq)
theorem L9_7_run : ∀ t s x, (manyRun L9_7 t s).sel = some x → CodeOk Try.prog 0 (.loop (cAt Try.prog 9 7)) t s x := by
  rw [L9_7_eqs]
  exact mkM_ok (st := st_L9_7) (m := FU) cs_k7_ok hmix false (LsOk.none _ _ _) (by kernel_rfl) (fun env y h => by rw [← stepMC_lk]; exact h)
theorem op_L9_7_good {p : Nat × List Dat → Prop} (Inv : List Dat → Prop) (μ : List Dat → Nat) (h : ∀ env, Inv env → Good (fun y => match y with | .go e => Inv e ∧ μ e < μ env | .stop k d => p (k, d)) (st_L9_7 env).sel) (env : List Dat) (hi : Inv env) (hm : μ env < FU) : Good p (op_L9_7 env) := by
  rw [op_L9_7_eq]
  exact iterS_good Inv μ p h FU env hi hm

noncomputable def fn_L9_7_t0 : List Dat → Tree Step
  | [] =>
    (.leaf (Step.go [.k 0, .n (23 : Int), .n (1 : Int), .l Ty.str texts]))
  | _ => .bad 0
theorem fn_L9_7_t0_im  : Imp (fn_L9_7_t0 []) (st_L9_7 [.k 0, .n 23, .n 0, .l TS texts]) :=
(.path (1 ::1 ::1 ::1 ::1 ::0 ::1 ::1 ::0 ::1 ::1 ::0 ::1 ::1 ::0 ::1 ::0 ::1 ::1 ::0 ::1 ::1 ::0 ::1 ::1 ::0 ::0 ::1 ::1 ::1 ::1 ::0 ::1 ::1 ::1 ::1 ::1 ::1 ::1 ::1 ::1 ::1 ::0 ::0 ::1 ::1 ::0 ::1 ::0 ::1 ::1 ::1 ::1 ::0 ::1 ::1 ::1 ::1 ::1 ::1 ::1 ::1 ::0 ::1 ::1 ::0 ::1 ::1 ::1 ::0 ::1 ::1 ::1 ::1 ::0 ::1 ::1 ::1 ::1 ::0 ::0 ::1 ::1 ::0 ::0 ::1 ::1 ::1 ::0 ::1 ::0 ::1 ::1 ::0 ::1 ::1 ::1 ::1 ::0 ::0 ::1 ::1 ::0 ::1 ::1 ::0 ::1 ::1 ::0 ::1 ::1 ::1 ::1 ::1 ::1 ::0 ::1 ::0 ::1 ::1 ::0 ::1 ::1 ::0 ::1 ::0 ::0 ::1 ::0 ::1 ::1 ::1 ::1 ::0 ::1 ::1 ::1 ::1 ::0 ::1 ::1 ::1 ::1 ::0 ::0 ::1 ::1 ::1 ::0 ::1 ::1 ::1 ::1 ::0 ::1 ::1 ::1 ::1 ::0 ::1 ::1 ::1 ::1 ::0 ::0 ::1 ::1 ::1 ::1 ::1 ::1 ::0 ::1 :: []) (by kernel_rfl)
(.leaf (by kernel_rfl)))

noncomputable def fn_L9_7_t1 : List Dat → Tree Step
  | [] =>
    (.leaf (Step.go [.k 0, .n (23 : Int), .n (2 : Int), .l Ty.str texts]))
  | _ => .bad 0
theorem fn_L9_7_t1_im  : Imp (fn_L9_7_t1 []) (st_L9_7 [.k 0, .n 23, .n 1, .l TS texts]) :=
(.path (1 ::1 ::1 ::1 ::1 ::0 ::1 ::1 ::0 ::1 ::1 ::0 ::1 ::1 ::0 ::1 ::0 ::1 ::1 ::0 ::1 ::1 ::0 ::1 ::1 ::0 ::0 ::1 ::1 ::1 ::1 ::0 ::1 ::1 ::1 ::1 ::1 ::1 ::1 ::1 ::1 ::1 ::0 ::0 ::1 ::1 ::0 ::1 ::0 ::1 ::1 ::1 ::1 ::0 ::1 ::1 ::1 ::1 ::1 ::1 ::1 ::1 ::0 ::1 ::1 ::0 ::1 ::1 ::1 ::0 ::1 ::1 ::1 ::1 ::0 ::1 ::1 ::1 ::1 ::0 ::0 ::1 ::1 ::0 ::0 ::1 ::1 ::1 ::0 ::1 ::0 ::1 ::1 ::0 ::1 ::1 ::1 ::1 ::0 ::0 ::1 ::1 ::0 ::1 ::1 ::0 ::1 ::1 ::0 ::1 ::1 ::1 ::1 ::1 ::1 ::0 ::1 ::0 ::1 ::1 ::0 ::1 ::1 ::0 ::1 ::0 ::0 ::1 ::0 ::1 ::1 ::1 ::1 ::0 ::1 ::1 ::1 ::1 ::0 ::1 ::1 ::1 ::1 ::0 ::0 ::1 ::1 ::1 ::0 ::1 ::1 ::1 ::1 ::0 ::1 ::1 ::1 ::1 ::0 ::1 ::1 ::1 ::1 ::0 ::0 ::1 ::1 ::1 ::1 ::1 ::1 ::0 ::1 :: []) (by kernel_rfl)
(.leaf (by kernel_rfl)))

noncomputable def fn_L9_7_t2 : List Dat → Tree Step
  | [] =>
    (.leaf (Step.go [.k 0, .n (23 : Int), .n (3 : Int), .l Ty.str texts]))
  | _ => .bad 0
theorem fn_L9_7_t2_im  : Imp (fn_L9_7_t2 []) (st_L9_7 [.k 0, .n 23, .n 2, .l TS texts]) :=
(.path (1 ::1 ::1 ::1 ::1 ::0 ::1 ::1 ::0 ::1 ::1 ::0 ::1 ::1 ::0 ::1 ::0 ::1 ::1 ::0 ::1 ::1 ::0 ::1 ::1 ::0 ::0 ::1 ::1 ::1 ::1 ::0 ::1 ::1 ::1 ::1 ::1 ::1 ::1 ::1 ::1 ::1 ::0 ::0 ::1 ::1 ::0 ::1 ::0 ::1 ::1 ::1 ::1 ::0 ::1 ::1 ::1 ::1 ::1 ::1 ::1 ::1 ::0 ::1 ::1 ::0 ::1 ::1 ::1 ::0 ::1 ::1 ::1 ::1 ::0 ::1 ::1 ::1 ::1 ::0 ::0 ::1 ::1 ::0 ::0 ::1 ::1 ::1 ::0 ::1 ::0 ::1 ::1 ::0 ::1 ::1 ::1 ::1 ::0 ::0 ::1 ::1 ::0 ::1 ::1 ::0 ::1 ::1 ::0 ::1 ::1 ::1 ::1 ::1 ::1 ::0 ::1 ::0 ::1 ::1 ::0 ::1 ::1 ::0 ::1 ::0 ::0 ::1 ::0 ::1 ::1 ::1 ::1 ::0 ::1 ::1 ::1 ::1 ::0 ::1 ::1 ::1 ::1 ::0 ::0 ::1 ::1 ::1 ::0 ::1 ::1 ::1 ::1 ::0 ::1 ::1 ::1 ::1 ::0 ::1 ::1 ::1 ::1 ::0 ::0 ::1 ::1 ::1 ::1 ::1 ::1 ::0 ::1 :: []) (by kernel_rfl)
(.leaf (by kernel_rfl)))

noncomputable def fn_L9_7_t3 : List Dat → Tree Step
  | [] =>
    (.leaf (Step.go [.k 0, .n (23 : Int), .n (4 : Int), .l Ty.str texts]))
  | _ => .bad 0
theorem fn_L9_7_t3_im  : Imp (fn_L9_7_t3 []) (st_L9_7 [.k 0, .n 23, .n 3, .l TS texts]) :=
(.path (1 ::1 ::1 ::1 ::1 ::0 ::1 ::1 ::0 ::1 ::1 ::0 ::1 ::1 ::0 ::1 ::0 ::1 ::1 ::0 ::1 ::1 ::0 ::1 ::1 ::0 ::0 ::1 ::1 ::1 ::1 ::1 ::1 ::1 ::1 ::1 ::1 ::1 ::1 ::1 ::1 ::1 ::1 ::1 ::0 ::1 ::1 ::1 ::1 ::1 ::1 ::1 ::1 ::1 ::1 ::1 ::1 ::1 ::1 ::1 ::1 ::0 ::1 ::1 ::1 ::0 ::1 ::1 ::1 ::1 ::0 ::0 ::1 ::1 ::0 ::0 ::1 ::1 ::1 ::0 ::1 ::0 ::1 ::1 ::0 ::0 ::1 ::1 ::0 ::1 ::1 ::0 ::1 ::1 ::1 ::0 ::0 ::1 ::0 ::0 ::1 ::1 ::0 ::0 ::1 ::1 ::0 ::1 ::1 ::0 ::0 ::1 ::1 ::1 ::0 ::0 ::0 ::1 ::0 ::0 ::0 ::1 ::1 ::0 ::0 ::1 ::1 ::0 ::1 ::1 ::0 ::0 ::0 ::1 ::1 ::0 ::1 ::1 ::0 ::1 ::0 ::1 ::0 ::1 ::0 ::0 ::1 ::0 ::1 ::0 ::0 ::0 ::1 ::0 ::0 ::1 ::0 ::1 ::1 ::1 ::1 ::0 ::1 ::1 ::1 ::1 ::0 ::1 ::1 ::1 ::1 ::0 ::0 ::1 ::1 ::1 ::0 ::1 ::1 ::1 ::1 ::0 ::1 ::1 ::1 ::1 ::0 ::1 ::1 ::1 ::1 ::0 ::0 ::1 ::1 ::1 ::1 ::1 ::1 ::0 ::1 :: []) (by kernel_rfl)
(.leaf (by kernel_rfl)))

noncomputable def fn_L9_7_t4 : List Dat → Tree Step
  | [] =>
    (.leaf (Step.go [.k 0, .n (23 : Int), .n (5 : Int), .l Ty.str texts]))
  | _ => .bad 0
theorem fn_L9_7_t4_im  : Imp (fn_L9_7_t4 []) (st_L9_7 [.k 0, .n 23, .n 4, .l TS texts]) :=
(.path (1 ::1 ::1 ::1 ::1 ::0 ::1 ::1 ::0 ::1 ::1 ::0 ::1 ::1 ::0 ::1 ::0 ::1 ::1 ::0 ::1 ::1 ::0 ::1 ::1 ::0 ::0 ::1 ::1 ::1 ::1 ::0 ::1 ::1 ::1 ::1 ::1 ::1 ::1 ::1 ::1 ::1 ::0 ::0 ::1 ::1 ::0 ::1 ::0 ::1 ::1 ::1 ::1 ::0 ::1 ::1 ::1 ::1 ::1 ::1 ::1 ::1 ::0 ::1 ::1 ::0 ::1 ::1 ::1 ::0 ::1 ::1 ::1 ::1 ::0 ::1 ::1 ::1 ::1 ::0 ::0 ::1 ::1 ::0 ::0 ::1 ::1 ::1 ::0 ::1 ::0 ::1 ::1 ::0 ::1 ::1 ::1 ::1 ::0 ::0 ::1 ::1 ::0 ::1 ::1 ::0 ::1 ::1 ::0 ::1 ::1 ::1 ::1 ::1 ::1 ::0 ::1 ::0 ::1 ::1 ::0 ::1 ::1 ::0 ::1 ::0 ::0 ::1 ::0 ::1 ::1 ::1 ::1 ::0 ::1 ::1 ::1 ::1 ::0 ::1 ::1 ::1 ::1 ::0 ::0 ::1 ::1 ::1 ::0 ::1 ::1 ::1 ::1 ::0 ::1 ::1 ::1 ::1 ::0 ::1 ::1 ::1 ::1 ::0 ::0 ::1 ::1 ::1 ::1 ::1 ::1 ::0 ::1 :: []) (by kernel_rfl)
(.leaf (by kernel_rfl)))

noncomputable def fn_L9_7_t5 : List Dat → Tree Step
  | [] =>
    (.leaf (Step.go [.k 0, .n (23 : Int), .n (6 : Int), .l Ty.str texts]))
  | _ => .bad 0
theorem fn_L9_7_t5_im  : Imp (fn_L9_7_t5 []) (st_L9_7 [.k 0, .n 23, .n 5, .l TS texts]) :=
(.path (1 ::1 ::1 ::1 ::1 ::0 ::1 ::1 ::0 ::1 ::1 ::0 ::1 ::1 ::0 ::1 ::0 ::1 ::1 ::0 ::1 ::1 ::0 ::1 ::1 ::0 ::0 ::1 ::1 ::1 ::1 ::0 ::1 ::1 ::1 ::1 ::1 ::1 ::1 ::1 ::1 ::1 ::0 ::0 ::1 ::1 ::0 ::1 ::0 ::1 ::1 ::1 ::1 ::0 ::1 ::1 ::1 ::1 ::1 ::1 ::1 ::1 ::0 ::1 ::1 ::0 ::1 ::1 ::1 ::0 ::1 ::1 ::1 ::1 ::0 ::1 ::1 ::1 ::1 ::0 ::0 ::1 ::1 ::0 ::0 ::1 ::1 ::1 ::0 ::1 ::0 ::1 ::1 ::0 ::1 ::1 ::1 ::1 ::0 ::0 ::1 ::1 ::0 ::1 ::1 ::0 ::1 ::1 ::0 ::1 ::1 ::1 ::1 ::1 ::1 ::0 ::1 ::0 ::1 ::1 ::0 ::1 ::1 ::0 ::1 ::0 ::0 ::1 ::0 ::1 ::1 ::1 ::1 ::0 ::1 ::1 ::1 ::1 ::0 ::1 ::1 ::1 ::1 ::0 ::0 ::1 ::1 ::1 ::0 ::1 ::1 ::1 ::1 ::0 ::1 ::1 ::1 ::1 ::0 ::1 ::1 ::1 ::1 ::0 ::0 ::1 ::1 ::1 ::1 ::1 ::1 ::0 ::1 :: []) (by kernel_rfl)
(.leaf (by kernel_rfl)))

noncomputable def fn_L9_7_t6 : List Dat → Tree Step
  | [] =>
    (.leaf (Step.go [.k 0, .n (23 : Int), .n (7 : Int), .l Ty.str texts]))
  | _ => .bad 0
theorem fn_L9_7_t6_im  : Imp (fn_L9_7_t6 []) (st_L9_7 [.k 0, .n 23, .n 6, .l TS texts]) :=
(.path (1 ::1 ::1 ::1 ::1 ::0 ::1 ::1 ::0 ::1 ::1 ::0 ::1 ::1 ::0 ::1 ::0 ::1 ::1 ::0 ::1 ::1 ::0 ::1 ::1 ::0 ::0 ::1 ::1 ::1 ::1 ::0 ::1 ::1 ::1 ::1 ::1 ::1 ::1 ::1 ::1 ::1 ::0 ::0 ::1 ::1 ::0 ::1 ::0 ::1 ::1 ::1 ::1 ::0 ::1 ::1 ::1 ::1 ::1 ::1 ::1 ::1 ::0 ::1 ::1 ::0 ::1 ::1 ::1 ::0 ::1 ::1 ::1 ::1 ::0 ::1 ::1 ::1 ::1 ::0 ::0 ::1 ::1 ::0 ::0 ::1 ::1 ::1 ::0 ::1 ::0 ::1 ::1 ::0 ::1 ::1 ::1 ::1 ::0 ::0 ::1 ::1 ::0 ::1 ::1 ::0 ::1 ::1 ::0 ::1 ::1 ::1 ::1 ::1 ::1 ::0 ::1 ::0 ::1 ::1 ::0 ::1 ::1 ::0 ::1 ::0 ::0 ::1 ::0 ::1 ::1 ::1 ::1 ::0 ::1 ::1 ::1 ::1 ::0 ::1 ::1 ::1 ::1 ::0 ::0 ::1 ::1 ::1 ::0 ::1 ::1 ::1 ::1 ::0 ::1 ::1 ::1 ::1 ::0 ::1 ::1 ::1 ::1 ::0 ::0 ::1 ::1 ::1 ::1 ::1 ::1 ::0 ::1 :: []) (by kernel_rfl)
(.leaf (by kernel_rfl)))

noncomputable def fn_L9_7_t7 : List Dat → Tree Step
  | [] =>
    (.leaf (Step.go [.k 0, .n (23 : Int), .n (8 : Int), .l Ty.str texts]))
  | _ => .bad 0
theorem fn_L9_7_t7_im  : Imp (fn_L9_7_t7 []) (st_L9_7 [.k 0, .n 23, .n 7, .l TS texts]) :=
(.path (1 ::1 ::1 ::1 ::1 ::0 ::1 ::1 ::0 ::1 ::1 ::0 ::1 ::1 ::0 ::1 ::0 ::1 ::1 ::0 ::1 ::1 ::0 ::1 ::1 ::0 ::0 ::1 ::1 ::1 ::1 ::0 ::1 ::1 ::1 ::1 ::1 ::1 ::1 ::1 ::1 ::1 ::0 ::0 ::1 ::1 ::0 ::1 ::0 ::1 ::1 ::1 ::1 ::0 ::1 ::1 ::1 ::1 ::1 ::1 ::1 ::1 ::0 ::1 ::1 ::0 ::1 ::1 ::1 ::0 ::1 ::1 ::1 ::1 ::0 ::1 ::1 ::1 ::1 ::0 ::0 ::1 ::1 ::0 ::0 ::1 ::1 ::1 ::0 ::1 ::0 ::1 ::1 ::0 ::1 ::1 ::1 ::1 ::0 ::0 ::1 ::1 ::0 ::1 ::1 ::0 ::1 ::1 ::0 ::1 ::1 ::1 ::1 ::1 ::1 ::0 ::1 ::0 ::1 ::1 ::0 ::1 ::1 ::0 ::1 ::0 ::0 ::1 ::0 ::1 ::1 ::1 ::1 ::0 ::1 ::1 ::1 ::1 ::0 ::1 ::1 ::1 ::1 ::0 ::0 ::1 ::1 ::1 ::0 ::1 ::1 ::1 ::1 ::0 ::1 ::1 ::1 ::1 ::0 ::1 ::1 ::1 ::1 ::0 ::0 ::1 ::1 ::1 ::1 ::1 ::1 ::0 ::1 :: []) (by kernel_rfl)
(.leaf (by kernel_rfl)))

noncomputable def fn_L9_7_t8 : List Dat → Tree Step
  | [] =>
    (.leaf (Step.go [.k 0, .n (23 : Int), .n (9 : Int), .l Ty.str texts]))
  | _ => .bad 0
theorem fn_L9_7_t8_im  : Imp (fn_L9_7_t8 []) (st_L9_7 [.k 0, .n 23, .n 8, .l TS texts]) :=
(.path (1 ::1 ::1 ::1 ::1 ::0 ::1 ::1 ::0 ::1 ::1 ::0 ::1 ::1 ::0 ::1 ::0 ::1 ::1 ::0 ::1 ::1 ::0 ::1 ::1 ::0 ::0 ::1 ::1 ::1 ::1 ::0 ::1 ::1 ::1 ::1 ::1 ::1 ::1 ::1 ::1 ::1 ::0 ::0 ::1 ::1 ::0 ::1 ::0 ::1 ::1 ::1 ::1 ::0 ::1 ::1 ::1 ::1 ::1 ::1 ::1 ::1 ::0 ::1 ::1 ::0 ::1 ::1 ::1 ::0 ::1 ::1 ::1 ::1 ::0 ::1 ::1 ::1 ::1 ::0 ::0 ::1 ::1 ::0 ::0 ::1 ::1 ::1 ::0 ::1 ::0 ::1 ::1 ::0 ::1 ::1 ::1 ::1 ::0 ::0 ::1 ::1 ::0 ::1 ::1 ::0 ::1 ::1 ::0 ::1 ::1 ::1 ::1 ::1 ::1 ::0 ::1 ::0 ::1 ::1 ::0 ::1 ::1 ::0 ::1 ::0 ::0 ::1 ::0 ::1 ::1 ::1 ::1 ::0 ::1 ::1 ::1 ::1 ::0 ::1 ::1 ::1 ::1 ::0 ::0 ::1 ::1 ::1 ::0 ::1 ::1 ::1 ::1 ::0 ::1 ::1 ::1 ::1 ::0 ::1 ::1 ::1 ::1 ::0 ::0 ::1 ::1 ::1 ::1 ::1 ::1 ::0 ::1 :: []) (by kernel_rfl)
(.leaf (by kernel_rfl)))

noncomputable def fn_L9_7_t9 : List Dat → Tree Step
  | [] =>
    (.leaf (Step.go [.k 0, .n (23 : Int), .n (10 : Int), .l Ty.str texts]))
  | _ => .bad 0
theorem fn_L9_7_t9_im  : Imp (fn_L9_7_t9 []) (st_L9_7 [.k 0, .n 23, .n 9, .l TS texts]) :=
(.path (1 ::1 ::1 ::1 ::1 ::0 ::1 ::1 ::0 ::1 ::1 ::0 ::1 ::1 ::0 ::1 ::0 ::1 ::1 ::0 ::1 ::1 ::0 ::1 ::1 ::0 ::0 ::1 ::1 ::1 ::1 ::0 ::1 ::1 ::1 ::1 ::1 ::1 ::1 ::1 ::1 ::1 ::0 ::0 ::1 ::1 ::0 ::1 ::0 ::1 ::1 ::1 ::1 ::0 ::1 ::1 ::1 ::1 ::1 ::1 ::1 ::1 ::0 ::1 ::1 ::0 ::1 ::1 ::1 ::0 ::1 ::1 ::1 ::1 ::0 ::1 ::1 ::1 ::1 ::0 ::0 ::1 ::1 ::0 ::0 ::1 ::1 ::1 ::0 ::1 ::0 ::1 ::1 ::0 ::1 ::1 ::1 ::1 ::0 ::0 ::1 ::1 ::0 ::1 ::1 ::0 ::1 ::1 ::0 ::1 ::1 ::1 ::1 ::1 ::1 ::0 ::1 ::0 ::1 ::1 ::0 ::1 ::1 ::0 ::1 ::0 ::0 ::1 ::0 ::1 ::1 ::1 ::1 ::0 ::1 ::1 ::1 ::1 ::0 ::1 ::1 ::1 ::1 ::0 ::0 ::1 ::1 ::1 ::0 ::1 ::1 ::1 ::1 ::0 ::1 ::1 ::1 ::1 ::0 ::1 ::1 ::1 ::1 ::0 ::0 ::1 ::1 ::1 ::1 ::1 ::1 ::0 ::1 :: []) (by kernel_rfl)
(.leaf (by kernel_rfl)))

noncomputable def fn_L9_7_t10 : List Dat → Tree Step
  | [] =>
    (.leaf (Step.go [.k 0, .n (23 : Int), .n (11 : Int), .l Ty.str texts]))
  | _ => .bad 0
theorem fn_L9_7_t10_im  : Imp (fn_L9_7_t10 []) (st_L9_7 [.k 0, .n 23, .n 10, .l TS texts]) :=
(.path (1 ::1 ::1 ::1 ::1 ::0 ::1 ::1 ::0 ::1 ::1 ::0 ::1 ::1 ::0 ::1 ::0 ::1 ::1 ::0 ::1 ::1 ::0 ::1 ::1 ::0 ::0 ::1 ::1 ::1 ::1 ::0 ::1 ::1 ::1 ::1 ::1 ::1 ::1 ::1 ::1 ::1 ::0 ::0 ::1 ::1 ::0 ::1 ::0 ::1 ::1 ::1 ::1 ::0 ::1 ::1 ::1 ::1 ::1 ::1 ::1 ::1 ::0 ::1 ::1 ::0 ::1 ::1 ::1 ::0 ::1 ::1 ::1 ::1 ::0 ::1 ::1 ::1 ::1 ::0 ::0 ::1 ::1 ::0 ::0 ::1 ::1 ::1 ::0 ::1 ::0 ::1 ::1 ::0 ::1 ::1 ::1 ::1 ::0 ::0 ::1 ::1 ::0 ::1 ::1 ::0 ::1 ::1 ::0 ::1 ::1 ::1 ::1 ::1 ::1 ::0 ::1 ::0 ::1 ::1 ::0 ::1 ::1 ::0 ::1 ::0 ::0 ::1 ::0 ::1 ::1 ::1 ::1 ::0 ::1 ::1 ::1 ::1 ::0 ::1 ::1 ::1 ::1 ::0 ::0 ::1 ::1 ::1 ::0 ::1 ::1 ::1 ::1 ::0 ::1 ::1 ::1 ::1 ::0 ::1 ::1 ::1 ::1 ::0 ::0 ::1 ::1 ::1 ::1 ::1 ::1 ::0 ::1 :: []) (by kernel_rfl)
(.leaf (by kernel_rfl)))

noncomputable def fn_L9_7_t11 : List Dat → Tree Step
  | [] =>
    (.leaf (Step.go [.k 0, .n (23 : Int), .n (12 : Int), .l Ty.str texts]))
  | _ => .bad 0
theorem fn_L9_7_t11_im  : Imp (fn_L9_7_t11 []) (st_L9_7 [.k 0, .n 23, .n 11, .l TS texts]) :=
(.path (1 ::1 ::1 ::1 ::1 ::0 ::1 ::1 ::0 ::1 ::1 ::0 ::1 ::1 ::0 ::1 ::0 ::1 ::1 ::0 ::1 ::1 ::0 ::1 ::1 ::0 ::0 ::1 ::1 ::1 ::1 ::0 ::1 ::1 ::1 ::1 ::1 ::1 ::1 ::1 ::1 ::1 ::0 ::0 ::1 ::1 ::0 ::1 ::0 ::1 ::1 ::1 ::1 ::0 ::1 ::1 ::1 ::1 ::1 ::1 ::1 ::1 ::0 ::1 ::1 ::0 ::1 ::1 ::1 ::0 ::1 ::1 ::1 ::1 ::0 ::1 ::1 ::1 ::1 ::0 ::0 ::1 ::1 ::0 ::0 ::1 ::1 ::1 ::0 ::1 ::0 ::1 ::1 ::0 ::1 ::1 ::1 ::1 ::0 ::0 ::1 ::1 ::0 ::1 ::1 ::0 ::1 ::1 ::0 ::1 ::1 ::1 ::1 ::1 ::1 ::0 ::1 ::0 ::1 ::1 ::0 ::1 ::1 ::0 ::1 ::0 ::0 ::1 ::0 ::1 ::1 ::1 ::1 ::0 ::1 ::1 ::1 ::1 ::0 ::1 ::1 ::1 ::1 ::0 ::0 ::1 ::1 ::1 ::0 ::1 ::1 ::1 ::1 ::0 ::1 ::1 ::1 ::1 ::0 ::1 ::1 ::1 ::1 ::0 ::0 ::1 ::1 ::1 ::1 ::1 ::1 ::0 ::1 :: []) (by kernel_rfl)
(.leaf (by kernel_rfl)))

noncomputable def fn_L9_7_t12 : List Dat → Tree Step
  | [] =>
    (.leaf (Step.go [.k 0, .n (23 : Int), .n (13 : Int), .l Ty.str texts]))
  | _ => .bad 0
theorem fn_L9_7_t12_im  : Imp (fn_L9_7_t12 []) (st_L9_7 [.k 0, .n 23, .n 12, .l TS texts]) :=
(.path (1 ::1 ::1 ::1 ::1 ::0 ::1 ::1 ::0 ::1 ::1 ::0 ::1 ::1 ::0 ::1 ::0 ::1 ::1 ::0 ::1 ::1 ::0 ::1 ::1 ::0 ::0 ::1 ::1 ::1 ::1 ::0 ::1 ::1 ::1 ::1 ::1 ::1 ::1 ::1 ::1 ::1 ::0 ::0 ::1 ::1 ::0 ::1 ::0 ::1 ::1 ::1 ::1 ::0 ::1 ::1 ::1 ::1 ::1 ::1 ::1 ::1 ::0 ::1 ::1 ::0 ::1 ::1 ::1 ::0 ::1 ::1 ::1 ::1 ::0 ::1 ::1 ::1 ::1 ::0 ::0 ::1 ::1 ::0 ::0 ::1 ::1 ::1 ::0 ::1 ::0 ::1 ::1 ::0 ::1 ::1 ::1 ::1 ::0 ::0 ::1 ::1 ::0 ::1 ::1 ::0 ::1 ::1 ::0 ::1 ::1 ::1 ::1 ::1 ::1 ::0 ::1 ::0 ::1 ::1 ::0 ::1 ::1 ::0 ::1 ::0 ::0 ::1 ::0 ::1 ::1 ::1 ::1 ::0 ::1 ::1 ::1 ::1 ::0 ::1 ::1 ::1 ::1 ::0 ::0 ::1 ::1 ::1 ::0 ::1 ::1 ::1 ::1 ::0 ::1 ::1 ::1 ::1 ::0 ::1 ::1 ::1 ::1 ::0 ::0 ::1 ::1 ::1 ::1 ::1 ::1 ::0 ::1 :: []) (by kernel_rfl)
(.leaf (by kernel_rfl)))

noncomputable def fn_L9_7_t13 : List Dat → Tree Step
  | [] =>
    (.leaf (Step.go [.k 0, .n (23 : Int), .n (14 : Int), .l Ty.str texts]))
  | _ => .bad 0
theorem fn_L9_7_t13_im  : Imp (fn_L9_7_t13 []) (st_L9_7 [.k 0, .n 23, .n 13, .l TS texts]) :=
(.path (1 ::1 ::1 ::1 ::1 ::0 ::1 ::1 ::0 ::1 ::1 ::0 ::1 ::1 ::0 ::1 ::0 ::1 ::1 ::0 ::1 ::1 ::0 ::1 ::1 ::0 ::0 ::1 ::1 ::1 ::1 ::0 ::1 ::1 ::1 ::1 ::1 ::1 ::1 ::1 ::1 ::1 ::0 ::0 ::1 ::1 ::0 ::1 ::0 ::1 ::1 ::1 ::1 ::0 ::1 ::1 ::1 ::1 ::1 ::1 ::1 ::1 ::0 ::1 ::1 ::0 ::1 ::1 ::1 ::0 ::1 ::1 ::1 ::1 ::0 ::1 ::1 ::1 ::1 ::0 ::0 ::1 ::1 ::0 ::0 ::1 ::1 ::1 ::0 ::1 ::0 ::1 ::1 ::0 ::1 ::1 ::1 ::1 ::0 ::0 ::1 ::1 ::0 ::1 ::1 ::0 ::1 ::1 ::0 ::1 ::1 ::1 ::1 ::1 ::1 ::0 ::1 ::0 ::1 ::1 ::0 ::1 ::1 ::0 ::1 ::0 ::0 ::1 ::0 ::1 ::1 ::1 ::1 ::0 ::1 ::1 ::1 ::1 ::0 ::1 ::1 ::1 ::1 ::0 ::0 ::1 ::1 ::1 ::0 ::1 ::1 ::1 ::1 ::0 ::1 ::1 ::1 ::1 ::0 ::1 ::1 ::1 ::1 ::0 ::0 ::1 ::1 ::1 ::1 ::1 ::1 ::0 ::1 :: []) (by kernel_rfl)
(.leaf (by kernel_rfl)))

noncomputable def fn_L9_7_t14 : List Dat → Tree Step
  | [] =>
    (.leaf (Step.go [.k 0, .n (23 : Int), .n (15 : Int), .l Ty.str texts]))
  | _ => .bad 0
theorem fn_L9_7_t14_im  : Imp (fn_L9_7_t14 []) (st_L9_7 [.k 0, .n 23, .n 14, .l TS texts]) :=
(.path (1 ::1 ::1 ::1 ::1 ::0 ::1 ::1 ::0 ::1 ::1 ::0 ::1 ::1 ::0 ::1 ::0 ::1 ::1 ::0 ::1 ::1 ::0 ::1 ::1 ::0 ::0 ::1 ::1 ::1 ::1 ::0 ::1 ::1 ::1 ::1 ::1 ::1 ::1 ::1 ::1 ::1 ::0 ::0 ::1 ::1 ::0 ::1 ::0 ::1 ::1 ::1 ::1 ::0 ::1 ::1 ::1 ::1 ::1 ::1 ::1 ::1 ::0 ::1 ::1 ::0 ::1 ::1 ::1 ::0 ::1 ::1 ::1 ::1 ::0 ::1 ::1 ::1 ::1 ::0 ::0 ::1 ::1 ::0 ::0 ::1 ::1 ::1 ::0 ::1 ::0 ::1 ::1 ::0 ::1 ::1 ::1 ::1 ::0 ::0 ::1 ::1 ::0 ::1 ::1 ::0 ::1 ::1 ::0 ::1 ::1 ::1 ::1 ::1 ::1 ::0 ::1 ::0 ::1 ::1 ::0 ::1 ::1 ::0 ::1 ::0 ::0 ::1 ::0 ::1 ::1 ::1 ::1 ::0 ::1 ::1 ::1 ::1 ::0 ::1 ::1 ::1 ::1 ::0 ::0 ::1 ::1 ::1 ::0 ::1 ::1 ::1 ::1 ::0 ::1 ::1 ::1 ::1 ::0 ::1 ::1 ::1 ::1 ::0 ::0 ::1 ::1 ::1 ::1 ::1 ::1 ::0 ::1 :: []) (by kernel_rfl)
(.leaf (by kernel_rfl)))

noncomputable def fn_L9_7_t15 : List Dat → Tree Step
  | [] =>
    (.leaf (Step.go [.k 0, .n (23 : Int), .n (16 : Int), .l Ty.str texts]))
  | _ => .bad 0
theorem fn_L9_7_t15_im  : Imp (fn_L9_7_t15 []) (st_L9_7 [.k 0, .n 23, .n 15, .l TS texts]) :=
(.path (1 ::1 ::1 ::1 ::1 ::0 ::1 ::1 ::0 ::1 ::1 ::0 ::1 ::1 ::0 ::1 ::0 ::1 ::1 ::0 ::1 ::1 ::0 ::1 ::1 ::0 ::0 ::1 ::1 ::1 ::1 ::0 ::1 ::1 ::1 ::1 ::1 ::1 ::1 ::1 ::1 ::1 ::0 ::0 ::1 ::1 ::0 ::1 ::0 ::1 ::1 ::1 ::1 ::0 ::1 ::1 ::1 ::1 ::1 ::1 ::1 ::1 ::0 ::1 ::1 ::0 ::1 ::1 ::1 ::0 ::1 ::1 ::1 ::1 ::0 ::1 ::1 ::1 ::1 ::0 ::0 ::1 ::1 ::0 ::0 ::1 ::1 ::1 ::0 ::1 ::0 ::1 ::1 ::0 ::1 ::1 ::1 ::1 ::0 ::0 ::1 ::1 ::0 ::1 ::1 ::0 ::1 ::1 ::0 ::1 ::1 ::1 ::1 ::1 ::1 ::0 ::1 ::0 ::1 ::1 ::0 ::1 ::1 ::0 ::1 ::0 ::0 ::1 ::0 ::1 ::1 ::1 ::1 ::0 ::1 ::1 ::1 ::1 ::0 ::1 ::1 ::1 ::1 ::0 ::0 ::1 ::1 ::1 ::0 ::1 ::1 ::1 ::1 ::0 ::1 ::1 ::1 ::1 ::0 ::1 ::1 ::1 ::1 ::0 ::0 ::1 ::1 ::1 ::1 ::1 ::1 ::0 ::1 :: []) (by kernel_rfl)
(.leaf (by kernel_rfl)))

noncomputable def fn_L9_7_t16 : List Dat → Tree Step
  | [] =>
    (.leaf (Step.go [.k 0, .n (23 : Int), .n (17 : Int), .l Ty.str texts]))
  | _ => .bad 0
theorem fn_L9_7_t16_im  : Imp (fn_L9_7_t16 []) (st_L9_7 [.k 0, .n 23, .n 16, .l TS texts]) :=
(.path (1 ::1 ::1 ::1 ::1 ::0 ::1 ::1 ::0 ::1 ::1 ::0 ::1 ::1 ::0 ::1 ::0 ::1 ::1 ::0 ::1 ::1 ::0 ::1 ::1 ::0 ::0 ::1 ::1 ::1 ::1 ::0 ::1 ::1 ::1 ::1 ::1 ::1 ::1 ::1 ::1 ::1 ::0 ::0 ::1 ::1 ::0 ::1 ::0 ::1 ::1 ::1 ::1 ::0 ::1 ::1 ::1 ::1 ::1 ::1 ::1 ::1 ::0 ::1 ::1 ::0 ::1 ::1 ::1 ::0 ::1 ::1 ::1 ::1 ::0 ::1 ::1 ::1 ::1 ::0 ::0 ::1 ::1 ::0 ::0 ::1 ::1 ::1 ::0 ::1 ::0 ::1 ::1 ::0 ::1 ::1 ::1 ::1 ::0 ::0 ::1 ::1 ::0 ::1 ::1 ::0 ::1 ::1 ::0 ::1 ::1 ::1 ::1 ::1 ::1 ::0 ::1 ::0 ::1 ::1 ::0 ::1 ::1 ::0 ::1 ::0 ::0 ::1 ::0 ::1 ::1 ::1 ::1 ::0 ::1 ::1 ::1 ::1 ::0 ::1 ::1 ::1 ::1 ::0 ::0 ::1 ::1 ::1 ::0 ::1 ::1 ::1 ::1 ::0 ::1 ::1 ::1 ::1 ::0 ::1 ::1 ::1 ::1 ::0 ::0 ::1 ::1 ::1 ::1 ::1 ::1 ::0 ::1 :: []) (by kernel_rfl)
(.leaf (by kernel_rfl)))

noncomputable def fn_L9_7_t17 : List Dat → Tree Step
  | [] =>
    (.leaf (Step.go [.k 0, .n (23 : Int), .n (18 : Int), .l Ty.str texts]))
  | _ => .bad 0
theorem fn_L9_7_t17_im  : Imp (fn_L9_7_t17 []) (st_L9_7 [.k 0, .n 23, .n 17, .l TS texts]) :=
(.path (1 ::1 ::1 ::1 ::1 ::0 ::1 ::1 ::0 ::1 ::1 ::0 ::1 ::1 ::0 ::1 ::0 ::1 ::1 ::0 ::1 ::1 ::0 ::1 ::1 ::0 ::0 ::1 ::1 ::1 ::1 ::0 ::1 ::1 ::1 ::1 ::1 ::1 ::1 ::1 ::1 ::1 ::0 ::0 ::1 ::1 ::0 ::1 ::0 ::1 ::1 ::1 ::1 ::0 ::1 ::1 ::1 ::1 ::1 ::1 ::1 ::1 ::0 ::1 ::1 ::0 ::1 ::1 ::1 ::0 ::1 ::1 ::1 ::1 ::0 ::1 ::1 ::1 ::1 ::0 ::0 ::1 ::1 ::0 ::0 ::1 ::1 ::1 ::0 ::1 ::0 ::1 ::1 ::0 ::1 ::1 ::1 ::1 ::0 ::0 ::1 ::1 ::0 ::1 ::1 ::0 ::1 ::1 ::0 ::1 ::1 ::1 ::1 ::1 ::1 ::0 ::1 ::0 ::1 ::1 ::0 ::1 ::1 ::0 ::1 ::0 ::0 ::1 ::0 ::1 ::1 ::1 ::1 ::0 ::1 ::1 ::1 ::1 ::0 ::1 ::1 ::1 ::1 ::0 ::0 ::1 ::1 ::1 ::0 ::1 ::1 ::1 ::1 ::0 ::1 ::1 ::1 ::1 ::0 ::1 ::1 ::1 ::1 ::0 ::0 ::1 ::1 ::1 ::1 ::1 ::1 ::0 ::1 :: []) (by kernel_rfl)
(.leaf (by kernel_rfl)))

noncomputable def fn_L9_7_t18 : List Dat → Tree Step
  | [] =>
    (.leaf (Step.go [.k 0, .n (23 : Int), .n (19 : Int), .l Ty.str texts]))
  | _ => .bad 0
theorem fn_L9_7_t18_im  : Imp (fn_L9_7_t18 []) (st_L9_7 [.k 0, .n 23, .n 18, .l TS texts]) :=
(.path (1 ::1 ::1 ::1 ::1 ::0 ::1 ::1 ::0 ::1 ::1 ::0 ::1 ::1 ::0 ::1 ::0 ::1 ::1 ::0 ::1 ::1 ::0 ::1 ::1 ::0 ::0 ::1 ::1 ::1 ::1 ::0 ::1 ::1 ::1 ::1 ::1 ::1 ::1 ::1 ::1 ::1 ::0 ::0 ::1 ::1 ::0 ::1 ::0 ::1 ::1 ::1 ::1 ::0 ::1 ::1 ::1 ::1 ::1 ::1 ::1 ::1 ::0 ::1 ::1 ::0 ::1 ::1 ::1 ::0 ::1 ::1 ::1 ::1 ::0 ::1 ::1 ::1 ::1 ::0 ::0 ::1 ::1 ::0 ::0 ::1 ::1 ::1 ::0 ::1 ::0 ::1 ::1 ::0 ::1 ::1 ::1 ::1 ::0 ::0 ::1 ::1 ::0 ::1 ::1 ::0 ::1 ::1 ::0 ::1 ::1 ::1 ::1 ::1 ::1 ::0 ::1 ::0 ::1 ::1 ::0 ::1 ::1 ::0 ::1 ::0 ::0 ::1 ::0 ::1 ::1 ::1 ::1 ::0 ::1 ::1 ::1 ::1 ::0 ::1 ::1 ::1 ::1 ::0 ::0 ::1 ::1 ::1 ::0 ::1 ::1 ::1 ::1 ::0 ::1 ::1 ::1 ::1 ::0 ::1 ::1 ::1 ::1 ::0 ::0 ::1 ::1 ::1 ::1 ::1 ::1 ::0 ::1 :: []) (by kernel_rfl)
(.leaf (by kernel_rfl)))

noncomputable def fn_L9_7_t19 : List Dat → Tree Step
  | [] =>
    (.leaf (Step.go [.k 0, .n (23 : Int), .n (20 : Int), .l Ty.str texts]))
  | _ => .bad 0
theorem fn_L9_7_t19_im  : Imp (fn_L9_7_t19 []) (st_L9_7 [.k 0, .n 23, .n 19, .l TS texts]) :=
(.path (1 ::1 ::1 ::1 ::1 ::0 ::1 ::1 ::0 ::1 ::1 ::0 ::1 ::1 ::0 ::1 ::0 ::1 ::1 ::0 ::1 ::1 ::0 ::1 ::1 ::0 ::0 ::1 ::1 ::1 ::1 ::0 ::1 ::1 ::1 ::1 ::1 ::1 ::1 ::1 ::1 ::1 ::0 ::0 ::1 ::1 ::0 ::1 ::0 ::1 ::1 ::1 ::1 ::0 ::1 ::1 ::1 ::1 ::1 ::1 ::1 ::1 ::0 ::1 ::1 ::0 ::1 ::1 ::1 ::0 ::1 ::1 ::1 ::1 ::0 ::1 ::1 ::1 ::1 ::0 ::0 ::1 ::1 ::0 ::0 ::1 ::1 ::1 ::0 ::1 ::0 ::1 ::1 ::0 ::1 ::1 ::1 ::1 ::0 ::0 ::1 ::1 ::0 ::1 ::1 ::0 ::1 ::1 ::0 ::1 ::1 ::1 ::1 ::1 ::1 ::0 ::1 ::0 ::1 ::1 ::0 ::1 ::1 ::0 ::1 ::0 ::0 ::1 ::0 ::1 ::1 ::1 ::1 ::0 ::1 ::1 ::1 ::1 ::0 ::1 ::1 ::1 ::1 ::0 ::0 ::1 ::1 ::1 ::0 ::1 ::1 ::1 ::1 ::0 ::1 ::1 ::1 ::1 ::0 ::1 ::1 ::1 ::1 ::0 ::0 ::1 ::1 ::1 ::1 ::1 ::1 ::0 ::1 :: []) (by kernel_rfl)
(.leaf (by kernel_rfl)))

noncomputable def fn_L9_7_t20 : List Dat → Tree Step
  | [] =>
    (.leaf (Step.go [.k 0, .n (23 : Int), .n (21 : Int), .l Ty.str texts]))
  | _ => .bad 0
theorem fn_L9_7_t20_im  : Imp (fn_L9_7_t20 []) (st_L9_7 [.k 0, .n 23, .n 20, .l TS texts]) :=
(.path (1 ::1 ::1 ::1 ::1 ::0 ::1 ::1 ::0 ::1 ::1 ::0 ::1 ::1 ::0 ::1 ::0 ::1 ::1 ::0 ::1 ::1 ::0 ::1 ::1 ::0 ::0 ::1 ::1 ::1 ::1 ::0 ::1 ::1 ::1 ::1 ::1 ::1 ::1 ::1 ::1 ::1 ::0 ::0 ::1 ::1 ::0 ::1 ::0 ::1 ::1 ::1 ::1 ::0 ::1 ::1 ::1 ::1 ::1 ::1 ::1 ::1 ::0 ::1 ::1 ::0 ::1 ::1 ::1 ::0 ::1 ::1 ::1 ::1 ::0 ::1 ::1 ::1 ::1 ::0 ::0 ::1 ::1 ::0 ::0 ::1 ::1 ::1 ::0 ::1 ::0 ::1 ::1 ::0 ::1 ::1 ::1 ::1 ::0 ::0 ::1 ::1 ::0 ::1 ::1 ::0 ::1 ::1 ::0 ::1 ::1 ::1 ::1 ::1 ::1 ::0 ::1 ::0 ::1 ::1 ::0 ::1 ::1 ::0 ::1 ::0 ::0 ::1 ::0 ::1 ::1 ::1 ::1 ::0 ::1 ::1 ::1 ::1 ::0 ::1 ::1 ::1 ::1 ::0 ::0 ::1 ::1 ::1 ::0 ::1 ::1 ::1 ::1 ::0 ::1 ::1 ::1 ::1 ::0 ::1 ::1 ::1 ::1 ::0 ::0 ::1 ::1 ::1 ::1 ::1 ::1 ::0 ::1 :: []) (by kernel_rfl)
(.leaf (by kernel_rfl)))

noncomputable def fn_L9_7_t21 : List Dat → Tree Step
  | [] =>
    (.leaf (Step.go [.k 0, .n (23 : Int), .n (22 : Int), .l Ty.str texts]))
  | _ => .bad 0
theorem fn_L9_7_t21_im  : Imp (fn_L9_7_t21 []) (st_L9_7 [.k 0, .n 23, .n 21, .l TS texts]) :=
(.path (1 ::1 ::1 ::1 ::1 ::0 ::1 ::1 ::0 ::1 ::1 ::0 ::1 ::1 ::0 ::1 ::0 ::1 ::1 ::0 ::1 ::1 ::0 ::1 ::1 ::0 ::0 ::1 ::1 ::1 ::1 ::0 ::1 ::1 ::1 ::1 ::1 ::1 ::1 ::1 ::1 ::1 ::0 ::0 ::1 ::1 ::0 ::1 ::0 ::1 ::1 ::1 ::1 ::0 ::1 ::1 ::1 ::1 ::1 ::1 ::1 ::1 ::0 ::1 ::1 ::0 ::1 ::1 ::1 ::0 ::1 ::1 ::1 ::1 ::0 ::1 ::1 ::1 ::1 ::0 ::0 ::1 ::1 ::0 ::0 ::1 ::1 ::1 ::0 ::1 ::0 ::1 ::1 ::0 ::1 ::1 ::1 ::1 ::0 ::0 ::1 ::1 ::0 ::1 ::1 ::0 ::1 ::1 ::0 ::1 ::1 ::1 ::1 ::1 ::1 ::0 ::1 ::0 ::1 ::1 ::0 ::1 ::1 ::0 ::1 ::0 ::0 ::1 ::0 ::1 ::1 ::1 ::1 ::0 ::1 ::1 ::1 ::1 ::0 ::1 ::1 ::1 ::1 ::0 ::0 ::1 ::1 ::1 ::0 ::1 ::1 ::1 ::1 ::0 ::1 ::1 ::1 ::1 ::0 ::1 ::1 ::1 ::1 ::0 ::0 ::1 ::1 ::1 ::1 ::1 ::1 ::0 ::1 :: []) (by kernel_rfl)
(.leaf (by kernel_rfl)))

noncomputable def fn_L9_7_t22 : List Dat → Tree Step
  | [] =>
    (.leaf (Step.go [.k 0, .n (23 : Int), .n (23 : Int), .l Ty.str texts]))
  | _ => .bad 0
theorem fn_L9_7_t22_im  : Imp (fn_L9_7_t22 []) (st_L9_7 [.k 0, .n 23, .n 22, .l TS texts]) :=
(.path (1 ::1 ::1 ::1 ::1 ::0 ::1 ::1 ::0 ::1 ::1 ::0 ::1 ::1 ::0 ::1 ::0 ::1 ::1 ::0 ::1 ::1 ::0 ::1 ::1 ::0 ::0 ::1 ::1 ::1 ::1 ::0 ::1 ::1 ::1 ::1 ::1 ::1 ::1 ::1 ::1 ::1 ::0 ::0 ::1 ::1 ::0 ::1 ::0 ::1 ::1 ::1 ::1 ::0 ::1 ::1 ::1 ::1 ::1 ::1 ::1 ::1 ::0 ::1 ::1 ::0 ::1 ::1 ::1 ::0 ::1 ::1 ::1 ::1 ::0 ::1 ::1 ::1 ::1 ::0 ::0 ::1 ::1 ::0 ::0 ::1 ::1 ::1 ::0 ::1 ::0 ::1 ::1 ::0 ::1 ::1 ::1 ::1 ::0 ::0 ::1 ::1 ::0 ::1 ::1 ::0 ::1 ::1 ::0 ::1 ::1 ::1 ::1 ::1 ::1 ::0 ::1 ::0 ::1 ::1 ::0 ::1 ::1 ::0 ::1 ::0 ::0 ::1 ::0 ::1 ::1 ::1 ::1 ::0 ::1 ::1 ::1 ::1 ::0 ::1 ::1 ::1 ::1 ::0 ::0 ::1 ::1 ::1 ::0 ::1 ::1 ::1 ::1 ::0 ::1 ::1 ::1 ::1 ::0 ::1 ::1 ::1 ::1 ::0 ::0 ::1 ::1 ::1 ::1 ::1 ::1 ::0 ::1 :: []) (by kernel_rfl)
(.leaf (by kernel_rfl)))

noncomputable def fn_L9_7_t23 : List Dat → Tree Step
  | [] =>
    (.leaf (Step.stop 0 []))
  | _ => .bad 0
theorem fn_L9_7_t23_im  : Imp (fn_L9_7_t23 []) (st_L9_7 [.k 0, .n 23, .n 23, .l TS texts]) :=
(.path [1,0,1] (by kernel_rfl)
(.leaf (by kernel_rfl)))

theorem ls_9_ok : LsOk Try.prog (0) (lsM [(2, L9_2), (7, L9_7)] (0)) (bodyOf Try.prog 9) := LsOk.many fun j B hB hk c hc hi => by
  simp only [lookM] at hB
  split at hB
  · rename_i e; have := Nat.eq_of_beq_eq_true e; subst this; cases hB
    have e1 : loopAt Try.prog 9 2 = [cAt Try.prog 9 2] := loopAt_one (by kernel_rfl)
    have e2 : c ∈ loopAt Try.prog 9 2 := loopsAt_mem hc hi
    rw [e1] at e2; cases List.mem_singleton.1 e2; exact L9_2_run
  split at hB
  · rename_i e; have := Nat.eq_of_beq_eq_true e; subst this; cases hB
    have e1 : loopAt Try.prog 9 7 = [cAt Try.prog 9 7] := loopAt_one (by kernel_rfl)
    have e2 : c ∈ loopAt Try.prog 9 7 := loopsAt_mem hc hi
    rw [e1] at e2; cases List.mem_singleton.1 e2; exact L9_7_run
  cases hB

noncomputable def ev_W9 (env : List Dat) : Tree Bool := Lk.lawB false LK cs_k7 9 (lsM [(2, L9_2), (7, L9_7)] (0)) (instL [] env)

theorem W9_law (env : List Dat) (h : (ev_W9 env).sel = some true) {w : World} {args : Array Value} (ha : LRel R0 (snapOf w) (instL [] env) args) :
    Calls Try.prog 9 args w fun e w' => e = .returned (.bool true) ∧ Below w.heap.size w w' :=
  lawB_ok cs_k7_ok hmix false (ls := (lsM [(2, L9_2), (7, L9_7)] (0))) (ls_9_ok) (by rw [← lawB_lk]; exact h) ha

noncomputable def fn_W9_t : List Dat → Tree Bool
  | [] =>
    (let r1 : Option (Nat × List Dat) := (op_L9_2 [.k 0, .n (-1 : Int)]);
     (.node (isK 0 [] r1)
      (let r2 : Option (Nat × List Dat) := (op_L9_7 [.k 0, .n (23 : Int), .n (0 : Int), .l Ty.str (List.set (List.set (List.set (List.set (List.set (List.set (List.set (List.set (List.set (List.set (List.set (List.set (List.set (List.set (List.set (List.set (List.set (List.set (List.set (List.set (List.set (List.set (List.set (List.replicate 23 (Ty.dflt Ty.str)) 0 { data := { toList := [] } }) 1 { data := { toList := [(32 : UInt8)] } }) 2 { data := { toList := [(35 : UInt8)] } }) 3 { data := { toList := [(58 : UInt8)] } }) 4 { data := { toList := [(97 : UInt8)] } }) 5 { data := { toList := [(71 : UInt8), (108 : UInt8), (101 : UInt8), (105 : UInt8), (115 : UInt8), (95 : UInt8), (55 : UInt8)] } }) 6 { data := { toList := [(97 : UInt8), (32 : UInt8), (98 : UInt8)] } }) 7 { data := { toList := [(195 : UInt8), (132 : UInt8), (112 : UInt8), (102 : UInt8), (101 : UInt8), (108 : UInt8)] } }) 8 { data := { toList := [(97 : UInt8), (98 : UInt8), (99 : UInt8), (100 : UInt8), (101 : UInt8), (102 : UInt8), (103 : UInt8), (104 : UInt8), (105 : UInt8), (106 : UInt8), (107 : UInt8), (108 : UInt8), (109 : UInt8), (110 : UInt8), (111 : UInt8), (112 : UInt8)] } }) 9 { data := { toList := [(97 : UInt8), (98 : UInt8), (99 : UInt8), (100 : UInt8), (101 : UInt8), (102 : UInt8), (103 : UInt8), (104 : UInt8), (105 : UInt8), (106 : UInt8), (107 : UInt8), (108 : UInt8), (109 : UInt8), (110 : UInt8), (111 : UInt8), (112 : UInt8), (113 : UInt8)] } }) 10 { data := { toList := ((195 : UInt8) :: (164 : UInt8) :: (195 : UInt8) :: (164 : UInt8) :: (195 : UInt8) :: (164 : UInt8) :: (195 : UInt8) :: (164 : UInt8) :: (195 : UInt8) :: (164 : UInt8) :: (195 : UInt8) :: (164 : UInt8) :: (195 : UInt8) :: (164 : UInt8) :: (195 : UInt8) :: (164 : UInt8) :: (195 : UInt8) :: (164 : UInt8) :: (195 : UInt8) :: (164 : UInt8) :: (195 : UInt8) :: (164 : UInt8) :: (195 : UInt8) :: (164 : UInt8) :: (195 : UInt8) :: (164 : UInt8) :: (195 : UInt8) :: (164 : UInt8) :: (195 : UInt8) :: (164 : UInt8) :: (195 : UInt8) :: (164 : UInt8) :: []) } }) 11 { data := { toList := [(255 : UInt8)] } }) 12 { data := { toList := [(97 : UInt8), (255 : UInt8), (98 : UInt8)] } }) 13 { data := { toList := [(97 : UInt8), (32 : UInt8), (35 : UInt8), (32 : UInt8), (255 : UInt8)] } }) 14 { data := { toList := [(239 : UInt8), (191 : UInt8), (189 : UInt8)] } }) 15 { data := { toList := [(97 : UInt8), (239 : UInt8), (191 : UInt8), (189 : UInt8), (32 : UInt8), (98 : UInt8)] } }) 16 { data := { toList := [(239 : UInt8), (191 : UInt8)] } }) 17 { data := { toList := [(10 : UInt8)] } }) 18 { data := { toList := [(97 : UInt8), (10 : UInt8), (98 : UInt8), (10 : UInt8)] } }) 19 { data := { toList := [(10 : UInt8), (10 : UInt8)] } }) 20 { data := { toList := [(32 : UInt8), (114 : UInt8), (111 : UInt8), (117 : UInt8), (116 : UInt8), (101 : UInt8), (32 : UInt8), (82 : UInt8), (49 : UInt8), (32 : UInt8), (32 : UInt8), (58 : UInt8), (32 : UInt8), (83 : UInt8), (50 : UInt8), (32 : UInt8), (35 : UInt8), (32 : UInt8), (120 : UInt8)] } }) 21 { data := { toList := [(240 : UInt8), (159 : UInt8), (152 : UInt8), (128 : UInt8)] } }) 22 { data := { toList := [(237 : UInt8), (160 : UInt8), (128 : UInt8)] } })]);
       (.node (isK 0 [] r2)
        (.leaf (true))
        (.node (isK 1 [HK.b] r2)
         (.leaf (gb (dOf r2) 0))
         (.bad 351))))
      (.node (isK 1 [HK.b] r1)
       (.leaf (gb (dOf r1) 0))
       (.bad 351))))
  | _ => .bad 0
theorem fn_W9_t_im  : Imp (fn_W9_t []) (ev_W9 []) :=
(.node (by kernel_rfl) (by kernel_rfl) (fun h0 =>
(.node (by kernel_rfl) (by kernel_rfl) (fun h1 =>
(.path (1 ::0 ::0 ::1 ::1 ::0 ::1 ::1 ::0 ::1 ::1 ::0 ::1 ::1 ::1 ::1 ::0 ::0 ::1 ::1 ::0 ::0 ::1 ::1 ::0 ::1 ::1 ::0 ::0 ::1 ::0 ::0 ::1 ::1 ::1 ::0 ::0 ::1 ::1 ::1 ::1 ::1 ::1 ::1 ::1 ::0 ::1 ::1 ::0 ::0 ::1 ::1 ::1 ::1 ::1 ::1 ::1 ::0 ::1 ::1 ::1 ::1 ::1 ::1 ::0 ::1 ::1 ::1 ::0 ::1 ::1 ::1 ::1 ::0 ::0 ::1 ::1 ::0 ::0 ::1 ::1 ::1 ::0 ::1 ::0 ::1 ::1 ::0 ::0 ::1 ::1 ::0 ::1 ::1 ::0 ::1 ::1 ::0 ::1 ::1 ::0 ::1 ::0 ::1 ::0 ::0 ::1 ::0 ::1 ::1 ::1 ::1 ::0 ::0 ::1 ::1 ::1 ::0 ::1 ::1 ::1 ::1 ::0 ::0 ::1 ::1 ::1 ::1 ::1 ::1 ::1 ::1 ::0 ::1 ::1 ::0 ::1 ::1 ::0 ::1 ::1 ::0 ::1 ::1 ::0 ::1 ::1 ::0 ::0 ::1 ::1 ::1 ::1 ::0 ::1 ::1 ::1 ::1 ::1 ::1 ::1 ::1 ::1 ::1 ::0 ::0 ::1 ::1 ::0 ::1 ::1 ::1 ::0 ::0 ::1 ::1 ::0 ::1 ::1 ::1 ::1 ::1 ::1 ::0 ::1 ::1 ::1 ::1 ::0 ::1 ::1 ::1 ::1 ::1 ::1 ::1 ::1 ::0 ::1 ::1 ::1 ::1 ::0 ::1 ::1 ::1 ::1 ::1 ::1 ::1 ::0 ::1 ::1 ::1 ::0 ::1 ::1 ::1 ::1 ::0 ::1 ::1 ::1 ::1 ::0 ::0 ::1 ::1 ::0 ::0 ::1 ::1 ::1 ::0 ::1 ::0 ::1 ::1 ::0 ::1 ::1 ::1 ::1 ::0 ::1 ::1 ::1 ::1 ::0 ::0 ::1 ::1 ::0 ::1 ::1 ::0 ::1 ::1 ::1 ::0 ::0 ::1 ::0 ::0 ::1 ::1 ::0 ::0 ::1 ::1 ::0 ::1 ::1 ::0 ::0 ::1 ::1 ::0 ::1 ::1 ::1 ::1 ::1 ::1 ::0 ::1 ::0 ::1 ::1 ::0 ::1 ::1 ::0 ::1 ::1 ::0 ::1 ::1 ::0 ::1 ::0 ::1 ::0 ::0 ::1 ::0 ::0 ::1 ::0 ::1 ::1 ::1 ::1 ::0 ::1 ::1 ::1 ::1 ::0 ::1 ::1 ::1 ::1 ::0 ::1 ::1 ::1 ::1 ::0 ::1 ::1 ::1 ::1 ::0 ::0 ::1 ::1 ::1 ::0 ::1 ::1 ::1 ::1 ::0 ::1 ::1 ::1 ::1 ::0 ::1 ::1 ::1 ::1 ::0 ::1 ::1 ::1 ::1 ::0 ::1 ::1 ::1 ::1 ::0 ::0 ::1 ::1 ::1 ::1 ::1 ::1 ::1 ::1 ::1 ::1 ::1 ::1 ::1 ::1 ::1 ::1 ::1 ::1 ::1 :: []) (by kernel_rfl)
(.leaf (by kernel_rfl)))) (fun h1 =>
(.node (by kernel_rfl) (by kernel_rfl) (fun h2 =>
(.leaf (by kernel_rfl))) (fun h2 =>
.none))))) (fun h0 =>
(.node (by kernel_rfl) (by kernel_rfl) (fun h1 =>
(.leaf (by kernel_rfl))) (fun h1 =>
.none))))
end Go.Proofs.Ytpkmihelefkphaa.Vx
namespace Go.Proofs.Ytpkmihelefkphaa.Vx
open Go Go.RowKit
set_option linter.unusedVariables false
set_option linter.unusedSimpArgs false
set_option maxRecDepth 100000
set_option maxHeartbeats 1000000
theorem enc_size (n : Int) : (Utf8.encode n).size ≤ 4 := by
  unfold Utf8.encode
  generalize (if Utf8.valid n = true then n.toNat else Utf8.runeError) = c
  dsimp only
  by_cases h1 : c < 0x80
  · rw [if_pos h1]; exact Nat.le_of_ble_eq_true rfl
  · rw [if_neg h1]
    by_cases h2 : c < 0x800
    · rw [if_pos h2]; exact Nat.le_of_ble_eq_true rfl
    · rw [if_neg h2]
      by_cases h3 : c < 0x10000
      · rw [if_pos h3]; exact Nat.le_of_ble_eq_true rfl
      · rw [if_neg h3]; exact Nat.le_of_ble_eq_true rfl
theorem w32k {x : Int} (h0 : -2147483648 ≤ x) (h1 : x < 2147483648) : IntKind.wrap .i32 x = x := by unfold IntKind.wrap; simp [IntKind.bits, IntKind.signed]; omega
theorem lp9_2 : op_L9_2 [.k 0, .n (-1 : Int)] = some (0, []) := by
  have h := iterS_count (st := st_L9_2) (fun n => [.k 0, .n (n - 1)]) 201 (0, []) (fun n h0 h1 => ?_) ?_ FU 0 (by omega) (by omega) (by show (201 : Int).toNat < FU; unfold FU; omega)
  · rw [op_L9_2_eq]
    exact h
  · have s := enc_size (n - 1)
    refine fn_L9_2_u_im (n - 1) (by omega) (by omega) _ ?_
    unfold fn_L9_2_u
    refine sel_t (decide_eq_true (by omega)) (sel_t (decide_eq_true (by rw [ByteArray.size_append]; show 1 + _ + 1 ≤ _; omega)) ?_)
    exact congrArg (fun z => some (Step.go [.k 0, .n z])) (by rw [w32k (by omega) (by omega)]; omega)
  · exact fn_L9_2_x_im 200 rfl _ rfl
theorem g3_0 : (st_L9_7 [.k 0, .n 23, .n 0, .l TS texts]).sel = some (.go [.k 0, .n 23, .n 1, .l TS texts]) := fn_L9_7_t0_im _ rfl
theorem g3_1 : (st_L9_7 [.k 0, .n 23, .n 1, .l TS texts]).sel = some (.go [.k 0, .n 23, .n 2, .l TS texts]) := fn_L9_7_t1_im _ rfl
theorem g3_2 : (st_L9_7 [.k 0, .n 23, .n 2, .l TS texts]).sel = some (.go [.k 0, .n 23, .n 3, .l TS texts]) := fn_L9_7_t2_im _ rfl
theorem g3_3 : (st_L9_7 [.k 0, .n 23, .n 3, .l TS texts]).sel = some (.go [.k 0, .n 23, .n 4, .l TS texts]) := fn_L9_7_t3_im _ rfl
theorem g3_4 : (st_L9_7 [.k 0, .n 23, .n 4, .l TS texts]).sel = some (.go [.k 0, .n 23, .n 5, .l TS texts]) := fn_L9_7_t4_im _ rfl
theorem g3_5 : (st_L9_7 [.k 0, .n 23, .n 5, .l TS texts]).sel = some (.go [.k 0, .n 23, .n 6, .l TS texts]) := fn_L9_7_t5_im _ rfl
theorem g3_6 : (st_L9_7 [.k 0, .n 23, .n 6, .l TS texts]).sel = some (.go [.k 0, .n 23, .n 7, .l TS texts]) := fn_L9_7_t6_im _ rfl
theorem g3_7 : (st_L9_7 [.k 0, .n 23, .n 7, .l TS texts]).sel = some (.go [.k 0, .n 23, .n 8, .l TS texts]) := fn_L9_7_t7_im _ rfl
theorem g3_8 : (st_L9_7 [.k 0, .n 23, .n 8, .l TS texts]).sel = some (.go [.k 0, .n 23, .n 9, .l TS texts]) := fn_L9_7_t8_im _ rfl
theorem g3_9 : (st_L9_7 [.k 0, .n 23, .n 9, .l TS texts]).sel = some (.go [.k 0, .n 23, .n 10, .l TS texts]) := fn_L9_7_t9_im _ rfl
theorem g3_10 : (st_L9_7 [.k 0, .n 23, .n 10, .l TS texts]).sel = some (.go [.k 0, .n 23, .n 11, .l TS texts]) := fn_L9_7_t10_im _ rfl
theorem g3_11 : (st_L9_7 [.k 0, .n 23, .n 11, .l TS texts]).sel = some (.go [.k 0, .n 23, .n 12, .l TS texts]) := fn_L9_7_t11_im _ rfl
theorem g3_12 : (st_L9_7 [.k 0, .n 23, .n 12, .l TS texts]).sel = some (.go [.k 0, .n 23, .n 13, .l TS texts]) := fn_L9_7_t12_im _ rfl
theorem g3_13 : (st_L9_7 [.k 0, .n 23, .n 13, .l TS texts]).sel = some (.go [.k 0, .n 23, .n 14, .l TS texts]) := fn_L9_7_t13_im _ rfl
theorem g3_14 : (st_L9_7 [.k 0, .n 23, .n 14, .l TS texts]).sel = some (.go [.k 0, .n 23, .n 15, .l TS texts]) := fn_L9_7_t14_im _ rfl
theorem g3_15 : (st_L9_7 [.k 0, .n 23, .n 15, .l TS texts]).sel = some (.go [.k 0, .n 23, .n 16, .l TS texts]) := fn_L9_7_t15_im _ rfl
theorem g3_16 : (st_L9_7 [.k 0, .n 23, .n 16, .l TS texts]).sel = some (.go [.k 0, .n 23, .n 17, .l TS texts]) := fn_L9_7_t16_im _ rfl
theorem g3_17 : (st_L9_7 [.k 0, .n 23, .n 17, .l TS texts]).sel = some (.go [.k 0, .n 23, .n 18, .l TS texts]) := fn_L9_7_t17_im _ rfl
theorem g3_18 : (st_L9_7 [.k 0, .n 23, .n 18, .l TS texts]).sel = some (.go [.k 0, .n 23, .n 19, .l TS texts]) := fn_L9_7_t18_im _ rfl
theorem g3_19 : (st_L9_7 [.k 0, .n 23, .n 19, .l TS texts]).sel = some (.go [.k 0, .n 23, .n 20, .l TS texts]) := fn_L9_7_t19_im _ rfl
theorem g3_20 : (st_L9_7 [.k 0, .n 23, .n 20, .l TS texts]).sel = some (.go [.k 0, .n 23, .n 21, .l TS texts]) := fn_L9_7_t20_im _ rfl
theorem g3_21 : (st_L9_7 [.k 0, .n 23, .n 21, .l TS texts]).sel = some (.go [.k 0, .n 23, .n 22, .l TS texts]) := fn_L9_7_t21_im _ rfl
theorem g3_22 : (st_L9_7 [.k 0, .n 23, .n 22, .l TS texts]).sel = some (.go [.k 0, .n 23, .n 23, .l TS texts]) := fn_L9_7_t22_im _ rfl
theorem lp9_7 : op_L9_7 [.k 0, .n 23, .n 0, .l TS texts] = some (0, []) := by
  rw [op_L9_7_eq]
  obtain ⟨f, hf⟩ : ∃ f, FU = f + 24 := ⟨FU - 24, by unfold FU; omega⟩
  rw [hf]
  exact ((iter_go (n := f + 23) g3_0).trans ((iter_go (n := f + 22) g3_1).trans ((iter_go (n := f + 21) g3_2).trans ((iter_go (n := f + 20) g3_3).trans ((iter_go (n := f + 19) g3_4).trans ((iter_go (n := f + 18) g3_5).trans ((iter_go (n := f + 17) g3_6).trans ((iter_go (n := f + 16) g3_7).trans ((iter_go (n := f + 15) g3_8).trans ((iter_go (n := f + 14) g3_9).trans ((iter_go (n := f + 13) g3_10).trans ((iter_go (n := f + 12) g3_11).trans ((iter_go (n := f + 11) g3_12).trans ((iter_go (n := f + 10) g3_13).trans ((iter_go (n := f + 9) g3_14).trans ((iter_go (n := f + 8) g3_15).trans ((iter_go (n := f + 7) g3_16).trans ((iter_go (n := f + 6) g3_17).trans ((iter_go (n := f + 5) g3_18).trans ((iter_go (n := f + 4) g3_19).trans ((iter_go (n := f + 3) g3_20).trans ((iter_go (n := f + 2) g3_21).trans ((iter_go (n := f + 1) g3_22).trans (iter_stop (n := f) (k := 0) (d := []) (fn_L9_7_t23_im _ rfl)))))))))))))))))))))))))
theorem W9_true : (ev_W9 []).sel = some true := by
  refine fn_W9_t_im _ ?_
  unfold fn_W9_t
  dsimp only
  erw [lp9_2]
  refine sel_t rfl ?_
  have e := lp9_7
  erw [e]
  exact sel_t rfl rfl
end Go.Proofs.Ytpkmihelefkphaa.Vx
namespace Go.Proofs.Ytpkmihelefkphaa.namesKnown
open Go Go.ChangeShapes Go.WideShapes Go.ChangeAt Go.RowKit Go.Joins Go.Proofs.Ytpkmihelefkphaa.Vx
set_option linter.unusedVariables false
theorem own : ownKnob Try.prog.godebug = none := by kernel_rfl
theorem laidOut : laidOutB Try.prog = true := by kernel_rfl
theorem tys : tysOf Try.prog Try.f9.params.toList = some [] := by kernel_rfl
theorem argsAre  (u : HL []) : argSVs Try.prog Try.f9.params.toList [] u = instL [] [] := by kernel_rfl
set_option maxRecDepth 100000 in
theorem lifted (os : Os) (started : os.Started) (H : Type) (enc : TypeId × Value → H) :
    ReturnsInHanded {} Try.checked os 9 .any (Rows.namesKnownSpec.pre6 enc Try.prog Try.f9 Rows.namesKnownRow.domain false) (Rows.namesKnownSpec.post enc Try.prog Try.f9 false true false false) := by
  refine returnsInHanded_of_change (C := Try.checked) own started (by kernel_rfl) Try.func9
    (ChangeSpec.witness6 (enc := enc) (C := Try.checked) false ⟨#[], #[], []⟩ 8 (by kernel_rfl) (by kernel_rfl) (by kernel_rfl) (by kernel_rfl)) ?_
  intro W base args ds gs before hval0 hW hcnd _
  have hW' := hW
  obtain ⟨p, q, hA, hV, rfl, hfz, hnd⟩ := hW
  obtain ⟨rfl, rfl⟩ := trodVars_none hV
  obtain ⟨u, hwf, hrel⟩ := args_rel (r := R0) _ _ _ _ _ tys hA (fun j t v a b => hval0 j t v (by simp at a) (by simp at a))
  have hrel' : LRel R0 (snapOf W) (instL [] []) args := by
    have := hrel
    rw [argsAre] at this
    exact this
  have hlen : ds.length = 0 := (trodAll_len hA).trans (by kernel_rfl)
  obtain rfl : ds = [] := List.eq_nil_of_length_eq_zero hlen
  refine (W9_law _ W9_true hrel').mono fun e W' ⟨he, bel⟩ => ?_
  subst he
  exact ⟨_, rfl, _, _, _, [], _, [], hW', trodAll_mk1 (shut_bool Try.underlying4 _), trodAll_below laidOut bel _ _ _ _ (by kernel_rfl) hA, rfl, bel.frame _, fun h => by cases h⟩
theorem over : Rows.namesKnownRow.holds Try.pinned (OpenSpec.ofChange Rows.namesKnownSpec) :=
  OpenClaim.holds_of_wide 9 Try.f9 rfl rfl rfl rfl rfl rfl rfl ⟨rfl, rfl, rfl, rfl, rfl⟩ rfl rfl rfl rfl rfl (by kernel_rfl) Try.func9 (by kernel_rfl)
    (of_decide_eq_true (by kernel_rfl)) (by unfold Func.isWrapper; first | (rw [if_pos (by decide +kernel)]; kernel_rfl) | (rw [if_neg (by decide +kernel)]; exact ⟨rfl, rfl⟩))
    (fun os started H enc _ => lifted os started H enc)
theorem proved : Rows.NamesKnownSaid := over
end Go.Proofs.Ytpkmihelefkphaa.namesKnown
