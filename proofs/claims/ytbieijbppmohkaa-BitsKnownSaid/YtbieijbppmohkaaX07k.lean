import Derived.Test.YtbieijbppmohkaaVxIm
import Derived.Test.YtbieijbppmohkaaVxLk
import Derived.Test.YtbieijbppmohkaaVxLaw
import Derived.Test.YtbieijbppmohkaaX07m
import Derived.Test.YtbieijbppmohkaaY07m
import Derived.KernelRfl
namespace Go.Proofs.Ytbieijbppmohkaa.Vx
open Go Go.RowKit
set_option linter.unusedVariables false
set_option linter.unusedSimpArgs false
set_option maxRecDepth 100000
set_option maxHeartbeats 0
noncomputable def op_k3 : List Dat → Option (Nat × List Dat) := lawOpP [.n, .n] (fun d => wfD (.int .u64) (gn d 0))
noncomputable def Bk3 : FBox := mkF [.int .u64 0, .int .i64 1] [] [] [(.bool 0, [])] op_k3
noncomputable def cs_k3 : FuncId → Option CSpec := csLend 3 Bk3 cs_16
theorem Bk3_ok : RunOk Try.prog 3 (boxRun Bk3) := lawBox_ok (op := op_k3) cs_29_ok hmix false (ls := ls0) (LsOk.none _ _ _) fun env x he => by
  obtain ⟨rfl, h, hp⟩ := lawOpP_some he
  refine ⟨rfl, ?_⟩
  obtain ⟨x0, _, rfl, h0⟩ := fits_n h
  obtain ⟨x1, _, rfl, h1⟩ := fits_n h0
  cases fits_nil h1
  rw [← lawB_lk]; exact t3' hp
theorem cs_k3_ok : CsOk Try.prog cs_k3 := csLend_ok cs_16_ok Bk3_ok

noncomputable def op_k4 : List Dat → Option (Nat × List Dat) := lawOp [.l TI]
noncomputable def Bk4 : FBox := mkF [.imm TI 0] [] [] [(.bool 0, [])] op_k4
noncomputable def cs_k4 : FuncId → Option CSpec := csLend 4 Bk4 cs_k3
theorem Bk4_ok : RunOk Try.prog 4 (boxRun Bk4) := lawBox_ok (op := op_k4) cs_29_ok hmix false (ls := ls0) (LsOk.none _ _ _) fun env x he => by
  obtain ⟨rfl, h⟩ := lawOp_some he
  refine ⟨rfl, ?_⟩
  obtain ⟨x0, _, rfl, h0⟩ := fits_l h
  cases fits_nil h0
  rw [← lawB_lk]; exact t4' x0
theorem cs_k4_ok : CsOk Try.prog cs_k4 := csLend_ok cs_k3_ok Bk4_ok

noncomputable def op_k5 : List Dat → Option (Nat × List Dat) := lawOpP [.n] (fun d => wfD (.int .u64) (gn d 0))
noncomputable def Bk5 : FBox := mkF [.int .u64 0] [] [] [(.bool 0, [])] op_k5
noncomputable def cs_k5 : FuncId → Option CSpec := csLend 5 Bk5 cs_k4
theorem Bk5_ok : RunOk Try.prog 5 (boxRun Bk5) := lawBox_ok (op := op_k5) cs_29_ok hmix false (ls := (lsM [(5, L5_5)] (0))) ls_5_ok fun env x he => by
  obtain ⟨rfl, h, hp⟩ := lawOpP_some he
  refine ⟨rfl, ?_⟩
  obtain ⟨x0, _, rfl, h0⟩ := fits_n h
  cases fits_nil h0
  rw [← lawB_lk]; exact t5' hp
theorem cs_k5_ok : CsOk Try.prog cs_k5 := csLend_ok cs_k4_ok Bk5_ok

noncomputable def op_k6 : List Dat → Option (Nat × List Dat) := lawOp [.n]
noncomputable def Bk6 : FBox := mkF [.int .i64 0] [] [] [(.bool 0, [])] op_k6
noncomputable def cs_k6 : FuncId → Option CSpec := csLend 6 Bk6 cs_k5
theorem Bk6_ok : RunOk Try.prog 6 (boxRun Bk6) := lawBox_ok (op := op_k6) cs_29_ok hmix false (ls := ls0) (LsOk.none _ _ _) fun env x he => by
  obtain ⟨rfl, h⟩ := lawOp_some he
  refine ⟨rfl, ?_⟩
  obtain ⟨x0, _, rfl, h0⟩ := fits_n h
  cases fits_nil h0
  rw [← lawB_lk]; exact t6' x0
theorem cs_k6_ok : CsOk Try.prog cs_k6 := csLend_ok cs_k5_ok Bk6_ok

noncomputable def op_k7 : List Dat → Option (Nat × List Dat) := lawOpP [.l TU, .n] (fun d => wfD (.sl TU) (gl TU d 0) && wfD (.int .u64) (gn d 1))
noncomputable def Bk7 : FBox := mkF [.imm TU 0, .int .u64 1] [] [] [(.bool 0, [])] op_k7
noncomputable def cs_k7 : FuncId → Option CSpec := csLend 7 Bk7 cs_k6
theorem Bk7_ok : RunOk Try.prog 7 (boxRun Bk7) := lawBox_ok (op := op_k7) cs_29_ok hmix false (ls := ls0) (LsOk.none _ _ _) fun env x he => by
  obtain ⟨rfl, h, hp⟩ := lawOpP_some he
  refine ⟨rfl, ?_⟩
  obtain ⟨x0, _, rfl, h0⟩ := fits_l h
  obtain ⟨x1, _, rfl, h1⟩ := fits_n h0
  cases fits_nil h1
  rw [Bool.and_eq_true] at hp
  rw [← lawB_lk]; exact t7' hp.1 hp.2
theorem cs_k7_ok : CsOk Try.prog cs_k7 := csLend_ok cs_k6_ok Bk7_ok

noncomputable def op_k8 : List Dat → Option (Nat × List Dat) := lawOpP [.n, .n] (fun d => wfD (.int .u64) (gn d 0))
noncomputable def Bk8 : FBox := mkF [.int .u64 0, .int .i64 1] [] [] [(.bool 0, [])] op_k8
noncomputable def cs_k8 : FuncId → Option CSpec := csLend 8 Bk8 cs_k7
theorem Bk8_ok : RunOk Try.prog 8 (boxRun Bk8) := lawBox_ok (op := op_k8) cs_29_ok hmix false (ls := (lsM [(4, L8_4)] (0))) ls_8_ok fun env x he => by
  obtain ⟨rfl, h, hp⟩ := lawOpP_some he
  refine ⟨rfl, ?_⟩
  obtain ⟨x0, _, rfl, h0⟩ := fits_n h
  obtain ⟨x1, _, rfl, h1⟩ := fits_n h0
  cases fits_nil h1
  rw [← lawB_lk]; exact t8' hp
theorem cs_k8_ok : CsOk Try.prog cs_k8 := csLend_ok cs_k7_ok Bk8_ok

noncomputable def st_L9_2 (env : List Dat) : Tree Step := Lk.stepMC false LK cs_k8 9 2 ls0 (mkM 0 [] [(sh 86 [(1, .int .i64 0)], [])] [] [(.exit 0, sh 86 [], []), (.ret, sh 86 [(0, .bool 0)], [])] fun _ => none) env
theorem op_L9_2_ex : ∃ f : List Dat → Option (Nat × List Dat), ∀ env, f env = iterS st_L9_2 FU env := ⟨iterS st_L9_2 FU, fun _ => rfl⟩
noncomputable def op_L9_2 : List Dat → Option (Nat × List Dat) := Classical.choose op_L9_2_ex
theorem op_L9_2_eq (env : List Dat) : op_L9_2 env = iterS st_L9_2 FU env := Classical.choose_spec op_L9_2_ex env
noncomputable def L9_2 : MBox := mkM 0 [] [(sh 86 [(1, .int .i64 0)], [])] [] [(.exit 0, sh 86 [], []), (.ret, sh 86 [(0, .bool 0)], [])] op_L9_2
theorem L9_2_eqs : L9_2 = mkM 0 [] [(sh 86 [(1, .int .i64 0)], [])] [] [(.exit 0, sh 86 [], []), (.ret, sh 86 [(0, .bool 0)], [])] (iterS st_L9_2 FU) := congrArg (fun f => mkM 0 [] [(sh 86 [(1, .int .i64 0)], [])] [] [(.exit 0, sh 86 [], []), (.ret, sh 86 [(0, .bool 0)], [])] f) (funext op_L9_2_eq)
theorem L9_2_run : ∀ t s x, (manyRun L9_2 t s).sel = some x → CodeOk Try.prog 0 (.loop (cAt Try.prog 9 2)) t s x := by
  rw [L9_2_eqs]
  exact mkM_ok (st := st_L9_2) (m := FU) cs_k8_ok hmix false (LsOk.none _ _ _) (by kernel_rfl) (fun env y h => by rw [← stepMC_lk]; exact h)
theorem op_L9_2_good {p : Nat × List Dat → Prop} (Inv : List Dat → Prop) (μ : List Dat → Nat) (h : ∀ env, Inv env → Good (fun y => match y with | .go e => Inv e ∧ μ e < μ env | .stop k d => p (k, d)) (st_L9_2 env).sel) (env : List Dat) (hi : Inv env) (hm : μ env < FU) : Good p (op_L9_2 env) := by
  rw [op_L9_2_eq]
  exact iterS_good Inv μ p h FU env hi hm

noncomputable def fn_L9_2_t : List Dat → Tree Step
  | [.n n0] =>
    (.node (decide (n0 < (68 : Int)))
     (.node (n0 == (0 : Int))
      (.leaf (Step.go [.k 0, .n (IntKind.wrap .i64 (n0 + (1 : Int)))]))
      (.leaf (Step.go [.k 0, .n (IntKind.wrap .i64 (n0 + (1 : Int)))])))
     (.leaf (Step.stop 0 [])))
  | _ => .bad 0
theorem fn_L9_2_t_im (n0 : Int) : Imp (fn_L9_2_t [.n n0]) (st_L9_2 [.k 0, .n n0]) :=
(.path [1] (by kernel_rfl)
(.node (by kernel_rfl) (by kernel_rfl) (fun h0 =>
(.path [1,1,1,1,0,1,1,0] (by kernel_rfl)
(.node (by kernel_rfl) (by kernel_rfl) (fun h1 =>
(.path [1,1,0,1,1,1,1,0,1,1,0] (by kernel_rfl)
(.pt (by kernel_rfl) (by kernel_rfl) h1
(.path [1,1,0,1,1,1,1,0,1,1,0] (by kernel_rfl)
(.pt (by kernel_rfl) (by kernel_rfl) h1
(.path [1,1,0,1,1,1,1,0,1,1,0] (by kernel_rfl)
(.pt (by kernel_rfl) (by kernel_rfl) h1
(.path [1,1,0,1,1,1,1,0,1,1,0] (by kernel_rfl)
(.pt (by kernel_rfl) (by kernel_rfl) h1
(.path [1,1,0,1,1,1,1,0,1,1,0] (by kernel_rfl)
(.pt (by kernel_rfl) (by kernel_rfl) h1
(.path [1,1,0,1,1,1,1,0,1,1,0] (by kernel_rfl)
(.pt (by kernel_rfl) (by kernel_rfl) h1
(.path [1,1,0,0,1,1,0,1,1,0,1] (by kernel_rfl)
(.leaf (by kernel_rfl)))))))))))))))) (fun h1 =>
(.path [0,0,1,1,1,1,0,1,1,0] (by kernel_rfl)
(.pf (by kernel_rfl) (by kernel_rfl) h1
(.path [0,0,1,1,1,1,0,1,1,0] (by kernel_rfl)
(.pf (by kernel_rfl) (by kernel_rfl) h1
(.path [0,0,1,1,1,1,0,1,1,0] (by kernel_rfl)
(.pf (by kernel_rfl) (by kernel_rfl) h1
(.path [0,0,1,1,1,1,0,1,1,0] (by kernel_rfl)
(.pf (by kernel_rfl) (by kernel_rfl) h1
(.path [0,0,1,1,1,1,0,1,1,0] (by kernel_rfl)
(.pf (by kernel_rfl) (by kernel_rfl) h1
(.path [0,0,1,1,1,1,0,1,1,0] (by kernel_rfl)
(.pf (by kernel_rfl) (by kernel_rfl) h1
(.path [0,0,0,1,1,0,1,1,0,1] (by kernel_rfl)
(.leaf (by kernel_rfl))))))))))))))))))) (fun h0 =>
(.path [1] (by kernel_rfl)
(.leaf (by kernel_rfl))))))

theorem ls_9_ok : LsOk Try.prog (0) (lsM [(2, L9_2)] (0)) (bodyOf Try.prog 9) := LsOk.many fun j B hB hk c hc hi => by
  simp only [lookM] at hB
  split at hB
  · rename_i e; have := Nat.eq_of_beq_eq_true e; subst this; cases hB
    have e1 : loopAt Try.prog 9 2 = [cAt Try.prog 9 2] := loopAt_one (by kernel_rfl)
    have e2 : c ∈ loopAt Try.prog 9 2 := loopsAt_mem hc hi
    rw [e1] at e2; cases List.mem_singleton.1 e2; exact L9_2_run
  cases hB

noncomputable def ev_W9 (env : List Dat) : Tree Bool := Lk.lawB false LK cs_k8 9 (lsM [(2, L9_2)] (0)) (instL [] env)

theorem W9_law (env : List Dat) (h : (ev_W9 env).sel = some true) {w : World} {args : Array Value} (ha : LRel R0 (snapOf w) (instL [] env) args) :
    Calls Try.prog 9 args w fun e w' => e = .returned (.bool true) ∧ Below w.heap.size w w' :=
  lawB_ok cs_k8_ok hmix false (ls := (lsM [(2, L9_2)] (0))) (ls_9_ok) (by rw [← lawB_lk]; exact h) ha

noncomputable def fn_W9_t : List Dat → Tree Bool
  | [] =>
    (let r1 : Option (Nat × List Dat) := (op_L9_2 [.k 0, .n (-3 : Int)]);
     (.node (isK 0 [] r1)
      (.leaf (true))
      (.node (isK 1 [HK.b] r1)
       (.leaf (gb (dOf r1) 0))
       (.bad 351))))
  | _ => .bad 0
theorem fn_W9_t_im  : Imp (fn_W9_t []) (ev_W9 []) :=
(.node (by kernel_rfl) (by kernel_rfl) (fun h0 =>
(.path (1 ::1 ::1 ::1 ::1 ::1 ::1 ::1 ::1 ::1 ::1 ::1 ::1 ::1 ::1 ::1 ::1 ::1 ::1 ::1 ::1 ::1 ::1 ::1 ::1 ::1 ::1 ::1 ::1 ::1 ::1 ::1 ::1 ::1 ::1 ::1 ::1 ::1 ::1 ::1 ::1 ::1 ::1 ::1 ::1 ::1 ::1 ::1 ::1 ::1 ::1 ::1 ::1 ::1 ::1 ::1 ::1 ::1 ::1 ::1 ::1 ::1 ::1 ::1 ::1 ::1 ::1 ::1 ::1 ::1 ::1 ::1 ::1 ::1 ::1 ::1 ::1 ::1 ::1 ::1 ::1 ::1 ::1 ::1 ::1 ::1 ::1 ::1 ::1 ::1 ::1 ::1 ::1 ::1 ::1 ::1 ::1 ::1 ::1 ::1 ::1 ::1 ::1 ::1 ::1 ::1 ::1 ::1 ::1 ::1 ::1 ::1 ::1 ::1 ::1 ::1 ::1 ::1 ::1 ::1 ::1 ::1 ::1 ::1 ::1 ::1 ::1 ::1 ::1 ::1 ::1 ::1 ::1 ::1 ::1 ::1 ::1 ::1 ::1 ::1 ::1 ::1 ::1 ::1 ::1 ::1 ::1 ::1 ::1 ::1 ::1 ::1 ::1 ::1 ::1 ::1 ::1 ::1 ::1 ::1 ::1 ::1 ::1 ::1 ::1 ::1 ::1 ::1 ::1 ::1 ::1 ::1 ::1 ::1 ::1 ::1 ::1 ::1 ::1 ::1 ::1 ::1 ::1 ::1 ::1 ::1 ::1 ::1 ::1 ::1 ::1 ::1 ::1 ::1 ::1 ::1 ::1 ::1 ::1 ::1 ::1 ::1 ::1 ::1 ::1 ::1 ::1 ::1 ::1 ::1 ::1 ::1 ::1 ::1 ::1 ::1 ::1 ::1 ::1 ::1 ::1 ::1 ::1 ::1 ::1 ::1 ::1 ::1 ::1 ::1 ::1 ::1 ::1 ::1 ::1 ::1 ::1 ::1 ::1 ::1 ::1 ::1 ::1 ::1 ::1 ::1 ::1 ::1 ::1 ::1 ::1 ::1 ::1 ::1 ::1 ::1 ::1 ::1 ::1 ::1 ::1 ::1 ::1 ::1 ::1 ::1 ::1 ::1 ::1 ::1 ::1 ::1 ::1 ::1 ::1 ::1 ::1 ::1 ::1 ::1 ::0 ::1 ::1 ::1 ::1 ::1 ::1 ::1 ::1 ::1 ::1 ::1 ::1 ::1 ::1 ::1 ::1 ::1 ::1 ::1 ::1 ::1 ::1 ::1 ::1 ::1 ::1 ::1 ::1 ::1 :: []) (by kernel_rfl)
(.leaf (by kernel_rfl)))) (fun h0 =>
(.node (by kernel_rfl) (by kernel_rfl) (fun h1 =>
(.leaf (by kernel_rfl))) (fun h1 =>
.none))))
end Go.Proofs.Ytbieijbppmohkaa.Vx
