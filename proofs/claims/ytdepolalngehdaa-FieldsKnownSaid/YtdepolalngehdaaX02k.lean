import Derived.Test.YtdepolalngehdaaVxIm
import Derived.Test.YtdepolalngehdaaVxLk
import Derived.Test.YtdepolalngehdaaVxLaw
import Derived.Test.YtdepolalngehdaaX02
import Derived.Test.YtdepolalngehdaaY02x
import Derived.KernelRfl
namespace Go.Proofs.Ytdepolalngehdaa.Vx
open Go Go.RowKit
set_option linter.unusedVariables false
set_option linter.unusedSimpArgs false
set_option maxRecDepth 100000
set_option maxHeartbeats 0
noncomputable def op_k3 : List Dat → Option (Nat × List Dat) := lawOpP [.l TIt] (fun d => wfD (.sl TIt) (gl TIt d 0))
noncomputable def Bk3 : FBox := mkF [.imm TIt 0] [] [] [(.bool 0, [])] op_k3
noncomputable def cs_k3 : FuncId → Option CSpec := csLend 3 Bk3 cs_9
theorem Bk3_ok : RunOk Try.prog 3 (boxRun Bk3) := lawBox_ok (op := op_k3) cs_8_ok hmix false (ls := (lsM [(6, L3_6)] (0))) ls_3_ok fun env x he => by
  obtain ⟨rfl, h, hp⟩ := lawOpP_some he
  refine ⟨rfl, ?_⟩
  obtain ⟨x0, _, rfl, h0⟩ := fits_l h
  cases fits_nil h0
  rw [← lawB_lk]; exact t3 x0 hp
theorem cs_k3_ok : CsOk Try.prog cs_k3 := csLend_ok cs_9_ok Bk3_ok

noncomputable def op_k4 : List Dat → Option (Nat × List Dat) := lawOpP [.l TB, .l TIt] (fun d => wfD (.sl TB) (gl TB d 0) && wfD (.sl TIt) (gl TIt d 1))
noncomputable def Bk4 : FBox := mkF [.imm TB 0, .imm TIt 1] [] [] [(.bool 0, [])] op_k4
noncomputable def cs_k4 : FuncId → Option CSpec := csLend 4 Bk4 cs_k3
theorem Bk4_ok : RunOk Try.prog 4 (boxRun Bk4) := lawBox_ok (op := op_k4) cs_8_ok hmix false (ls := (lsM [(7, L4_7)] (0))) ls_4_ok fun env x he => by
  obtain ⟨rfl, h, hp⟩ := lawOpP_some he
  refine ⟨rfl, ?_⟩
  obtain ⟨x0, _, rfl, h0⟩ := fits_l h
  obtain ⟨x1, _, rfl, h1⟩ := fits_l h0
  cases fits_nil h1
  rw [Bool.and_eq_true] at hp
  rw [← lawB_lk]; exact t4' hp.1 hp.2
theorem cs_k4_ok : CsOk Try.prog cs_k4 := csLend_ok cs_k3_ok Bk4_ok

noncomputable def op_k5 : List Dat → Option (Nat × List Dat) := lawOpP [.l TIt, .l TB] (fun d => wfD (.sl TIt) (gl TIt d 0) && wfD (.sl TB) (gl TB d 1))
noncomputable def Bk5 : FBox := mkF [.imm TIt 0, .imm TB 1] [] [] [(.bool 0, [])] op_k5
noncomputable def cs_k5 : FuncId → Option CSpec := csLend 5 Bk5 cs_k4
theorem Bk5_ok : RunOk Try.prog 5 (boxRun Bk5) := lawBox_ok (op := op_k5) cs_8_ok hmix false (ls := (lsM [(5, L5_5), (11, L5_11)] (0))) ls_5_ok fun env x he => by
  obtain ⟨rfl, h, hp⟩ := lawOpP_some he
  refine ⟨rfl, ?_⟩
  obtain ⟨x0, _, rfl, h0⟩ := fits_l h
  obtain ⟨x1, _, rfl, h1⟩ := fits_l h0
  cases fits_nil h1
  rw [Bool.and_eq_true] at hp
  rw [← lawB_lk]; exact t5' hp.1 hp.2
theorem cs_k5_ok : CsOk Try.prog cs_k5 := csLend_ok cs_k4_ok Bk5_ok

noncomputable def op_k6 : List Dat → Option (Nat × List Dat) := lawOpP [.n, .n, .n] (fun d => (wfD (.int .u64) (gn d 0) && wfD (.int .u64) (gn d 1)) && wfD (.int .u8) (gn d 2))
noncomputable def Bk6 : FBox := mkF [.int .u64 0, .int .u64 1, .int .u8 2] [] [] [(.bool 0, [])] op_k6
noncomputable def cs_k6 : FuncId → Option CSpec := csLend 6 Bk6 cs_k5
theorem Bk6_ok : RunOk Try.prog 6 (boxRun Bk6) := lawBox_ok (op := op_k6) cs_8_ok hmix false (ls := ls0) (LsOk.none _ _ _) fun env x he => by
  obtain ⟨rfl, h, hp⟩ := lawOpP_some he
  refine ⟨rfl, ?_⟩
  obtain ⟨x0, _, rfl, h0⟩ := fits_n h
  obtain ⟨x1, _, rfl, h1⟩ := fits_n h0
  obtain ⟨x2, _, rfl, h2⟩ := fits_n h1
  cases fits_nil h2
  rw [Bool.and_eq_true, Bool.and_eq_true] at hp
  rw [← lawB_lk]; exact t6' hp.1.1 hp.1.2 hp.2
theorem cs_k6_ok : CsOk Try.prog cs_k6 := csLend_ok cs_k5_ok Bk6_ok

noncomputable def ev_W7 (env : List Dat) : Tree Bool := Lk.lawB false LK cs_k6 7 ls0 (instL [] env)

theorem W7_law (env : List Dat) (h : (ev_W7 env).sel = some true) {w : World} {args : Array Value} (ha : LRel R0 (snapOf w) (instL [] env) args) :
    Calls Try.prog 7 args w fun e w' => e = .returned (.bool true) ∧ Below w.heap.size w w' :=
  lawB_ok cs_k6_ok hmix false (ls := ls0) (LsOk.none _ _ _) (by rw [← lawB_lk]; exact h) ha

noncomputable def fn_W7_t : List Dat → Tree Bool
  | [] =>
    (.leaf (true))
  | _ => .bad 0
theorem fn_W7_t_im  : Imp (fn_W7_t []) (ev_W7 []) :=
(.path (1 ::1 ::1 ::1 ::1 ::1 ::1 ::1 ::1 ::1 ::1 ::1 ::1 ::1 ::1 ::1 ::1 ::1 ::1 ::1 ::1 ::1 ::1 ::1 ::1 ::1 ::1 ::1 ::1 ::1 ::1 ::1 ::1 ::1 ::1 ::1 ::1 ::1 ::1 ::0 ::1 ::1 ::1 ::1 ::1 ::1 ::1 ::1 ::1 ::0 ::0 ::1 ::1 ::1 ::1 ::1 ::1 ::1 ::1 ::1 ::0 ::0 ::0 ::1 ::1 ::1 ::1 ::1 ::1 ::1 ::1 ::1 ::0 ::0 ::0 ::0 ::1 ::1 ::1 ::1 ::1 ::1 ::1 ::1 ::1 ::1 ::1 ::1 ::1 ::1 ::1 ::1 ::1 ::1 ::1 ::1 ::0 ::1 ::1 ::0 ::1 ::1 ::0 ::1 ::1 ::1 ::0 ::1 ::1 ::0 ::1 ::1 ::0 ::1 ::1 ::1 ::0 ::1 ::1 ::0 ::1 ::1 ::0 ::1 ::1 ::1 ::0 ::1 ::1 ::0 ::1 ::1 ::0 ::1 ::1 ::1 ::0 ::1 ::1 ::0 ::1 ::1 ::0 ::0 ::1 ::1 ::1 ::1 ::1 ::1 ::0 ::1 ::1 ::0 ::1 ::1 ::0 ::1 ::1 ::1 ::0 ::1 ::1 ::0 ::1 ::1 ::0 ::1 ::1 ::1 ::0 ::1 ::1 ::0 ::1 ::1 ::0 ::1 ::1 ::1 ::0 ::1 ::1 ::0 ::1 ::1 ::0 ::1 ::1 ::1 ::0 ::1 ::1 ::0 ::1 ::1 ::0 ::0 ::1 ::1 ::1 ::1 ::1 ::1 ::0 ::1 ::1 ::0 ::1 ::1 ::0 ::1 ::1 ::1 ::0 ::1 ::1 ::0 ::1 ::1 ::0 ::1 ::1 ::1 ::0 ::1 ::1 ::0 ::1 ::1 ::0 ::1 ::1 ::1 ::0 ::1 ::1 ::0 ::1 ::1 ::0 ::1 ::1 ::1 ::0 ::1 ::1 ::0 ::1 ::1 ::0 ::0 ::1 ::1 ::1 ::1 ::1 ::1 ::0 ::1 ::1 ::0 ::1 ::1 ::0 ::1 ::1 ::1 ::0 ::1 ::1 ::0 ::1 ::1 ::0 ::1 ::1 ::1 ::0 ::1 ::1 ::0 ::1 ::1 ::0 ::1 ::1 ::1 ::0 ::1 ::1 ::0 ::1 ::1 ::0 ::1 ::1 ::1 ::0 ::1 ::1 ::0 ::1 ::1 ::0 ::0 ::1 ::1 ::1 ::1 ::1 ::1 ::0 ::1 ::1 ::0 ::1 ::1 ::0 ::1 ::1 ::1 ::0 ::1 ::1 ::0 ::1 ::1 ::0 ::1 ::1 ::1 ::0 ::1 ::1 ::0 ::1 ::1 ::0 ::1 ::1 ::1 ::0 ::1 ::1 ::0 ::1 ::1 ::0 ::1 ::1 ::1 ::0 ::1 ::1 ::0 ::1 ::1 ::0 ::0 ::1 ::1 ::1 ::1 ::1 ::1 ::0 ::1 ::1 ::0 ::1 ::1 ::0 ::1 ::1 ::1 ::0 ::1 ::1 ::0 ::1 ::1 ::0 ::1 ::1 ::1 ::0 ::1 ::1 ::0 ::1 ::1 ::0 ::1 ::1 ::1 ::0 ::1 ::1 ::0 ::1 ::1 ::0 ::1 ::1 ::1 ::0 ::1 ::1 ::0 ::1 ::1 ::0 ::0 ::1 ::1 ::1 ::1 ::1 ::1 ::0 ::1 ::1 ::0 ::1 ::1 ::0 ::1 ::1 ::1 ::0 ::1 ::1 ::0 ::1 ::1 ::0 ::1 ::1 ::1 ::0 ::1 ::1 ::0 ::1 ::1 ::0 ::1 ::1 ::1 ::0 ::1 ::1 ::0 ::1 ::1 ::0 ::1 ::1 ::1 ::0 ::1 ::1 ::0 ::1 ::1 ::0 ::0 ::1 ::1 ::1 ::1 ::1 ::1 ::0 ::1 ::1 ::0 ::1 ::1 ::0 ::1 ::1 ::1 ::0 ::1 ::1 ::0 ::1 ::1 ::0 ::1 ::1 ::1 ::0 ::1 ::1 ::0 ::1 ::1 ::0 ::1 ::1 ::1 ::0 ::1 ::1 ::0 ::1 ::1 ::0 ::1 ::1 ::1 ::0 ::1 ::1 ::0 ::1 ::1 ::0 ::0 ::1 ::1 ::1 ::1 ::1 ::1 ::0 ::1 ::1 ::0 ::1 ::1 ::0 ::1 ::1 ::1 ::0 ::1 ::1 ::0 ::1 ::1 ::0 ::1 ::1 ::1 ::0 ::1 ::1 ::0 ::1 ::1 ::0 ::1 ::1 ::1 ::0 ::1 ::1 ::0 ::1 ::1 ::0 ::1 ::1 ::1 ::0 ::1 ::1 ::0 ::1 ::1 ::0 ::0 ::1 ::1 ::1 ::1 ::1 ::1 ::0 ::1 ::1 ::0 ::1 ::1 ::0 ::1 ::1 ::1 ::0 ::1 ::1 ::0 ::1 ::1 ::0 ::1 ::1 ::1 ::0 ::1 ::1 ::0 ::1 ::1 ::0 ::1 ::1 ::1 ::0 ::1 ::1 ::0 ::1 ::1 ::0 ::1 ::1 ::1 ::0 ::1 ::1 ::0 ::1 ::1 ::0 ::0 ::0 ::1 ::1 ::1 ::1 ::1 ::1 ::1 ::1 ::1 ::1 ::1 ::1 ::1 :: []) (by kernel_rfl)
(.leaf (by kernel_rfl)))
end Go.Proofs.Ytdepolalngehdaa.Vx
