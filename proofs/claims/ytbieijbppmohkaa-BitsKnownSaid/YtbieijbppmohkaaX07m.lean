import Derived.Test.YtbieijbppmohkaaVxIm
import Derived.Test.YtbieijbppmohkaaVxLk
import Derived.Test.YtbieijbppmohkaaVxLaw
import Derived.Test.YtbieijbppmohkaaZ07m
import Derived.KernelRfl
namespace Go.Proofs.Ytbieijbppmohkaa.Vx
open Go Go.RowKit
set_option linter.unusedVariables false
set_option linter.unusedSimpArgs false
set_option maxRecDepth 100000
set_option maxHeartbeats 0
def op_16 : List Dat → Option (Nat × List Dat) := fun _ => some (0, [.b true])
def B16 : FBox := mkF [] [] [] [(.bool 0, [])] op_16
theorem fn_16_ok (env : List Dat) (y : Nat × List Dat) (h : op_16 env = some y) : (boxC true Try.prog cs_P 16 ls0 (mkF [] [] [] [(.bool 0, [])] fun _ => none) env).sel = some y := by
  cases h
  rw [← boxC_lk]
  kernel_rfl
theorem B16_ok : RunOk Try.prog 16 (boxRun B16) := mkF_ok (op := op_16) cs_P_ok hmix true (LsOk.none _ _ _) fn_16_ok

noncomputable def cs_16 : FuncId → Option CSpec := csAdd 16 [B16] cs_P
theorem cs_16_ok : CsOk Try.prog cs_16 := csAdd_ok cs_P_ok fun B hB => by
  cases List.mem_singleton.1 hB
  exact B16_ok
end Go.Proofs.Ytbieijbppmohkaa.Vx
namespace Go.Proofs.Ytbieijbppmohkaa.Vx
open Go Go.RowKit
set_option linter.unusedVariables false
theorem opq_ex (f : List Dat → Option (Nat × List Dat)) : ∃ g : List Dat → Option (Nat × List Dat), ∀ env, g env = f env := ⟨f, fun _ => rfl⟩
noncomputable def op_19 : List Dat → Option (Nat × List Dat) := Classical.choose (opq_ex opp_19)
theorem op_19_eq (env : List Dat) : op_19 env = opp_19 env := Classical.choose_spec (opq_ex opp_19) env
noncomputable def op_24 : List Dat → Option (Nat × List Dat) := Classical.choose (opq_ex opp_24)
theorem op_24_eq (env : List Dat) : op_24 env = opp_24 env := Classical.choose_spec (opq_ex opp_24) env
noncomputable def op_28 : List Dat → Option (Nat × List Dat) := Classical.choose (opq_ex opp_28)
theorem op_28_eq (env : List Dat) : op_28 env = opp_28 env := Classical.choose_spec (opq_ex opp_28) env
noncomputable def B19 : FBox := mkF [.int .u64 0] [] [] [(.own 0, [.arr (.int .i64) 0])] op_19
noncomputable def B24 : FBox := mkF [.int .u64 0] [] [] [(.int .i64 0, [])] op_24
noncomputable def B28 : FBox := mkF [.imm TU 0, .int .u64 1] [] [] [(.int .u64 0, [])] op_28
noncomputable def cs_O : FuncId → Option CSpec := csLend 28 B28 (csLend 24 B24 (csLend 19 B19 cs_16))
theorem cs_O_ok : CsOk Try.prog cs_O := csLend_ok (csLend_ok (csLend_ok cs_16_ok (RunOk.ext op_19_eq b19)) (RunOk.ext op_24_eq b24)) (RunOk.ext op_28_eq b28)
end Go.Proofs.Ytbieijbppmohkaa.Vx
namespace Go.Proofs.Ytbieijbppmohkaa.Vx
open Go Go.RowKit
set_option linter.unusedVariables false
set_option linter.unusedSimpArgs false
set_option maxRecDepth 100000
set_option maxHeartbeats 0
noncomputable def st_L31_3 (env : List Dat) : Tree Step := Lk.stepMC false LK cs_O 31 3 ls0 (mkM 0 [] [(sh 13 [(0, .int .i64 0), (3, .int .u64 1), (4, .int .i64 2)], [])] [] [(.exit 0, sh 13 [(3, .int .u64 0)], [])] fun _ => none) env
theorem op_L31_3_ex : ∃ f : List Dat → Option (Nat × List Dat), ∀ env, f env = iterS st_L31_3 FU env := ⟨iterS st_L31_3 FU, fun _ => rfl⟩
noncomputable def op_L31_3 : List Dat → Option (Nat × List Dat) := Classical.choose op_L31_3_ex
theorem op_L31_3_eq (env : List Dat) : op_L31_3 env = iterS st_L31_3 FU env := Classical.choose_spec op_L31_3_ex env
noncomputable def L31_3 : MBox := mkM 0 [] [(sh 13 [(0, .int .i64 0), (3, .int .u64 1), (4, .int .i64 2)], [])] [] [(.exit 0, sh 13 [(3, .int .u64 0)], [])] op_L31_3
theorem L31_3_eqs : L31_3 = mkM 0 [] [(sh 13 [(0, .int .i64 0), (3, .int .u64 1), (4, .int .i64 2)], [])] [] [(.exit 0, sh 13 [(3, .int .u64 0)], [])] (iterS st_L31_3 FU) := congrArg (fun f => mkM 0 [] [(sh 13 [(0, .int .i64 0), (3, .int .u64 1), (4, .int .i64 2)], [])] [] [(.exit 0, sh 13 [(3, .int .u64 0)], [])] f) (funext op_L31_3_eq)
theorem L31_3_run : ∀ t s x, (manyRun L31_3 t s).sel = some x → CodeOk Try.prog 0 (.loop (cAt Try.prog 31 3)) t s x := by
  rw [L31_3_eqs]
  exact mkM_ok (st := st_L31_3) (m := FU) cs_O_ok hmix false (LsOk.none _ _ _) (by kernel_rfl) (fun env y h => by rw [← stepMC_lk]; exact h)
theorem op_L31_3_good {p : Nat × List Dat → Prop} (Inv : List Dat → Prop) (μ : List Dat → Nat) (h : ∀ env, Inv env → Good (fun y => match y with | .go e => Inv e ∧ μ e < μ env | .stop k d => p (k, d)) (st_L31_3 env).sel) (env : List Dat) (hi : Inv env) (hm : μ env < FU) : Good p (op_L31_3 env) := by
  rw [op_L31_3_eq]
  exact iterS_good Inv μ p h FU env hi hm

noncomputable def fn_L31_3_t : List Dat → Tree Step
  | [.n n0, .n n1, .n n2] =>
    (.node (decide (n2 < n0))
     (.leaf (Step.go [.k 0, .n n0, .n (IntKind.wrap .u64 (n1 * (2 : Int))), .n (IntKind.wrap .i64 (n2 + (1 : Int)))]))
     (.leaf (Step.stop 0 [.n n1])))
  | _ => .bad 0
theorem fn_L31_3_t_im (n0 : Int) (n1 : Int) (n2 : Int) : Imp (fn_L31_3_t [.n n0, .n n1, .n n2]) (st_L31_3 [.k 0, .n n0, .n n1, .n n2]) :=
(.path [1] (by kernel_rfl)
(.node (by kernel_rfl) (by kernel_rfl) (fun h0 =>
(.path [1] (by kernel_rfl)
(.leaf (by kernel_rfl)))) (fun h0 =>
(.path [1] (by kernel_rfl)
(.leaf (by kernel_rfl))))))

theorem ls_31_ok : LsOk Try.prog (List.length ([] : List PB)) (lsM [(3, L31_3)] (List.length ([] : List PB))) (bodyOf Try.prog 31) := LsOk.many fun j B hB hk c hc hi => by
  simp only [lookM] at hB
  split at hB
  · rename_i e; have := Nat.eq_of_beq_eq_true e; subst this; cases hB
    have e1 : loopAt Try.prog 31 3 = [cAt Try.prog 31 3] := loopAt_one (by kernel_rfl)
    have e2 : c ∈ loopAt Try.prog 31 3 := loopsAt_mem hc hi
    rw [e1] at e2; cases List.mem_singleton.1 e2; exact L31_3_run
  cases hB

noncomputable def ev_31 (env : List Dat) : Tree (Nat × List Dat) := Lk.boxC false LK cs_O 31 (lsM [(3, L31_3)] (List.length ([] : List PB))) (mkF [.int .i64 0] [] [] [(.int .u64 0, [])] fun _ => none) env
theorem op_31_ex : ∃ f : List Dat → Option (Nat × List Dat), ∀ env, f env = (ev_31 env).sel := ⟨fun env => (ev_31 env).sel, fun _ => rfl⟩
noncomputable def op_31 : List Dat → Option (Nat × List Dat) := Classical.choose op_31_ex
theorem op_31_eq (env : List Dat) : op_31 env = (ev_31 env).sel := Classical.choose_spec op_31_ex env
noncomputable def B31 : FBox := mkF [.int .i64 0] [] [] [(.int .u64 0, [])] op_31
theorem B31_ok : RunOk Try.prog 31 (boxRun B31) := mkF_ok (op := op_31) cs_O_ok hmix false (ls_31_ok) (fun env x h => by rw [op_31_eq] at h; rw [← boxC_lk]; exact h)
theorem op_31_good {p : Nat × List Dat → Prop} {T : Tree (Nat × List Dat)} {env : List Dat} (h : Imp T (ev_31 env)) (g : Good p T.sel) : Good p (op_31 env) := by
  rw [op_31_eq]
  exact h.good g

noncomputable def fn_31_t : List Dat → Tree (Nat × List Dat)
  | [.n n0] =>
    (let r1 : Option (Nat × List Dat) := (op_L31_3 [.k 0, .n n0, .n (1 : Int), .n (0 : Int)]);
     (.node (isK 0 [HK.n] r1)
      (.leaf ((0, [.n (gn (dOf r1) 0)])))
      (.bad 351)))
  | _ => .bad 0
theorem fn_31_t_im (n0 : Int) : Imp (fn_31_t [.n n0]) (ev_31 [.n n0]) :=
(.node (by kernel_rfl) (by kernel_rfl) (fun h0 =>
(.path [1] (by kernel_rfl)
(.leaf (by kernel_rfl)))) (fun h0 =>
.none))

noncomputable def cs_31 : FuncId → Option CSpec := csLend 31 B31 cs_O
theorem cs_31_ok : CsOk Try.prog cs_31 := csLend_ok cs_O_ok B31_ok

noncomputable def ev_10 (env : List Dat) : Tree (Nat × List Dat) := Lk.boxC false LK cs_31 10 ls0 (mkF [.int .u64 0, .int .i64 1] [] [] [(.bool 0, [])] fun _ => none) env
theorem op_10_ex : ∃ f : List Dat → Option (Nat × List Dat), ∀ env, f env = (ev_10 env).sel := ⟨fun env => (ev_10 env).sel, fun _ => rfl⟩
noncomputable def op_10 : List Dat → Option (Nat × List Dat) := Classical.choose op_10_ex
theorem op_10_eq (env : List Dat) : op_10 env = (ev_10 env).sel := Classical.choose_spec op_10_ex env
noncomputable def B10 : FBox := mkF [.int .u64 0, .int .i64 1] [] [] [(.bool 0, [])] op_10
theorem B10_ok : RunOk Try.prog 10 (boxRun B10) := mkF_ok (op := op_10) cs_31_ok hmix false (LsOk.none _ _ _) (fun env x h => by rw [op_10_eq] at h; rw [← boxC_lk]; exact h)
theorem op_10_good {p : Nat × List Dat → Prop} {T : Tree (Nat × List Dat)} {env : List Dat} (h : Imp T (ev_10 env)) (g : Good p T.sel) : Good p (op_10 env) := by
  rw [op_10_eq]
  exact h.good g

noncomputable def fn_10_t : List Dat → Tree (Nat × List Dat)
  | [.n n0, .n n1] =>
    (.node (decide (n1 ≥ (0 : Int)))
     (.node (decide (n1 < (64 : Int)))
      (.leaf ((0, [.b (iand IntKind.u64 (ishr IntKind.u64 n0 n1) (1 : Int) == (1 : Int))])))
      (.leaf ((0, [.b false]))))
     (.leaf ((0, [.b false]))))
  | _ => .bad 0
theorem fn_10_t_im (n0 : Int) (n1 : Int) : Imp (fn_10_t [.n n0, .n n1]) (ev_10 [.n n0, .n n1]) :=
(.path [1] (by kernel_rfl)
(.node (by kernel_rfl) (by kernel_rfl) (fun h0 =>
(.path [1] (by kernel_rfl)
(.node (by kernel_rfl) (by kernel_rfl) (fun h1 =>
(.pt (c := (!decide (n1 < (0 : Int)))) (by kernel_rfl) (by kernel_rfl) (by (simp only [w64d, decide_eq_true_eq, decide_eq_false_iff_not, beq_iff_eq, beq_eq_false_iff_ne, bne_iff_ne, ne_eq, inR, Bool.and_eq_true, Bool.and_eq_false_iff, Bool.not_eq_true', Bool.not_eq_false', Bool.not_eq_eq_eq_not, Bool.not_true, Bool.not_false] at *; omega))
(.path [1] (by kernel_rfl)
(.leaf (by kernel_rfl))))) (fun h1 =>
(.path [0,1] (by kernel_rfl)
(.leaf (by kernel_rfl))))))) (fun h0 =>
(.path [0,1,0,0,1] (by kernel_rfl)
(.leaf (by kernel_rfl))))))

noncomputable def cs_10 : FuncId → Option CSpec := csLend 10 B10 cs_31
theorem cs_10_ok : CsOk Try.prog cs_10 := csLend_ok cs_31_ok B10_ok

noncomputable def ev_11 (env : List Dat) : Tree (Nat × List Dat) := Lk.boxC false LK cs_10 11 ls0 (mkF [.int .u64 0, .int .i64 1] [] [] [(.bool 0, [])] fun _ => none) env
theorem op_11_ex : ∃ f : List Dat → Option (Nat × List Dat), ∀ env, f env = (ev_11 env).sel := ⟨fun env => (ev_11 env).sel, fun _ => rfl⟩
noncomputable def op_11 : List Dat → Option (Nat × List Dat) := Classical.choose op_11_ex
theorem op_11_eq (env : List Dat) : op_11 env = (ev_11 env).sel := Classical.choose_spec op_11_ex env
noncomputable def B11 : FBox := mkF [.int .u64 0, .int .i64 1] [] [] [(.bool 0, [])] op_11
theorem B11_ok : RunOk Try.prog 11 (boxRun B11) := mkF_ok (op := op_11) cs_10_ok hmix false (LsOk.none _ _ _) (fun env x h => by rw [op_11_eq] at h; rw [← boxC_lk]; exact h)
theorem op_11_good {p : Nat × List Dat → Prop} {T : Tree (Nat × List Dat)} {env : List Dat} (h : Imp T (ev_11 env)) (g : Good p T.sel) : Good p (op_11 env) := by
  rw [op_11_eq]
  exact h.good g

noncomputable def fn_11_t : List Dat → Tree (Nat × List Dat)
  | [.n n0, .n n1] =>
    (.node (decide (n1 ≥ (0 : Int)))
     (.node (decide (n1 ≤ (63 : Int)))
      (let r1 : Option (Nat × List Dat) := (op_31 [.n n1]);
       (.node (isK 0 [HK.n] r1)
        (.node (!decide (gn (dOf r1) 0 = (0 : Int)))
         (.leaf ((0, [.b (Int.tmod (IntKind.wrap .u64 (Int.tdiv n0 (gn (dOf r1) 0))) (2 : Int) == (1 : Int))])))
         (.bad 80))
        (.bad 351)))
      (.leaf ((0, [.b false]))))
     (.leaf ((0, [.b false]))))
  | _ => .bad 0
theorem fn_11_t_im (n0 : Int) (n1 : Int) : Imp (fn_11_t [.n n0, .n n1]) (ev_11 [.n n0, .n n1]) :=
(.node (by kernel_rfl) (by kernel_rfl) (fun h0 =>
(.node (by kernel_rfl) (by kernel_rfl) (fun h1 =>
(.node (by kernel_rfl) (by kernel_rfl) (fun h2 =>
(.path [1] (by kernel_rfl)
(.node (by kernel_rfl) (by kernel_rfl) (fun h3 =>
(.path [1,1] (by kernel_rfl)
(.leaf (by kernel_rfl)))) (fun h3 =>
.none)))) (fun h2 =>
.none))) (fun h1 =>
(.path [0,1] (by kernel_rfl)
(.leaf (by kernel_rfl)))))) (fun h0 =>
(.path [0,0,0,1] (by kernel_rfl)
(.leaf (by kernel_rfl)))))

noncomputable def cs_11 : FuncId → Option CSpec := csLend 11 B11 cs_10
theorem cs_11_ok : CsOk Try.prog cs_11 := csLend_ok cs_10_ok B11_ok

noncomputable def ev_12 (env : List Dat) : Tree (Nat × List Dat) := Lk.boxC false LK cs_11 12 ls0 (mkF [.int .u64 0, .int .i64 1] [] [] [(.int .u64 0, [])] fun _ => none) env
theorem op_12_ex : ∃ f : List Dat → Option (Nat × List Dat), ∀ env, f env = (ev_12 env).sel := ⟨fun env => (ev_12 env).sel, fun _ => rfl⟩
noncomputable def op_12 : List Dat → Option (Nat × List Dat) := Classical.choose op_12_ex
theorem op_12_eq (env : List Dat) : op_12 env = (ev_12 env).sel := Classical.choose_spec op_12_ex env
noncomputable def B12 : FBox := mkF [.int .u64 0, .int .i64 1] [] [] [(.int .u64 0, [])] op_12
theorem B12_ok : RunOk Try.prog 12 (boxRun B12) := mkF_ok (op := op_12) cs_11_ok hmix false (LsOk.none _ _ _) (fun env x h => by rw [op_12_eq] at h; rw [← boxC_lk]; exact h)
theorem op_12_good {p : Nat × List Dat → Prop} {T : Tree (Nat × List Dat)} {env : List Dat} (h : Imp T (ev_12 env)) (g : Good p T.sel) : Good p (op_12 env) := by
  rw [op_12_eq]
  exact h.good g

noncomputable def fn_12_t : List Dat → Tree (Nat × List Dat)
  | [.n n0, .n n1] =>
    (.node (decide (n1 ≥ (0 : Int)))
     (.node (!decide (n1 < (64 : Int)))
      (.leaf ((0, [.n n0])))
      (.leaf ((0, [.n (ior IntKind.u64 n0 (ishl IntKind.u64 (1 : Int) n1))]))))
     (.leaf ((0, [.n n0]))))
  | _ => .bad 0
theorem fn_12_t_im (n0 : Int) (n1 : Int) : Imp (fn_12_t [.n n0, .n n1]) (ev_12 [.n n0, .n n1]) :=
(.path [1] (by kernel_rfl)
(.node (by kernel_rfl) (by kernel_rfl) (fun h0 =>
(.path [1] (by kernel_rfl)
(.node (by kernel_rfl) (by kernel_rfl) (fun h1 =>
(.path [1] (by kernel_rfl)
(.leaf (by kernel_rfl)))) (fun h1 =>
(.pt (c := (!decide (n1 < (0 : Int)))) (by kernel_rfl) (by kernel_rfl) (by (simp only [w64d, decide_eq_true_eq, decide_eq_false_iff_not, beq_iff_eq, beq_eq_false_iff_ne, bne_iff_ne, ne_eq, inR, Bool.and_eq_true, Bool.and_eq_false_iff, Bool.not_eq_true', Bool.not_eq_false', Bool.not_eq_eq_eq_not, Bool.not_true, Bool.not_false] at *; omega))
(.path [1] (by kernel_rfl)
(.leaf (by kernel_rfl)))))))) (fun h0 =>
(.path [0,1,1,1] (by kernel_rfl)
(.leaf (by kernel_rfl))))))

noncomputable def cs_12 : FuncId → Option CSpec := csLend 12 B12 cs_11
theorem cs_12_ok : CsOk Try.prog cs_12 := csLend_ok cs_11_ok B12_ok

noncomputable def ev_13 (env : List Dat) : Tree (Nat × List Dat) := Lk.boxC false LK cs_12 13 ls0 (mkF [.int .u64 0, .int .i64 1] [] [] [(.int .u64 0, [])] fun _ => none) env
theorem op_13_ex : ∃ f : List Dat → Option (Nat × List Dat), ∀ env, f env = (ev_13 env).sel := ⟨fun env => (ev_13 env).sel, fun _ => rfl⟩
noncomputable def op_13 : List Dat → Option (Nat × List Dat) := Classical.choose op_13_ex
theorem op_13_eq (env : List Dat) : op_13 env = (ev_13 env).sel := Classical.choose_spec op_13_ex env
noncomputable def B13 : FBox := mkF [.int .u64 0, .int .i64 1] [] [] [(.int .u64 0, [])] op_13
theorem B13_ok : RunOk Try.prog 13 (boxRun B13) := mkF_ok (op := op_13) cs_12_ok hmix false (LsOk.none _ _ _) (fun env x h => by rw [op_13_eq] at h; rw [← boxC_lk]; exact h)
theorem op_13_good {p : Nat × List Dat → Prop} {T : Tree (Nat × List Dat)} {env : List Dat} (h : Imp T (ev_13 env)) (g : Good p T.sel) : Good p (op_13 env) := by
  rw [op_13_eq]
  exact h.good g

noncomputable def fn_13_t : List Dat → Tree (Nat × List Dat)
  | [.n n0, .n n1] =>
    (.node (decide (n1 < (0 : Int)))
     (.leaf ((0, [.n n0])))
     (.node (decide (n1 > (63 : Int)))
      (.leaf ((0, [.n n0])))
      (let r1 : Option (Nat × List Dat) := (op_11 [.n n0, .n n1]);
       (.node (isK 0 [HK.b] r1)
        (.node (gb (dOf r1) 0)
         (.leaf ((0, [.n n0])))
         (let r2 : Option (Nat × List Dat) := (op_31 [.n n1]);
          (.node (isK 0 [HK.n] r2)
           (.leaf ((0, [.n (IntKind.wrap .u64 (n0 + gn (dOf r2) 0))])))
           (.bad 351))))
        (.bad 351)))))
  | _ => .bad 0
theorem fn_13_t_im (n0 : Int) (n1 : Int) : Imp (fn_13_t [.n n0, .n n1]) (ev_13 [.n n0, .n n1]) :=
(.node (by kernel_rfl) (by kernel_rfl) (fun h0 =>
(.path [1,1,1,1,1] (by kernel_rfl)
(.leaf (by kernel_rfl)))) (fun h0 =>
(.node (by kernel_rfl) (by kernel_rfl) (fun h1 =>
(.path [1,1,1] (by kernel_rfl)
(.leaf (by kernel_rfl)))) (fun h1 =>
(.node (by kernel_rfl) (by kernel_rfl) (fun h2 =>
(.path [1] (by kernel_rfl)
(.node (by kernel_rfl) (by kernel_rfl) (fun h3 =>
(.path [1] (by kernel_rfl)
(.leaf (by kernel_rfl)))) (fun h3 =>
(.node (by kernel_rfl) (by kernel_rfl) (fun h4 =>
(.path [1,1] (by kernel_rfl)
(.leaf (by kernel_rfl)))) (fun h4 =>
.none)))))) (fun h2 =>
.none))))))

noncomputable def cs_13 : FuncId → Option CSpec := csLend 13 B13 cs_12
theorem cs_13_ok : CsOk Try.prog cs_13 := csLend_ok cs_12_ok B13_ok

noncomputable def ev_14 (env : List Dat) : Tree (Nat × List Dat) := Lk.boxC false LK cs_13 14 ls0 (mkF [.int .u64 0, .int .i64 1] [] [] [(.int .u64 0, [])] fun _ => none) env
theorem op_14_ex : ∃ f : List Dat → Option (Nat × List Dat), ∀ env, f env = (ev_14 env).sel := ⟨fun env => (ev_14 env).sel, fun _ => rfl⟩
noncomputable def op_14 : List Dat → Option (Nat × List Dat) := Classical.choose op_14_ex
theorem op_14_eq (env : List Dat) : op_14 env = (ev_14 env).sel := Classical.choose_spec op_14_ex env
noncomputable def B14 : FBox := mkF [.int .u64 0, .int .i64 1] [] [] [(.int .u64 0, [])] op_14
theorem B14_ok : RunOk Try.prog 14 (boxRun B14) := mkF_ok (op := op_14) cs_13_ok hmix false (LsOk.none _ _ _) (fun env x h => by rw [op_14_eq] at h; rw [← boxC_lk]; exact h)
theorem op_14_good {p : Nat × List Dat → Prop} {T : Tree (Nat × List Dat)} {env : List Dat} (h : Imp T (ev_14 env)) (g : Good p T.sel) : Good p (op_14 env) := by
  rw [op_14_eq]
  exact h.good g

noncomputable def fn_14_t : List Dat → Tree (Nat × List Dat)
  | [.n n0, .n n1] =>
    (.node (decide (n1 ≥ (0 : Int)))
     (.node (!decide (n1 < (64 : Int)))
      (.leaf ((0, [.n n0])))
      (.leaf ((0, [.n (iandnot IntKind.u64 n0 (ishl IntKind.u64 (1 : Int) n1))]))))
     (.leaf ((0, [.n n0]))))
  | _ => .bad 0
theorem fn_14_t_im (n0 : Int) (n1 : Int) : Imp (fn_14_t [.n n0, .n n1]) (ev_14 [.n n0, .n n1]) :=
(.path [1] (by kernel_rfl)
(.node (by kernel_rfl) (by kernel_rfl) (fun h0 =>
(.path [1] (by kernel_rfl)
(.node (by kernel_rfl) (by kernel_rfl) (fun h1 =>
(.path [1] (by kernel_rfl)
(.leaf (by kernel_rfl)))) (fun h1 =>
(.pt (c := (!decide (n1 < (0 : Int)))) (by kernel_rfl) (by kernel_rfl) (by (simp only [w64d, decide_eq_true_eq, decide_eq_false_iff_not, beq_iff_eq, beq_eq_false_iff_ne, bne_iff_ne, ne_eq, inR, Bool.and_eq_true, Bool.and_eq_false_iff, Bool.not_eq_true', Bool.not_eq_false', Bool.not_eq_eq_eq_not, Bool.not_true, Bool.not_false] at *; omega))
(.path [1] (by kernel_rfl)
(.leaf (by kernel_rfl)))))))) (fun h0 =>
(.path [0,1,1,1] (by kernel_rfl)
(.leaf (by kernel_rfl))))))

noncomputable def cs_14 : FuncId → Option CSpec := csLend 14 B14 cs_13
theorem cs_14_ok : CsOk Try.prog cs_14 := csLend_ok cs_13_ok B14_ok

noncomputable def ev_15 (env : List Dat) : Tree (Nat × List Dat) := Lk.boxC false LK cs_14 15 ls0 (mkF [.int .u64 0, .int .i64 1] [] [] [(.int .u64 0, [])] fun _ => none) env
theorem op_15_ex : ∃ f : List Dat → Option (Nat × List Dat), ∀ env, f env = (ev_15 env).sel := ⟨fun env => (ev_15 env).sel, fun _ => rfl⟩
noncomputable def op_15 : List Dat → Option (Nat × List Dat) := Classical.choose op_15_ex
theorem op_15_eq (env : List Dat) : op_15 env = (ev_15 env).sel := Classical.choose_spec op_15_ex env
noncomputable def B15 : FBox := mkF [.int .u64 0, .int .i64 1] [] [] [(.int .u64 0, [])] op_15
theorem B15_ok : RunOk Try.prog 15 (boxRun B15) := mkF_ok (op := op_15) cs_14_ok hmix false (LsOk.none _ _ _) (fun env x h => by rw [op_15_eq] at h; rw [← boxC_lk]; exact h)
theorem op_15_good {p : Nat × List Dat → Prop} {T : Tree (Nat × List Dat)} {env : List Dat} (h : Imp T (ev_15 env)) (g : Good p T.sel) : Good p (op_15 env) := by
  rw [op_15_eq]
  exact h.good g

noncomputable def fn_15_t : List Dat → Tree (Nat × List Dat)
  | [.n n0, .n n1] =>
    (let r1 : Option (Nat × List Dat) := (op_11 [.n n0, .n n1]);
     (.node (isK 0 [HK.b] r1)
      (.node (!gb (dOf r1) 0)
       (.leaf ((0, [.n n0])))
       (let r2 : Option (Nat × List Dat) := (op_31 [.n n1]);
        (.node (isK 0 [HK.n] r2)
         (.leaf ((0, [.n (IntKind.wrap .u64 (n0 - gn (dOf r2) 0))])))
         (.bad 351))))
      (.bad 351)))
  | _ => .bad 0
theorem fn_15_t_im (n0 : Int) (n1 : Int) : Imp (fn_15_t [.n n0, .n n1]) (ev_15 [.n n0, .n n1]) :=
(.node (by kernel_rfl) (by kernel_rfl) (fun h0 =>
(.path [1] (by kernel_rfl)
(.node (by kernel_rfl) (by kernel_rfl) (fun h1 =>
(.path [1] (by kernel_rfl)
(.leaf (by kernel_rfl)))) (fun h1 =>
(.node (by kernel_rfl) (by kernel_rfl) (fun h2 =>
(.path [1,1] (by kernel_rfl)
(.leaf (by kernel_rfl)))) (fun h2 =>
.none)))))) (fun h0 =>
.none))

noncomputable def cs_15 : FuncId → Option CSpec := csLend 15 B15 cs_14
theorem cs_15_ok : CsOk Try.prog cs_15 := csLend_ok cs_14_ok B15_ok

noncomputable def st_L17_3 (env : List Dat) : Tree Step := Lk.stepMC false LK cs_15 17 3 ls0 (mkM 0 [] [(sh 17 [(3, .int .u64 0), (6, .imm TI 1), (7, .int .i64 2), (8, .int .i64 3)], [])] [] [(.exit 0, sh 17 [(3, .int .u64 0)], [])] fun _ => none) env
theorem op_L17_3_ex : ∃ f : List Dat → Option (Nat × List Dat), ∀ env, f env = iterS st_L17_3 FU env := ⟨iterS st_L17_3 FU, fun _ => rfl⟩
noncomputable def op_L17_3 : List Dat → Option (Nat × List Dat) := Classical.choose op_L17_3_ex
theorem op_L17_3_eq (env : List Dat) : op_L17_3 env = iterS st_L17_3 FU env := Classical.choose_spec op_L17_3_ex env
noncomputable def L17_3 : MBox := mkM 0 [] [(sh 17 [(3, .int .u64 0), (6, .imm TI 1), (7, .int .i64 2), (8, .int .i64 3)], [])] [] [(.exit 0, sh 17 [(3, .int .u64 0)], [])] op_L17_3
theorem L17_3_eqs : L17_3 = mkM 0 [] [(sh 17 [(3, .int .u64 0), (6, .imm TI 1), (7, .int .i64 2), (8, .int .i64 3)], [])] [] [(.exit 0, sh 17 [(3, .int .u64 0)], [])] (iterS st_L17_3 FU) := congrArg (fun f => mkM 0 [] [(sh 17 [(3, .int .u64 0), (6, .imm TI 1), (7, .int .i64 2), (8, .int .i64 3)], [])] [] [(.exit 0, sh 17 [(3, .int .u64 0)], [])] f) (funext op_L17_3_eq)
theorem L17_3_run : ∀ t s x, (manyRun L17_3 t s).sel = some x → CodeOk Try.prog 0 (.loop (cAt Try.prog 17 3)) t s x := by
  rw [L17_3_eqs]
  exact mkM_ok (st := st_L17_3) (m := FU) cs_15_ok hmix false (LsOk.none _ _ _) (by kernel_rfl) (fun env y h => by rw [← stepMC_lk]; exact h)
theorem op_L17_3_good {p : Nat × List Dat → Prop} (Inv : List Dat → Prop) (μ : List Dat → Nat) (h : ∀ env, Inv env → Good (fun y => match y with | .go e => Inv e ∧ μ e < μ env | .stop k d => p (k, d)) (st_L17_3 env).sel) (env : List Dat) (hi : Inv env) (hm : μ env < FU) : Good p (op_L17_3 env) := by
  rw [op_L17_3_eq]
  exact iterS_good Inv μ p h FU env hi hm

noncomputable def fn_L17_3_t : List Dat → Tree Step
  | [.n n0, .l (Ty.int IntKind.i64) l1, .n n2, .n n3] =>
    (.node (decide (n3 < n2))
     (let r1 : Option (Nat × List Dat) := (op_12 [.n n0, .n (List.getD l1 (Int.toNat n3) (0 : Int))]);
      (.node (isK 0 [HK.n] r1)
       (.leaf (Step.go [.k 0, .n (gn (dOf r1) 0), .l (Ty.int IntKind.i64) l1, .n n2, .n (IntKind.wrap .i64 (n3 + (1 : Int)))]))
       (.bad 351)))
     (.leaf (Step.stop 0 [.n n0])))
  | _ => .bad 0
theorem fn_L17_3_t_im (n0 : Int) (l1 : List (Ty.den (Ty.int IntKind.i64))) (n2 : Int) (n3 : Int) (g0 : 0 ≤ n3) (g1 :  n2 = (l1.length : Int)) : Imp (fn_L17_3_t [.n n0, .l (Ty.int IntKind.i64) l1, .n n2, .n n3]) (st_L17_3 [.k 0, .n n0, .l TI l1, .n n2, .n n3]) :=
(.path [1] (by kernel_rfl)
(.node (by kernel_rfl) (by kernel_rfl) (fun h0 =>
(.pt (c := (inR n3 (List.length l1))) (by kernel_rfl) (by kernel_rfl) (by (simp only [w64d, decide_eq_true_eq, decide_eq_false_iff_not, beq_iff_eq, beq_eq_false_iff_ne, bne_iff_ne, ne_eq, inR, Bool.and_eq_true, Bool.and_eq_false_iff, Bool.not_eq_true', Bool.not_eq_false', Bool.not_eq_eq_eq_not, Bool.not_true, Bool.not_false] at *; omega))
(.node (by kernel_rfl) (by kernel_rfl) (fun h1 =>
(.path [1,1] (by kernel_rfl)
(.leaf (by kernel_rfl)))) (fun h1 =>
.none)))) (fun h0 =>
(.path [1] (by kernel_rfl)
(.leaf (by kernel_rfl))))))

theorem ls_17_ok : LsOk Try.prog (List.length ([] : List PB)) (lsM [(3, L17_3)] (List.length ([] : List PB))) (bodyOf Try.prog 17) := LsOk.many fun j B hB hk c hc hi => by
  simp only [lookM] at hB
  split at hB
  · rename_i e; have := Nat.eq_of_beq_eq_true e; subst this; cases hB
    have e1 : loopAt Try.prog 17 3 = [cAt Try.prog 17 3] := loopAt_one (by kernel_rfl)
    have e2 : c ∈ loopAt Try.prog 17 3 := loopsAt_mem hc hi
    rw [e1] at e2; cases List.mem_singleton.1 e2; exact L17_3_run
  cases hB

noncomputable def ev_17 (env : List Dat) : Tree (Nat × List Dat) := Lk.boxC false LK cs_15 17 (lsM [(3, L17_3)] (List.length ([] : List PB))) (mkF [.imm TI 0] [] [] [(.int .u64 0, [])] fun _ => none) env
theorem op_17_ex : ∃ f : List Dat → Option (Nat × List Dat), ∀ env, f env = (ev_17 env).sel := ⟨fun env => (ev_17 env).sel, fun _ => rfl⟩
noncomputable def op_17 : List Dat → Option (Nat × List Dat) := Classical.choose op_17_ex
theorem op_17_eq (env : List Dat) : op_17 env = (ev_17 env).sel := Classical.choose_spec op_17_ex env
noncomputable def B17 : FBox := mkF [.imm TI 0] [] [] [(.int .u64 0, [])] op_17
theorem B17_ok : RunOk Try.prog 17 (boxRun B17) := mkF_ok (op := op_17) cs_15_ok hmix false (ls_17_ok) (fun env x h => by rw [op_17_eq] at h; rw [← boxC_lk]; exact h)
theorem op_17_good {p : Nat × List Dat → Prop} {T : Tree (Nat × List Dat)} {env : List Dat} (h : Imp T (ev_17 env)) (g : Good p T.sel) : Good p (op_17 env) := by
  rw [op_17_eq]
  exact h.good g

noncomputable def fn_17_t : List Dat → Tree (Nat × List Dat)
  | [.l (Ty.int IntKind.i64) l0] =>
    (let r1 : Option (Nat × List Dat) := (op_L17_3 [.k 0, .n (0 : Int), .l (Ty.int IntKind.i64) l0, .n (↑(List.length l0) : Int), .n (0 : Int)]);
     (.node (isK 0 [HK.n] r1)
      (.leaf ((0, [.n (gn (dOf r1) 0)])))
      (.bad 351)))
  | _ => .bad 0
theorem fn_17_t_im (l0 : List (Ty.den (Ty.int IntKind.i64))) : Imp (fn_17_t [.l (Ty.int IntKind.i64) l0]) (ev_17 [.l TI l0]) :=
(.node (by kernel_rfl) (by kernel_rfl) (fun h0 =>
(.path [1] (by kernel_rfl)
(.leaf (by kernel_rfl)))) (fun h0 =>
.none))

noncomputable def cs_17 : FuncId → Option CSpec := csLend 17 B17 cs_15
theorem cs_17_ok : CsOk Try.prog cs_17 := csLend_ok cs_15_ok B17_ok

noncomputable def st_L18_3 (env : List Dat) : Tree Step := Lk.stepMC false LK cs_17 18 3 ls0 (mkM 0 [] [(sh 18 [(0, .imm TI 0), (3, .int .u64 1), (4, .int .i64 2)], [])] [] [(.exit 0, sh 18 [(3, .int .u64 0)], [])] fun _ => none) env
theorem op_L18_3_ex : ∃ f : List Dat → Option (Nat × List Dat), ∀ env, f env = iterS st_L18_3 FU env := ⟨iterS st_L18_3 FU, fun _ => rfl⟩
noncomputable def op_L18_3 : List Dat → Option (Nat × List Dat) := Classical.choose op_L18_3_ex
theorem op_L18_3_eq (env : List Dat) : op_L18_3 env = iterS st_L18_3 FU env := Classical.choose_spec op_L18_3_ex env
noncomputable def L18_3 : MBox := mkM 0 [] [(sh 18 [(0, .imm TI 0), (3, .int .u64 1), (4, .int .i64 2)], [])] [] [(.exit 0, sh 18 [(3, .int .u64 0)], [])] op_L18_3
theorem L18_3_eqs : L18_3 = mkM 0 [] [(sh 18 [(0, .imm TI 0), (3, .int .u64 1), (4, .int .i64 2)], [])] [] [(.exit 0, sh 18 [(3, .int .u64 0)], [])] (iterS st_L18_3 FU) := congrArg (fun f => mkM 0 [] [(sh 18 [(0, .imm TI 0), (3, .int .u64 1), (4, .int .i64 2)], [])] [] [(.exit 0, sh 18 [(3, .int .u64 0)], [])] f) (funext op_L18_3_eq)
theorem L18_3_run : ∀ t s x, (manyRun L18_3 t s).sel = some x → CodeOk Try.prog 0 (.loop (cAt Try.prog 18 3)) t s x := by
  rw [L18_3_eqs]
  exact mkM_ok (st := st_L18_3) (m := FU) cs_17_ok hmix false (LsOk.none _ _ _) (by kernel_rfl) (fun env y h => by rw [← stepMC_lk]; exact h)
theorem op_L18_3_good {p : Nat × List Dat → Prop} (Inv : List Dat → Prop) (μ : List Dat → Nat) (h : ∀ env, Inv env → Good (fun y => match y with | .go e => Inv e ∧ μ e < μ env | .stop k d => p (k, d)) (st_L18_3 env).sel) (env : List Dat) (hi : Inv env) (hm : μ env < FU) : Good p (op_L18_3 env) := by
  rw [op_L18_3_eq]
  exact iterS_good Inv μ p h FU env hi hm

noncomputable def fn_L18_3_t : List Dat → Tree Step
  | [.l (Ty.int IntKind.i64) l0, .n n1, .n n2] =>
    (.node (decide (n2 < (↑(List.length l0) : Int)))
     (let r1 : Option (Nat × List Dat) := (op_13 [.n n1, .n (List.getD l0 (Int.toNat n2) (0 : Int))]);
      (.node (isK 0 [HK.n] r1)
       (.leaf (Step.go [.k 0, .l (Ty.int IntKind.i64) l0, .n (gn (dOf r1) 0), .n (IntKind.wrap .i64 (n2 + (1 : Int)))]))
       (.bad 351)))
     (.leaf (Step.stop 0 [.n n1])))
  | _ => .bad 0
theorem fn_L18_3_t_im (l0 : List (Ty.den (Ty.int IntKind.i64))) (n1 : Int) (n2 : Int) (g0 : 0 ≤ n2) : Imp (fn_L18_3_t [.l (Ty.int IntKind.i64) l0, .n n1, .n n2]) (st_L18_3 [.k 0, .l TI l0, .n n1, .n n2]) :=
(.path [1] (by kernel_rfl)
(.node (by kernel_rfl) (by kernel_rfl) (fun h0 =>
(.pt (c := (inR n2 (List.length l0))) (by kernel_rfl) (by kernel_rfl) (by (simp only [w64d, decide_eq_true_eq, decide_eq_false_iff_not, beq_iff_eq, beq_eq_false_iff_ne, bne_iff_ne, ne_eq, inR, Bool.and_eq_true, Bool.and_eq_false_iff, Bool.not_eq_true', Bool.not_eq_false', Bool.not_eq_eq_eq_not, Bool.not_true, Bool.not_false] at *; omega))
(.node (by kernel_rfl) (by kernel_rfl) (fun h1 =>
(.path [1,1] (by kernel_rfl)
(.leaf (by kernel_rfl)))) (fun h1 =>
.none)))) (fun h0 =>
(.path [1] (by kernel_rfl)
(.leaf (by kernel_rfl))))))

theorem ls_18_ok : LsOk Try.prog (List.length ([] : List PB)) (lsM [(3, L18_3)] (List.length ([] : List PB))) (bodyOf Try.prog 18) := LsOk.many fun j B hB hk c hc hi => by
  simp only [lookM] at hB
  split at hB
  · rename_i e; have := Nat.eq_of_beq_eq_true e; subst this; cases hB
    have e1 : loopAt Try.prog 18 3 = [cAt Try.prog 18 3] := loopAt_one (by kernel_rfl)
    have e2 : c ∈ loopAt Try.prog 18 3 := loopsAt_mem hc hi
    rw [e1] at e2; cases List.mem_singleton.1 e2; exact L18_3_run
  cases hB

noncomputable def ev_18 (env : List Dat) : Tree (Nat × List Dat) := Lk.boxC false LK cs_17 18 (lsM [(3, L18_3)] (List.length ([] : List PB))) (mkF [.imm TI 0] [] [] [(.int .u64 0, [])] fun _ => none) env
theorem op_18_ex : ∃ f : List Dat → Option (Nat × List Dat), ∀ env, f env = (ev_18 env).sel := ⟨fun env => (ev_18 env).sel, fun _ => rfl⟩
noncomputable def op_18 : List Dat → Option (Nat × List Dat) := Classical.choose op_18_ex
theorem op_18_eq (env : List Dat) : op_18 env = (ev_18 env).sel := Classical.choose_spec op_18_ex env
noncomputable def B18 : FBox := mkF [.imm TI 0] [] [] [(.int .u64 0, [])] op_18
theorem B18_ok : RunOk Try.prog 18 (boxRun B18) := mkF_ok (op := op_18) cs_17_ok hmix false (ls_18_ok) (fun env x h => by rw [op_18_eq] at h; rw [← boxC_lk]; exact h)
theorem op_18_good {p : Nat × List Dat → Prop} {T : Tree (Nat × List Dat)} {env : List Dat} (h : Imp T (ev_18 env)) (g : Good p T.sel) : Good p (op_18 env) := by
  rw [op_18_eq]
  exact h.good g

noncomputable def fn_18_t : List Dat → Tree (Nat × List Dat)
  | [.l (Ty.int IntKind.i64) l0] =>
    (let r1 : Option (Nat × List Dat) := (op_L18_3 [.k 0, .l (Ty.int IntKind.i64) l0, .n (0 : Int), .n (0 : Int)]);
     (.node (isK 0 [HK.n] r1)
      (.leaf ((0, [.n (gn (dOf r1) 0)])))
      (.bad 351)))
  | _ => .bad 0
theorem fn_18_t_im (l0 : List (Ty.den (Ty.int IntKind.i64))) : Imp (fn_18_t [.l (Ty.int IntKind.i64) l0]) (ev_18 [.l TI l0]) :=
(.node (by kernel_rfl) (by kernel_rfl) (fun h0 =>
(.path [1] (by kernel_rfl)
(.leaf (by kernel_rfl)))) (fun h0 =>
.none))

noncomputable def cs_18 : FuncId → Option CSpec := csLend 18 B18 cs_17
theorem cs_18_ok : CsOk Try.prog cs_18 := csLend_ok cs_17_ok B18_ok

noncomputable def st_L20_3 (env : List Dat) : Tree Step := Lk.stepMC false LK cs_18 20 3 ls0 (mkM 0 [] [(sh 17 [(0, .int .u64 0), (3, .own 0), (4, .int .i64 1)], [.arr TI 2])] [(3, TI)] [(.exit 0, sh 17 [(3, .own 0)], [.arr TI 0])] fun _ => none) env
theorem op_L20_3_ex : ∃ f : List Dat → Option (Nat × List Dat), ∀ env, f env = iterS st_L20_3 FU env := ⟨iterS st_L20_3 FU, fun _ => rfl⟩
noncomputable def op_L20_3 : List Dat → Option (Nat × List Dat) := Classical.choose op_L20_3_ex
theorem op_L20_3_eq (env : List Dat) : op_L20_3 env = iterS st_L20_3 FU env := Classical.choose_spec op_L20_3_ex env
noncomputable def L20_3 : MBox := mkM 0 [] [(sh 17 [(0, .int .u64 0), (3, .own 0), (4, .int .i64 1)], [.arr TI 2])] [(3, TI)] [(.exit 0, sh 17 [(3, .own 0)], [.arr TI 0])] op_L20_3
theorem L20_3_eqs : L20_3 = mkM 0 [] [(sh 17 [(0, .int .u64 0), (3, .own 0), (4, .int .i64 1)], [.arr TI 2])] [(3, TI)] [(.exit 0, sh 17 [(3, .own 0)], [.arr TI 0])] (iterS st_L20_3 FU) := congrArg (fun f => mkM 0 [] [(sh 17 [(0, .int .u64 0), (3, .own 0), (4, .int .i64 1)], [.arr TI 2])] [(3, TI)] [(.exit 0, sh 17 [(3, .own 0)], [.arr TI 0])] f) (funext op_L20_3_eq)
theorem L20_3_run : ∀ t s x, (manyRun L20_3 t s).sel = some x → CodeOk Try.prog 0 (.loop (cAt Try.prog 20 3)) t s x := by
  rw [L20_3_eqs]
  exact mkM_ok (st := st_L20_3) (m := FU) cs_18_ok hmix false (LsOk.none _ _ _) (by kernel_rfl) (fun env y h => by rw [← stepMC_lk]; exact h)
theorem op_L20_3_good {p : Nat × List Dat → Prop} (Inv : List Dat → Prop) (μ : List Dat → Nat) (h : ∀ env, Inv env → Good (fun y => match y with | .go e => Inv e ∧ μ e < μ env | .stop k d => p (k, d)) (st_L20_3 env).sel) (env : List Dat) (hi : Inv env) (hm : μ env < FU) : Good p (op_L20_3 env) := by
  rw [op_L20_3_eq]
  exact iterS_good Inv μ p h FU env hi hm

noncomputable def fn_L20_3_t : List Dat → Tree Step
  | [.n n0, .n n1, .l (Ty.int IntKind.i64) l2] =>
    (.node (decide (n1 < (64 : Int)))
     (let r1 : Option (Nat × List Dat) := (op_11 [.n n0, .n n1]);
      (.node (isK 0 [HK.b] r1)
       (.node (gb (dOf r1) 0)
        (.node (decide ((List.length l2 + 1) * 8 ≤ 140737488355328))
         (.leaf (Step.go [.k 0, .n n0, .n (IntKind.wrap .i64 (n1 + (1 : Int))), .l (Ty.int IntKind.i64) (l2 ++ [n1])]))
         (.bad 62))
        (.leaf (Step.go [.k 0, .n n0, .n (IntKind.wrap .i64 (n1 + (1 : Int))), .l (Ty.int IntKind.i64) l2])))
       (.bad 351)))
     (.leaf (Step.stop 0 [.l (Ty.int IntKind.i64) l2])))
  | _ => .bad 0
theorem fn_L20_3_t_im (n0 : Int) (n1 : Int) (l2 : List (Ty.den (Ty.int IntKind.i64))) : Imp (fn_L20_3_t [.n n0, .n n1, .l (Ty.int IntKind.i64) l2]) (st_L20_3 [.k 0, .n n0, .n n1, .l TI l2]) :=
(.path [1] (by kernel_rfl)
(.node (by kernel_rfl) (by kernel_rfl) (fun h0 =>
(.node (by kernel_rfl) (by kernel_rfl) (fun h1 =>
(.path [1] (by kernel_rfl)
(.node (by kernel_rfl) (by kernel_rfl) (fun h2 =>
(.node (by kernel_rfl) (by kernel_rfl) (fun h3 =>
(.path [1] (by kernel_rfl)
(.leaf (by kernel_rfl)))) (fun h3 =>
.none))) (fun h2 =>
(.path [1] (by kernel_rfl)
(.leaf (by kernel_rfl))))))) (fun h1 =>
.none))) (fun h0 =>
(.path [1] (by kernel_rfl)
(.leaf (by kernel_rfl))))))

theorem ls_20_ok : LsOk Try.prog (List.length ([] : List PB)) (lsM [(3, L20_3)] (List.length ([] : List PB))) (bodyOf Try.prog 20) := LsOk.many fun j B hB hk c hc hi => by
  simp only [lookM] at hB
  split at hB
  · rename_i e; have := Nat.eq_of_beq_eq_true e; subst this; cases hB
    have e1 : loopAt Try.prog 20 3 = [cAt Try.prog 20 3] := loopAt_one (by kernel_rfl)
    have e2 : c ∈ loopAt Try.prog 20 3 := loopsAt_mem hc hi
    rw [e1] at e2; cases List.mem_singleton.1 e2; exact L20_3_run
  cases hB

noncomputable def ev_20 (env : List Dat) : Tree (Nat × List Dat) := Lk.boxC false LK cs_18 20 (lsM [(3, L20_3)] (List.length ([] : List PB))) (mkF [.int .u64 0] [] [] [(.own 0, [.arr TI 0])] fun _ => none) env
theorem op_20_ex : ∃ f : List Dat → Option (Nat × List Dat), ∀ env, f env = (ev_20 env).sel := ⟨fun env => (ev_20 env).sel, fun _ => rfl⟩
noncomputable def op_20 : List Dat → Option (Nat × List Dat) := Classical.choose op_20_ex
theorem op_20_eq (env : List Dat) : op_20 env = (ev_20 env).sel := Classical.choose_spec op_20_ex env
noncomputable def B20 : FBox := mkF [.int .u64 0] [] [] [(.own 0, [.arr TI 0])] op_20
theorem B20_ok : RunOk Try.prog 20 (boxRun B20) := mkF_ok (op := op_20) cs_18_ok hmix false (ls_20_ok) (fun env x h => by rw [op_20_eq] at h; rw [← boxC_lk]; exact h)
theorem op_20_good {p : Nat × List Dat → Prop} {T : Tree (Nat × List Dat)} {env : List Dat} (h : Imp T (ev_20 env)) (g : Good p T.sel) : Good p (op_20 env) := by
  rw [op_20_eq]
  exact h.good g

noncomputable def fn_20_t : List Dat → Tree (Nat × List Dat)
  | [.n n0] =>
    (let r1 : Option (Nat × List Dat) := (op_L20_3 [.k 0, .n n0, .n (0 : Int), .l (Ty.int IntKind.i64) []]);
     (.node (isK 0 [HK.l (Ty.int IntKind.i64)] r1)
      (.leaf ((0, [.l (Ty.int IntKind.i64) (gl (Ty.int IntKind.i64) (dOf r1) 0)])))
      (.bad 351)))
  | _ => .bad 0
theorem fn_20_t_im (n0 : Int) : Imp (fn_20_t [.n n0]) (ev_20 [.n n0]) :=
(.node (by kernel_rfl) (by kernel_rfl) (fun h0 =>
(.path [1] (by kernel_rfl)
(.leaf (by kernel_rfl)))) (fun h0 =>
.none))

noncomputable def cs_20 : FuncId → Option CSpec := csLend 20 B20 cs_18
theorem cs_20_ok : CsOk Try.prog cs_20 := csLend_ok cs_18_ok B20_ok

noncomputable def st_L21_4 (env : List Dat) : Tree Step := Lk.stepMC false LK cs_20 21 4 ls0 (mkM 0 [] [(sh 26 [(0, .imm TI 0), (1, .imm TI 1), (5, .int .i64 2)], [])] [] [(.exit 0, sh 26 [], []), (.ret, sh 26 [(4, .bool 0)], [])] fun _ => none) env
theorem op_L21_4_ex : ∃ f : List Dat → Option (Nat × List Dat), ∀ env, f env = iterS st_L21_4 FU env := ⟨iterS st_L21_4 FU, fun _ => rfl⟩
noncomputable def op_L21_4 : List Dat → Option (Nat × List Dat) := Classical.choose op_L21_4_ex
theorem op_L21_4_eq (env : List Dat) : op_L21_4 env = iterS st_L21_4 FU env := Classical.choose_spec op_L21_4_ex env
noncomputable def L21_4 : MBox := mkM 0 [] [(sh 26 [(0, .imm TI 0), (1, .imm TI 1), (5, .int .i64 2)], [])] [] [(.exit 0, sh 26 [], []), (.ret, sh 26 [(4, .bool 0)], [])] op_L21_4
theorem L21_4_eqs : L21_4 = mkM 0 [] [(sh 26 [(0, .imm TI 0), (1, .imm TI 1), (5, .int .i64 2)], [])] [] [(.exit 0, sh 26 [], []), (.ret, sh 26 [(4, .bool 0)], [])] (iterS st_L21_4 FU) := congrArg (fun f => mkM 0 [] [(sh 26 [(0, .imm TI 0), (1, .imm TI 1), (5, .int .i64 2)], [])] [] [(.exit 0, sh 26 [], []), (.ret, sh 26 [(4, .bool 0)], [])] f) (funext op_L21_4_eq)
theorem L21_4_run : ∀ t s x, (manyRun L21_4 t s).sel = some x → CodeOk Try.prog 0 (.loop (cAt Try.prog 21 4)) t s x := by
  rw [L21_4_eqs]
  exact mkM_ok (st := st_L21_4) (m := FU) cs_20_ok hmix false (LsOk.none _ _ _) (by kernel_rfl) (fun env y h => by rw [← stepMC_lk]; exact h)
theorem op_L21_4_good {p : Nat × List Dat → Prop} (Inv : List Dat → Prop) (μ : List Dat → Nat) (h : ∀ env, Inv env → Good (fun y => match y with | .go e => Inv e ∧ μ e < μ env | .stop k d => p (k, d)) (st_L21_4 env).sel) (env : List Dat) (hi : Inv env) (hm : μ env < FU) : Good p (op_L21_4 env) := by
  rw [op_L21_4_eq]
  exact iterS_good Inv μ p h FU env hi hm

noncomputable def fn_L21_4_t : List Dat → Tree Step
  | [.l (Ty.int IntKind.i64) l0, .l (Ty.int IntKind.i64) l1, .n n2] =>
    (.node (decide (n2 < (↑(List.length l0) : Int)))
     (.node ((List.getD l0 (Int.toNat n2) (0 : Int) : Int) != (List.getD l1 (Int.toNat n2) (0 : Int) : Int))
      (.leaf (Step.stop 1 [.b false]))
      (.leaf (Step.go [.k 0, .l (Ty.int IntKind.i64) l0, .l (Ty.int IntKind.i64) l1, .n (IntKind.wrap .i64 (n2 + (1 : Int)))])))
     (.leaf (Step.stop 0 [])))
  | _ => .bad 0
theorem fn_L21_4_t_im (l0 : List (Ty.den (Ty.int IntKind.i64))) (l1 : List (Ty.den (Ty.int IntKind.i64))) (n2 : Int) (g0 : 0 ≤ n2) (g1 :  (l0.length : Int) = (l1.length : Int)) : Imp (fn_L21_4_t [.l (Ty.int IntKind.i64) l0, .l (Ty.int IntKind.i64) l1, .n n2]) (st_L21_4 [.k 0, .l TI l0, .l TI l1, .n n2]) :=
(.path [1] (by kernel_rfl)
(.node (by kernel_rfl) (by kernel_rfl) (fun h0 =>
(.pt (c := (inR n2 (List.length l0))) (by kernel_rfl) (by kernel_rfl) (by (simp only [w64d, decide_eq_true_eq, decide_eq_false_iff_not, beq_iff_eq, beq_eq_false_iff_ne, bne_iff_ne, ne_eq, inR, Bool.and_eq_true, Bool.and_eq_false_iff, Bool.not_eq_true', Bool.not_eq_false', Bool.not_eq_eq_eq_not, Bool.not_true, Bool.not_false] at *; omega))
(.pt (c := (inR n2 (List.length l1))) (by kernel_rfl) (by kernel_rfl) (by (simp only [w64d, decide_eq_true_eq, decide_eq_false_iff_not, beq_iff_eq, beq_eq_false_iff_ne, bne_iff_ne, ne_eq, inR, Bool.and_eq_true, Bool.and_eq_false_iff, Bool.not_eq_true', Bool.not_eq_false', Bool.not_eq_eq_eq_not, Bool.not_true, Bool.not_false] at *; omega))
(.path [1] (by kernel_rfl)
(.node (by kernel_rfl) (by kernel_rfl) (fun h1 =>
(.path [1] (by kernel_rfl)
(.leaf (by kernel_rfl)))) (fun h1 =>
(.path [1] (by kernel_rfl)
(.leaf (by kernel_rfl))))))))) (fun h0 =>
(.path [1] (by kernel_rfl)
(.leaf (by kernel_rfl))))))

theorem ls_21_ok : LsOk Try.prog (List.length ([] : List PB)) (lsM [(4, L21_4)] (List.length ([] : List PB))) (bodyOf Try.prog 21) := LsOk.many fun j B hB hk c hc hi => by
  simp only [lookM] at hB
  split at hB
  · rename_i e; have := Nat.eq_of_beq_eq_true e; subst this; cases hB
    have e1 : loopAt Try.prog 21 4 = [cAt Try.prog 21 4] := loopAt_one (by kernel_rfl)
    have e2 : c ∈ loopAt Try.prog 21 4 := loopsAt_mem hc hi
    rw [e1] at e2; cases List.mem_singleton.1 e2; exact L21_4_run
  cases hB

noncomputable def ev_21 (env : List Dat) : Tree (Nat × List Dat) := Lk.boxC false LK cs_20 21 (lsM [(4, L21_4)] (List.length ([] : List PB))) (mkF [.imm TI 0, .imm TI 1] [] [] [(.bool 0, [])] fun _ => none) env
theorem op_21_ex : ∃ f : List Dat → Option (Nat × List Dat), ∀ env, f env = (ev_21 env).sel := ⟨fun env => (ev_21 env).sel, fun _ => rfl⟩
noncomputable def op_21 : List Dat → Option (Nat × List Dat) := Classical.choose op_21_ex
theorem op_21_eq (env : List Dat) : op_21 env = (ev_21 env).sel := Classical.choose_spec op_21_ex env
noncomputable def B21 : FBox := mkF [.imm TI 0, .imm TI 1] [] [] [(.bool 0, [])] op_21
theorem B21_ok : RunOk Try.prog 21 (boxRun B21) := mkF_ok (op := op_21) cs_20_ok hmix false (ls_21_ok) (fun env x h => by rw [op_21_eq] at h; rw [← boxC_lk]; exact h)
theorem op_21_good {p : Nat × List Dat → Prop} {T : Tree (Nat × List Dat)} {env : List Dat} (h : Imp T (ev_21 env)) (g : Good p T.sel) : Good p (op_21 env) := by
  rw [op_21_eq]
  exact h.good g

noncomputable def fn_21_t : List Dat → Tree (Nat × List Dat)
  | [.l (Ty.int IntKind.i64) l0, .l (Ty.int IntKind.i64) l1] =>
    (.node ((↑(List.length l0) : Int) != (↑(List.length l1) : Int))
     (.leaf ((0, [.b false])))
     (let r1 : Option (Nat × List Dat) := (op_L21_4 [.k 0, .l (Ty.int IntKind.i64) l0, .l (Ty.int IntKind.i64) l1, .n (0 : Int)]);
      (.node (isK 0 [] r1)
       (.leaf ((0, [.b true])))
       (.node (isK 1 [HK.b] r1)
        (.leaf ((0, [.b (gb (dOf r1) 0)])))
        (.bad 351)))))
  | _ => .bad 0
theorem fn_21_t_im (l0 : List (Ty.den (Ty.int IntKind.i64))) (l1 : List (Ty.den (Ty.int IntKind.i64))) : Imp (fn_21_t [.l (Ty.int IntKind.i64) l0, .l (Ty.int IntKind.i64) l1]) (ev_21 [.l TI l0, .l TI l1]) :=
(.node (by kernel_rfl) (by kernel_rfl) (fun h0 =>
(.path [1] (by kernel_rfl)
(.leaf (by kernel_rfl)))) (fun h0 =>
(.node (by kernel_rfl) (by kernel_rfl) (fun h1 =>
(.path [1] (by kernel_rfl)
(.leaf (by kernel_rfl)))) (fun h1 =>
(.node (by kernel_rfl) (by kernel_rfl) (fun h2 =>
(.path [1] (by kernel_rfl)
(.leaf (by kernel_rfl)))) (fun h2 =>
.none))))))

noncomputable def cs_21 : FuncId → Option CSpec := csLend 21 B21 cs_20
theorem cs_21_ok : CsOk Try.prog cs_21 := csLend_ok cs_20_ok B21_ok

noncomputable def ev_22 (env : List Dat) : Tree (Nat × List Dat) := Lk.boxC false LK cs_21 22 ls0 (mkF [.int .u64 0] [] [] [(.int .i64 0, [])] fun _ => none) env
theorem op_22_ex : ∃ f : List Dat → Option (Nat × List Dat), ∀ env, f env = (ev_22 env).sel := ⟨fun env => (ev_22 env).sel, fun _ => rfl⟩
noncomputable def op_22 : List Dat → Option (Nat × List Dat) := Classical.choose op_22_ex
theorem op_22_eq (env : List Dat) : op_22 env = (ev_22 env).sel := Classical.choose_spec op_22_ex env
noncomputable def B22 : FBox := mkF [.int .u64 0] [] [] [(.int .i64 0, [])] op_22
theorem B22_ok : RunOk Try.prog 22 (boxRun B22) := mkF_ok (op := op_22) cs_21_ok hmix false (LsOk.none _ _ _) (fun env x h => by rw [op_22_eq] at h; rw [← boxC_lk]; exact h)
theorem op_22_good {p : Nat × List Dat → Prop} {T : Tree (Nat × List Dat)} {env : List Dat} (h : Imp T (ev_22 env)) (g : Good p T.sel) : Good p (op_22 env) := by
  rw [op_22_eq]
  exact h.good g

noncomputable def fn_22_t : List Dat → Tree (Nat × List Dat)
  | [.n n0] =>
    (.leaf ((0, [.n (iand IntKind.i64 (IntKind.wrap .i64 (IntKind.wrap .u64 (IntKind.wrap .u64 (IntKind.wrap .u64 (iand IntKind.u64 (IntKind.wrap .u64 (ishr IntKind.u64 (IntKind.wrap .u64 (iand IntKind.u64 (ishr IntKind.u64 (IntKind.wrap .u64 (iand IntKind.u64 (ishr IntKind.u64 n0 (1 : Int)) (6148914691236517205 : Int) + iand IntKind.u64 n0 (6148914691236517205 : Int))) (2 : Int)) (3689348814741910323 : Int) + iand IntKind.u64 (IntKind.wrap .u64 (iand IntKind.u64 (ishr IntKind.u64 n0 (1 : Int)) (6148914691236517205 : Int) + iand IntKind.u64 n0 (6148914691236517205 : Int))) (3689348814741910323 : Int))) (4 : Int) + IntKind.wrap .u64 (iand IntKind.u64 (ishr IntKind.u64 (IntKind.wrap .u64 (iand IntKind.u64 (ishr IntKind.u64 n0 (1 : Int)) (6148914691236517205 : Int) + iand IntKind.u64 n0 (6148914691236517205 : Int))) (2 : Int)) (3689348814741910323 : Int) + iand IntKind.u64 (IntKind.wrap .u64 (iand IntKind.u64 (ishr IntKind.u64 n0 (1 : Int)) (6148914691236517205 : Int) + iand IntKind.u64 n0 (6148914691236517205 : Int))) (3689348814741910323 : Int)))) (1085102592571150095 : Int) + ishr IntKind.u64 (iand IntKind.u64 (IntKind.wrap .u64 (ishr IntKind.u64 (IntKind.wrap .u64 (iand IntKind.u64 (ishr IntKind.u64 (IntKind.wrap .u64 (iand IntKind.u64 (ishr IntKind.u64 n0 (1 : Int)) (6148914691236517205 : Int) + iand IntKind.u64 n0 (6148914691236517205 : Int))) (2 : Int)) (3689348814741910323 : Int) + iand IntKind.u64 (IntKind.wrap .u64 (iand IntKind.u64 (ishr IntKind.u64 n0 (1 : Int)) (6148914691236517205 : Int) + iand IntKind.u64 n0 (6148914691236517205 : Int))) (3689348814741910323 : Int))) (4 : Int) + IntKind.wrap .u64 (iand IntKind.u64 (ishr IntKind.u64 (IntKind.wrap .u64 (iand IntKind.u64 (ishr IntKind.u64 n0 (1 : Int)) (6148914691236517205 : Int) + iand IntKind.u64 n0 (6148914691236517205 : Int))) (2 : Int)) (3689348814741910323 : Int) + iand IntKind.u64 (IntKind.wrap .u64 (iand IntKind.u64 (ishr IntKind.u64 n0 (1 : Int)) (6148914691236517205 : Int) + iand IntKind.u64 n0 (6148914691236517205 : Int))) (3689348814741910323 : Int)))) (1085102592571150095 : Int)) (8 : Int)) + ishr IntKind.u64 (IntKind.wrap .u64 (iand IntKind.u64 (IntKind.wrap .u64 (ishr IntKind.u64 (IntKind.wrap .u64 (iand IntKind.u64 (ishr IntKind.u64 (IntKind.wrap .u64 (iand IntKind.u64 (ishr IntKind.u64 n0 (1 : Int)) (6148914691236517205 : Int) + iand IntKind.u64 n0 (6148914691236517205 : Int))) (2 : Int)) (3689348814741910323 : Int) + iand IntKind.u64 (IntKind.wrap .u64 (iand IntKind.u64 (ishr IntKind.u64 n0 (1 : Int)) (6148914691236517205 : Int) + iand IntKind.u64 n0 (6148914691236517205 : Int))) (3689348814741910323 : Int))) (4 : Int) + IntKind.wrap .u64 (iand IntKind.u64 (ishr IntKind.u64 (IntKind.wrap .u64 (iand IntKind.u64 (ishr IntKind.u64 n0 (1 : Int)) (6148914691236517205 : Int) + iand IntKind.u64 n0 (6148914691236517205 : Int))) (2 : Int)) (3689348814741910323 : Int) + iand IntKind.u64 (IntKind.wrap .u64 (iand IntKind.u64 (ishr IntKind.u64 n0 (1 : Int)) (6148914691236517205 : Int) + iand IntKind.u64 n0 (6148914691236517205 : Int))) (3689348814741910323 : Int)))) (1085102592571150095 : Int) + ishr IntKind.u64 (iand IntKind.u64 (IntKind.wrap .u64 (ishr IntKind.u64 (IntKind.wrap .u64 (iand IntKind.u64 (ishr IntKind.u64 (IntKind.wrap .u64 (iand IntKind.u64 (ishr IntKind.u64 n0 (1 : Int)) (6148914691236517205 : Int) + iand IntKind.u64 n0 (6148914691236517205 : Int))) (2 : Int)) (3689348814741910323 : Int) + iand IntKind.u64 (IntKind.wrap .u64 (iand IntKind.u64 (ishr IntKind.u64 n0 (1 : Int)) (6148914691236517205 : Int) + iand IntKind.u64 n0 (6148914691236517205 : Int))) (3689348814741910323 : Int))) (4 : Int) + IntKind.wrap .u64 (iand IntKind.u64 (ishr IntKind.u64 (IntKind.wrap .u64 (iand IntKind.u64 (ishr IntKind.u64 n0 (1 : Int)) (6148914691236517205 : Int) + iand IntKind.u64 n0 (6148914691236517205 : Int))) (2 : Int)) (3689348814741910323 : Int) + iand IntKind.u64 (IntKind.wrap .u64 (iand IntKind.u64 (ishr IntKind.u64 n0 (1 : Int)) (6148914691236517205 : Int) + iand IntKind.u64 n0 (6148914691236517205 : Int))) (3689348814741910323 : Int)))) (1085102592571150095 : Int)) (8 : Int))) (16 : Int)) + ishr IntKind.u64 (IntKind.wrap .u64 (IntKind.wrap .u64 (iand IntKind.u64 (IntKind.wrap .u64 (ishr IntKind.u64 (IntKind.wrap .u64 (iand IntKind.u64 (ishr IntKind.u64 (IntKind.wrap .u64 (iand IntKind.u64 (ishr IntKind.u64 n0 (1 : Int)) (6148914691236517205 : Int) + iand IntKind.u64 n0 (6148914691236517205 : Int))) (2 : Int)) (3689348814741910323 : Int) + iand IntKind.u64 (IntKind.wrap .u64 (iand IntKind.u64 (ishr IntKind.u64 n0 (1 : Int)) (6148914691236517205 : Int) + iand IntKind.u64 n0 (6148914691236517205 : Int))) (3689348814741910323 : Int))) (4 : Int) + IntKind.wrap .u64 (iand IntKind.u64 (ishr IntKind.u64 (IntKind.wrap .u64 (iand IntKind.u64 (ishr IntKind.u64 n0 (1 : Int)) (6148914691236517205 : Int) + iand IntKind.u64 n0 (6148914691236517205 : Int))) (2 : Int)) (3689348814741910323 : Int) + iand IntKind.u64 (IntKind.wrap .u64 (iand IntKind.u64 (ishr IntKind.u64 n0 (1 : Int)) (6148914691236517205 : Int) + iand IntKind.u64 n0 (6148914691236517205 : Int))) (3689348814741910323 : Int)))) (1085102592571150095 : Int) + ishr IntKind.u64 (iand IntKind.u64 (IntKind.wrap .u64 (ishr IntKind.u64 (IntKind.wrap .u64 (iand IntKind.u64 (ishr IntKind.u64 (IntKind.wrap .u64 (iand IntKind.u64 (ishr IntKind.u64 n0 (1 : Int)) (6148914691236517205 : Int) + iand IntKind.u64 n0 (6148914691236517205 : Int))) (2 : Int)) (3689348814741910323 : Int) + iand IntKind.u64 (IntKind.wrap .u64 (iand IntKind.u64 (ishr IntKind.u64 n0 (1 : Int)) (6148914691236517205 : Int) + iand IntKind.u64 n0 (6148914691236517205 : Int))) (3689348814741910323 : Int))) (4 : Int) + IntKind.wrap .u64 (iand IntKind.u64 (ishr IntKind.u64 (IntKind.wrap .u64 (iand IntKind.u64 (ishr IntKind.u64 n0 (1 : Int)) (6148914691236517205 : Int) + iand IntKind.u64 n0 (6148914691236517205 : Int))) (2 : Int)) (3689348814741910323 : Int) + iand IntKind.u64 (IntKind.wrap .u64 (iand IntKind.u64 (ishr IntKind.u64 n0 (1 : Int)) (6148914691236517205 : Int) + iand IntKind.u64 n0 (6148914691236517205 : Int))) (3689348814741910323 : Int)))) (1085102592571150095 : Int)) (8 : Int)) + ishr IntKind.u64 (IntKind.wrap .u64 (iand IntKind.u64 (IntKind.wrap .u64 (ishr IntKind.u64 (IntKind.wrap .u64 (iand IntKind.u64 (ishr IntKind.u64 (IntKind.wrap .u64 (iand IntKind.u64 (ishr IntKind.u64 n0 (1 : Int)) (6148914691236517205 : Int) + iand IntKind.u64 n0 (6148914691236517205 : Int))) (2 : Int)) (3689348814741910323 : Int) + iand IntKind.u64 (IntKind.wrap .u64 (iand IntKind.u64 (ishr IntKind.u64 n0 (1 : Int)) (6148914691236517205 : Int) + iand IntKind.u64 n0 (6148914691236517205 : Int))) (3689348814741910323 : Int))) (4 : Int) + IntKind.wrap .u64 (iand IntKind.u64 (ishr IntKind.u64 (IntKind.wrap .u64 (iand IntKind.u64 (ishr IntKind.u64 n0 (1 : Int)) (6148914691236517205 : Int) + iand IntKind.u64 n0 (6148914691236517205 : Int))) (2 : Int)) (3689348814741910323 : Int) + iand IntKind.u64 (IntKind.wrap .u64 (iand IntKind.u64 (ishr IntKind.u64 n0 (1 : Int)) (6148914691236517205 : Int) + iand IntKind.u64 n0 (6148914691236517205 : Int))) (3689348814741910323 : Int)))) (1085102592571150095 : Int) + ishr IntKind.u64 (iand IntKind.u64 (IntKind.wrap .u64 (ishr IntKind.u64 (IntKind.wrap .u64 (iand IntKind.u64 (ishr IntKind.u64 (IntKind.wrap .u64 (iand IntKind.u64 (ishr IntKind.u64 n0 (1 : Int)) (6148914691236517205 : Int) + iand IntKind.u64 n0 (6148914691236517205 : Int))) (2 : Int)) (3689348814741910323 : Int) + iand IntKind.u64 (IntKind.wrap .u64 (iand IntKind.u64 (ishr IntKind.u64 n0 (1 : Int)) (6148914691236517205 : Int) + iand IntKind.u64 n0 (6148914691236517205 : Int))) (3689348814741910323 : Int))) (4 : Int) + IntKind.wrap .u64 (iand IntKind.u64 (ishr IntKind.u64 (IntKind.wrap .u64 (iand IntKind.u64 (ishr IntKind.u64 n0 (1 : Int)) (6148914691236517205 : Int) + iand IntKind.u64 n0 (6148914691236517205 : Int))) (2 : Int)) (3689348814741910323 : Int) + iand IntKind.u64 (IntKind.wrap .u64 (iand IntKind.u64 (ishr IntKind.u64 n0 (1 : Int)) (6148914691236517205 : Int) + iand IntKind.u64 n0 (6148914691236517205 : Int))) (3689348814741910323 : Int)))) (1085102592571150095 : Int)) (8 : Int))) (16 : Int))) (32 : Int)))) (127 : Int))])))
  | _ => .bad 0
theorem fn_22_t_im (n0 : Int) : Imp (fn_22_t [.n n0]) (ev_22 [.n n0]) :=
(.path [1,1,1,1,1,1,1,1,1] (by kernel_rfl)
(.leaf (by kernel_rfl)))

noncomputable def cs_22 : FuncId → Option CSpec := csLend 22 B22 cs_21
theorem cs_22_ok : CsOk Try.prog cs_22 := csLend_ok cs_21_ok B22_ok

noncomputable def ev_23 (env : List Dat) : Tree (Nat × List Dat) := Lk.boxC false LK cs_22 23 ls0 (mkF [.int .u64 0] [] [] [(.int .i64 0, [])] fun _ => none) env
theorem op_23_ex : ∃ f : List Dat → Option (Nat × List Dat), ∀ env, f env = (ev_23 env).sel := ⟨fun env => (ev_23 env).sel, fun _ => rfl⟩
noncomputable def op_23 : List Dat → Option (Nat × List Dat) := Classical.choose op_23_ex
theorem op_23_eq (env : List Dat) : op_23 env = (ev_23 env).sel := Classical.choose_spec op_23_ex env
noncomputable def B23 : FBox := mkF [.int .u64 0] [] [] [(.int .i64 0, [])] op_23
theorem B23_ok : RunOk Try.prog 23 (boxRun B23) := mkF_ok (op := op_23) cs_22_ok hmix false (LsOk.none _ _ _) (fun env x h => by rw [op_23_eq] at h; rw [← boxC_lk]; exact h)
theorem op_23_good {p : Nat × List Dat → Prop} {T : Tree (Nat × List Dat)} {env : List Dat} (h : Imp T (ev_23 env)) (g : Good p T.sel) : Good p (op_23 env) := by
  rw [op_23_eq]
  exact h.good g

noncomputable def fn_23_t : List Dat → Tree (Nat × List Dat)
  | [.n n0] =>
    (let r1 : Option (Nat × List Dat) := (op_20 [.n n0]);
     (.node (isK 0 [HK.l (Ty.int IntKind.i64)] r1)
      (.leaf ((0, [.n (↑(List.length (gl (Ty.int IntKind.i64) (dOf r1) 0)) : Int)])))
      (.bad 351)))
  | _ => .bad 0
theorem fn_23_t_im (n0 : Int) : Imp (fn_23_t [.n n0]) (ev_23 [.n n0]) :=
(.node (by kernel_rfl) (by kernel_rfl) (fun h0 =>
(.path [1,1] (by kernel_rfl)
(.leaf (by kernel_rfl)))) (fun h0 =>
.none))

noncomputable def cs_23 : FuncId → Option CSpec := csLend 23 B23 cs_22
theorem cs_23_ok : CsOk Try.prog cs_23 := csLend_ok cs_22_ok B23_ok

noncomputable def ev_25 (env : List Dat) : Tree (Nat × List Dat) := Lk.boxC false LK cs_23 25 ls0 (mkF [.int .u64 0] [] [] [(.int .i64 0, [])] fun _ => none) env
theorem op_25_ex : ∃ f : List Dat → Option (Nat × List Dat), ∀ env, f env = (ev_25 env).sel := ⟨fun env => (ev_25 env).sel, fun _ => rfl⟩
noncomputable def op_25 : List Dat → Option (Nat × List Dat) := Classical.choose op_25_ex
theorem op_25_eq (env : List Dat) : op_25 env = (ev_25 env).sel := Classical.choose_spec op_25_ex env
noncomputable def B25 : FBox := mkF [.int .u64 0] [] [] [(.int .i64 0, [])] op_25
theorem B25_ok : RunOk Try.prog 25 (boxRun B25) := mkF_ok (op := op_25) cs_23_ok hmix false (LsOk.none _ _ _) (fun env x h => by rw [op_25_eq] at h; rw [← boxC_lk]; exact h)
theorem op_25_good {p : Nat × List Dat → Prop} {T : Tree (Nat × List Dat)} {env : List Dat} (h : Imp T (ev_25 env)) (g : Good p T.sel) : Good p (op_25 env) := by
  rw [op_25_eq]
  exact h.good g

noncomputable def fn_25_t : List Dat → Tree (Nat × List Dat)
  | [.n n0] =>
    (let r1 : Option (Nat × List Dat) := (op_20 [.n n0]);
     (.node (isK 0 [HK.l (Ty.int IntKind.i64)] r1)
      (.node ((↑(List.length (gl (Ty.int IntKind.i64) (dOf r1) 0)) : Int) == (0 : Int))
       (.leaf ((0, [.n (64 : Int)])))
       (.leaf ((0, [.n (List.getD (gl (Ty.int IntKind.i64) (dOf r1) 0) 0 (0 : Int))]))))
      (.bad 351)))
  | _ => .bad 0
theorem fn_25_t_im (n0 : Int) : Imp (fn_25_t [.n n0]) (ev_25 [.n n0]) :=
(.node (by kernel_rfl) (by kernel_rfl) (fun h0 =>
(.path [1] (by kernel_rfl)
(.node (by kernel_rfl) (by kernel_rfl) (fun h1 =>
(.path [1] (by kernel_rfl)
(.leaf (by kernel_rfl)))) (fun h1 =>
(.pt (c := (inR (0 : Int) (List.length (gl (Ty.int IntKind.i64) (dOf (op_20 [.n n0])) 0)))) (by kernel_rfl) (by kernel_rfl) (by (simp only [w64d, decide_eq_true_eq, decide_eq_false_iff_not, beq_iff_eq, beq_eq_false_iff_ne, bne_iff_ne, ne_eq, inR, Bool.and_eq_true, Bool.and_eq_false_iff, Bool.not_eq_true', Bool.not_eq_false', Bool.not_eq_eq_eq_not, Bool.not_true, Bool.not_false] at *; omega))
(.path [1] (by kernel_rfl)
(.leaf (by kernel_rfl)))))))) (fun h0 =>
.none))

noncomputable def cs_25 : FuncId → Option CSpec := csLend 25 B25 cs_23
theorem cs_25_ok : CsOk Try.prog cs_25 := csLend_ok cs_23_ok B25_ok

noncomputable def ev_26 (env : List Dat) : Tree (Nat × List Dat) := Lk.boxC false LK cs_25 26 ls0 (mkF [.int .i64 0] [] [] [(.int .u64 0, [])] fun _ => none) env
theorem op_26_ex : ∃ f : List Dat → Option (Nat × List Dat), ∀ env, f env = (ev_26 env).sel := ⟨fun env => (ev_26 env).sel, fun _ => rfl⟩
noncomputable def op_26 : List Dat → Option (Nat × List Dat) := Classical.choose op_26_ex
theorem op_26_eq (env : List Dat) : op_26 env = (ev_26 env).sel := Classical.choose_spec op_26_ex env
noncomputable def B26 : FBox := mkF [.int .i64 0] [] [] [(.int .u64 0, [])] op_26
theorem B26_ok : RunOk Try.prog 26 (boxRun B26) := mkF_ok (op := op_26) cs_25_ok hmix false (LsOk.none _ _ _) (fun env x h => by rw [op_26_eq] at h; rw [← boxC_lk]; exact h)
theorem op_26_good {p : Nat × List Dat → Prop} {T : Tree (Nat × List Dat)} {env : List Dat} (h : Imp T (ev_26 env)) (g : Good p T.sel) : Good p (op_26 env) := by
  rw [op_26_eq]
  exact h.good g

noncomputable def fn_26_t : List Dat → Tree (Nat × List Dat)
  | [.n n0] =>
    (.node (decide (n0 ≤ (0 : Int)))
     (.leaf ((0, [.n (0 : Int)])))
     (.node (decide (n0 ≥ (64 : Int)))
      (.leaf ((0, [.n (18446744073709551615 : Int)])))
      (.leaf ((0, [.n (IntKind.wrap .u64 (ishl IntKind.u64 (1 : Int) n0 - (1 : Int)))])))))
  | _ => .bad 0
theorem fn_26_t_im (n0 : Int) : Imp (fn_26_t [.n n0]) (ev_26 [.n n0]) :=
(.node (by kernel_rfl) (by kernel_rfl) (fun h0 =>
(.path [1] (by kernel_rfl)
(.leaf (by kernel_rfl)))) (fun h0 =>
(.node (by kernel_rfl) (by kernel_rfl) (fun h1 =>
(.path [1] (by kernel_rfl)
(.leaf (by kernel_rfl)))) (fun h1 =>
(.pt (c := (!decide (n0 < (0 : Int)))) (by kernel_rfl) (by kernel_rfl) (by (simp only [w64d, decide_eq_true_eq, decide_eq_false_iff_not, beq_iff_eq, beq_eq_false_iff_ne, bne_iff_ne, ne_eq, inR, Bool.and_eq_true, Bool.and_eq_false_iff, Bool.not_eq_true', Bool.not_eq_false', Bool.not_eq_eq_eq_not, Bool.not_true, Bool.not_false] at *; omega))
(.path [1] (by kernel_rfl)
(.leaf (by kernel_rfl))))))))

noncomputable def cs_26 : FuncId → Option CSpec := csLend 26 B26 cs_25
theorem cs_26_ok : CsOk Try.prog cs_26 := csLend_ok cs_25_ok B26_ok

noncomputable def st_L27_3 (env : List Dat) : Tree Step := Lk.stepMC false LK cs_26 27 3 ls0 (mkM 0 [] [(sh 18 [(0, .int .i64 0), (3, .int .u64 1), (4, .int .i64 2)], [])] [] [(.exit 0, sh 18 [(3, .int .u64 0)], [])] fun _ => none) env
theorem op_L27_3_ex : ∃ f : List Dat → Option (Nat × List Dat), ∀ env, f env = iterS st_L27_3 FU env := ⟨iterS st_L27_3 FU, fun _ => rfl⟩
noncomputable def op_L27_3 : List Dat → Option (Nat × List Dat) := Classical.choose op_L27_3_ex
theorem op_L27_3_eq (env : List Dat) : op_L27_3 env = iterS st_L27_3 FU env := Classical.choose_spec op_L27_3_ex env
noncomputable def L27_3 : MBox := mkM 0 [] [(sh 18 [(0, .int .i64 0), (3, .int .u64 1), (4, .int .i64 2)], [])] [] [(.exit 0, sh 18 [(3, .int .u64 0)], [])] op_L27_3
theorem L27_3_eqs : L27_3 = mkM 0 [] [(sh 18 [(0, .int .i64 0), (3, .int .u64 1), (4, .int .i64 2)], [])] [] [(.exit 0, sh 18 [(3, .int .u64 0)], [])] (iterS st_L27_3 FU) := congrArg (fun f => mkM 0 [] [(sh 18 [(0, .int .i64 0), (3, .int .u64 1), (4, .int .i64 2)], [])] [] [(.exit 0, sh 18 [(3, .int .u64 0)], [])] f) (funext op_L27_3_eq)
theorem L27_3_run : ∀ t s x, (manyRun L27_3 t s).sel = some x → CodeOk Try.prog 0 (.loop (cAt Try.prog 27 3)) t s x := by
  rw [L27_3_eqs]
  exact mkM_ok (st := st_L27_3) (m := FU) cs_26_ok hmix false (LsOk.none _ _ _) (by kernel_rfl) (fun env y h => by rw [← stepMC_lk]; exact h)
theorem op_L27_3_good {p : Nat × List Dat → Prop} (Inv : List Dat → Prop) (μ : List Dat → Nat) (h : ∀ env, Inv env → Good (fun y => match y with | .go e => Inv e ∧ μ e < μ env | .stop k d => p (k, d)) (st_L27_3 env).sel) (env : List Dat) (hi : Inv env) (hm : μ env < FU) : Good p (op_L27_3 env) := by
  rw [op_L27_3_eq]
  exact iterS_good Inv μ p h FU env hi hm

noncomputable def fn_L27_3_t : List Dat → Tree Step
  | [.n n0, .n n1, .n n2] =>
    (.node (decide (n2 < n0))
     (.node (decide (n2 < (64 : Int)))
      (let r1 : Option (Nat × List Dat) := (op_13 [.n n1, .n n2]);
       (.node (isK 0 [HK.n] r1)
        (.leaf (Step.go [.k 0, .n n0, .n (gn (dOf r1) 0), .n (IntKind.wrap .i64 (n2 + (1 : Int)))]))
        (.bad 351)))
      (.leaf (Step.stop 0 [.n n1])))
     (.leaf (Step.stop 0 [.n n1])))
  | _ => .bad 0
theorem fn_L27_3_t_im (n0 : Int) (n1 : Int) (n2 : Int) : Imp (fn_L27_3_t [.n n0, .n n1, .n n2]) (st_L27_3 [.k 0, .n n0, .n n1, .n n2]) :=
(.path [1] (by kernel_rfl)
(.node (by kernel_rfl) (by kernel_rfl) (fun h0 =>
(.node (by kernel_rfl) (by kernel_rfl) (fun h1 =>
(.node (by kernel_rfl) (by kernel_rfl) (fun h2 =>
(.path [1,1] (by kernel_rfl)
(.leaf (by kernel_rfl)))) (fun h2 =>
.none))) (fun h1 =>
(.path [1] (by kernel_rfl)
(.leaf (by kernel_rfl)))))) (fun h0 =>
(.path [0,0,1] (by kernel_rfl)
(.leaf (by kernel_rfl))))))

theorem ls_27_ok : LsOk Try.prog (List.length ([] : List PB)) (lsM [(3, L27_3)] (List.length ([] : List PB))) (bodyOf Try.prog 27) := LsOk.many fun j B hB hk c hc hi => by
  simp only [lookM] at hB
  split at hB
  · rename_i e; have := Nat.eq_of_beq_eq_true e; subst this; cases hB
    have e1 : loopAt Try.prog 27 3 = [cAt Try.prog 27 3] := loopAt_one (by kernel_rfl)
    have e2 : c ∈ loopAt Try.prog 27 3 := loopsAt_mem hc hi
    rw [e1] at e2; cases List.mem_singleton.1 e2; exact L27_3_run
  cases hB

noncomputable def ev_27 (env : List Dat) : Tree (Nat × List Dat) := Lk.boxC false LK cs_26 27 (lsM [(3, L27_3)] (List.length ([] : List PB))) (mkF [.int .i64 0] [] [] [(.int .u64 0, [])] fun _ => none) env
theorem op_27_ex : ∃ f : List Dat → Option (Nat × List Dat), ∀ env, f env = (ev_27 env).sel := ⟨fun env => (ev_27 env).sel, fun _ => rfl⟩
noncomputable def op_27 : List Dat → Option (Nat × List Dat) := Classical.choose op_27_ex
theorem op_27_eq (env : List Dat) : op_27 env = (ev_27 env).sel := Classical.choose_spec op_27_ex env
noncomputable def B27 : FBox := mkF [.int .i64 0] [] [] [(.int .u64 0, [])] op_27
theorem B27_ok : RunOk Try.prog 27 (boxRun B27) := mkF_ok (op := op_27) cs_26_ok hmix false (ls_27_ok) (fun env x h => by rw [op_27_eq] at h; rw [← boxC_lk]; exact h)
theorem op_27_good {p : Nat × List Dat → Prop} {T : Tree (Nat × List Dat)} {env : List Dat} (h : Imp T (ev_27 env)) (g : Good p T.sel) : Good p (op_27 env) := by
  rw [op_27_eq]
  exact h.good g

noncomputable def fn_27_t : List Dat → Tree (Nat × List Dat)
  | [.n n0] =>
    (let r1 : Option (Nat × List Dat) := (op_L27_3 [.k 0, .n n0, .n (0 : Int), .n (0 : Int)]);
     (.node (isK 0 [HK.n] r1)
      (.leaf ((0, [.n (gn (dOf r1) 0)])))
      (.bad 351)))
  | _ => .bad 0
theorem fn_27_t_im (n0 : Int) : Imp (fn_27_t [.n n0]) (ev_27 [.n n0]) :=
(.node (by kernel_rfl) (by kernel_rfl) (fun h0 =>
(.path [1] (by kernel_rfl)
(.leaf (by kernel_rfl)))) (fun h0 =>
.none))

noncomputable def cs_27 : FuncId → Option CSpec := csLend 27 B27 cs_26
theorem cs_27_ok : CsOk Try.prog cs_27 := csLend_ok cs_26_ok B27_ok

noncomputable def st_L29_6 (env : List Dat) : Tree Step := Lk.stepMC false LK cs_27 29 6 ls0 (mkM 0 [] [(sh 37 [(0, .imm TU 0), (1, .int .u64 1), (5, .int .u64 2), (6, .int .i64 3), (7, .int .i64 4)], [])] [] [(.exit 2, sh 37 [(0, .imm TU 0), (1, .int .u64 1), (5, .int .u64 2), (6, .int .i64 3)], [])] fun _ => none) env
theorem op_L29_6_ex : ∃ f : List Dat → Option (Nat × List Dat), ∀ env, f env = iterS st_L29_6 FU env := ⟨iterS st_L29_6 FU, fun _ => rfl⟩
noncomputable def op_L29_6 : List Dat → Option (Nat × List Dat) := Classical.choose op_L29_6_ex
theorem op_L29_6_eq (env : List Dat) : op_L29_6 env = iterS st_L29_6 FU env := Classical.choose_spec op_L29_6_ex env
noncomputable def L29_6 : MBox := mkM 0 [] [(sh 37 [(0, .imm TU 0), (1, .int .u64 1), (5, .int .u64 2), (6, .int .i64 3), (7, .int .i64 4)], [])] [] [(.exit 2, sh 37 [(0, .imm TU 0), (1, .int .u64 1), (5, .int .u64 2), (6, .int .i64 3)], [])] op_L29_6
theorem L29_6_eqs : L29_6 = mkM 0 [] [(sh 37 [(0, .imm TU 0), (1, .int .u64 1), (5, .int .u64 2), (6, .int .i64 3), (7, .int .i64 4)], [])] [] [(.exit 2, sh 37 [(0, .imm TU 0), (1, .int .u64 1), (5, .int .u64 2), (6, .int .i64 3)], [])] (iterS st_L29_6 FU) := congrArg (fun f => mkM 0 [] [(sh 37 [(0, .imm TU 0), (1, .int .u64 1), (5, .int .u64 2), (6, .int .i64 3), (7, .int .i64 4)], [])] [] [(.exit 2, sh 37 [(0, .imm TU 0), (1, .int .u64 1), (5, .int .u64 2), (6, .int .i64 3)], [])] f) (funext op_L29_6_eq)
theorem L29_6_run : ∀ t s x, (manyRun L29_6 t s).sel = some x → CodeOk Try.prog 0 (.loop (cAt Try.prog 29 6)) t s x := by
  rw [L29_6_eqs]
  exact mkM_ok (st := st_L29_6) (m := FU) cs_27_ok hmix false (LsOk.none _ _ _) (by kernel_rfl) (fun env y h => by rw [← stepMC_lk]; exact h)
theorem op_L29_6_good {p : Nat × List Dat → Prop} (Inv : List Dat → Prop) (μ : List Dat → Nat) (h : ∀ env, Inv env → Good (fun y => match y with | .go e => Inv e ∧ μ e < μ env | .stop k d => p (k, d)) (st_L29_6 env).sel) (env : List Dat) (hi : Inv env) (hm : μ env < FU) : Good p (op_L29_6 env) := by
  rw [op_L29_6_eq]
  exact iterS_good Inv μ p h FU env hi hm

noncomputable def fn_L29_6_t : List Dat → Tree Step
  | [.l (Ty.int IntKind.u64) l0, .n n1, .n n2, .n n3, .n n4] =>
    (.node (decide (n4 < (↑(List.length l0) : Int)))
     (.node (decide (n4 < (64 : Int)))
      (let r1 : Option (Nat × List Dat) := (op_11 [.n n1, .n n4]);
       (.node (isK 0 [HK.b] r1)
        (.node (gb (dOf r1) 0)
         (let r2 : Option (Nat × List Dat) := (op_11 [.n (List.getD l0 (Int.toNat n4) (0 : Int)), .n n3]);
          (.node (isK 0 [HK.b] r2)
           (.node (gb (dOf r2) 0)
            (let r3 : Option (Nat × List Dat) := (op_13 [.n n2, .n n3]);
             (.node (isK 0 [HK.n] r3)
              (.leaf (Step.go [.k 0, .l (Ty.int IntKind.u64) l0, .n n1, .n (gn (dOf r3) 0), .n n3, .n (IntKind.wrap .i64 (n4 + (1 : Int)))]))
              (.bad 351)))
            (.leaf (Step.go [.k 0, .l (Ty.int IntKind.u64) l0, .n n1, .n n2, .n n3, .n (IntKind.wrap .i64 (n4 + (1 : Int)))])))
           (.bad 351)))
         (.leaf (Step.go [.k 0, .l (Ty.int IntKind.u64) l0, .n n1, .n n2, .n n3, .n (IntKind.wrap .i64 (n4 + (1 : Int)))])))
        (.bad 351)))
      (.leaf (Step.stop 0 [.l (Ty.int IntKind.u64) l0, .n n1, .n n2, .n n3])))
     (.leaf (Step.stop 0 [.l (Ty.int IntKind.u64) l0, .n n1, .n n2, .n n3])))
  | _ => .bad 0
theorem fn_L29_6_t_im (l0 : List (Ty.den (Ty.int IntKind.u64))) (n1 : Int) (n2 : Int) (n3 : Int) (n4 : Int) (g0 : 0 ≤ n4) : Imp (fn_L29_6_t [.l (Ty.int IntKind.u64) l0, .n n1, .n n2, .n n3, .n n4]) (st_L29_6 [.k 0, .l TU l0, .n n1, .n n2, .n n3, .n n4]) :=
(.path [1] (by kernel_rfl)
(.node (by kernel_rfl) (by kernel_rfl) (fun h0 =>
(.node (by kernel_rfl) (by kernel_rfl) (fun h1 =>
(.node (by kernel_rfl) (by kernel_rfl) (fun h2 =>
(.path [1] (by kernel_rfl)
(.node (by kernel_rfl) (by kernel_rfl) (fun h3 =>
(.pt (c := (inR n4 (List.length l0))) (by kernel_rfl) (by kernel_rfl) (by (simp only [w64d, decide_eq_true_eq, decide_eq_false_iff_not, beq_iff_eq, beq_eq_false_iff_ne, bne_iff_ne, ne_eq, inR, Bool.and_eq_true, Bool.and_eq_false_iff, Bool.not_eq_true', Bool.not_eq_false', Bool.not_eq_eq_eq_not, Bool.not_true, Bool.not_false] at *; omega))
(.node (by kernel_rfl) (by kernel_rfl) (fun h4 =>
(.path [1] (by kernel_rfl)
(.node (by kernel_rfl) (by kernel_rfl) (fun h5 =>
(.node (by kernel_rfl) (by kernel_rfl) (fun h6 =>
(.path [1,1] (by kernel_rfl)
(.leaf (by kernel_rfl)))) (fun h6 =>
.none))) (fun h5 =>
(.path [1] (by kernel_rfl)
(.leaf (by kernel_rfl))))))) (fun h4 =>
.none)))) (fun h3 =>
(.path [0,0,1] (by kernel_rfl)
(.leaf (by kernel_rfl))))))) (fun h2 =>
.none))) (fun h1 =>
(.path [1] (by kernel_rfl)
(.leaf (by kernel_rfl)))))) (fun h0 =>
(.path [0,0,1] (by kernel_rfl)
(.leaf (by kernel_rfl))))))

noncomputable def st_L29_3 (env : List Dat) : Tree Step := Lk.stepMC false LK cs_27 29 3 (lsM [(6, L29_6)] 0) (mkM 0 [] [(sh 37 [(0, .imm TU 0), (1, .int .u64 1), (5, .int .u64 2), (6, .int .i64 3)], [])] [] [(.exit 0, sh 37 [(5, .int .u64 0)], [])] fun _ => none) env
theorem op_L29_3_ex : ∃ f : List Dat → Option (Nat × List Dat), ∀ env, f env = iterS st_L29_3 FU env := ⟨iterS st_L29_3 FU, fun _ => rfl⟩
noncomputable def op_L29_3 : List Dat → Option (Nat × List Dat) := Classical.choose op_L29_3_ex
theorem op_L29_3_eq (env : List Dat) : op_L29_3 env = iterS st_L29_3 FU env := Classical.choose_spec op_L29_3_ex env
noncomputable def L29_3 : MBox := mkM 0 [] [(sh 37 [(0, .imm TU 0), (1, .int .u64 1), (5, .int .u64 2), (6, .int .i64 3)], [])] [] [(.exit 0, sh 37 [(5, .int .u64 0)], [])] op_L29_3
theorem L29_3_eqs : L29_3 = mkM 0 [] [(sh 37 [(0, .imm TU 0), (1, .int .u64 1), (5, .int .u64 2), (6, .int .i64 3)], [])] [] [(.exit 0, sh 37 [(5, .int .u64 0)], [])] (iterS st_L29_3 FU) := congrArg (fun f => mkM 0 [] [(sh 37 [(0, .imm TU 0), (1, .int .u64 1), (5, .int .u64 2), (6, .int .i64 3)], [])] [] [(.exit 0, sh 37 [(5, .int .u64 0)], [])] f) (funext op_L29_3_eq)
theorem L29_3_in : LsOk Try.prog 0 (lsM [(6, L29_6)] 0) (cAt Try.prog 29 3) := LsOk.many fun j B hB hk c hc hi => by
  simp only [lookM] at hB
  split at hB
  · rename_i e; have := Nat.eq_of_beq_eq_true e; subst this; cases hB
    have e1 : loopsAt (cAt Try.prog 29 3) 6 = [cAt Try.prog 29 6] := by kernel_rfl
    have e2 := loopsAt_mem hc hi
    rw [e1] at e2; cases List.mem_singleton.1 e2; exact L29_6_run
  cases hB
theorem L29_3_run : ∀ t s x, (manyRun L29_3 t s).sel = some x → CodeOk Try.prog 0 (.loop (cAt Try.prog 29 3)) t s x := by
  rw [L29_3_eqs]
  exact mkM_ok (st := st_L29_3) (m := FU) cs_27_ok hmix false (L29_3_in) (by kernel_rfl) (fun env y h => by rw [← stepMC_lk]; exact h)
theorem op_L29_3_good {p : Nat × List Dat → Prop} (Inv : List Dat → Prop) (μ : List Dat → Nat) (h : ∀ env, Inv env → Good (fun y => match y with | .go e => Inv e ∧ μ e < μ env | .stop k d => p (k, d)) (st_L29_3 env).sel) (env : List Dat) (hi : Inv env) (hm : μ env < FU) : Good p (op_L29_3 env) := by
  rw [op_L29_3_eq]
  exact iterS_good Inv μ p h FU env hi hm

noncomputable def fn_L29_3_t : List Dat → Tree Step
  | [.l (Ty.int IntKind.u64) l0, .n n1, .n n2, .n n3] =>
    (.node (decide (n3 < (64 : Int)))
     (let r1 : Option (Nat × List Dat) := (op_L29_6 [.k 0, .l (Ty.int IntKind.u64) l0, .n n1, .n n2, .n n3, .n (0 : Int)]);
      (.node (isK 0 [HK.l (Ty.int IntKind.u64), HK.n, HK.n, HK.n] r1)
       (.leaf (Step.go [.k 0, .l (Ty.int IntKind.u64) (gl (Ty.int IntKind.u64) (dOf r1) 0), .n (gn (dOf r1) 1), .n (gn (dOf r1) 2), .n (IntKind.wrap .i64 (gn (dOf r1) 3 + (1 : Int)))]))
       (.bad 351)))
     (.leaf (Step.stop 0 [.n n2])))
  | _ => .bad 0
theorem fn_L29_3_t_im (l0 : List (Ty.den (Ty.int IntKind.u64))) (n1 : Int) (n2 : Int) (n3 : Int) : Imp (fn_L29_3_t [.l (Ty.int IntKind.u64) l0, .n n1, .n n2, .n n3]) (st_L29_3 [.k 0, .l TU l0, .n n1, .n n2, .n n3]) :=
(.path [1] (by kernel_rfl)
(.node (by kernel_rfl) (by kernel_rfl) (fun h0 =>
(.node (by kernel_rfl) (by kernel_rfl) (fun h1 =>
(.path [1] (by kernel_rfl)
(.leaf (by kernel_rfl)))) (fun h1 =>
.none))) (fun h0 =>
(.path [1] (by kernel_rfl)
(.leaf (by kernel_rfl))))))

theorem ls_29_ok : LsOk Try.prog (List.length ([] : List PB)) (lsM [(3, L29_3)] (List.length ([] : List PB))) (bodyOf Try.prog 29) := LsOk.many fun j B hB hk c hc hi => by
  simp only [lookM] at hB
  split at hB
  · rename_i e; have := Nat.eq_of_beq_eq_true e; subst this; cases hB
    have e1 : loopAt Try.prog 29 3 = [cAt Try.prog 29 3] := loopAt_one (by kernel_rfl)
    have e2 : c ∈ loopAt Try.prog 29 3 := loopsAt_mem hc hi
    rw [e1] at e2; cases List.mem_singleton.1 e2; exact L29_3_run
  cases hB

noncomputable def ev_29 (env : List Dat) : Tree (Nat × List Dat) := Lk.boxC false LK cs_27 29 (lsM [(3, L29_3)] (List.length ([] : List PB))) (mkF [.imm TU 0, .int .u64 1] [] [] [(.int .u64 0, [])] fun _ => none) env
theorem op_29_ex : ∃ f : List Dat → Option (Nat × List Dat), ∀ env, f env = (ev_29 env).sel := ⟨fun env => (ev_29 env).sel, fun _ => rfl⟩
noncomputable def op_29 : List Dat → Option (Nat × List Dat) := Classical.choose op_29_ex
theorem op_29_eq (env : List Dat) : op_29 env = (ev_29 env).sel := Classical.choose_spec op_29_ex env
noncomputable def B29 : FBox := mkF [.imm TU 0, .int .u64 1] [] [] [(.int .u64 0, [])] op_29
theorem B29_ok : RunOk Try.prog 29 (boxRun B29) := mkF_ok (op := op_29) cs_27_ok hmix false (ls_29_ok) (fun env x h => by rw [op_29_eq] at h; rw [← boxC_lk]; exact h)
theorem op_29_good {p : Nat × List Dat → Prop} {T : Tree (Nat × List Dat)} {env : List Dat} (h : Imp T (ev_29 env)) (g : Good p T.sel) : Good p (op_29 env) := by
  rw [op_29_eq]
  exact h.good g

noncomputable def fn_29_t : List Dat → Tree (Nat × List Dat)
  | [.l (Ty.int IntKind.u64) l0, .n n1] =>
    (let r1 : Option (Nat × List Dat) := (op_L29_3 [.k 0, .l (Ty.int IntKind.u64) l0, .n n1, .n (0 : Int), .n (0 : Int)]);
     (.node (isK 0 [HK.n] r1)
      (.leaf ((0, [.n (gn (dOf r1) 0)])))
      (.bad 351)))
  | _ => .bad 0
theorem fn_29_t_im (l0 : List (Ty.den (Ty.int IntKind.u64))) (n1 : Int) : Imp (fn_29_t [.l (Ty.int IntKind.u64) l0, .n n1]) (ev_29 [.l TU l0, .n n1]) :=
(.node (by kernel_rfl) (by kernel_rfl) (fun h0 =>
(.path [1] (by kernel_rfl)
(.leaf (by kernel_rfl)))) (fun h0 =>
.none))

noncomputable def cs_29 : FuncId → Option CSpec := csLend 29 B29 cs_27
theorem cs_29_ok : CsOk Try.prog cs_29 := csLend_ok cs_27_ok B29_ok

noncomputable def ev_W3 (env : List Dat) : Tree Bool := Lk.lawB false LK cs_29 3 ls0 (instL [.int .u64 0, .int .i64 1] env)

theorem W3_law (env : List Dat) (h : (ev_W3 env).sel = some true) {w : World} {args : Array Value} (ha : LRel R0 (snapOf w) (instL [.int .u64 0, .int .i64 1] env) args) :
    Calls Try.prog 3 args w fun e w' => e = .returned (.bool true) ∧ Below w.heap.size w w' :=
  lawB_ok cs_29_ok hmix false (ls := ls0) (LsOk.none _ _ _) (by rw [← lawB_lk]; exact h) ha

noncomputable def fn_W3_t : List Dat → Tree Bool
  | [.n n0, .n n1] =>
    (let r1 : Option (Nat × List Dat) := (op_10 [.n n0, .n n1]);
     (.node (isK 0 [HK.b] r1)
      (let r2 : Option (Nat × List Dat) := (op_11 [.n n0, .n n1]);
       (.node (isK 0 [HK.b] r2)
        (.node (gb (dOf r1) 0 == gb (dOf r2) 0)
         (let r3 : Option (Nat × List Dat) := (op_12 [.n n0, .n n1]);
          (.node (isK 0 [HK.n] r3)
           (let r4 : Option (Nat × List Dat) := (op_13 [.n n0, .n n1]);
            (.node (isK 0 [HK.n] r4)
             (.node (gn (dOf r3) 0 == gn (dOf r4) 0)
              (let r5 : Option (Nat × List Dat) := (op_14 [.n n0, .n n1]);
               (.node (isK 0 [HK.n] r5)
                (let r6 : Option (Nat × List Dat) := (op_15 [.n n0, .n n1]);
                 (.node (isK 0 [HK.n] r6)
                  (.node (gn (dOf r5) 0 == gn (dOf r6) 0)
                   (.leaf (true))
                   (.leaf (false)))
                  (.bad 351)))
                (.bad 351)))
              (.leaf (false)))
             (.bad 351)))
           (.bad 351)))
         (.leaf (false)))
        (.bad 351)))
      (.bad 351)))
  | _ => .bad 0
theorem fn_W3_t_im (n0 : Int) (n1 : Int) : Imp (fn_W3_t [.n n0, .n n1]) (ev_W3 [.n n0, .n n1]) :=
(.node (by kernel_rfl) (by kernel_rfl) (fun h0 =>
(.path [1] (by kernel_rfl)
(.node (by kernel_rfl) (by kernel_rfl) (fun h1 =>
(.path [1] (by kernel_rfl)
(.node (by kernel_rfl) (by kernel_rfl) (fun h2 =>
(.node (by kernel_rfl) (by kernel_rfl) (fun h3 =>
(.path [1] (by kernel_rfl)
(.node (by kernel_rfl) (by kernel_rfl) (fun h4 =>
(.path [1] (by kernel_rfl)
(.node (by kernel_rfl) (by kernel_rfl) (fun h5 =>
(.node (by kernel_rfl) (by kernel_rfl) (fun h6 =>
(.path [1] (by kernel_rfl)
(.node (by kernel_rfl) (by kernel_rfl) (fun h7 =>
(.path [1] (by kernel_rfl)
(.node (by kernel_rfl) (by kernel_rfl) (fun h8 =>
(.path [1,1,1] (by kernel_rfl)
(.leaf (by kernel_rfl)))) (fun h8 =>
(.path [0] (by kernel_rfl)
(.leaf (by kernel_rfl))))))) (fun h7 =>
.none)))) (fun h6 =>
.none))) (fun h5 =>
(.path [0,0,0] (by kernel_rfl)
(.leaf (by kernel_rfl))))))) (fun h4 =>
.none)))) (fun h3 =>
.none))) (fun h2 =>
(.path [0,0,0,0,0] (by kernel_rfl)
(.leaf (by kernel_rfl))))))) (fun h1 =>
.none)))) (fun h0 =>
.none))

noncomputable def ev_W4 (env : List Dat) : Tree Bool := Lk.lawB false LK cs_29 4 ls0 (instL [.imm TI 0] env)

theorem W4_law (env : List Dat) (h : (ev_W4 env).sel = some true) {w : World} {args : Array Value} (ha : LRel R0 (snapOf w) (instL [.imm TI 0] env) args) :
    Calls Try.prog 4 args w fun e w' => e = .returned (.bool true) ∧ Below w.heap.size w w' :=
  lawB_ok cs_29_ok hmix false (ls := ls0) (LsOk.none _ _ _) (by rw [← lawB_lk]; exact h) ha

noncomputable def fn_W4_t : List Dat → Tree Bool
  | [.l (Ty.int IntKind.i64) l0] =>
    (.node (decide ((↑(List.length l0) : Int) > (500 : Int)))
     (.leaf (true))
     (let r1 : Option (Nat × List Dat) := (op_17 [.l (Ty.int IntKind.i64) l0]);
      (.node (isK 0 [HK.n] r1)
       (let r2 : Option (Nat × List Dat) := (op_18 [.l (Ty.int IntKind.i64) l0]);
        (.node (isK 0 [HK.n] r2)
         (.node (gn (dOf r1) 0 == gn (dOf r2) 0)
          (.leaf (true))
          (.leaf (false)))
         (.bad 351)))
       (.bad 351))))
  | _ => .bad 0
theorem fn_W4_t_im (l0 : List (Ty.den (Ty.int IntKind.i64))) : Imp (fn_W4_t [.l (Ty.int IntKind.i64) l0]) (ev_W4 [.l TI l0]) :=
(.node (by kernel_rfl) (by kernel_rfl) (fun h0 =>
(.path [1,1,1,1,1] (by kernel_rfl)
(.leaf (by kernel_rfl)))) (fun h0 =>
(.node (by kernel_rfl) (by kernel_rfl) (fun h1 =>
(.path [1] (by kernel_rfl)
(.node (by kernel_rfl) (by kernel_rfl) (fun h2 =>
(.path [1] (by kernel_rfl)
(.node (by kernel_rfl) (by kernel_rfl) (fun h3 =>
(.path [1,1,1] (by kernel_rfl)
(.leaf (by kernel_rfl)))) (fun h3 =>
(.path [0] (by kernel_rfl)
(.leaf (by kernel_rfl))))))) (fun h2 =>
.none)))) (fun h1 =>
.none))))

noncomputable def st_L5_5 (env : List Dat) : Tree Step := Lk.stepMC false LK cs_29 5 5 ls0 (mkM 0 [] [(sh 44 [(0, .int .u64 0), (3, .own 0), (4, .own 1), (5, .int .i64 1)], [.arr TI 2, .arr TI 3])] [] [(.exit 0, sh 44 [(0, .int .u64 0), (4, .own 0)], [.arr TI 1])] fun _ => none) env
theorem op_L5_5_ex : ∃ f : List Dat → Option (Nat × List Dat), ∀ env, f env = iterS st_L5_5 FU env := ⟨iterS st_L5_5 FU, fun _ => rfl⟩
noncomputable def op_L5_5 : List Dat → Option (Nat × List Dat) := Classical.choose op_L5_5_ex
theorem op_L5_5_eq (env : List Dat) : op_L5_5 env = iterS st_L5_5 FU env := Classical.choose_spec op_L5_5_ex env
noncomputable def L5_5 : MBox := mkM 0 [] [(sh 44 [(0, .int .u64 0), (3, .own 0), (4, .own 1), (5, .int .i64 1)], [.arr TI 2, .arr TI 3])] [] [(.exit 0, sh 44 [(0, .int .u64 0), (4, .own 0)], [.arr TI 1])] op_L5_5
theorem L5_5_eqs : L5_5 = mkM 0 [] [(sh 44 [(0, .int .u64 0), (3, .own 0), (4, .own 1), (5, .int .i64 1)], [.arr TI 2, .arr TI 3])] [] [(.exit 0, sh 44 [(0, .int .u64 0), (4, .own 0)], [.arr TI 1])] (iterS st_L5_5 FU) := congrArg (fun f => mkM 0 [] [(sh 44 [(0, .int .u64 0), (3, .own 0), (4, .own 1), (5, .int .i64 1)], [.arr TI 2, .arr TI 3])] [] [(.exit 0, sh 44 [(0, .int .u64 0), (4, .own 0)], [.arr TI 1])] f) (funext op_L5_5_eq)
theorem L5_5_run : ∀ t s x, (manyRun L5_5 t s).sel = some x → CodeOk Try.prog 0 (.loop (cAt Try.prog 5 5)) t s x := by
  rw [L5_5_eqs]
  exact mkM_ok (st := st_L5_5) (m := FU) cs_29_ok hmix false (LsOk.none _ _ _) (by kernel_rfl) (fun env y h => by rw [← stepMC_lk]; exact h)
theorem op_L5_5_good {p : Nat × List Dat → Prop} (Inv : List Dat → Prop) (μ : List Dat → Nat) (h : ∀ env, Inv env → Good (fun y => match y with | .go e => Inv e ∧ μ e < μ env | .stop k d => p (k, d)) (st_L5_5 env).sel) (env : List Dat) (hi : Inv env) (hm : μ env < FU) : Good p (op_L5_5 env) := by
  rw [op_L5_5_eq]
  exact iterS_good Inv μ p h FU env hi hm

noncomputable def fn_L5_5_t : List Dat → Tree Step
  | [.n n0, .n n1, .l (Ty.int IntKind.i64) l2, .l (Ty.int IntKind.i64) l3] =>
    (.node (decide (n1 < (↑(List.length l2) : Int)))
     (.leaf (Step.go [.k 0, .n n0, .n (IntKind.wrap .i64 (n1 + (1 : Int))), .l (Ty.int IntKind.i64) (List.set l2 (Int.toNat n1) (-1 : Int)), .l (Ty.int IntKind.i64) l3]))
     (.leaf (Step.stop 0 [.n n0, .l (Ty.int IntKind.i64) l3])))
  | _ => .bad 0
theorem fn_L5_5_t_im (n0 : Int) (n1 : Int) (l2 : List (Ty.den (Ty.int IntKind.i64))) (l3 : List (Ty.den (Ty.int IntKind.i64))) (g0 : 0 ≤ n1) : Imp (fn_L5_5_t [.n n0, .n n1, .l (Ty.int IntKind.i64) l2, .l (Ty.int IntKind.i64) l3]) (st_L5_5 [.k 0, .n n0, .n n1, .l TI l2, .l TI l3]) :=
(.path [1] (by kernel_rfl)
(.node (by kernel_rfl) (by kernel_rfl) (fun h0 =>
(.pt (c := (inR n1 (List.length l2))) (by kernel_rfl) (by kernel_rfl) (by (simp only [w64d, decide_eq_true_eq, decide_eq_false_iff_not, beq_iff_eq, beq_eq_false_iff_ne, bne_iff_ne, ne_eq, inR, Bool.and_eq_true, Bool.and_eq_false_iff, Bool.not_eq_true', Bool.not_eq_false', Bool.not_eq_eq_eq_not, Bool.not_true, Bool.not_false] at *; omega))
(.path [1] (by kernel_rfl)
(.leaf (by kernel_rfl))))) (fun h0 =>
(.path [1] (by kernel_rfl)
(.leaf (by kernel_rfl))))))

theorem ls_5_ok : LsOk Try.prog (0) (lsM [(5, L5_5)] (0)) (bodyOf Try.prog 5) := LsOk.many fun j B hB hk c hc hi => by
  simp only [lookM] at hB
  split at hB
  · rename_i e; have := Nat.eq_of_beq_eq_true e; subst this; cases hB
    have e1 : loopAt Try.prog 5 5 = [cAt Try.prog 5 5] := loopAt_one (by kernel_rfl)
    have e2 : c ∈ loopAt Try.prog 5 5 := loopsAt_mem hc hi
    rw [e1] at e2; cases List.mem_singleton.1 e2; exact L5_5_run
  cases hB

noncomputable def ev_W5 (env : List Dat) : Tree Bool := Lk.lawB false LK cs_29 5 (lsM [(5, L5_5)] (0)) (instL [.int .u64 0] env)

theorem W5_law (env : List Dat) (h : (ev_W5 env).sel = some true) {w : World} {args : Array Value} (ha : LRel R0 (snapOf w) (instL [.int .u64 0] env) args) :
    Calls Try.prog 5 args w fun e w' => e = .returned (.bool true) ∧ Below w.heap.size w w' :=
  lawB_ok cs_29_ok hmix false (ls := (lsM [(5, L5_5)] (0))) (ls_5_ok) (by rw [← lawB_lk]; exact h) ha

noncomputable def fn_W5_t : List Dat → Tree Bool
  | [.n n0] =>
    (let r1 : Option (Nat × List Dat) := (op_19 [.n n0]);
     (.node (isK 0 [HK.l (Ty.int IntKind.i64)] r1)
      (let r2 : Option (Nat × List Dat) := (op_20 [.n n0]);
       (.node (isK 0 [HK.l (Ty.int IntKind.i64)] r2)
        (let r3 : Option (Nat × List Dat) := (op_21 [.l (Ty.int IntKind.i64) (gl (Ty.int IntKind.i64) (dOf r1) 0), .l (Ty.int IntKind.i64) (gl (Ty.int IntKind.i64) (dOf r2) 0)]);
         (.node (isK 0 [HK.b] r3)
          (.node (!gb (dOf r3) 0)
           (.leaf (false))
           (let r4 : Option (Nat × List Dat) := (op_L5_5 [.k 0, .n n0, .n (0 : Int), .l (Ty.int IntKind.i64) (gl (Ty.int IntKind.i64) (dOf r1) 0), .l (Ty.int IntKind.i64) (gl (Ty.int IntKind.i64) (dOf r2) 0)]);
            (.node (isK 0 [HK.n, HK.l (Ty.int IntKind.i64)] r4)
             (let r5 : Option (Nat × List Dat) := (op_19 [.n (gn (dOf r4) 0)]);
              (.node (isK 0 [HK.l (Ty.int IntKind.i64)] r5)
               (let r6 : Option (Nat × List Dat) := (op_21 [.l (Ty.int IntKind.i64) (gl (Ty.int IntKind.i64) (dOf r5) 0), .l (Ty.int IntKind.i64) (gl (Ty.int IntKind.i64) (dOf r4) 1)]);
                (.node (isK 0 [HK.b] r6)
                 (.node (gb (dOf r6) 0)
                  (let r7 : Option (Nat × List Dat) := (op_22 [.n (gn (dOf r4) 0)]);
                   (.node (isK 0 [HK.n] r7)
                    (let r8 : Option (Nat × List Dat) := (op_23 [.n (gn (dOf r4) 0)]);
                     (.node (isK 0 [HK.n] r8)
                      (.node (gn (dOf r7) 0 == gn (dOf r8) 0)
                       (let r9 : Option (Nat × List Dat) := (op_24 [.n (gn (dOf r4) 0)]);
                        (.node (isK 0 [HK.n] r9)
                         (let r10 : Option (Nat × List Dat) := (op_25 [.n (gn (dOf r4) 0)]);
                          (.node (isK 0 [HK.n] r10)
                           (.node (gn (dOf r9) 0 == gn (dOf r10) 0)
                            (.leaf (true))
                            (.leaf (false)))
                           (.bad 351)))
                         (.bad 351)))
                       (.leaf (false)))
                      (.bad 351)))
                    (.bad 351)))
                  (.leaf (false)))
                 (.bad 351)))
               (.bad 351)))
             (.bad 351))))
          (.bad 351)))
        (.bad 351)))
      (.bad 351)))
  | _ => .bad 0
theorem fn_W5_t_im (n0 : Int) : Imp (fn_W5_t [.n n0]) (ev_W5 [.n n0]) :=
(.node (by kernel_rfl) (by kernel_rfl) (fun h0 =>
(.path [1] (by kernel_rfl)
(.node (by kernel_rfl) (by kernel_rfl) (fun h1 =>
(.path [1] (by kernel_rfl)
(.node (by kernel_rfl) (by kernel_rfl) (fun h2 =>
(.path [1] (by kernel_rfl)
(.node (by kernel_rfl) (by kernel_rfl) (fun h3 =>
(.leaf (by kernel_rfl))) (fun h3 =>
(.node (by kernel_rfl) (by kernel_rfl) (fun h4 =>
(.node (by kernel_rfl) (by kernel_rfl) (fun h5 =>
(.path [1] (by kernel_rfl)
(.node (by kernel_rfl) (by kernel_rfl) (fun h6 =>
(.path [1] (by kernel_rfl)
(.node (by kernel_rfl) (by kernel_rfl) (fun h7 =>
(.node (by kernel_rfl) (by kernel_rfl) (fun h8 =>
(.path [1] (by kernel_rfl)
(.node (by kernel_rfl) (by kernel_rfl) (fun h9 =>
(.path [1] (by kernel_rfl)
(.node (by kernel_rfl) (by kernel_rfl) (fun h10 =>
(.node (by kernel_rfl) (by kernel_rfl) (fun h11 =>
(.path [1] (by kernel_rfl)
(.node (by kernel_rfl) (by kernel_rfl) (fun h12 =>
(.path [1] (by kernel_rfl)
(.node (by kernel_rfl) (by kernel_rfl) (fun h13 =>
(.path [1,1,1] (by kernel_rfl)
(.leaf (by kernel_rfl)))) (fun h13 =>
(.path [0] (by kernel_rfl)
(.leaf (by kernel_rfl))))))) (fun h12 =>
.none)))) (fun h11 =>
.none))) (fun h10 =>
(.path [0,0,0] (by kernel_rfl)
(.leaf (by kernel_rfl))))))) (fun h9 =>
.none)))) (fun h8 =>
.none))) (fun h7 =>
(.path [0,0,0,0,0] (by kernel_rfl)
(.leaf (by kernel_rfl))))))) (fun h6 =>
.none)))) (fun h5 =>
.none))) (fun h4 =>
.none)))))) (fun h2 =>
.none)))) (fun h1 =>
.none)))) (fun h0 =>
.none))

noncomputable def ev_W6 (env : List Dat) : Tree Bool := Lk.lawB false LK cs_29 6 ls0 (instL [.int .i64 0] env)

theorem W6_law (env : List Dat) (h : (ev_W6 env).sel = some true) {w : World} {args : Array Value} (ha : LRel R0 (snapOf w) (instL [.int .i64 0] env) args) :
    Calls Try.prog 6 args w fun e w' => e = .returned (.bool true) ∧ Below w.heap.size w w' :=
  lawB_ok cs_29_ok hmix false (ls := ls0) (LsOk.none _ _ _) (by rw [← lawB_lk]; exact h) ha

noncomputable def fn_W6_t : List Dat → Tree Bool
  | [.n n0] =>
    (let r1 : Option (Nat × List Dat) := (op_26 [.n n0]);
     (.node (isK 0 [HK.n] r1)
      (let r2 : Option (Nat × List Dat) := (op_27 [.n n0]);
       (.node (isK 0 [HK.n] r2)
        (.node (gn (dOf r1) 0 == gn (dOf r2) 0)
         (.leaf (true))
         (.leaf (false)))
        (.bad 351)))
      (.bad 351)))
  | _ => .bad 0
theorem fn_W6_t_im (n0 : Int) : Imp (fn_W6_t [.n n0]) (ev_W6 [.n n0]) :=
(.node (by kernel_rfl) (by kernel_rfl) (fun h0 =>
(.path [1] (by kernel_rfl)
(.node (by kernel_rfl) (by kernel_rfl) (fun h1 =>
(.path [1] (by kernel_rfl)
(.node (by kernel_rfl) (by kernel_rfl) (fun h2 =>
(.path [1,1,1] (by kernel_rfl)
(.leaf (by kernel_rfl)))) (fun h2 =>
(.path [0] (by kernel_rfl)
(.leaf (by kernel_rfl))))))) (fun h1 =>
.none)))) (fun h0 =>
.none))

noncomputable def ev_W7 (env : List Dat) : Tree Bool := Lk.lawB false LK cs_29 7 ls0 (instL [.imm TU 0, .int .u64 1] env)

theorem W7_law (env : List Dat) (h : (ev_W7 env).sel = some true) {w : World} {args : Array Value} (ha : LRel R0 (snapOf w) (instL [.imm TU 0, .int .u64 1] env) args) :
    Calls Try.prog 7 args w fun e w' => e = .returned (.bool true) ∧ Below w.heap.size w w' :=
  lawB_ok cs_29_ok hmix false (ls := ls0) (LsOk.none _ _ _) (by rw [← lawB_lk]; exact h) ha

noncomputable def fn_W7_t : List Dat → Tree Bool
  | [.l (Ty.int IntKind.u64) l0, .n n1] =>
    (.node (decide ((↑(List.length l0) : Int) > (100 : Int)))
     (.leaf (true))
     (let r1 : Option (Nat × List Dat) := (op_28 [.l (Ty.int IntKind.u64) l0, .n n1]);
      (.node (isK 0 [HK.n] r1)
       (let r2 : Option (Nat × List Dat) := (op_29 [.l (Ty.int IntKind.u64) l0, .n n1]);
        (.node (isK 0 [HK.n] r2)
         (.node (gn (dOf r1) 0 == gn (dOf r2) 0)
          (.leaf (true))
          (.leaf (false)))
         (.bad 351)))
       (.bad 351))))
  | _ => .bad 0
theorem fn_W7_t_im (l0 : List (Ty.den (Ty.int IntKind.u64))) (n1 : Int) : Imp (fn_W7_t [.l (Ty.int IntKind.u64) l0, .n n1]) (ev_W7 [.l TU l0, .n n1]) :=
(.node (by kernel_rfl) (by kernel_rfl) (fun h0 =>
(.path [1,1,1,1,1] (by kernel_rfl)
(.leaf (by kernel_rfl)))) (fun h0 =>
(.node (by kernel_rfl) (by kernel_rfl) (fun h1 =>
(.path [1] (by kernel_rfl)
(.node (by kernel_rfl) (by kernel_rfl) (fun h2 =>
(.path [1] (by kernel_rfl)
(.node (by kernel_rfl) (by kernel_rfl) (fun h3 =>
(.path [1,1,1] (by kernel_rfl)
(.leaf (by kernel_rfl)))) (fun h3 =>
(.path [0] (by kernel_rfl)
(.leaf (by kernel_rfl))))))) (fun h2 =>
.none)))) (fun h1 =>
.none))))

noncomputable def st_L8_4 (env : List Dat) : Tree Step := Lk.stepMC false LK cs_29 8 4 ls0 (mkM 0 [] [(sh 130 [(0, .int .u64 0), (1, .int .i64 1), (5, .own 0), (6, .bool 2), (7, .int .i64 3)], [.arr TI 4])] [] [(.exit 0, sh 130 [(0, .int .u64 0), (1, .int .i64 1), (5, .own 0), (6, .bool 2)], [.arr TI 3]), (.ret, sh 130 [(4, .bool 0)], [])] fun _ => none) env
theorem op_L8_4_ex : ∃ f : List Dat → Option (Nat × List Dat), ∀ env, f env = iterS st_L8_4 FU env := ⟨iterS st_L8_4 FU, fun _ => rfl⟩
noncomputable def op_L8_4 : List Dat → Option (Nat × List Dat) := Classical.choose op_L8_4_ex
theorem op_L8_4_eq (env : List Dat) : op_L8_4 env = iterS st_L8_4 FU env := Classical.choose_spec op_L8_4_ex env
noncomputable def L8_4 : MBox := mkM 0 [] [(sh 130 [(0, .int .u64 0), (1, .int .i64 1), (5, .own 0), (6, .bool 2), (7, .int .i64 3)], [.arr TI 4])] [] [(.exit 0, sh 130 [(0, .int .u64 0), (1, .int .i64 1), (5, .own 0), (6, .bool 2)], [.arr TI 3]), (.ret, sh 130 [(4, .bool 0)], [])] op_L8_4
theorem L8_4_eqs : L8_4 = mkM 0 [] [(sh 130 [(0, .int .u64 0), (1, .int .i64 1), (5, .own 0), (6, .bool 2), (7, .int .i64 3)], [.arr TI 4])] [] [(.exit 0, sh 130 [(0, .int .u64 0), (1, .int .i64 1), (5, .own 0), (6, .bool 2)], [.arr TI 3]), (.ret, sh 130 [(4, .bool 0)], [])] (iterS st_L8_4 FU) := congrArg (fun f => mkM 0 [] [(sh 130 [(0, .int .u64 0), (1, .int .i64 1), (5, .own 0), (6, .bool 2), (7, .int .i64 3)], [.arr TI 4])] [] [(.exit 0, sh 130 [(0, .int .u64 0), (1, .int .i64 1), (5, .own 0), (6, .bool 2)], [.arr TI 3]), (.ret, sh 130 [(4, .bool 0)], [])] f) (funext op_L8_4_eq)
theorem L8_4_run : ∀ t s x, (manyRun L8_4 t s).sel = some x → CodeOk Try.prog 0 (.loop (cAt Try.prog 8 4)) t s x := by
  rw [L8_4_eqs]
  exact mkM_ok (st := st_L8_4) (m := FU) cs_29_ok hmix false (LsOk.none _ _ _) (by kernel_rfl) (fun env y h => by rw [← stepMC_lk]; exact h)
theorem op_L8_4_good {p : Nat × List Dat → Prop} (Inv : List Dat → Prop) (μ : List Dat → Nat) (h : ∀ env, Inv env → Good (fun y => match y with | .go e => Inv e ∧ μ e < μ env | .stop k d => p (k, d)) (st_L8_4 env).sel) (env : List Dat) (hi : Inv env) (hm : μ env < FU) : Good p (op_L8_4 env) := by
  rw [op_L8_4_eq]
  exact iterS_good Inv μ p h FU env hi hm

noncomputable def fn_L8_4_t : List Dat → Tree Step
  | [.n n0, .n n1, .b b2, .n n3, .l (Ty.int IntKind.i64) l4] =>
    (.node (decide (n3 < (↑(List.length l4) : Int)))
     (.node (b2)
      (.node (decide (n3 > (0 : Int)))
       (.node (inR (IntKind.wrap .i64 (n3 - (1 : Int))) (List.length l4))
        (.node (decide ((List.getD l4 (Int.toNat n3) (0 : Int) : Int) ≤ (List.getD l4 (Int.toNat (IntKind.wrap .i64 (n3 - (1 : Int)))) (0 : Int) : Int)))
         (.leaf (Step.stop 1 [.b false]))
         (.leaf (Step.go [.k 0, .n n0, .n n1, .b true, .n (IntKind.wrap .i64 (n3 + (1 : Int))), .l (Ty.int IntKind.i64) l4])))
        (.bad 12))
       (.leaf (Step.go [.k 0, .n n0, .n n1, .b true, .n (IntKind.wrap .i64 (n3 + (1 : Int))), .l (Ty.int IntKind.i64) l4])))
      (.node (decide (n3 > (0 : Int)))
       (.node (inR (IntKind.wrap .i64 (n3 - (1 : Int))) (List.length l4))
        (.node (decide ((List.getD l4 (Int.toNat n3) (0 : Int) : Int) ≤ (List.getD l4 (Int.toNat (IntKind.wrap .i64 (n3 - (1 : Int)))) (0 : Int) : Int)))
         (.leaf (Step.stop 1 [.b false]))
         (.leaf (Step.go [.k 0, .n n0, .n n1, .b ((List.getD l4 (Int.toNat n3) (0 : Int) : Int) == n1), .n (IntKind.wrap .i64 (n3 + (1 : Int))), .l (Ty.int IntKind.i64) l4])))
        (.bad 12))
       (.leaf (Step.go [.k 0, .n n0, .n n1, .b ((List.getD l4 (Int.toNat n3) (0 : Int) : Int) == n1), .n (IntKind.wrap .i64 (n3 + (1 : Int))), .l (Ty.int IntKind.i64) l4]))))
     (.leaf (Step.stop 0 [.n n0, .n n1, .b b2, .l (Ty.int IntKind.i64) l4])))
  | _ => .bad 0
theorem fn_L8_4_t_im (n0 : Int) (n1 : Int) (b2 : Bool) (n3 : Int) (l4 : List (Ty.den (Ty.int IntKind.i64))) (g0 : 0 ≤ n3) : Imp (fn_L8_4_t [.n n0, .n n1, .b b2, .n n3, .l (Ty.int IntKind.i64) l4]) (st_L8_4 [.k 0, .n n0, .n n1, .b b2, .n n3, .l TI l4]) :=
(.path [1] (by kernel_rfl)
(.node (by kernel_rfl) (by kernel_rfl) (fun h0 =>
(.node (by kernel_rfl) (by kernel_rfl) (fun h1 =>
(.path [1] (by kernel_rfl)
(.node (by kernel_rfl) (by kernel_rfl) (fun h2 =>
(.pt (c := (inR n3 (List.length l4))) (by kernel_rfl) (by kernel_rfl) (by (simp only [w64d, decide_eq_true_eq, decide_eq_false_iff_not, beq_iff_eq, beq_eq_false_iff_ne, bne_iff_ne, ne_eq, inR, Bool.and_eq_true, Bool.and_eq_false_iff, Bool.not_eq_true', Bool.not_eq_false', Bool.not_eq_eq_eq_not, Bool.not_true, Bool.not_false] at *; omega))
(.node (by kernel_rfl) (by kernel_rfl) (fun h3 =>
(.path [1] (by kernel_rfl)
(.node (by kernel_rfl) (by kernel_rfl) (fun h4 =>
(.path [1] (by kernel_rfl)
(.leaf (by kernel_rfl)))) (fun h4 =>
(.path [1] (by kernel_rfl)
(.leaf (by kernel_rfl))))))) (fun h3 =>
.none)))) (fun h2 =>
(.path [0,1,0,1] (by kernel_rfl)
(.leaf (by kernel_rfl))))))) (fun h1 =>
(.pt (c := (inR n3 (List.length l4))) (by kernel_rfl) (by kernel_rfl) (by (simp only [w64d, decide_eq_true_eq, decide_eq_false_iff_not, beq_iff_eq, beq_eq_false_iff_ne, bne_iff_ne, ne_eq, inR, Bool.and_eq_true, Bool.and_eq_false_iff, Bool.not_eq_true', Bool.not_eq_false', Bool.not_eq_eq_eq_not, Bool.not_true, Bool.not_false] at *; omega))
(.node (by kernel_rfl) (by kernel_rfl) (fun h2 =>
(.pt (c := (inR n3 (List.length l4))) (by kernel_rfl) (by kernel_rfl) (by (simp only [w64d, decide_eq_true_eq, decide_eq_false_iff_not, beq_iff_eq, beq_eq_false_iff_ne, bne_iff_ne, ne_eq, inR, Bool.and_eq_true, Bool.and_eq_false_iff, Bool.not_eq_true', Bool.not_eq_false', Bool.not_eq_eq_eq_not, Bool.not_true, Bool.not_false] at *; omega))
(.node (by kernel_rfl) (by kernel_rfl) (fun h3 =>
(.path [1] (by kernel_rfl)
(.node (by kernel_rfl) (by kernel_rfl) (fun h4 =>
(.path [1] (by kernel_rfl)
(.leaf (by kernel_rfl)))) (fun h4 =>
(.path [1] (by kernel_rfl)
(.leaf (by kernel_rfl))))))) (fun h3 =>
.none)))) (fun h2 =>
(.path [0,1,0,1] (by kernel_rfl)
(.leaf (by kernel_rfl))))))))) (fun h0 =>
(.path [1] (by kernel_rfl)
(.leaf (by kernel_rfl))))))

theorem ls_8_ok : LsOk Try.prog (0) (lsM [(4, L8_4)] (0)) (bodyOf Try.prog 8) := LsOk.many fun j B hB hk c hc hi => by
  simp only [lookM] at hB
  split at hB
  · rename_i e; have := Nat.eq_of_beq_eq_true e; subst this; cases hB
    have e1 : loopAt Try.prog 8 4 = [cAt Try.prog 8 4] := loopAt_one (by kernel_rfl)
    have e2 : c ∈ loopAt Try.prog 8 4 := loopsAt_mem hc hi
    rw [e1] at e2; cases List.mem_singleton.1 e2; exact L8_4_run
  cases hB

noncomputable def ev_W8 (env : List Dat) : Tree Bool := Lk.lawB false LK cs_29 8 (lsM [(4, L8_4)] (0)) (instL [.int .u64 0, .int .i64 1] env)

theorem W8_law (env : List Dat) (h : (ev_W8 env).sel = some true) {w : World} {args : Array Value} (ha : LRel R0 (snapOf w) (instL [.int .u64 0, .int .i64 1] env) args) :
    Calls Try.prog 8 args w fun e w' => e = .returned (.bool true) ∧ Below w.heap.size w w' :=
  lawB_ok cs_29_ok hmix false (ls := (lsM [(4, L8_4)] (0))) (ls_8_ok) (by rw [← lawB_lk]; exact h) ha

noncomputable def fn_W8_t : List Dat → Tree Bool
  | [.n n0, .n n1] =>
    (let r1 : Option (Nat × List Dat) := (op_19 [.n n0]);
     (.node (isK 0 [HK.l (Ty.int IntKind.i64)] r1)
      (let r2 : Option (Nat × List Dat) := (op_L8_4 [.k 0, .n n0, .n n1, .b false, .n (0 : Int), .l (Ty.int IntKind.i64) (gl (Ty.int IntKind.i64) (dOf r1) 0)]);
       (.node (isK 0 [HK.n, HK.n, HK.b, HK.l (Ty.int IntKind.i64)] r2)
        (let r3 : Option (Nat × List Dat) := (op_17 [.l (Ty.int IntKind.i64) (gl (Ty.int IntKind.i64) (dOf r2) 3)]);
         (.node (isK 0 [HK.n] r3)
          (.node (gn (dOf r3) 0 != gn (dOf r2) 0)
           (.leaf (false))
           (let r4 : Option (Nat × List Dat) := (op_22 [.n (gn (dOf r2) 0)]);
            (.node (isK 0 [HK.n] r4)
             (.node ((↑(List.length (gl (Ty.int IntKind.i64) (dOf r2) 3)) : Int) != gn (dOf r4) 0)
              (.leaf (false))
              (.node (decide ((↑(List.length (gl (Ty.int IntKind.i64) (dOf r2) 3)) : Int) > (0 : Int)))
               (let r5 : Option (Nat × List Dat) := (op_24 [.n (gn (dOf r2) 0)]);
                (.node (isK 0 [HK.n] r5)
                 (.node ((List.getD (gl (Ty.int IntKind.i64) (dOf r2) 3) 0 (0 : Int) : Int) != gn (dOf r5) 0)
                  (.leaf (false))
                  (let r6 : Option (Nat × List Dat) := (op_10 [.n (gn (dOf r2) 0), .n (gn (dOf r2) 1)]);
                   (.node (isK 0 [HK.b] r6)
                    (.node (!gb (dOf r2) 2 == gb (dOf r6) 0)
                     (.leaf (false))
                     (let r7 : Option (Nat × List Dat) := (op_12 [.n (gn (dOf r2) 0), .n (gn (dOf r2) 1)]);
                      (.node (isK 0 [HK.n] r7)
                       (let r8 : Option (Nat × List Dat) := (op_14 [.n (gn (dOf r2) 0), .n (gn (dOf r2) 1)]);
                        (.node (isK 0 [HK.n] r8)
                         (.node (decide (gn (dOf r2) 1 ≥ (0 : Int)))
                          (let r9 : Option (Nat × List Dat) := (op_10 [.n (gn (dOf r7) 0), .n (gn (dOf r2) 1)]);
                           (.node (isK 0 [HK.b] r9)
                            (.node (gb (dOf r9) 0 == decide (gn (dOf r2) 1 < (64 : Int)))
                             (let r10 : Option (Nat × List Dat) := (op_10 [.n (gn (dOf r8) 0), .n (gn (dOf r2) 1)]);
                              (.node (isK 0 [HK.b] r10)
                               (.node (!gb (dOf r10) 0)
                                (let r11 : Option (Nat × List Dat) := (op_14 [.n (gn (dOf r7) 0), .n (gn (dOf r2) 1)]);
                                 (.node (isK 0 [HK.n] r11)
                                  (.node (gn (dOf r11) 0 == gn (dOf r8) 0)
                                   (let r12 : Option (Nat × List Dat) := (op_12 [.n (gn (dOf r8) 0), .n (gn (dOf r2) 1)]);
                                    (.node (isK 0 [HK.n] r12)
                                     (.node (gn (dOf r12) 0 == gn (dOf r7) 0)
                                      (.node (ior IntKind.u64 (gn (dOf r7) 0) (gn (dOf r8) 0) == gn (dOf r7) 0)
                                       (.leaf (true))
                                       (.leaf (false)))
                                      (.leaf (false)))
                                     (.bad 351)))
                                   (.leaf (false)))
                                  (.bad 351)))
                                (.leaf (false)))
                               (.bad 351)))
                             (.leaf (false)))
                            (.bad 351)))
                          (let r9 : Option (Nat × List Dat) := (op_10 [.n (gn (dOf r7) 0), .n (gn (dOf r2) 1)]);
                           (.node (isK 0 [HK.b] r9)
                            (.node (gb (dOf r9) 0 == false)
                             (let r10 : Option (Nat × List Dat) := (op_10 [.n (gn (dOf r8) 0), .n (gn (dOf r2) 1)]);
                              (.node (isK 0 [HK.b] r10)
                               (.node (!gb (dOf r10) 0)
                                (let r11 : Option (Nat × List Dat) := (op_14 [.n (gn (dOf r7) 0), .n (gn (dOf r2) 1)]);
                                 (.node (isK 0 [HK.n] r11)
                                  (.node (gn (dOf r11) 0 == gn (dOf r8) 0)
                                   (let r12 : Option (Nat × List Dat) := (op_12 [.n (gn (dOf r8) 0), .n (gn (dOf r2) 1)]);
                                    (.node (isK 0 [HK.n] r12)
                                     (.node (gn (dOf r12) 0 == gn (dOf r7) 0)
                                      (.node (ior IntKind.u64 (gn (dOf r7) 0) (gn (dOf r8) 0) == gn (dOf r7) 0)
                                       (.leaf (true))
                                       (.leaf (false)))
                                      (.leaf (false)))
                                     (.bad 351)))
                                   (.leaf (false)))
                                  (.bad 351)))
                                (.leaf (false)))
                               (.bad 351)))
                             (.leaf (false)))
                            (.bad 351))))
                         (.bad 351)))
                       (.bad 351))))
                    (.bad 351))))
                 (.bad 351)))
               (let r5 : Option (Nat × List Dat) := (op_24 [.n (gn (dOf r2) 0)]);
                (.node (isK 0 [HK.n] r5)
                 (.node (gn (dOf r5) 0 != (64 : Int))
                  (.leaf (false))
                  (let r6 : Option (Nat × List Dat) := (op_10 [.n (gn (dOf r2) 0), .n (gn (dOf r2) 1)]);
                   (.node (isK 0 [HK.b] r6)
                    (.node (!gb (dOf r2) 2 == gb (dOf r6) 0)
                     (.leaf (false))
                     (let r7 : Option (Nat × List Dat) := (op_12 [.n (gn (dOf r2) 0), .n (gn (dOf r2) 1)]);
                      (.node (isK 0 [HK.n] r7)
                       (let r8 : Option (Nat × List Dat) := (op_14 [.n (gn (dOf r2) 0), .n (gn (dOf r2) 1)]);
                        (.node (isK 0 [HK.n] r8)
                         (.node (decide (gn (dOf r2) 1 ≥ (0 : Int)))
                          (let r9 : Option (Nat × List Dat) := (op_10 [.n (gn (dOf r7) 0), .n (gn (dOf r2) 1)]);
                           (.node (isK 0 [HK.b] r9)
                            (.node (gb (dOf r9) 0 == decide (gn (dOf r2) 1 < (64 : Int)))
                             (let r10 : Option (Nat × List Dat) := (op_10 [.n (gn (dOf r8) 0), .n (gn (dOf r2) 1)]);
                              (.node (isK 0 [HK.b] r10)
                               (.node (!gb (dOf r10) 0)
                                (let r11 : Option (Nat × List Dat) := (op_14 [.n (gn (dOf r7) 0), .n (gn (dOf r2) 1)]);
                                 (.node (isK 0 [HK.n] r11)
                                  (.node (gn (dOf r11) 0 == gn (dOf r8) 0)
                                   (let r12 : Option (Nat × List Dat) := (op_12 [.n (gn (dOf r8) 0), .n (gn (dOf r2) 1)]);
                                    (.node (isK 0 [HK.n] r12)
                                     (.node (gn (dOf r12) 0 == gn (dOf r7) 0)
                                      (.node (ior IntKind.u64 (gn (dOf r7) 0) (gn (dOf r8) 0) == gn (dOf r7) 0)
                                       (.leaf (true))
                                       (.leaf (false)))
                                      (.leaf (false)))
                                     (.bad 351)))
                                   (.leaf (false)))
                                  (.bad 351)))
                                (.leaf (false)))
                               (.bad 351)))
                             (.leaf (false)))
                            (.bad 351)))
                          (let r9 : Option (Nat × List Dat) := (op_10 [.n (gn (dOf r7) 0), .n (gn (dOf r2) 1)]);
                           (.node (isK 0 [HK.b] r9)
                            (.node (gb (dOf r9) 0 == false)
                             (let r10 : Option (Nat × List Dat) := (op_10 [.n (gn (dOf r8) 0), .n (gn (dOf r2) 1)]);
                              (.node (isK 0 [HK.b] r10)
                               (.node (!gb (dOf r10) 0)
                                (let r11 : Option (Nat × List Dat) := (op_14 [.n (gn (dOf r7) 0), .n (gn (dOf r2) 1)]);
                                 (.node (isK 0 [HK.n] r11)
                                  (.node (gn (dOf r11) 0 == gn (dOf r8) 0)
                                   (let r12 : Option (Nat × List Dat) := (op_12 [.n (gn (dOf r8) 0), .n (gn (dOf r2) 1)]);
                                    (.node (isK 0 [HK.n] r12)
                                     (.node (gn (dOf r12) 0 == gn (dOf r7) 0)
                                      (.node (ior IntKind.u64 (gn (dOf r7) 0) (gn (dOf r8) 0) == gn (dOf r7) 0)
                                       (.leaf (true))
                                       (.leaf (false)))
                                      (.leaf (false)))
                                     (.bad 351)))
                                   (.leaf (false)))
                                  (.bad 351)))
                                (.leaf (false)))
                               (.bad 351)))
                             (.leaf (false)))
                            (.bad 351))))
                         (.bad 351)))
                       (.bad 351))))
                    (.bad 351))))
                 (.bad 351)))))
             (.bad 351))))
          (.bad 351)))
        (.node (isK 1 [HK.b] r2)
         (.leaf (gb (dOf r2) 0))
         (.bad 351))))
      (.bad 351)))
  | _ => .bad 0
theorem fn_W8_t_im (n0 : Int) (n1 : Int) : Imp (fn_W8_t [.n n0, .n n1]) (ev_W8 [.n n0, .n n1]) :=
(.node (by kernel_rfl) (by kernel_rfl) (fun h0 =>
(.path [1] (by kernel_rfl)
(.node (by kernel_rfl) (by kernel_rfl) (fun h1 =>
(.node (by kernel_rfl) (by kernel_rfl) (fun h2 =>
(.path [1] (by kernel_rfl)
(.node (by kernel_rfl) (by kernel_rfl) (fun h3 =>
(.path [1,1,1,1,1,1,1,1,1] (by kernel_rfl)
(.leaf (by kernel_rfl)))) (fun h3 =>
(.node (by kernel_rfl) (by kernel_rfl) (fun h4 =>
(.path [1] (by kernel_rfl)
(.node (by kernel_rfl) (by kernel_rfl) (fun h5 =>
(.path [1,1,1,1,1,1,1] (by kernel_rfl)
(.leaf (by kernel_rfl)))) (fun h5 =>
(.node (by kernel_rfl) (by kernel_rfl) (fun h6 =>
(.pt (c := (inR (0 : Int) (List.length (gl (Ty.int IntKind.i64) (dOf (op_L8_4 [.k 0, .n n0, .n n1, .b false, .n (0 : Int), .l (Ty.int IntKind.i64) (gl (Ty.int IntKind.i64) (dOf (op_19 [.n n0])) 0)])) 3)))) (by kernel_rfl) (by kernel_rfl) (by (simp only [w64d, decide_eq_true_eq, decide_eq_false_iff_not, beq_iff_eq, beq_eq_false_iff_ne, bne_iff_ne, ne_eq, inR, Bool.and_eq_true, Bool.and_eq_false_iff, Bool.not_eq_true', Bool.not_eq_false', Bool.not_eq_eq_eq_not, Bool.not_true, Bool.not_false] at *; omega))
(.node (by kernel_rfl) (by kernel_rfl) (fun h7 =>
(.path [1] (by kernel_rfl)
(.node (by kernel_rfl) (by kernel_rfl) (fun h8 =>
(.path [1,1,1,1,1] (by kernel_rfl)
(.leaf (by kernel_rfl)))) (fun h8 =>
(.pf (c := ((↑(List.length (gl (Ty.int IntKind.i64) (dOf (op_L8_4 [.k 0, .n n0, .n n1, .b false, .n (0 : Int), .l (Ty.int IntKind.i64) (gl (Ty.int IntKind.i64) (dOf (op_19 [.n n0])) 0)])) 3)) : Int) == (0 : Int))) (by kernel_rfl) (by kernel_rfl) (by (simp only [w64d, decide_eq_true_eq, decide_eq_false_iff_not, beq_iff_eq, beq_eq_false_iff_ne, bne_iff_ne, ne_eq, inR, Bool.and_eq_true, Bool.and_eq_false_iff, Bool.not_eq_true', Bool.not_eq_false', Bool.not_eq_eq_eq_not, Bool.not_true, Bool.not_false] at *; omega))
(.path [0,0] (by kernel_rfl)
(.node (by kernel_rfl) (by kernel_rfl) (fun h9 =>
(.path [1,1] (by kernel_rfl)
(.node (by kernel_rfl) (by kernel_rfl) (fun h10 =>
(.leaf (by kernel_rfl))) (fun h10 =>
(.node (by kernel_rfl) (by kernel_rfl) (fun h11 =>
(.path [1] (by kernel_rfl)
(.node (by kernel_rfl) (by kernel_rfl) (fun h12 =>
(.path [1] (by kernel_rfl)
(.node (by kernel_rfl) (by kernel_rfl) (fun h13 =>
(.node (by kernel_rfl) (by kernel_rfl) (fun h14 =>
(.path [1] (by kernel_rfl)
(.node (by kernel_rfl) (by kernel_rfl) (fun h15 =>
(.node (by kernel_rfl) (by kernel_rfl) (fun h16 =>
(.path [1] (by kernel_rfl)
(.node (by kernel_rfl) (by kernel_rfl) (fun h17 =>
(.node (by kernel_rfl) (by kernel_rfl) (fun h18 =>
(.path [1] (by kernel_rfl)
(.node (by kernel_rfl) (by kernel_rfl) (fun h19 =>
(.node (by kernel_rfl) (by kernel_rfl) (fun h20 =>
(.path [1] (by kernel_rfl)
(.node (by kernel_rfl) (by kernel_rfl) (fun h21 =>
(.node (by kernel_rfl) (by kernel_rfl) (fun h22 =>
(.path [1,1,1] (by kernel_rfl)
(.leaf (by kernel_rfl)))) (fun h22 =>
(.path [0] (by kernel_rfl)
(.leaf (by kernel_rfl)))))) (fun h21 =>
(.path [0,0,0] (by kernel_rfl)
(.leaf (by kernel_rfl))))))) (fun h20 =>
.none))) (fun h19 =>
(.path [0,0,0,0,0] (by kernel_rfl)
(.leaf (by kernel_rfl))))))) (fun h18 =>
.none))) (fun h17 =>
(.path [0,0,0,0,0,0,0] (by kernel_rfl)
(.leaf (by kernel_rfl))))))) (fun h16 =>
.none))) (fun h15 =>
(.path [0,0,0,0,0,0,0,0,0] (by kernel_rfl)
(.leaf (by kernel_rfl))))))) (fun h14 =>
.none))) (fun h13 =>
(.path [0] (by kernel_rfl)
(.node (by kernel_rfl) (by kernel_rfl) (fun h14 =>
(.path [1] (by kernel_rfl)
(.node (by kernel_rfl) (by kernel_rfl) (fun h15 =>
(.node (by kernel_rfl) (by kernel_rfl) (fun h16 =>
(.path [1] (by kernel_rfl)
(.node (by kernel_rfl) (by kernel_rfl) (fun h17 =>
(.node (by kernel_rfl) (by kernel_rfl) (fun h18 =>
(.path [1] (by kernel_rfl)
(.node (by kernel_rfl) (by kernel_rfl) (fun h19 =>
(.node (by kernel_rfl) (by kernel_rfl) (fun h20 =>
(.path [1] (by kernel_rfl)
(.node (by kernel_rfl) (by kernel_rfl) (fun h21 =>
(.node (by kernel_rfl) (by kernel_rfl) (fun h22 =>
(.path [1,1,1] (by kernel_rfl)
(.leaf (by kernel_rfl)))) (fun h22 =>
(.path [0] (by kernel_rfl)
(.leaf (by kernel_rfl)))))) (fun h21 =>
(.path [0,0,0] (by kernel_rfl)
(.leaf (by kernel_rfl))))))) (fun h20 =>
.none))) (fun h19 =>
(.path [0,0,0,0,0] (by kernel_rfl)
(.leaf (by kernel_rfl))))))) (fun h18 =>
.none))) (fun h17 =>
(.path [0,0,0,0,0,0,0] (by kernel_rfl)
(.leaf (by kernel_rfl))))))) (fun h16 =>
.none))) (fun h15 =>
(.path [0,0,0,0,0,0,0,0,0] (by kernel_rfl)
(.leaf (by kernel_rfl))))))) (fun h14 =>
.none))))))) (fun h12 =>
.none)))) (fun h11 =>
.none)))))) (fun h9 =>
.none)))))))) (fun h7 =>
.none)))) (fun h6 =>
(.path [0,0] (by kernel_rfl)
(.pt (c := ((↑(List.length (gl (Ty.int IntKind.i64) (dOf (op_L8_4 [.k 0, .n n0, .n n1, .b false, .n (0 : Int), .l (Ty.int IntKind.i64) (gl (Ty.int IntKind.i64) (dOf (op_19 [.n n0])) 0)])) 3)) : Int) == (0 : Int))) (by kernel_rfl) (by kernel_rfl) (by (simp only [w64d, decide_eq_true_eq, decide_eq_false_iff_not, beq_iff_eq, beq_eq_false_iff_ne, bne_iff_ne, ne_eq, inR, Bool.and_eq_true, Bool.and_eq_false_iff, Bool.not_eq_true', Bool.not_eq_false', Bool.not_eq_eq_eq_not, Bool.not_true, Bool.not_false] at *; omega))
(.node (by kernel_rfl) (by kernel_rfl) (fun h7 =>
(.path [1] (by kernel_rfl)
(.node (by kernel_rfl) (by kernel_rfl) (fun h8 =>
(.path [1,1,1] (by kernel_rfl)
(.leaf (by kernel_rfl)))) (fun h8 =>
(.node (by kernel_rfl) (by kernel_rfl) (fun h9 =>
(.path [1,1] (by kernel_rfl)
(.node (by kernel_rfl) (by kernel_rfl) (fun h10 =>
(.leaf (by kernel_rfl))) (fun h10 =>
(.node (by kernel_rfl) (by kernel_rfl) (fun h11 =>
(.path [1] (by kernel_rfl)
(.node (by kernel_rfl) (by kernel_rfl) (fun h12 =>
(.path [1] (by kernel_rfl)
(.node (by kernel_rfl) (by kernel_rfl) (fun h13 =>
(.node (by kernel_rfl) (by kernel_rfl) (fun h14 =>
(.path [1] (by kernel_rfl)
(.node (by kernel_rfl) (by kernel_rfl) (fun h15 =>
(.node (by kernel_rfl) (by kernel_rfl) (fun h16 =>
(.path [1] (by kernel_rfl)
(.node (by kernel_rfl) (by kernel_rfl) (fun h17 =>
(.node (by kernel_rfl) (by kernel_rfl) (fun h18 =>
(.path [1] (by kernel_rfl)
(.node (by kernel_rfl) (by kernel_rfl) (fun h19 =>
(.node (by kernel_rfl) (by kernel_rfl) (fun h20 =>
(.path [1] (by kernel_rfl)
(.node (by kernel_rfl) (by kernel_rfl) (fun h21 =>
(.node (by kernel_rfl) (by kernel_rfl) (fun h22 =>
(.path [1,1,1] (by kernel_rfl)
(.leaf (by kernel_rfl)))) (fun h22 =>
(.path [0] (by kernel_rfl)
(.leaf (by kernel_rfl)))))) (fun h21 =>
(.path [0,0,0] (by kernel_rfl)
(.leaf (by kernel_rfl))))))) (fun h20 =>
.none))) (fun h19 =>
(.path [0,0,0,0,0] (by kernel_rfl)
(.leaf (by kernel_rfl))))))) (fun h18 =>
.none))) (fun h17 =>
(.path [0,0,0,0,0,0,0] (by kernel_rfl)
(.leaf (by kernel_rfl))))))) (fun h16 =>
.none))) (fun h15 =>
(.path [0,0,0,0,0,0,0,0,0] (by kernel_rfl)
(.leaf (by kernel_rfl))))))) (fun h14 =>
.none))) (fun h13 =>
(.path [0] (by kernel_rfl)
(.node (by kernel_rfl) (by kernel_rfl) (fun h14 =>
(.path [1] (by kernel_rfl)
(.node (by kernel_rfl) (by kernel_rfl) (fun h15 =>
(.node (by kernel_rfl) (by kernel_rfl) (fun h16 =>
(.path [1] (by kernel_rfl)
(.node (by kernel_rfl) (by kernel_rfl) (fun h17 =>
(.node (by kernel_rfl) (by kernel_rfl) (fun h18 =>
(.path [1] (by kernel_rfl)
(.node (by kernel_rfl) (by kernel_rfl) (fun h19 =>
(.node (by kernel_rfl) (by kernel_rfl) (fun h20 =>
(.path [1] (by kernel_rfl)
(.node (by kernel_rfl) (by kernel_rfl) (fun h21 =>
(.node (by kernel_rfl) (by kernel_rfl) (fun h22 =>
(.path [1,1,1] (by kernel_rfl)
(.leaf (by kernel_rfl)))) (fun h22 =>
(.path [0] (by kernel_rfl)
(.leaf (by kernel_rfl)))))) (fun h21 =>
(.path [0,0,0] (by kernel_rfl)
(.leaf (by kernel_rfl))))))) (fun h20 =>
.none))) (fun h19 =>
(.path [0,0,0,0,0] (by kernel_rfl)
(.leaf (by kernel_rfl))))))) (fun h18 =>
.none))) (fun h17 =>
(.path [0,0,0,0,0,0,0] (by kernel_rfl)
(.leaf (by kernel_rfl))))))) (fun h16 =>
.none))) (fun h15 =>
(.path [0,0,0,0,0,0,0,0,0] (by kernel_rfl)
(.leaf (by kernel_rfl))))))) (fun h14 =>
.none))))))) (fun h12 =>
.none)))) (fun h11 =>
.none)))))) (fun h9 =>
.none)))))) (fun h7 =>
.none)))))))))) (fun h4 =>
.none)))))) (fun h2 =>
.none))) (fun h1 =>
(.node (by kernel_rfl) (by kernel_rfl) (fun h2 =>
(.leaf (by kernel_rfl))) (fun h2 =>
.none)))))) (fun h0 =>
.none))
end Go.Proofs.Ytbieijbppmohkaa.Vx
