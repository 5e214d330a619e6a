import Derived.Test.YtlocflgfoodiiaaVxIm
import Derived.Test.YtlocflgfoodiiaaVxLk
import Derived.Test.YtlocflgfoodiiaaVxLaw
import Derived.Test.YtlocflgfoodiiaaX05a
import Derived.KernelRfl
namespace Go.Proofs.Ytlocflgfoodiiaa.Vx
open Go Go.RowKit
set_option linter.unusedVariables false
set_option linter.unusedSimpArgs false
set_option maxRecDepth 100000
set_option maxHeartbeats 0

abbrev TI : Ty := .int .i64
abbrev TNd : Ty := .pair (.int .i64) .bool
abbrev TRt : Ty := .pair .str (.pair (.int .i64) (.pair (.sl (.int .i64)) (.pair (.sl (.pair (.int .i64) .bool)) (.pair (.sl (.int .i64)) (.sl (.pair (.int .i64) .bool))))))
def rtV (h : Nat) : PV := .agg [.str h, .int .i64 (h+1), .imm TI (h+2), .imm TNd (h+3), .imm TI (h+4), .imm TNd (h+5)]
def rtB (h : Nat) : PB := .cells [.str h, .int .i64 (h+1), .imm TI (h+2), .imm TNd (h+3), .imm TI (h+4), .imm TNd (h+5)]
noncomputable def ev_9 (env : List Dat) : Tree (Nat × List Dat) := Lk.boxC false LK cs_8 9 ls0 (mkF [rtV 0] [] [] [(.own 0, [.arr TI 0])] fun _ => none) env
theorem op_9_ex : ∃ f : List Dat → Option (Nat × List Dat), ∀ env, f env = (ev_9 env).sel := ⟨fun env => (ev_9 env).sel, fun _ => rfl⟩
noncomputable def op_9 : List Dat → Option (Nat × List Dat) := Classical.choose op_9_ex
theorem op_9_eq (env : List Dat) : op_9 env = (ev_9 env).sel := Classical.choose_spec op_9_ex env
noncomputable def B9 : FBox := mkF [rtV 0] [] [] [(.own 0, [.arr TI 0])] op_9
theorem B9_ok : RunOk Try.prog 9 (boxRun B9) := mkF_ok (op := op_9) cs_8_ok hmix false (LsOk.none _ _ _) (fun env x h => by rw [op_9_eq] at h; rw [← boxC_lk]; exact h)
theorem op_9_good {p : Nat × List Dat → Prop} {T : Tree (Nat × List Dat)} {env : List Dat} (h : Imp T (ev_9 env)) (g : Good p T.sel) : Good p (op_9 env) := by
  rw [op_9_eq]
  exact h.good g

noncomputable def fn_9_t : List Dat → Tree (Nat × List Dat)
  | [.s s0, .n n1, .l (Ty.int IntKind.i64) l2, .l (Ty.pair (Ty.int IntKind.i64) Ty.bool) l3, .l (Ty.int IntKind.i64) l4, .l (Ty.pair (Ty.int IntKind.i64) Ty.bool) l5] =>
    (.node (true && decide ((0 : Int) ≤ IntKind.wrap .i64 ((↑(List.length l2) : Int) + (↑(List.length l4) : Int))) && decide (IntKind.wrap .i64 ((↑(List.length l2) : Int) + (↑(List.length l4) : Int)) * (8 : Int) ≤ (281474976710656 : Int)))
     (.node (decide ((0 + List.length l2) * 8 ≤ 140737488355328))
      (.node (decide ((List.length ([] ++ l2) + List.length l4) * 8 ≤ 140737488355328))
       (.leaf ((0, [.l (Ty.int IntKind.i64) ([] ++ l2 ++ l4)])))
       (.bad 62))
      (.bad 62))
     (.bad 50))
  | _ => .bad 0
theorem fn_9_t_im (s0 : ByteArray) (n1 : Int) (l2 : List (Ty.den (Ty.int IntKind.i64))) (l3 : List (Ty.den (Ty.pair (Ty.int IntKind.i64) Ty.bool))) (l4 : List (Ty.den (Ty.int IntKind.i64))) (l5 : List (Ty.den (Ty.pair (Ty.int IntKind.i64) Ty.bool))) : Imp (fn_9_t [.s s0, .n n1, .l (Ty.int IntKind.i64) l2, .l (Ty.pair (Ty.int IntKind.i64) Ty.bool) l3, .l (Ty.int IntKind.i64) l4, .l (Ty.pair (Ty.int IntKind.i64) Ty.bool) l5]) (ev_9 [.s s0, .n n1, .l TI l2, .l TNd l3, .l TI l4, .l TNd l5]) :=
(.path [1] (by kernel_rfl)
(.node (by kernel_rfl) (by kernel_rfl) (fun h0 =>
(.node (by kernel_rfl) (by kernel_rfl) (fun h1 =>
(.node (by kernel_rfl) (by kernel_rfl) (fun h2 =>
(.path [1,1] (by kernel_rfl)
(.leaf (by kernel_rfl)))) (fun h2 =>
.none))) (fun h1 =>
.none))) (fun h0 =>
.none)))

noncomputable def cs_9 : FuncId → Option CSpec := csLend 9 B9 cs_8
theorem cs_9_ok : CsOk Try.prog cs_9 := csLend_ok cs_8_ok B9_ok

noncomputable def ev_10 (env : List Dat) : Tree (Nat × List Dat) := Lk.boxC false LK cs_9 10 ls0 (mkF [rtV 0] [] [] [(.own 0, [.arr TNd 0])] fun _ => none) env
theorem op_10_ex : ∃ f : List Dat → Option (Nat × List Dat), ∀ env, f env = (ev_10 env).sel := ⟨fun env => (ev_10 env).sel, fun _ => rfl⟩
noncomputable def op_10 : List Dat → Option (Nat × List Dat) := Classical.choose op_10_ex
theorem op_10_eq (env : List Dat) : op_10 env = (ev_10 env).sel := Classical.choose_spec op_10_ex env
noncomputable def B10 : FBox := mkF [rtV 0] [] [] [(.own 0, [.arr TNd 0])] op_10
theorem B10_ok : RunOk Try.prog 10 (boxRun B10) := mkF_ok (op := op_10) cs_9_ok hmix false (LsOk.none _ _ _) (fun env x h => by rw [op_10_eq] at h; rw [← boxC_lk]; exact h)
theorem op_10_good {p : Nat × List Dat → Prop} {T : Tree (Nat × List Dat)} {env : List Dat} (h : Imp T (ev_10 env)) (g : Good p T.sel) : Good p (op_10 env) := by
  rw [op_10_eq]
  exact h.good g

noncomputable def fn_10_t : List Dat → Tree (Nat × List Dat)
  | [.s s0, .n n1, .l (Ty.int IntKind.i64) l2, .l (Ty.pair (Ty.int IntKind.i64) Ty.bool) l3, .l (Ty.int IntKind.i64) l4, .l (Ty.pair (Ty.int IntKind.i64) Ty.bool) l5] =>
    (.node (true && decide ((0 : Int) ≤ IntKind.wrap .i64 ((↑(List.length l3) : Int) + (↑(List.length l5) : Int))) && decide (IntKind.wrap .i64 ((↑(List.length l3) : Int) + (↑(List.length l5) : Int)) * (16 : Int) ≤ (281474976710656 : Int)))
     (.node (decide ((0 + List.length l3) * 16 ≤ 140737488355328))
      (.node (decide ((List.length ([] ++ l3) + List.length l5) * 16 ≤ 140737488355328))
       (.leaf ((0, [.l (Ty.pair (Ty.int IntKind.i64) Ty.bool) ([] ++ l3 ++ l5)])))
       (.bad 62))
      (.bad 62))
     (.bad 50))
  | _ => .bad 0
theorem fn_10_t_im (s0 : ByteArray) (n1 : Int) (l2 : List (Ty.den (Ty.int IntKind.i64))) (l3 : List (Ty.den (Ty.pair (Ty.int IntKind.i64) Ty.bool))) (l4 : List (Ty.den (Ty.int IntKind.i64))) (l5 : List (Ty.den (Ty.pair (Ty.int IntKind.i64) Ty.bool))) : Imp (fn_10_t [.s s0, .n n1, .l (Ty.int IntKind.i64) l2, .l (Ty.pair (Ty.int IntKind.i64) Ty.bool) l3, .l (Ty.int IntKind.i64) l4, .l (Ty.pair (Ty.int IntKind.i64) Ty.bool) l5]) (ev_10 [.s s0, .n n1, .l TI l2, .l TNd l3, .l TI l4, .l TNd l5]) :=
(.path [1] (by kernel_rfl)
(.node (by kernel_rfl) (by kernel_rfl) (fun h0 =>
(.node (by kernel_rfl) (by kernel_rfl) (fun h1 =>
(.node (by kernel_rfl) (by kernel_rfl) (fun h2 =>
(.path [1,1] (by kernel_rfl)
(.leaf (by kernel_rfl)))) (fun h2 =>
.none))) (fun h1 =>
.none))) (fun h0 =>
.none)))

noncomputable def cs_10 : FuncId → Option CSpec := csLend 10 B10 cs_9
theorem cs_10_ok : CsOk Try.prog cs_10 := csLend_ok cs_9_ok B10_ok

noncomputable def ev_11 (env : List Dat) : Tree (Nat × List Dat) := Lk.boxC false LK cs_10 11 ls0 (mkF [rtV 0] [] [] [(.own 0, [.arr TI 0])] fun _ => none) env
theorem op_11_ex : ∃ f : List Dat → Option (Nat × List Dat), ∀ env, f env = (ev_11 env).sel := ⟨fun env => (ev_11 env).sel, fun _ => rfl⟩
noncomputable def op_11 : List Dat → Option (Nat × List Dat) := Classical.choose op_11_ex
theorem op_11_eq (env : List Dat) : op_11 env = (ev_11 env).sel := Classical.choose_spec op_11_ex env
noncomputable def B11 : FBox := mkF [rtV 0] [] [] [(.own 0, [.arr TI 0])] op_11
theorem B11_ok : RunOk Try.prog 11 (boxRun B11) := mkF_ok (op := op_11) cs_10_ok hmix false (LsOk.none _ _ _) (fun env x h => by rw [op_11_eq] at h; rw [← boxC_lk]; exact h)
theorem op_11_good {p : Nat × List Dat → Prop} {T : Tree (Nat × List Dat)} {env : List Dat} (h : Imp T (ev_11 env)) (g : Good p T.sel) : Good p (op_11 env) := by
  rw [op_11_eq]
  exact h.good g

noncomputable def fn_11_t : List Dat → Tree (Nat × List Dat)
  | [.s s0, .n n1, .l (Ty.int IntKind.i64) l2, .l (Ty.pair (Ty.int IntKind.i64) Ty.bool) l3, .l (Ty.int IntKind.i64) l4, .l (Ty.pair (Ty.int IntKind.i64) Ty.bool) l5] =>
    (.node (decide (List.length l2 * 8 ≤ 140737488355328))
     (.node (decide ((List.length l2 + List.length l4) * 8 ≤ 140737488355328))
      (.leaf ((0, [.l (Ty.int IntKind.i64) (l2 ++ l4)])))
      (.bad 62))
     (.bad 60))
  | _ => .bad 0
theorem fn_11_t_im (s0 : ByteArray) (n1 : Int) (l2 : List (Ty.den (Ty.int IntKind.i64))) (l3 : List (Ty.den (Ty.pair (Ty.int IntKind.i64) Ty.bool))) (l4 : List (Ty.den (Ty.int IntKind.i64))) (l5 : List (Ty.den (Ty.pair (Ty.int IntKind.i64) Ty.bool))) : Imp (fn_11_t [.s s0, .n n1, .l (Ty.int IntKind.i64) l2, .l (Ty.pair (Ty.int IntKind.i64) Ty.bool) l3, .l (Ty.int IntKind.i64) l4, .l (Ty.pair (Ty.int IntKind.i64) Ty.bool) l5]) (ev_11 [.s s0, .n n1, .l TI l2, .l TNd l3, .l TI l4, .l TNd l5]) :=
(.node (by kernel_rfl) (by kernel_rfl) (fun h0 =>
(.node (by kernel_rfl) (by kernel_rfl) (fun h1 =>
(.path [1] (by kernel_rfl)
(.leaf (by kernel_rfl)))) (fun h1 =>
.none))) (fun h0 =>
.none))

noncomputable def cs_11 : FuncId → Option CSpec := csLend 11 B11 cs_10
theorem cs_11_ok : CsOk Try.prog cs_11 := csLend_ok cs_10_ok B11_ok

noncomputable def ev_12 (env : List Dat) : Tree (Nat × List Dat) := Lk.boxC false LK cs_11 12 ls0 (mkF [rtV 0] [] [] [(.own 0, [.arr TNd 0])] fun _ => none) env
theorem op_12_ex : ∃ f : List Dat → Option (Nat × List Dat), ∀ env, f env = (ev_12 env).sel := ⟨fun env => (ev_12 env).sel, fun _ => rfl⟩
noncomputable def op_12 : List Dat → Option (Nat × List Dat) := Classical.choose op_12_ex
theorem op_12_eq (env : List Dat) : op_12 env = (ev_12 env).sel := Classical.choose_spec op_12_ex env
noncomputable def B12 : FBox := mkF [rtV 0] [] [] [(.own 0, [.arr TNd 0])] op_12
theorem B12_ok : RunOk Try.prog 12 (boxRun B12) := mkF_ok (op := op_12) cs_11_ok hmix false (LsOk.none _ _ _) (fun env x h => by rw [op_12_eq] at h; rw [← boxC_lk]; exact h)
theorem op_12_good {p : Nat × List Dat → Prop} {T : Tree (Nat × List Dat)} {env : List Dat} (h : Imp T (ev_12 env)) (g : Good p T.sel) : Good p (op_12 env) := by
  rw [op_12_eq]
  exact h.good g

noncomputable def fn_12_t : List Dat → Tree (Nat × List Dat)
  | [.s s0, .n n1, .l (Ty.int IntKind.i64) l2, .l (Ty.pair (Ty.int IntKind.i64) Ty.bool) l3, .l (Ty.int IntKind.i64) l4, .l (Ty.pair (Ty.int IntKind.i64) Ty.bool) l5] =>
    (.node (decide (List.length l3 * 16 ≤ 140737488355328))
     (.node (decide ((List.length l3 + List.length l5) * 16 ≤ 140737488355328))
      (.leaf ((0, [.l (Ty.pair (Ty.int IntKind.i64) Ty.bool) (l3 ++ l5)])))
      (.bad 62))
     (.bad 60))
  | _ => .bad 0
theorem fn_12_t_im (s0 : ByteArray) (n1 : Int) (l2 : List (Ty.den (Ty.int IntKind.i64))) (l3 : List (Ty.den (Ty.pair (Ty.int IntKind.i64) Ty.bool))) (l4 : List (Ty.den (Ty.int IntKind.i64))) (l5 : List (Ty.den (Ty.pair (Ty.int IntKind.i64) Ty.bool))) : Imp (fn_12_t [.s s0, .n n1, .l (Ty.int IntKind.i64) l2, .l (Ty.pair (Ty.int IntKind.i64) Ty.bool) l3, .l (Ty.int IntKind.i64) l4, .l (Ty.pair (Ty.int IntKind.i64) Ty.bool) l5]) (ev_12 [.s s0, .n n1, .l TI l2, .l TNd l3, .l TI l4, .l TNd l5]) :=
(.node (by kernel_rfl) (by kernel_rfl) (fun h0 =>
(.node (by kernel_rfl) (by kernel_rfl) (fun h1 =>
(.path [1] (by kernel_rfl)
(.leaf (by kernel_rfl)))) (fun h1 =>
.none))) (fun h0 =>
.none))

noncomputable def cs_12 : FuncId → Option CSpec := csLend 12 B12 cs_11
theorem cs_12_ok : CsOk Try.prog cs_12 := csLend_ok cs_11_ok B12_ok

noncomputable def st_L13_4 (env : List Dat) : Tree Step := Lk.stepMC false LK cs_12 13 4 ls0 (mkM 0 [] [(sh 26 [(0, .imm TI 0), (1, .imm TI 1), (5, .int .i64 2)], [])] [] [(.exit 0, sh 26 [], []), (.ret, sh 26 [(4, .bool 0)], [])] fun _ => none) env
theorem op_L13_4_ex : ∃ f : List Dat → Option (Nat × List Dat), ∀ env, f env = iterS st_L13_4 FU env := ⟨iterS st_L13_4 FU, fun _ => rfl⟩
noncomputable def op_L13_4 : List Dat → Option (Nat × List Dat) := Classical.choose op_L13_4_ex
theorem op_L13_4_eq (env : List Dat) : op_L13_4 env = iterS st_L13_4 FU env := Classical.choose_spec op_L13_4_ex env
noncomputable def L13_4 : MBox := mkM 0 [] [(sh 26 [(0, .imm TI 0), (1, .imm TI 1), (5, .int .i64 2)], [])] [] [(.exit 0, sh 26 [], []), (.ret, sh 26 [(4, .bool 0)], [])] op_L13_4
theorem L13_4_eqs : L13_4 = mkM 0 [] [(sh 26 [(0, .imm TI 0), (1, .imm TI 1), (5, .int .i64 2)], [])] [] [(.exit 0, sh 26 [], []), (.ret, sh 26 [(4, .bool 0)], [])] (iterS st_L13_4 FU) := congrArg (fun f => mkM 0 [] [(sh 26 [(0, .imm TI 0), (1, .imm TI 1), (5, .int .i64 2)], [])] [] [(.exit 0, sh 26 [], []), (.ret, sh 26 [(4, .bool 0)], [])] f) (funext op_L13_4_eq)
theorem L13_4_run : ∀ t s x, (manyRun L13_4 t s).sel = some x → CodeOk Try.prog 0 (.loop (cAt Try.prog 13 4)) t s x := by
  rw [L13_4_eqs]
  exact mkM_ok (st := st_L13_4) (m := FU) cs_12_ok hmix false (LsOk.none _ _ _) (by kernel_rfl) (fun env y h => by rw [← stepMC_lk]; exact h)
theorem op_L13_4_good {p : Nat × List Dat → Prop} (Inv : List Dat → Prop) (μ : List Dat → Nat) (h : ∀ env, Inv env → Good (fun y => match y with | .go e => Inv e ∧ μ e < μ env | .stop k d => p (k, d)) (st_L13_4 env).sel) (env : List Dat) (hi : Inv env) (hm : μ env < FU) : Good p (op_L13_4 env) := by
  rw [op_L13_4_eq]
  exact iterS_good Inv μ p h FU env hi hm

noncomputable def fn_L13_4_t : List Dat → Tree Step
  | [.l (Ty.int IntKind.i64) l0, .l (Ty.int IntKind.i64) l1, .n n2] =>
    (.node (decide (n2 < (↑(List.length l0) : Int)))
     (.node ((List.getD l0 (Int.toNat n2) (0 : Int) : Int) != (List.getD l1 (Int.toNat n2) (0 : Int) : Int))
      (.leaf (Step.stop 1 [.b false]))
      (.leaf (Step.go [.k 0, .l (Ty.int IntKind.i64) l0, .l (Ty.int IntKind.i64) l1, .n (IntKind.wrap .i64 (n2 + (1 : Int)))])))
     (.leaf (Step.stop 0 [])))
  | _ => .bad 0
theorem fn_L13_4_t_im (l0 : List (Ty.den (Ty.int IntKind.i64))) (l1 : List (Ty.den (Ty.int IntKind.i64))) (n2 : Int) (g0 : 0 ≤ n2) (g1 :  (l0.length : Int) = (l1.length : Int)) : Imp (fn_L13_4_t [.l (Ty.int IntKind.i64) l0, .l (Ty.int IntKind.i64) l1, .n n2]) (st_L13_4 [.k 0, .l TI l0, .l TI l1, .n n2]) :=
(.path [1] (by kernel_rfl)
(.node (by kernel_rfl) (by kernel_rfl) (fun h0 =>
(.pt (c := (inR n2 (List.length l0))) (by kernel_rfl) (by kernel_rfl) (by (simp only [w64d, decide_eq_true_eq, decide_eq_false_iff_not, beq_iff_eq, beq_eq_false_iff_ne, bne_iff_ne, ne_eq, inR, Bool.and_eq_true, Bool.and_eq_false_iff, Bool.not_eq_true', Bool.not_eq_false', Bool.not_eq_eq_eq_not, Bool.not_true, Bool.not_false] at *; omega))
(.pt (c := (inR n2 (List.length l1))) (by kernel_rfl) (by kernel_rfl) (by (simp only [w64d, decide_eq_true_eq, decide_eq_false_iff_not, beq_iff_eq, beq_eq_false_iff_ne, bne_iff_ne, ne_eq, inR, Bool.and_eq_true, Bool.and_eq_false_iff, Bool.not_eq_true', Bool.not_eq_false', Bool.not_eq_eq_eq_not, Bool.not_true, Bool.not_false] at *; omega))
(.path [1] (by kernel_rfl)
(.node (by kernel_rfl) (by kernel_rfl) (fun h1 =>
(.path [1] (by kernel_rfl)
(.leaf (by kernel_rfl)))) (fun h1 =>
(.path [1] (by kernel_rfl)
(.leaf (by kernel_rfl))))))))) (fun h0 =>
(.path [1] (by kernel_rfl)
(.leaf (by kernel_rfl))))))

theorem ls_13_ok : LsOk Try.prog (List.length ([] : List PB)) (lsM [(4, L13_4)] (List.length ([] : List PB))) (bodyOf Try.prog 13) := LsOk.many fun j B hB hk c hc hi => by
  simp only [lookM] at hB
  split at hB
  · rename_i e; have := Nat.eq_of_beq_eq_true e; subst this; cases hB
    have e1 : loopAt Try.prog 13 4 = [cAt Try.prog 13 4] := loopAt_one (by kernel_rfl)
    have e2 : c ∈ loopAt Try.prog 13 4 := loopsAt_mem hc hi
    rw [e1] at e2; cases List.mem_singleton.1 e2; exact L13_4_run
  cases hB

noncomputable def ev_13 (env : List Dat) : Tree (Nat × List Dat) := Lk.boxC false LK cs_12 13 (lsM [(4, L13_4)] (List.length ([] : List PB))) (mkF [.imm TI 0, .imm TI 1] [] [] [(.bool 0, [])] fun _ => none) env
theorem op_13_ex : ∃ f : List Dat → Option (Nat × List Dat), ∀ env, f env = (ev_13 env).sel := ⟨fun env => (ev_13 env).sel, fun _ => rfl⟩
noncomputable def op_13 : List Dat → Option (Nat × List Dat) := Classical.choose op_13_ex
theorem op_13_eq (env : List Dat) : op_13 env = (ev_13 env).sel := Classical.choose_spec op_13_ex env
noncomputable def B13 : FBox := mkF [.imm TI 0, .imm TI 1] [] [] [(.bool 0, [])] op_13
theorem B13_ok : RunOk Try.prog 13 (boxRun B13) := mkF_ok (op := op_13) cs_12_ok hmix false (ls_13_ok) (fun env x h => by rw [op_13_eq] at h; rw [← boxC_lk]; exact h)
theorem op_13_good {p : Nat × List Dat → Prop} {T : Tree (Nat × List Dat)} {env : List Dat} (h : Imp T (ev_13 env)) (g : Good p T.sel) : Good p (op_13 env) := by
  rw [op_13_eq]
  exact h.good g

noncomputable def fn_13_t : List Dat → Tree (Nat × List Dat)
  | [.l (Ty.int IntKind.i64) l0, .l (Ty.int IntKind.i64) l1] =>
    (.node ((↑(List.length l0) : Int) != (↑(List.length l1) : Int))
     (.leaf ((0, [.b false])))
     (let r1 : Option (Nat × List Dat) := (op_L13_4 [.k 0, .l (Ty.int IntKind.i64) l0, .l (Ty.int IntKind.i64) l1, .n (0 : Int)]);
      (.node (isK 0 [] r1)
       (.leaf ((0, [.b true])))
       (.node (isK 1 [HK.b] r1)
        (.leaf ((0, [.b (gb (dOf r1) 0)])))
        (.bad 351)))))
  | _ => .bad 0
theorem fn_13_t_im (l0 : List (Ty.den (Ty.int IntKind.i64))) (l1 : List (Ty.den (Ty.int IntKind.i64))) : Imp (fn_13_t [.l (Ty.int IntKind.i64) l0, .l (Ty.int IntKind.i64) l1]) (ev_13 [.l TI l0, .l TI l1]) :=
(.node (by kernel_rfl) (by kernel_rfl) (fun h0 =>
(.path [1] (by kernel_rfl)
(.leaf (by kernel_rfl)))) (fun h0 =>
(.node (by kernel_rfl) (by kernel_rfl) (fun h1 =>
(.path [1] (by kernel_rfl)
(.leaf (by kernel_rfl)))) (fun h1 =>
(.node (by kernel_rfl) (by kernel_rfl) (fun h2 =>
(.path [1] (by kernel_rfl)
(.leaf (by kernel_rfl)))) (fun h2 =>
.none))))))

noncomputable def cs_13 : FuncId → Option CSpec := csLend 13 B13 cs_12
theorem cs_13_ok : CsOk Try.prog cs_13 := csLend_ok cs_12_ok B13_ok

noncomputable def st_L14_4 (env : List Dat) : Tree Step := Lk.stepMC false LK cs_13 14 4 ls0 (mkM 0 [] [(sh 26 [(0, .imm TNd 0), (1, .imm TNd 1), (5, .int .i64 2)], [])] [] [(.exit 0, sh 26 [], []), (.ret, sh 26 [(4, .bool 0)], [])] fun _ => none) env
theorem op_L14_4_ex : ∃ f : List Dat → Option (Nat × List Dat), ∀ env, f env = iterS st_L14_4 FU env := ⟨iterS st_L14_4 FU, fun _ => rfl⟩
noncomputable def op_L14_4 : List Dat → Option (Nat × List Dat) := Classical.choose op_L14_4_ex
theorem op_L14_4_eq (env : List Dat) : op_L14_4 env = iterS st_L14_4 FU env := Classical.choose_spec op_L14_4_ex env
noncomputable def L14_4 : MBox := mkM 0 [] [(sh 26 [(0, .imm TNd 0), (1, .imm TNd 1), (5, .int .i64 2)], [])] [] [(.exit 0, sh 26 [], []), (.ret, sh 26 [(4, .bool 0)], [])] op_L14_4
theorem L14_4_eqs : L14_4 = mkM 0 [] [(sh 26 [(0, .imm TNd 0), (1, .imm TNd 1), (5, .int .i64 2)], [])] [] [(.exit 0, sh 26 [], []), (.ret, sh 26 [(4, .bool 0)], [])] (iterS st_L14_4 FU) := congrArg (fun f => mkM 0 [] [(sh 26 [(0, .imm TNd 0), (1, .imm TNd 1), (5, .int .i64 2)], [])] [] [(.exit 0, sh 26 [], []), (.ret, sh 26 [(4, .bool 0)], [])] f) (funext op_L14_4_eq)
theorem L14_4_run : ∀ t s x, (manyRun L14_4 t s).sel = some x → CodeOk Try.prog 0 (.loop (cAt Try.prog 14 4)) t s x := by
  rw [L14_4_eqs]
  exact mkM_ok (st := st_L14_4) (m := FU) cs_13_ok hmix false (LsOk.none _ _ _) (by kernel_rfl) (fun env y h => by rw [← stepMC_lk]; exact h)
theorem op_L14_4_good {p : Nat × List Dat → Prop} (Inv : List Dat → Prop) (μ : List Dat → Nat) (h : ∀ env, Inv env → Good (fun y => match y with | .go e => Inv e ∧ μ e < μ env | .stop k d => p (k, d)) (st_L14_4 env).sel) (env : List Dat) (hi : Inv env) (hm : μ env < FU) : Good p (op_L14_4 env) := by
  rw [op_L14_4_eq]
  exact iterS_good Inv μ p h FU env hi hm

noncomputable def fn_L14_4_t : List Dat → Tree Step
  | [.l (Ty.pair (Ty.int IntKind.i64) Ty.bool) l0, .l (Ty.pair (Ty.int IntKind.i64) Ty.bool) l1, .n n2] =>
    (.node (decide (n2 < (↑(List.length l0) : Int)))
     (.node (!(Prod.fst (List.getD l0 (Int.toNat n2) (Ty.dflt (Ty.pair (Ty.int IntKind.i64) Ty.bool))) == Prod.fst (List.getD l1 (Int.toNat n2) (Ty.dflt (Ty.pair (Ty.int IntKind.i64) Ty.bool))) && (Prod.snd (List.getD l0 (Int.toNat n2) (Ty.dflt (Ty.pair (Ty.int IntKind.i64) Ty.bool))) == Prod.snd (List.getD l1 (Int.toNat n2) (Ty.dflt (Ty.pair (Ty.int IntKind.i64) Ty.bool))) && true)))
      (.leaf (Step.stop 1 [.b false]))
      (.leaf (Step.go [.k 0, .l (Ty.pair (Ty.int IntKind.i64) Ty.bool) l0, .l (Ty.pair (Ty.int IntKind.i64) Ty.bool) l1, .n (IntKind.wrap .i64 (n2 + (1 : Int)))])))
     (.leaf (Step.stop 0 [])))
  | _ => .bad 0
theorem fn_L14_4_t_im (l0 : List (Ty.den (Ty.pair (Ty.int IntKind.i64) Ty.bool))) (l1 : List (Ty.den (Ty.pair (Ty.int IntKind.i64) Ty.bool))) (n2 : Int) (g0 : 0 ≤ n2) (g1 :  (l0.length : Int) = (l1.length : Int)) : Imp (fn_L14_4_t [.l (Ty.pair (Ty.int IntKind.i64) Ty.bool) l0, .l (Ty.pair (Ty.int IntKind.i64) Ty.bool) l1, .n n2]) (st_L14_4 [.k 0, .l TNd l0, .l TNd l1, .n n2]) :=
(.path [1] (by kernel_rfl)
(.node (by kernel_rfl) (by kernel_rfl) (fun h0 =>
(.pt (c := (inR n2 (List.length l0))) (by kernel_rfl) (by kernel_rfl) (by (simp only [w64d, decide_eq_true_eq, decide_eq_false_iff_not, beq_iff_eq, beq_eq_false_iff_ne, bne_iff_ne, ne_eq, inR, Bool.and_eq_true, Bool.and_eq_false_iff, Bool.not_eq_true', Bool.not_eq_false', Bool.not_eq_eq_eq_not, Bool.not_true, Bool.not_false] at *; omega))
(.pt (c := (inR n2 (List.length l1))) (by kernel_rfl) (by kernel_rfl) (by (simp only [w64d, decide_eq_true_eq, decide_eq_false_iff_not, beq_iff_eq, beq_eq_false_iff_ne, bne_iff_ne, ne_eq, inR, Bool.and_eq_true, Bool.and_eq_false_iff, Bool.not_eq_true', Bool.not_eq_false', Bool.not_eq_eq_eq_not, Bool.not_true, Bool.not_false] at *; omega))
(.path [1] (by kernel_rfl)
(.node (by kernel_rfl) (by kernel_rfl) (fun h1 =>
(.path [1] (by kernel_rfl)
(.leaf (by kernel_rfl)))) (fun h1 =>
(.path [1] (by kernel_rfl)
(.leaf (by kernel_rfl))))))))) (fun h0 =>
(.path [1] (by kernel_rfl)
(.leaf (by kernel_rfl))))))

theorem ls_14_ok : LsOk Try.prog (List.length ([] : List PB)) (lsM [(4, L14_4)] (List.length ([] : List PB))) (bodyOf Try.prog 14) := LsOk.many fun j B hB hk c hc hi => by
  simp only [lookM] at hB
  split at hB
  · rename_i e; have := Nat.eq_of_beq_eq_true e; subst this; cases hB
    have e1 : loopAt Try.prog 14 4 = [cAt Try.prog 14 4] := loopAt_one (by kernel_rfl)
    have e2 : c ∈ loopAt Try.prog 14 4 := loopsAt_mem hc hi
    rw [e1] at e2; cases List.mem_singleton.1 e2; exact L14_4_run
  cases hB

noncomputable def ev_14 (env : List Dat) : Tree (Nat × List Dat) := Lk.boxC false LK cs_13 14 (lsM [(4, L14_4)] (List.length ([] : List PB))) (mkF [.imm TNd 0, .imm TNd 1] [] [] [(.bool 0, [])] fun _ => none) env
theorem op_14_ex : ∃ f : List Dat → Option (Nat × List Dat), ∀ env, f env = (ev_14 env).sel := ⟨fun env => (ev_14 env).sel, fun _ => rfl⟩
noncomputable def op_14 : List Dat → Option (Nat × List Dat) := Classical.choose op_14_ex
theorem op_14_eq (env : List Dat) : op_14 env = (ev_14 env).sel := Classical.choose_spec op_14_ex env
noncomputable def B14 : FBox := mkF [.imm TNd 0, .imm TNd 1] [] [] [(.bool 0, [])] op_14
theorem B14_ok : RunOk Try.prog 14 (boxRun B14) := mkF_ok (op := op_14) cs_13_ok hmix false (ls_14_ok) (fun env x h => by rw [op_14_eq] at h; rw [← boxC_lk]; exact h)
theorem op_14_good {p : Nat × List Dat → Prop} {T : Tree (Nat × List Dat)} {env : List Dat} (h : Imp T (ev_14 env)) (g : Good p T.sel) : Good p (op_14 env) := by
  rw [op_14_eq]
  exact h.good g

noncomputable def fn_14_t : List Dat → Tree (Nat × List Dat)
  | [.l (Ty.pair (Ty.int IntKind.i64) Ty.bool) l0, .l (Ty.pair (Ty.int IntKind.i64) Ty.bool) l1] =>
    (.node ((↑(List.length l0) : Int) != (↑(List.length l1) : Int))
     (.leaf ((0, [.b false])))
     (let r1 : Option (Nat × List Dat) := (op_L14_4 [.k 0, .l (Ty.pair (Ty.int IntKind.i64) Ty.bool) l0, .l (Ty.pair (Ty.int IntKind.i64) Ty.bool) l1, .n (0 : Int)]);
      (.node (isK 0 [] r1)
       (.leaf ((0, [.b true])))
       (.node (isK 1 [HK.b] r1)
        (.leaf ((0, [.b (gb (dOf r1) 0)])))
        (.bad 351)))))
  | _ => .bad 0
theorem fn_14_t_im (l0 : List (Ty.den (Ty.pair (Ty.int IntKind.i64) Ty.bool))) (l1 : List (Ty.den (Ty.pair (Ty.int IntKind.i64) Ty.bool))) : Imp (fn_14_t [.l (Ty.pair (Ty.int IntKind.i64) Ty.bool) l0, .l (Ty.pair (Ty.int IntKind.i64) Ty.bool) l1]) (ev_14 [.l TNd l0, .l TNd l1]) :=
(.node (by kernel_rfl) (by kernel_rfl) (fun h0 =>
(.path [1] (by kernel_rfl)
(.leaf (by kernel_rfl)))) (fun h0 =>
(.node (by kernel_rfl) (by kernel_rfl) (fun h1 =>
(.path [1] (by kernel_rfl)
(.leaf (by kernel_rfl)))) (fun h1 =>
(.node (by kernel_rfl) (by kernel_rfl) (fun h2 =>
(.path [1] (by kernel_rfl)
(.leaf (by kernel_rfl)))) (fun h2 =>
.none))))))

noncomputable def cs_14 : FuncId → Option CSpec := csLend 14 B14 cs_13
theorem cs_14_ok : CsOk Try.prog cs_14 := csLend_ok cs_13_ok B14_ok

noncomputable def st_L3_8 (env : List Dat) : Tree Step := Lk.stepMC false LK cs_14 3 8 ls0 (mkM 0 [] [(sh 82 [(1, .ptr 0 0), (3, .own 1), (4, .own 2), (5, .own 3), (6, .own 4), (7, .int .i64 0)], [rtB 1, .arr TI 7, .arr TNd 8, .arr TI 9, .arr TNd 10])] [] [(.exit 0, sh 82 [(1, .ptr 0 0), (4, .own 1), (5, .own 2), (6, .own 3)], [rtB 0, .arr TNd 6, .arr TI 7, .arr TNd 8])] fun _ => none) env
theorem op_L3_8_ex : ∃ f : List Dat → Option (Nat × List Dat), ∀ env, f env = iterS st_L3_8 FU env := ⟨iterS st_L3_8 FU, fun _ => rfl⟩
noncomputable def op_L3_8 : List Dat → Option (Nat × List Dat) := Classical.choose op_L3_8_ex
theorem op_L3_8_eq (env : List Dat) : op_L3_8 env = iterS st_L3_8 FU env := Classical.choose_spec op_L3_8_ex env
noncomputable def L3_8 : MBox := mkM 0 [] [(sh 82 [(1, .ptr 0 0), (3, .own 1), (4, .own 2), (5, .own 3), (6, .own 4), (7, .int .i64 0)], [rtB 1, .arr TI 7, .arr TNd 8, .arr TI 9, .arr TNd 10])] [] [(.exit 0, sh 82 [(1, .ptr 0 0), (4, .own 1), (5, .own 2), (6, .own 3)], [rtB 0, .arr TNd 6, .arr TI 7, .arr TNd 8])] op_L3_8
theorem L3_8_eqs : L3_8 = mkM 0 [] [(sh 82 [(1, .ptr 0 0), (3, .own 1), (4, .own 2), (5, .own 3), (6, .own 4), (7, .int .i64 0)], [rtB 1, .arr TI 7, .arr TNd 8, .arr TI 9, .arr TNd 10])] [] [(.exit 0, sh 82 [(1, .ptr 0 0), (4, .own 1), (5, .own 2), (6, .own 3)], [rtB 0, .arr TNd 6, .arr TI 7, .arr TNd 8])] (iterS st_L3_8 FU) := congrArg (fun f => mkM 0 [] [(sh 82 [(1, .ptr 0 0), (3, .own 1), (4, .own 2), (5, .own 3), (6, .own 4), (7, .int .i64 0)], [rtB 1, .arr TI 7, .arr TNd 8, .arr TI 9, .arr TNd 10])] [] [(.exit 0, sh 82 [(1, .ptr 0 0), (4, .own 1), (5, .own 2), (6, .own 3)], [rtB 0, .arr TNd 6, .arr TI 7, .arr TNd 8])] f) (funext op_L3_8_eq)
theorem L3_8_run : ∀ t s x, (manyRun L3_8 t s).sel = some x → CodeOk Try.prog 0 (.loop (cAt Try.prog 3 8)) t s x := by
  rw [L3_8_eqs]
  exact mkM_ok (st := st_L3_8) (m := FU) cs_14_ok hmix false (LsOk.none _ _ _) (by kernel_rfl) (fun env y h => by rw [← stepMC_lk]; exact h)
theorem op_L3_8_good {p : Nat × List Dat → Prop} (Inv : List Dat → Prop) (μ : List Dat → Nat) (h : ∀ env, Inv env → Good (fun y => match y with | .go e => Inv e ∧ μ e < μ env | .stop k d => p (k, d)) (st_L3_8 env).sel) (env : List Dat) (hi : Inv env) (hm : μ env < FU) : Good p (op_L3_8 env) := by
  rw [op_L3_8_eq]
  exact iterS_good Inv μ p h FU env hi hm

noncomputable def fn_L3_8_t : List Dat → Tree Step
  | [.n n0, .s s1, .n n2, .l (Ty.int IntKind.i64) l3, .l (Ty.pair (Ty.int IntKind.i64) Ty.bool) l4, .l (Ty.int IntKind.i64) l5, .l (Ty.pair (Ty.int IntKind.i64) Ty.bool) l6, .l (Ty.int IntKind.i64) l7, .l (Ty.pair (Ty.int IntKind.i64) Ty.bool) l8, .l (Ty.int IntKind.i64) l9, .l (Ty.pair (Ty.int IntKind.i64) Ty.bool) l10] =>
    (.node (decide (n0 < (↑(List.length l7) : Int)))
     (.leaf (Step.go [.k 0, .n (IntKind.wrap .i64 (n0 + (1 : Int))), .s s1, .n n2, .l (Ty.int IntKind.i64) l3, .l (Ty.pair (Ty.int IntKind.i64) Ty.bool) l4, .l (Ty.int IntKind.i64) l5, .l (Ty.pair (Ty.int IntKind.i64) Ty.bool) l6, .l (Ty.int IntKind.i64) (List.set l7 (Int.toNat n0) (-5 : Int)), .l (Ty.pair (Ty.int IntKind.i64) Ty.bool) l8, .l (Ty.int IntKind.i64) l9, .l (Ty.pair (Ty.int IntKind.i64) Ty.bool) l10]))
     (.leaf (Step.stop 0 [.s s1, .n n2, .l (Ty.int IntKind.i64) l3, .l (Ty.pair (Ty.int IntKind.i64) Ty.bool) l4, .l (Ty.int IntKind.i64) l5, .l (Ty.pair (Ty.int IntKind.i64) Ty.bool) l6, .l (Ty.pair (Ty.int IntKind.i64) Ty.bool) l8, .l (Ty.int IntKind.i64) l9, .l (Ty.pair (Ty.int IntKind.i64) Ty.bool) l10])))
  | _ => .bad 0
theorem fn_L3_8_t_im (n0 : Int) (s1 : ByteArray) (n2 : Int) (l3 : List (Ty.den (Ty.int IntKind.i64))) (l4 : List (Ty.den (Ty.pair (Ty.int IntKind.i64) Ty.bool))) (l5 : List (Ty.den (Ty.int IntKind.i64))) (l6 : List (Ty.den (Ty.pair (Ty.int IntKind.i64) Ty.bool))) (l7 : List (Ty.den (Ty.int IntKind.i64))) (l8 : List (Ty.den (Ty.pair (Ty.int IntKind.i64) Ty.bool))) (l9 : List (Ty.den (Ty.int IntKind.i64))) (l10 : List (Ty.den (Ty.pair (Ty.int IntKind.i64) Ty.bool))) (g0 : 0 ≤ n0) : Imp (fn_L3_8_t [.n n0, .s s1, .n n2, .l (Ty.int IntKind.i64) l3, .l (Ty.pair (Ty.int IntKind.i64) Ty.bool) l4, .l (Ty.int IntKind.i64) l5, .l (Ty.pair (Ty.int IntKind.i64) Ty.bool) l6, .l (Ty.int IntKind.i64) l7, .l (Ty.pair (Ty.int IntKind.i64) Ty.bool) l8, .l (Ty.int IntKind.i64) l9, .l (Ty.pair (Ty.int IntKind.i64) Ty.bool) l10]) (st_L3_8 [.k 0, .n n0, .s s1, .n n2, .l TI l3, .l TNd l4, .l TI l5, .l TNd l6, .l TI l7, .l TNd l8, .l TI l9, .l TNd l10]) :=
(.path [1] (by kernel_rfl)
(.node (by kernel_rfl) (by kernel_rfl) (fun h0 =>
(.pt (c := (inR n0 (List.length l7))) (by kernel_rfl) (by kernel_rfl) (by (simp only [w64d, decide_eq_true_eq, decide_eq_false_iff_not, beq_iff_eq, beq_eq_false_iff_ne, bne_iff_ne, ne_eq, inR, Bool.and_eq_true, Bool.and_eq_false_iff, Bool.not_eq_true', Bool.not_eq_false', Bool.not_eq_eq_eq_not, Bool.not_true, Bool.not_false] at *; omega))
(.path [1] (by kernel_rfl)
(.leaf (by kernel_rfl))))) (fun h0 =>
(.path [1] (by kernel_rfl)
(.leaf (by kernel_rfl))))))

noncomputable def st_L3_12 (env : List Dat) : Tree Step := Lk.stepMC false LK cs_14 3 12 ls0 (mkM 0 [] [(sh 82 [(1, .ptr 0 0), (4, .own 1), (5, .own 2), (6, .own 3), (8, .int .i64 0)], [rtB 1, .arr TNd 7, .arr TI 8, .arr TNd 9])] [] [(.exit 2, sh 82 [(1, .ptr 0 0), (5, .own 1), (6, .own 2)], [rtB 0, .arr TI 6, .arr TNd 7])] fun _ => none) env
theorem op_L3_12_ex : ∃ f : List Dat → Option (Nat × List Dat), ∀ env, f env = iterS st_L3_12 FU env := ⟨iterS st_L3_12 FU, fun _ => rfl⟩
noncomputable def op_L3_12 : List Dat → Option (Nat × List Dat) := Classical.choose op_L3_12_ex
theorem op_L3_12_eq (env : List Dat) : op_L3_12 env = iterS st_L3_12 FU env := Classical.choose_spec op_L3_12_ex env
noncomputable def L3_12 : MBox := mkM 0 [] [(sh 82 [(1, .ptr 0 0), (4, .own 1), (5, .own 2), (6, .own 3), (8, .int .i64 0)], [rtB 1, .arr TNd 7, .arr TI 8, .arr TNd 9])] [] [(.exit 2, sh 82 [(1, .ptr 0 0), (5, .own 1), (6, .own 2)], [rtB 0, .arr TI 6, .arr TNd 7])] op_L3_12
theorem L3_12_eqs : L3_12 = mkM 0 [] [(sh 82 [(1, .ptr 0 0), (4, .own 1), (5, .own 2), (6, .own 3), (8, .int .i64 0)], [rtB 1, .arr TNd 7, .arr TI 8, .arr TNd 9])] [] [(.exit 2, sh 82 [(1, .ptr 0 0), (5, .own 1), (6, .own 2)], [rtB 0, .arr TI 6, .arr TNd 7])] (iterS st_L3_12 FU) := congrArg (fun f => mkM 0 [] [(sh 82 [(1, .ptr 0 0), (4, .own 1), (5, .own 2), (6, .own 3), (8, .int .i64 0)], [rtB 1, .arr TNd 7, .arr TI 8, .arr TNd 9])] [] [(.exit 2, sh 82 [(1, .ptr 0 0), (5, .own 1), (6, .own 2)], [rtB 0, .arr TI 6, .arr TNd 7])] f) (funext op_L3_12_eq)
theorem L3_12_run : ∀ t s x, (manyRun L3_12 t s).sel = some x → CodeOk Try.prog 0 (.loop (cAt Try.prog 3 12)) t s x := by
  rw [L3_12_eqs]
  exact mkM_ok (st := st_L3_12) (m := FU) cs_14_ok hmix false (LsOk.none _ _ _) (by kernel_rfl) (fun env y h => by rw [← stepMC_lk]; exact h)
theorem op_L3_12_good {p : Nat × List Dat → Prop} (Inv : List Dat → Prop) (μ : List Dat → Nat) (h : ∀ env, Inv env → Good (fun y => match y with | .go e => Inv e ∧ μ e < μ env | .stop k d => p (k, d)) (st_L3_12 env).sel) (env : List Dat) (hi : Inv env) (hm : μ env < FU) : Good p (op_L3_12 env) := by
  rw [op_L3_12_eq]
  exact iterS_good Inv μ p h FU env hi hm

noncomputable def fn_L3_12_t : List Dat → Tree Step
  | [.n n0, .s s1, .n n2, .l (Ty.int IntKind.i64) l3, .l (Ty.pair (Ty.int IntKind.i64) Ty.bool) l4, .l (Ty.int IntKind.i64) l5, .l (Ty.pair (Ty.int IntKind.i64) Ty.bool) l6, .l (Ty.pair (Ty.int IntKind.i64) Ty.bool) l7, .l (Ty.int IntKind.i64) l8, .l (Ty.pair (Ty.int IntKind.i64) Ty.bool) l9] =>
    (.node (decide (n0 < (↑(List.length l7) : Int)))
     (.leaf (Step.go [.k 0, .n (IntKind.wrap .i64 (n0 + (1 : Int))), .s s1, .n n2, .l (Ty.int IntKind.i64) l3, .l (Ty.pair (Ty.int IntKind.i64) Ty.bool) l4, .l (Ty.int IntKind.i64) l5, .l (Ty.pair (Ty.int IntKind.i64) Ty.bool) l6, .l (Ty.pair (Ty.int IntKind.i64) Ty.bool) (List.set l7 (Int.toNat n0) ((-5 : Int), false)), .l (Ty.int IntKind.i64) l8, .l (Ty.pair (Ty.int IntKind.i64) Ty.bool) l9]))
     (.leaf (Step.stop 0 [.s s1, .n n2, .l (Ty.int IntKind.i64) l3, .l (Ty.pair (Ty.int IntKind.i64) Ty.bool) l4, .l (Ty.int IntKind.i64) l5, .l (Ty.pair (Ty.int IntKind.i64) Ty.bool) l6, .l (Ty.int IntKind.i64) l8, .l (Ty.pair (Ty.int IntKind.i64) Ty.bool) l9])))
  | _ => .bad 0
theorem fn_L3_12_t_im (n0 : Int) (s1 : ByteArray) (n2 : Int) (l3 : List (Ty.den (Ty.int IntKind.i64))) (l4 : List (Ty.den (Ty.pair (Ty.int IntKind.i64) Ty.bool))) (l5 : List (Ty.den (Ty.int IntKind.i64))) (l6 : List (Ty.den (Ty.pair (Ty.int IntKind.i64) Ty.bool))) (l7 : List (Ty.den (Ty.pair (Ty.int IntKind.i64) Ty.bool))) (l8 : List (Ty.den (Ty.int IntKind.i64))) (l9 : List (Ty.den (Ty.pair (Ty.int IntKind.i64) Ty.bool))) (g0 : 0 ≤ n0) : Imp (fn_L3_12_t [.n n0, .s s1, .n n2, .l (Ty.int IntKind.i64) l3, .l (Ty.pair (Ty.int IntKind.i64) Ty.bool) l4, .l (Ty.int IntKind.i64) l5, .l (Ty.pair (Ty.int IntKind.i64) Ty.bool) l6, .l (Ty.pair (Ty.int IntKind.i64) Ty.bool) l7, .l (Ty.int IntKind.i64) l8, .l (Ty.pair (Ty.int IntKind.i64) Ty.bool) l9]) (st_L3_12 [.k 0, .n n0, .s s1, .n n2, .l TI l3, .l TNd l4, .l TI l5, .l TNd l6, .l TNd l7, .l TI l8, .l TNd l9]) :=
(.path [1] (by kernel_rfl)
(.node (by kernel_rfl) (by kernel_rfl) (fun h0 =>
(.pt (c := (inR n0 (List.length l7))) (by kernel_rfl) (by kernel_rfl) (by (simp only [w64d, decide_eq_true_eq, decide_eq_false_iff_not, beq_iff_eq, beq_eq_false_iff_ne, bne_iff_ne, ne_eq, inR, Bool.and_eq_true, Bool.and_eq_false_iff, Bool.not_eq_true', Bool.not_eq_false', Bool.not_eq_eq_eq_not, Bool.not_true, Bool.not_false] at *; omega))
(.path [1] (by kernel_rfl)
(.leaf (by kernel_rfl))))) (fun h0 =>
(.path [1] (by kernel_rfl)
(.leaf (by kernel_rfl))))))

theorem ls_3_ok : LsOk Try.prog (0) (lsM [(8, L3_8), (12, L3_12)] (0)) (bodyOf Try.prog 3) := LsOk.many fun j B hB hk c hc hi => by
  simp only [lookM] at hB
  split at hB
  · rename_i e; have := Nat.eq_of_beq_eq_true e; subst this; cases hB
    have e1 : loopAt Try.prog 3 8 = [cAt Try.prog 3 8] := loopAt_one (by kernel_rfl)
    have e2 : c ∈ loopAt Try.prog 3 8 := loopsAt_mem hc hi
    rw [e1] at e2; cases List.mem_singleton.1 e2; exact L3_8_run
  split at hB
  · rename_i e; have := Nat.eq_of_beq_eq_true e; subst this; cases hB
    have e1 : loopAt Try.prog 3 12 = [cAt Try.prog 3 12] := loopAt_one (by kernel_rfl)
    have e2 : c ∈ loopAt Try.prog 3 12 := loopsAt_mem hc hi
    rw [e1] at e2; cases List.mem_singleton.1 e2; exact L3_12_run
  cases hB

noncomputable def ev_W3 (env : List Dat) : Tree Bool := Lk.lawB false LK cs_14 3 (lsM [(8, L3_8), (12, L3_12)] (0)) (instL [rtV 0] env)

theorem W3_law (env : List Dat) (h : (ev_W3 env).sel = some true) {w : World} {args : Array Value} (ha : LRel R0 (snapOf w) (instL [rtV 0] env) args) :
    Calls Try.prog 3 args w fun e w' => e = .returned (.bool true) ∧ Below w.heap.size w w' :=
  lawB_ok cs_14_ok hmix false (ls := (lsM [(8, L3_8), (12, L3_12)] (0))) (ls_3_ok) (by rw [← lawB_lk]; exact h) ha

noncomputable def fn_W3_t : List Dat → Tree Bool
  | [.s s0, .n n1, .l (Ty.int IntKind.i64) l2, .l (Ty.pair (Ty.int IntKind.i64) Ty.bool) l3, .l (Ty.int IntKind.i64) l4, .l (Ty.pair (Ty.int IntKind.i64) Ty.bool) l5] =>
    (.node (decide ((↑(List.length l2) : Int) > (200 : Int)))
     (.leaf (true))
     (.node (decide ((↑(List.length l4) : Int) > (200 : Int)))
      (.leaf (true))
      (.node (decide ((↑(List.length l3) : Int) > (200 : Int)))
       (.leaf (true))
       (.node (decide ((↑(List.length l5) : Int) > (200 : Int)))
        (.leaf (true))
        (let r1 : Option (Nat × List Dat) := (op_9 [.s s0, .n n1, .l (Ty.int IntKind.i64) l2, .l (Ty.pair (Ty.int IntKind.i64) Ty.bool) l3, .l (Ty.int IntKind.i64) l4, .l (Ty.pair (Ty.int IntKind.i64) Ty.bool) l5]);
         (.node (isK 0 [HK.l (Ty.int IntKind.i64)] r1)
          (let r2 : Option (Nat × List Dat) := (op_10 [.s s0, .n n1, .l (Ty.int IntKind.i64) l2, .l (Ty.pair (Ty.int IntKind.i64) Ty.bool) l3, .l (Ty.int IntKind.i64) l4, .l (Ty.pair (Ty.int IntKind.i64) Ty.bool) l5]);
           (.node (isK 0 [HK.l (Ty.pair (Ty.int IntKind.i64) Ty.bool)] r2)
            (let r3 : Option (Nat × List Dat) := (op_11 [.s s0, .n n1, .l (Ty.int IntKind.i64) l2, .l (Ty.pair (Ty.int IntKind.i64) Ty.bool) l3, .l (Ty.int IntKind.i64) l4, .l (Ty.pair (Ty.int IntKind.i64) Ty.bool) l5]);
             (.node (isK 0 [HK.l (Ty.int IntKind.i64)] r3)
              (let r4 : Option (Nat × List Dat) := (op_12 [.s s0, .n n1, .l (Ty.int IntKind.i64) l2, .l (Ty.pair (Ty.int IntKind.i64) Ty.bool) l3, .l (Ty.int IntKind.i64) l4, .l (Ty.pair (Ty.int IntKind.i64) Ty.bool) l5]);
               (.node (isK 0 [HK.l (Ty.pair (Ty.int IntKind.i64) Ty.bool)] r4)
                (let r5 : Option (Nat × List Dat) := (op_13 [.l (Ty.int IntKind.i64) (gl (Ty.int IntKind.i64) (dOf r1) 0), .l (Ty.int IntKind.i64) (gl (Ty.int IntKind.i64) (dOf r3) 0)]);
                 (.node (isK 0 [HK.b] r5)
                  (.node (!gb (dOf r5) 0)
                   (.leaf (false))
                   (let r6 : Option (Nat × List Dat) := (op_14 [.l (Ty.pair (Ty.int IntKind.i64) Ty.bool) (gl (Ty.pair (Ty.int IntKind.i64) Ty.bool) (dOf r2) 0), .l (Ty.pair (Ty.int IntKind.i64) Ty.bool) (gl (Ty.pair (Ty.int IntKind.i64) Ty.bool) (dOf r4) 0)]);
                    (.node (isK 0 [HK.b] r6)
                     (.node (!gb (dOf r6) 0)
                      (.leaf (false))
                      (let r7 : Option (Nat × List Dat) := (op_L3_8 [.k 0, .n (0 : Int), .s s0, .n n1, .l (Ty.int IntKind.i64) l2, .l (Ty.pair (Ty.int IntKind.i64) Ty.bool) l3, .l (Ty.int IntKind.i64) l4, .l (Ty.pair (Ty.int IntKind.i64) Ty.bool) l5, .l (Ty.int IntKind.i64) (gl (Ty.int IntKind.i64) (dOf r1) 0), .l (Ty.pair (Ty.int IntKind.i64) Ty.bool) (gl (Ty.pair (Ty.int IntKind.i64) Ty.bool) (dOf r2) 0), .l (Ty.int IntKind.i64) (gl (Ty.int IntKind.i64) (dOf r3) 0), .l (Ty.pair (Ty.int IntKind.i64) Ty.bool) (gl (Ty.pair (Ty.int IntKind.i64) Ty.bool) (dOf r4) 0)]);
                       (.node (isK 0 [HK.s, HK.n, HK.l (Ty.int IntKind.i64), HK.l (Ty.pair (Ty.int IntKind.i64) Ty.bool), HK.l (Ty.int IntKind.i64), HK.l (Ty.pair (Ty.int IntKind.i64) Ty.bool), HK.l (Ty.pair (Ty.int IntKind.i64) Ty.bool), HK.l (Ty.int IntKind.i64), HK.l (Ty.pair (Ty.int IntKind.i64) Ty.bool)] r7)
                        (let r8 : Option (Nat × List Dat) := (op_L3_12 [.k 0, .n (0 : Int), .s (gs (dOf r7) 0), .n (gn (dOf r7) 1), .l (Ty.int IntKind.i64) (gl (Ty.int IntKind.i64) (dOf r7) 2), .l (Ty.pair (Ty.int IntKind.i64) Ty.bool) (gl (Ty.pair (Ty.int IntKind.i64) Ty.bool) (dOf r7) 3), .l (Ty.int IntKind.i64) (gl (Ty.int IntKind.i64) (dOf r7) 4), .l (Ty.pair (Ty.int IntKind.i64) Ty.bool) (gl (Ty.pair (Ty.int IntKind.i64) Ty.bool) (dOf r7) 5), .l (Ty.pair (Ty.int IntKind.i64) Ty.bool) (gl (Ty.pair (Ty.int IntKind.i64) Ty.bool) (dOf r7) 6), .l (Ty.int IntKind.i64) (gl (Ty.int IntKind.i64) (dOf r7) 7), .l (Ty.pair (Ty.int IntKind.i64) Ty.bool) (gl (Ty.pair (Ty.int IntKind.i64) Ty.bool) (dOf r7) 8)]);
                         (.node (isK 0 [HK.s, HK.n, HK.l (Ty.int IntKind.i64), HK.l (Ty.pair (Ty.int IntKind.i64) Ty.bool), HK.l (Ty.int IntKind.i64), HK.l (Ty.pair (Ty.int IntKind.i64) Ty.bool), HK.l (Ty.int IntKind.i64), HK.l (Ty.pair (Ty.int IntKind.i64) Ty.bool)] r8)
                          (let r9 : Option (Nat × List Dat) := (op_9 [.s (gs (dOf r8) 0), .n (gn (dOf r8) 1), .l (Ty.int IntKind.i64) (gl (Ty.int IntKind.i64) (dOf r8) 2), .l (Ty.pair (Ty.int IntKind.i64) Ty.bool) (gl (Ty.pair (Ty.int IntKind.i64) Ty.bool) (dOf r8) 3), .l (Ty.int IntKind.i64) (gl (Ty.int IntKind.i64) (dOf r8) 4), .l (Ty.pair (Ty.int IntKind.i64) Ty.bool) (gl (Ty.pair (Ty.int IntKind.i64) Ty.bool) (dOf r8) 5)]);
                           (.node (isK 0 [HK.l (Ty.int IntKind.i64)] r9)
                            (let r10 : Option (Nat × List Dat) := (op_13 [.l (Ty.int IntKind.i64) (gl (Ty.int IntKind.i64) (dOf r9) 0), .l (Ty.int IntKind.i64) (gl (Ty.int IntKind.i64) (dOf r8) 6)]);
                             (.node (isK 0 [HK.b] r10)
                              (.node (gb (dOf r10) 0)
                               (let r11 : Option (Nat × List Dat) := (op_10 [.s (gs (dOf r8) 0), .n (gn (dOf r8) 1), .l (Ty.int IntKind.i64) (gl (Ty.int IntKind.i64) (dOf r8) 2), .l (Ty.pair (Ty.int IntKind.i64) Ty.bool) (gl (Ty.pair (Ty.int IntKind.i64) Ty.bool) (dOf r8) 3), .l (Ty.int IntKind.i64) (gl (Ty.int IntKind.i64) (dOf r8) 4), .l (Ty.pair (Ty.int IntKind.i64) Ty.bool) (gl (Ty.pair (Ty.int IntKind.i64) Ty.bool) (dOf r8) 5)]);
                                (.node (isK 0 [HK.l (Ty.pair (Ty.int IntKind.i64) Ty.bool)] r11)
                                 (let r12 : Option (Nat × List Dat) := (op_14 [.l (Ty.pair (Ty.int IntKind.i64) Ty.bool) (gl (Ty.pair (Ty.int IntKind.i64) Ty.bool) (dOf r11) 0), .l (Ty.pair (Ty.int IntKind.i64) Ty.bool) (gl (Ty.pair (Ty.int IntKind.i64) Ty.bool) (dOf r8) 7)]);
                                  (.node (isK 0 [HK.b] r12)
                                   (.node (gb (dOf r12) 0)
                                    (.leaf (true))
                                    (.leaf (false)))
                                   (.bad 351)))
                                 (.bad 351)))
                               (.leaf (false)))
                              (.bad 351)))
                            (.bad 351)))
                          (.bad 351)))
                        (.bad 351))))
                     (.bad 351))))
                  (.bad 351)))
                (.bad 351)))
              (.bad 351)))
            (.bad 351)))
          (.bad 351)))))))
  | _ => .bad 0
theorem fn_W3_t_im (s0 : ByteArray) (n1 : Int) (l2 : List (Ty.den (Ty.int IntKind.i64))) (l3 : List (Ty.den (Ty.pair (Ty.int IntKind.i64) Ty.bool))) (l4 : List (Ty.den (Ty.int IntKind.i64))) (l5 : List (Ty.den (Ty.pair (Ty.int IntKind.i64) Ty.bool))) : Imp (fn_W3_t [.s s0, .n n1, .l (Ty.int IntKind.i64) l2, .l (Ty.pair (Ty.int IntKind.i64) Ty.bool) l3, .l (Ty.int IntKind.i64) l4, .l (Ty.pair (Ty.int IntKind.i64) Ty.bool) l5]) (ev_W3 [.s s0, .n n1, .l TI l2, .l TNd l3, .l TI l4, .l TNd l5]) :=
(.node (by kernel_rfl) (by kernel_rfl) (fun h0 =>
(.path [1,1,1,1,1,1,1,1,1] (by kernel_rfl)
(.leaf (by kernel_rfl)))) (fun h0 =>
(.node (by kernel_rfl) (by kernel_rfl) (fun h1 =>
(.path [1,1,1,1,1,1,1] (by kernel_rfl)
(.leaf (by kernel_rfl)))) (fun h1 =>
(.node (by kernel_rfl) (by kernel_rfl) (fun h2 =>
(.path [1,1,1,1,1] (by kernel_rfl)
(.leaf (by kernel_rfl)))) (fun h2 =>
(.node (by kernel_rfl) (by kernel_rfl) (fun h3 =>
(.path [1,1,1] (by kernel_rfl)
(.leaf (by kernel_rfl)))) (fun h3 =>
(.node (by kernel_rfl) (by kernel_rfl) (fun h4 =>
(.path [1] (by kernel_rfl)
(.node (by kernel_rfl) (by kernel_rfl) (fun h5 =>
(.path [1,1] (by kernel_rfl)
(.node (by kernel_rfl) (by kernel_rfl) (fun h6 =>
(.path [1] (by kernel_rfl)
(.node (by kernel_rfl) (by kernel_rfl) (fun h7 =>
(.path [1,1] (by kernel_rfl)
(.node (by kernel_rfl) (by kernel_rfl) (fun h8 =>
(.path [1] (by kernel_rfl)
(.node (by kernel_rfl) (by kernel_rfl) (fun h9 =>
(.path [1,1] (by kernel_rfl)
(.leaf (by kernel_rfl)))) (fun h9 =>
(.node (by kernel_rfl) (by kernel_rfl) (fun h10 =>
(.path [1] (by kernel_rfl)
(.node (by kernel_rfl) (by kernel_rfl) (fun h11 =>
(.leaf (by kernel_rfl))) (fun h11 =>
(.node (by kernel_rfl) (by kernel_rfl) (fun h12 =>
(.node (by kernel_rfl) (by kernel_rfl) (fun h13 =>
(.node (by kernel_rfl) (by kernel_rfl) (fun h14 =>
(.path [1] (by kernel_rfl)
(.node (by kernel_rfl) (by kernel_rfl) (fun h15 =>
(.path [1] (by kernel_rfl)
(.node (by kernel_rfl) (by kernel_rfl) (fun h16 =>
(.node (by kernel_rfl) (by kernel_rfl) (fun h17 =>
(.path [1] (by kernel_rfl)
(.node (by kernel_rfl) (by kernel_rfl) (fun h18 =>
(.path [1] (by kernel_rfl)
(.node (by kernel_rfl) (by kernel_rfl) (fun h19 =>
(.path [1,1,1] (by kernel_rfl)
(.leaf (by kernel_rfl)))) (fun h19 =>
(.path [0] (by kernel_rfl)
(.leaf (by kernel_rfl))))))) (fun h18 =>
.none)))) (fun h17 =>
.none))) (fun h16 =>
(.path [0,0,0] (by kernel_rfl)
(.leaf (by kernel_rfl))))))) (fun h15 =>
.none)))) (fun h14 =>
.none))) (fun h13 =>
.none))) (fun h12 =>
.none)))))) (fun h10 =>
.none)))))) (fun h8 =>
.none)))) (fun h7 =>
.none)))) (fun h6 =>
.none)))) (fun h5 =>
.none)))) (fun h4 =>
.none))))))))))
end Go.Proofs.Ytlocflgfoodiiaa.Vx
