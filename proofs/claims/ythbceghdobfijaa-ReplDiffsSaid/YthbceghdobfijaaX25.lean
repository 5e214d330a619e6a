import Derived.Test.YthbceghdobfijaaVxIm
import Derived.Test.YthbceghdobfijaaVxLk
import Derived.Test.YthbceghdobfijaaVxLaw
import Derived.Test.YthbceghdobfijaaX25a
import Derived.KernelRfl
namespace Go.Proofs.Ythbceghdobfijaa.Vx
open Go Go.RowKit
set_option linter.unusedVariables false
set_option linter.unusedSimpArgs false
set_option maxRecDepth 100000
set_option maxHeartbeats 0

abbrev TB : Ty := .int .u8
abbrev TTm : Ty := .pair (.int .i64) (.int .u8)
def stV (h : Nat) : PV := .agg [.int .u64 h, .int .u64 (h+1), .int .u64 (h+2), .arrd TB 64 (h+3), .int .u32 (h+4)]
def stB (h : Nat) : PB := .cells [.int .u64 h, .int .u64 (h+1), .int .u64 (h+2), .arrd TB 64 (h+3), .int .u32 (h+4)]
def dlV (h : Nat) (t : PV) : PV := .agg [.int .u64 h, .int .u64 (h+1), .int .u64 (h+2), .int .u32 (h+3), t]
def dlB (h : Nat) (t : PV) : PB := .cells [.int .u64 h, .int .u64 (h+1), .int .u64 (h+2), .int .u32 (h+3), t]
def msV (h : Nat) (t : PV) : PV := .agg [.int .u8 h, .int .i64 (h+1), .int .i64 (h+2), .int .i64 (h+3), .int .i64 (h+4), .int .u64 (h+5), .int .u64 (h+6), .int .u64 (h+7), .arrd TB 64 (h+8), .int .u32 (h+9), .int .u64 (h+10), .int .u64 (h+11), .int .u64 (h+12), .int .u32 (h+13), t]
def msB (h : Nat) (t : PV) : PB := .cells [.int .u8 h, .int .i64 (h+1), .int .i64 (h+2), .int .i64 (h+3), .int .i64 (h+4), .int .u64 (h+5), .int .u64 (h+6), .int .u64 (h+7), .arrd TB 64 (h+8), .int .u32 (h+9), .int .u64 (h+10), .int .u64 (h+11), .int .u64 (h+12), .int .u32 (h+13), t]
def tm_1 (l : List (Ty.den TTm)) (i : Int) : Int := Prod.fst (List.getD l (Int.toNat i) (Ty.dflt TTm))
def tm_2 (l : List (Ty.den TTm)) (i : Int) : Int := Prod.snd (List.getD l (Int.toNat i) (Ty.dflt TTm))
noncomputable def st_L86_3 (env : List Dat) : Tree Step := Lk.stepMC false LK cs_20 86 3 ls0 (mkM 0 [] [(sh 24 [(3, .int .i64 0), (6, .imm TTm 1), (7, .int .i64 2), (8, .int .i64 3)], [])] [] [(.exit 0, sh 24 [], []), (.ret, sh 24 [(2, .bool 0)], [])] fun _ => none) env
theorem op_L86_3_ex : ∃ f : List Dat → Option (Nat × List Dat), ∀ env, f env = iterS st_L86_3 FU env := ⟨iterS st_L86_3 FU, fun _ => rfl⟩
noncomputable def op_L86_3 : List Dat → Option (Nat × List Dat) := Classical.choose op_L86_3_ex
theorem op_L86_3_eq (env : List Dat) : op_L86_3 env = iterS st_L86_3 FU env := Classical.choose_spec op_L86_3_ex env
noncomputable def L86_3 : MBox := mkM 0 [] [(sh 24 [(3, .int .i64 0), (6, .imm TTm 1), (7, .int .i64 2), (8, .int .i64 3)], [])] [] [(.exit 0, sh 24 [], []), (.ret, sh 24 [(2, .bool 0)], [])] op_L86_3
theorem L86_3_eqs : L86_3 = mkM 0 [] [(sh 24 [(3, .int .i64 0), (6, .imm TTm 1), (7, .int .i64 2), (8, .int .i64 3)], [])] [] [(.exit 0, sh 24 [], []), (.ret, sh 24 [(2, .bool 0)], [])] (iterS st_L86_3 FU) := congrArg (fun f => mkM 0 [] [(sh 24 [(3, .int .i64 0), (6, .imm TTm 1), (7, .int .i64 2), (8, .int .i64 3)], [])] [] [(.exit 0, sh 24 [], []), (.ret, sh 24 [(2, .bool 0)], [])] f) (funext op_L86_3_eq)
theorem L86_3_run : ∀ t s x, (manyRun L86_3 t s).sel = some x → CodeOk Try.prog 0 (.loop (cAt Try.prog 86 3)) t s x := by
  rw [L86_3_eqs]
  exact mkM_ok (st := st_L86_3) (m := FU) cs_20_ok hmix false (LsOk.none _ _ _) (by kernel_rfl) (fun env y h => by rw [← stepMC_lk]; exact h)
theorem op_L86_3_good {p : Nat × List Dat → Prop} (Inv : List Dat → Prop) (μ : List Dat → Nat) (h : ∀ env, Inv env → Good (fun y => match y with | .go e => Inv e ∧ μ e < μ env | .stop k d => p (k, d)) (st_L86_3 env).sel) (env : List Dat) (hi : Inv env) (hm : μ env < FU) : Good p (op_L86_3 env) := by
  rw [op_L86_3_eq]
  exact iterS_good Inv μ p h FU env hi hm

noncomputable def fn_L86_3_t : List Dat → Tree Step
  | [.n n0, .l (Ty.pair (Ty.int IntKind.i64) (Ty.int IntKind.u8)) l1, .n n2, .n n3] =>
    (.node (decide (n3 < n2))
     (.node (decide ((tm_1 l1 n3 : Int) ≤ n0))
      (.leaf (Step.stop 1 [.b false]))
      (.node (decide ((tm_1 l1 n3 : Int) ≥ (64 : Int)))
       (.leaf (Step.stop 1 [.b false]))
       (.leaf (Step.go [.k 0, .n (tm_1 l1 n3), .l TTm l1, .n n2, .n (IntKind.wrap .i64 (n3 + (1 : Int)))]))))
     (.leaf (Step.stop 0 [])))
  | _ => .bad 0
theorem fn_L86_3_t_im (n0 : Int) (l1 : List (Ty.den TTm)) (n2 : Int) (n3 : Int) (g0 : 0 ≤ n3) (g1 :  n2 = (l1.length : Int)) : Imp (fn_L86_3_t [.n n0, .l TTm l1, .n n2, .n n3]) (st_L86_3 [.k 0, .n n0, .l TTm l1, .n n2, .n n3]) :=
(.path [1] (by kernel_rfl)
(.node (by kernel_rfl) (by kernel_rfl) (fun h0 =>
(.pt (c := (inR n3 (List.length l1))) (by kernel_rfl) (by kernel_rfl) (by (simp only [w64d, decide_eq_true_eq, decide_eq_false_iff_not, beq_iff_eq, beq_eq_false_iff_ne, bne_iff_ne, ne_eq, inR, Bool.and_eq_true, Bool.and_eq_false_iff, Bool.not_eq_true', Bool.not_eq_false', Bool.not_eq_eq_eq_not, Bool.not_true, Bool.not_false] at *; omega))
(.node (by kernel_rfl) (by kernel_rfl) (fun h1 =>
(.path [1,1,1] (by kernel_rfl)
(.leaf (by kernel_rfl)))) (fun h1 =>
(.node (by kernel_rfl) (by kernel_rfl) (fun h2 =>
(.path [1] (by kernel_rfl)
(.leaf (by kernel_rfl)))) (fun h2 =>
(.path [1] (by kernel_rfl)
(.leaf (by kernel_rfl))))))))) (fun h0 =>
(.path [1] (by kernel_rfl)
(.leaf (by kernel_rfl))))))

theorem ls_86_ok : LsOk Try.prog (List.length ([] : List PB)) (lsM [(3, L86_3)] (List.length ([] : List PB))) (bodyOf Try.prog 86) := LsOk.many fun j B hB hk c hc hi => by
  simp only [lookM] at hB
  split at hB
  · rename_i e; have := Nat.eq_of_beq_eq_true e; subst this; cases hB
    have e1 : loopAt Try.prog 86 3 = [cAt Try.prog 86 3] := loopAt_one (by kernel_rfl)
    have e2 : c ∈ loopAt Try.prog 86 3 := loopsAt_mem hc hi
    rw [e1] at e2; cases List.mem_singleton.1 e2; exact L86_3_run
  cases hB

noncomputable def ev_86 (env : List Dat) : Tree (Nat × List Dat) := Lk.boxC false LK cs_20 86 (lsM [(3, L86_3)] (List.length ([] : List PB))) (mkF [.imm TTm 0] [] [] [(.bool 0, [])] fun _ => none) env
theorem op_86_ex : ∃ f : List Dat → Option (Nat × List Dat), ∀ env, f env = (ev_86 env).sel := ⟨fun env => (ev_86 env).sel, fun _ => rfl⟩
noncomputable def op_86 : List Dat → Option (Nat × List Dat) := Classical.choose op_86_ex
theorem op_86_eq (env : List Dat) : op_86 env = (ev_86 env).sel := Classical.choose_spec op_86_ex env
noncomputable def B86 : FBox := mkF [.imm TTm 0] [] [] [(.bool 0, [])] op_86
theorem B86_ok : RunOk Try.prog 86 (boxRun B86) := mkF_ok (op := op_86) cs_20_ok hmix false (ls_86_ok) (fun env x h => by rw [op_86_eq] at h; rw [← boxC_lk]; exact h)
theorem op_86_good {p : Nat × List Dat → Prop} {T : Tree (Nat × List Dat)} {env : List Dat} (h : Imp T (ev_86 env)) (g : Good p T.sel) : Good p (op_86 env) := by
  rw [op_86_eq]
  exact h.good g

noncomputable def fn_86_t : List Dat → Tree (Nat × List Dat)
  | [.l (Ty.pair (Ty.int IntKind.i64) (Ty.int IntKind.u8)) l0] =>
    (let r1 : Option (Nat × List Dat) := (op_L86_3 [.k 0, .n (-1 : Int), .l TTm l0, .n (↑(List.length l0) : Int), .n (0 : Int)]);
     (.node (isK 0 [] r1)
      (.leaf ((0, [.b true])))
      (.node (isK 1 [HK.b] r1)
       (.leaf ((0, [.b (gb (dOf r1) 0)])))
       (.bad 351))))
  | _ => .bad 0
theorem fn_86_t_im (l0 : List (Ty.den TTm)) : Imp (fn_86_t [.l TTm l0]) (ev_86 [.l TTm l0]) :=
(.node (by kernel_rfl) (by kernel_rfl) (fun h0 =>
(.path [1] (by kernel_rfl)
(.leaf (by kernel_rfl)))) (fun h0 =>
(.node (by kernel_rfl) (by kernel_rfl) (fun h1 =>
(.path [1] (by kernel_rfl)
(.leaf (by kernel_rfl)))) (fun h1 =>
.none))))

noncomputable def cs_86 : FuncId → Option CSpec := csLend 86 B86 cs_20
theorem cs_86_ok : CsOk Try.prog cs_86 := csLend_ok cs_20_ok B86_ok

noncomputable def st_L87_2 (env : List Dat) : Tree Step := Lk.stepMC false LK cs_86 87 2 ls0 (mkM 0 [] [(sh 42 [(0, .imm TTm 0), (3, .int .i64 1)], [])] [] [(.exit 0, sh 42 [], []), (.ret, sh 42 [(2, .bool 0)], [])] fun _ => none) env
theorem op_L87_2_ex : ∃ f : List Dat → Option (Nat × List Dat), ∀ env, f env = iterS st_L87_2 FU env := ⟨iterS st_L87_2 FU, fun _ => rfl⟩
noncomputable def op_L87_2 : List Dat → Option (Nat × List Dat) := Classical.choose op_L87_2_ex
theorem op_L87_2_eq (env : List Dat) : op_L87_2 env = iterS st_L87_2 FU env := Classical.choose_spec op_L87_2_ex env
noncomputable def L87_2 : MBox := mkM 0 [] [(sh 42 [(0, .imm TTm 0), (3, .int .i64 1)], [])] [] [(.exit 0, sh 42 [], []), (.ret, sh 42 [(2, .bool 0)], [])] op_L87_2
theorem L87_2_eqs : L87_2 = mkM 0 [] [(sh 42 [(0, .imm TTm 0), (3, .int .i64 1)], [])] [] [(.exit 0, sh 42 [], []), (.ret, sh 42 [(2, .bool 0)], [])] (iterS st_L87_2 FU) := congrArg (fun f => mkM 0 [] [(sh 42 [(0, .imm TTm 0), (3, .int .i64 1)], [])] [] [(.exit 0, sh 42 [], []), (.ret, sh 42 [(2, .bool 0)], [])] f) (funext op_L87_2_eq)
theorem L87_2_run : ∀ t s x, (manyRun L87_2 t s).sel = some x → CodeOk Try.prog 0 (.loop (cAt Try.prog 87 2)) t s x := by
  rw [L87_2_eqs]
  exact mkM_ok (st := st_L87_2) (m := FU) cs_86_ok hmix false (LsOk.none _ _ _) (by kernel_rfl) (fun env y h => by rw [← stepMC_lk]; exact h)
theorem op_L87_2_good {p : Nat × List Dat → Prop} (Inv : List Dat → Prop) (μ : List Dat → Nat) (h : ∀ env, Inv env → Good (fun y => match y with | .go e => Inv e ∧ μ e < μ env | .stop k d => p (k, d)) (st_L87_2 env).sel) (env : List Dat) (hi : Inv env) (hm : μ env < FU) : Good p (op_L87_2 env) := by
  rw [op_L87_2_eq]
  exact iterS_good Inv μ p h FU env hi hm

noncomputable def fn_L87_2_t : List Dat → Tree Step
  | [.l (Ty.pair (Ty.int IntKind.i64) (Ty.int IntKind.u8)) l0, .n n1] =>
    (.node (decide (n1 < (↑(List.length l0) : Int)))
     (.node (decide ((tm_1 l0 n1 : Int) < (0 : Int)))
      (.leaf (Step.stop 1 [.b false]))
      (.node (decide ((tm_1 l0 n1 : Int) ≥ (64 : Int)))
       (.leaf (Step.stop 1 [.b false]))
       (.node (decide (n1 > (0 : Int)))
        (.node (inR (IntKind.wrap .i64 (n1 - (1 : Int))) (List.length l0))
         (.node (decide ((tm_1 l0 n1 : Int) ≤ (tm_1 l0 (IntKind.wrap .i64 (n1 - (1 : Int))) : Int)))
          (.leaf (Step.stop 1 [.b false]))
          (.leaf (Step.go [.k 0, .l TTm l0, .n (IntKind.wrap .i64 (n1 + (1 : Int)))])))
         (.bad 10))
        (.leaf (Step.go [.k 0, .l TTm l0, .n (IntKind.wrap .i64 (n1 + (1 : Int)))])))))
     (.leaf (Step.stop 0 [])))
  | _ => .bad 0
theorem fn_L87_2_t_im (l0 : List (Ty.den TTm)) (n1 : Int) (g0 : 0 ≤ n1) : Imp (fn_L87_2_t [.l TTm l0, .n n1]) (st_L87_2 [.k 0, .l TTm l0, .n n1]) :=
(.path [1] (by kernel_rfl)
(.node (by kernel_rfl) (by kernel_rfl) (fun h0 =>
(.pt (c := (inR n1 (List.length l0))) (by kernel_rfl) (by kernel_rfl) (by (simp only [w64d, decide_eq_true_eq, decide_eq_false_iff_not, beq_iff_eq, beq_eq_false_iff_ne, bne_iff_ne, ne_eq, inR, Bool.and_eq_true, Bool.and_eq_false_iff, Bool.not_eq_true', Bool.not_eq_false', Bool.not_eq_eq_eq_not, Bool.not_true, Bool.not_false] at *; omega))
(.node (by kernel_rfl) (by kernel_rfl) (fun h1 =>
(.path [1,1,1,1,1,1] (by kernel_rfl)
(.leaf (by kernel_rfl)))) (fun h1 =>
(.pt (c := (inR n1 (List.length l0))) (by kernel_rfl) (by kernel_rfl) (by (simp only [w64d, decide_eq_true_eq, decide_eq_false_iff_not, beq_iff_eq, beq_eq_false_iff_ne, bne_iff_ne, ne_eq, inR, Bool.and_eq_true, Bool.and_eq_false_iff, Bool.not_eq_true', Bool.not_eq_false', Bool.not_eq_eq_eq_not, Bool.not_true, Bool.not_false] at *; omega))
(.node (by kernel_rfl) (by kernel_rfl) (fun h2 =>
(.path [1,1,1,1] (by kernel_rfl)
(.leaf (by kernel_rfl)))) (fun h2 =>
(.node (by kernel_rfl) (by kernel_rfl) (fun h3 =>
(.pt (c := (inR n1 (List.length l0))) (by kernel_rfl) (by kernel_rfl) (by (simp only [w64d, decide_eq_true_eq, decide_eq_false_iff_not, beq_iff_eq, beq_eq_false_iff_ne, bne_iff_ne, ne_eq, inR, Bool.and_eq_true, Bool.and_eq_false_iff, Bool.not_eq_true', Bool.not_eq_false', Bool.not_eq_eq_eq_not, Bool.not_true, Bool.not_false] at *; omega))
(.node (by kernel_rfl) (by kernel_rfl) (fun h4 =>
(.path [1] (by kernel_rfl)
(.node (by kernel_rfl) (by kernel_rfl) (fun h5 =>
(.path [1] (by kernel_rfl)
(.leaf (by kernel_rfl)))) (fun h5 =>
(.path [1] (by kernel_rfl)
(.leaf (by kernel_rfl))))))) (fun h4 =>
.none)))) (fun h3 =>
(.path [0,1,0,1] (by kernel_rfl)
(.leaf (by kernel_rfl)))))))))))) (fun h0 =>
(.path [1] (by kernel_rfl)
(.leaf (by kernel_rfl))))))

theorem ls_87_ok : LsOk Try.prog (List.length ([] : List PB)) (lsM [(2, L87_2)] (List.length ([] : List PB))) (bodyOf Try.prog 87) := LsOk.many fun j B hB hk c hc hi => by
  simp only [lookM] at hB
  split at hB
  · rename_i e; have := Nat.eq_of_beq_eq_true e; subst this; cases hB
    have e1 : loopAt Try.prog 87 2 = [cAt Try.prog 87 2] := loopAt_one (by kernel_rfl)
    have e2 : c ∈ loopAt Try.prog 87 2 := loopsAt_mem hc hi
    rw [e1] at e2; cases List.mem_singleton.1 e2; exact L87_2_run
  cases hB

noncomputable def ev_87 (env : List Dat) : Tree (Nat × List Dat) := Lk.boxC false LK cs_86 87 (lsM [(2, L87_2)] (List.length ([] : List PB))) (mkF [.imm TTm 0] [] [] [(.bool 0, [])] fun _ => none) env
theorem op_87_ex : ∃ f : List Dat → Option (Nat × List Dat), ∀ env, f env = (ev_87 env).sel := ⟨fun env => (ev_87 env).sel, fun _ => rfl⟩
noncomputable def op_87 : List Dat → Option (Nat × List Dat) := Classical.choose op_87_ex
theorem op_87_eq (env : List Dat) : op_87 env = (ev_87 env).sel := Classical.choose_spec op_87_ex env
noncomputable def B87 : FBox := mkF [.imm TTm 0] [] [] [(.bool 0, [])] op_87
theorem B87_ok : RunOk Try.prog 87 (boxRun B87) := mkF_ok (op := op_87) cs_86_ok hmix false (ls_87_ok) (fun env x h => by rw [op_87_eq] at h; rw [← boxC_lk]; exact h)
theorem op_87_good {p : Nat × List Dat → Prop} {T : Tree (Nat × List Dat)} {env : List Dat} (h : Imp T (ev_87 env)) (g : Good p T.sel) : Good p (op_87 env) := by
  rw [op_87_eq]
  exact h.good g

noncomputable def fn_87_t : List Dat → Tree (Nat × List Dat)
  | [.l (Ty.pair (Ty.int IntKind.i64) (Ty.int IntKind.u8)) l0] =>
    (let r1 : Option (Nat × List Dat) := (op_L87_2 [.k 0, .l TTm l0, .n (0 : Int)]);
     (.node (isK 0 [] r1)
      (.leaf ((0, [.b true])))
      (.node (isK 1 [HK.b] r1)
       (.leaf ((0, [.b (gb (dOf r1) 0)])))
       (.bad 351))))
  | _ => .bad 0
theorem fn_87_t_im (l0 : List (Ty.den TTm)) : Imp (fn_87_t [.l TTm l0]) (ev_87 [.l TTm l0]) :=
(.node (by kernel_rfl) (by kernel_rfl) (fun h0 =>
(.path [1] (by kernel_rfl)
(.leaf (by kernel_rfl)))) (fun h0 =>
(.node (by kernel_rfl) (by kernel_rfl) (fun h1 =>
(.path [1] (by kernel_rfl)
(.leaf (by kernel_rfl)))) (fun h1 =>
.none))))

noncomputable def cs_87 : FuncId → Option CSpec := csLend 87 B87 cs_86
theorem cs_87_ok : CsOk Try.prog cs_87 := csLend_ok cs_86_ok B87_ok

noncomputable def st_L21_3 (env : List Dat) : Tree Step := Lk.stepMC false LK cs_87 21 3 ls0 (mkM (cv := [(5, [], 4, .own TTm)]) 0 [] [(sh 51 [(2, .ptr 0 0), (4, .ptr 1 0), (5, .ptr 2 0), (30, .agg [.arrd TB 64 0]), (31, .int .i64 1)], [stB 2, dlB 7 .nilsl, dlB 11 (.own 3), .arr TTm 15])] [] [(.exit 0, sh 51 [(4, .ptr 0 0), (5, .ptr 1 0)], [dlB 0 .nilsl, dlB 4 (.own 2), .arr TTm 8])] fun _ => none) env
theorem op_L21_3_ex : ∃ f : List Dat → Option (Nat × List Dat), ∀ env, f env = iterS st_L21_3 FU env := ⟨iterS st_L21_3 FU, fun _ => rfl⟩
noncomputable def op_L21_3 : List Dat → Option (Nat × List Dat) := Classical.choose op_L21_3_ex
theorem op_L21_3_eq (env : List Dat) : op_L21_3 env = iterS st_L21_3 FU env := Classical.choose_spec op_L21_3_ex env
noncomputable def L21_3 : MBox := mkM (cv := [(5, [], 4, .own TTm)]) 0 [] [(sh 51 [(2, .ptr 0 0), (4, .ptr 1 0), (5, .ptr 2 0), (30, .agg [.arrd TB 64 0]), (31, .int .i64 1)], [stB 2, dlB 7 .nilsl, dlB 11 (.own 3), .arr TTm 15])] [] [(.exit 0, sh 51 [(4, .ptr 0 0), (5, .ptr 1 0)], [dlB 0 .nilsl, dlB 4 (.own 2), .arr TTm 8])] op_L21_3
theorem L21_3_eqs : L21_3 = mkM (cv := [(5, [], 4, .own TTm)]) 0 [] [(sh 51 [(2, .ptr 0 0), (4, .ptr 1 0), (5, .ptr 2 0), (30, .agg [.arrd TB 64 0]), (31, .int .i64 1)], [stB 2, dlB 7 .nilsl, dlB 11 (.own 3), .arr TTm 15])] [] [(.exit 0, sh 51 [(4, .ptr 0 0), (5, .ptr 1 0)], [dlB 0 .nilsl, dlB 4 (.own 2), .arr TTm 8])] (iterS st_L21_3 FU) := congrArg (fun f => mkM (cv := [(5, [], 4, .own TTm)]) 0 [] [(sh 51 [(2, .ptr 0 0), (4, .ptr 1 0), (5, .ptr 2 0), (30, .agg [.arrd TB 64 0]), (31, .int .i64 1)], [stB 2, dlB 7 .nilsl, dlB 11 (.own 3), .arr TTm 15])] [] [(.exit 0, sh 51 [(4, .ptr 0 0), (5, .ptr 1 0)], [dlB 0 .nilsl, dlB 4 (.own 2), .arr TTm 8])] f) (funext op_L21_3_eq)
theorem L21_3_run : ∀ t s x, (manyRun L21_3 t s).sel = some x → CodeOk Try.prog 0 (.loop (cAt Try.prog 21 3)) t s x := by
  rw [L21_3_eqs]
  exact mkM_ok (st := st_L21_3) (m := FU) cs_87_ok hmix false (LsOk.none _ _ _) (by kernel_rfl) (fun env y h => by rw [← stepMC_lk]; exact h)
theorem op_L21_3_good {p : Nat × List Dat → Prop} (Inv : List Dat → Prop) (μ : List Dat → Nat) (h : ∀ env, Inv env → Good (fun y => match y with | .go e => Inv e ∧ μ e < μ env | .stop k d => p (k, d)) (st_L21_3 env).sel) (env : List Dat) (hi : Inv env) (hm : μ env < FU) : Good p (op_L21_3 env) := by
  rw [op_L21_3_eq]
  exact iterS_good Inv μ p h FU env hi hm

noncomputable def fn_L21_3_t : List Dat → Tree Step
  | [.l (Ty.int IntKind.u8) l0, .n n1, .n n2, .n n3, .n n4, .l (Ty.int IntKind.u8) l5, .n n6, .n n7, .n n8, .n n9, .n n10, .n n11, .n n12, .n n13, .n n14, .l (Ty.pair (Ty.int IntKind.i64) (Ty.int IntKind.u8)) l15] =>
    (.node (decide (n1 < (64 : Int)))
     (.node ((List.getD l5 (Int.toNat n1) (0 : Int) : Int) != (List.getD l0 (Int.toNat n1) (0 : Int) : Int))
      (.node (decide ((List.length l15 + 1) * 16 ≤ 140737488355328))
       (.leaf (Step.go [.k 0, .l (Ty.int IntKind.u8) l0, .n (IntKind.wrap .i64 (n1 + (1 : Int))), .n n2, .n n3, .n n4, .l (Ty.int IntKind.u8) l5, .n n6, .n n7, .n n8, .n n9, .n n10, .n n11, .n n12, .n n13, .n n14, .l TTm (l15 ++ ([(n1, List.getD l0 (Int.toNat n1) (0 : Int))] : List (Ty.den TTm)))]))
       (.bad 62))
      (.leaf (Step.go [.k 0, .l (Ty.int IntKind.u8) l0, .n (IntKind.wrap .i64 (n1 + (1 : Int))), .n n2, .n n3, .n n4, .l (Ty.int IntKind.u8) l5, .n n6, .n n7, .n n8, .n n9, .n n10, .n n11, .n n12, .n n13, .n n14, .l TTm l15])))
     (.leaf (Step.stop 0 [.n n7, .n n8, .n n9, .n n10, .n n11, .n n12, .n n13, .n n14, .l TTm l15])))
  | _ => .bad 0
theorem fn_L21_3_t_im (l0 : List (Ty.den (Ty.int IntKind.u8))) (n1 : Int) (n2 : Int) (n3 : Int) (n4 : Int) (l5 : List (Ty.den (Ty.int IntKind.u8))) (n6 : Int) (n7 : Int) (n8 : Int) (n9 : Int) (n10 : Int) (n11 : Int) (n12 : Int) (n13 : Int) (n14 : Int) (l15 : List (Ty.den TTm)) (g0 : 0 ≤ n1) : Imp (fn_L21_3_t [.l (Ty.int IntKind.u8) l0, .n n1, .n n2, .n n3, .n n4, .l (Ty.int IntKind.u8) l5, .n n6, .n n7, .n n8, .n n9, .n n10, .n n11, .n n12, .n n13, .n n14, .l TTm l15]) (st_L21_3 [.k 0, .l TB l0, .n n1, .n n2, .n n3, .n n4, .l TB l5, .n n6, .n n7, .n n8, .n n9, .n n10, .n n11, .n n12, .n n13, .n n14, .l TTm l15]) :=
(.path [1] (by kernel_rfl)
(.node (by kernel_rfl) (by kernel_rfl) (fun h0 =>
(.pt (c := (inR n1 64)) (by kernel_rfl) (by kernel_rfl) (by (simp only [w64d, decide_eq_true_eq, decide_eq_false_iff_not, beq_iff_eq, beq_eq_false_iff_ne, bne_iff_ne, ne_eq, inR, Bool.and_eq_true, Bool.and_eq_false_iff, Bool.not_eq_true', Bool.not_eq_false', Bool.not_eq_eq_eq_not, Bool.not_true, Bool.not_false] at *; omega))
(.pt (c := (inR n1 64)) (by kernel_rfl) (by kernel_rfl) (by (simp only [w64d, decide_eq_true_eq, decide_eq_false_iff_not, beq_iff_eq, beq_eq_false_iff_ne, bne_iff_ne, ne_eq, inR, Bool.and_eq_true, Bool.and_eq_false_iff, Bool.not_eq_true', Bool.not_eq_false', Bool.not_eq_eq_eq_not, Bool.not_true, Bool.not_false] at *; omega))
(.node (by kernel_rfl) (by kernel_rfl) (fun h1 =>
(.node (by kernel_rfl) (by kernel_rfl) (fun h2 =>
(.path [1] (by kernel_rfl)
(.leaf (by kernel_rfl)))) (fun h2 =>
.none))) (fun h1 =>
(.path [1] (by kernel_rfl)
(.leaf (by kernel_rfl)))))))) (fun h0 =>
(.path [1] (by kernel_rfl)
(.leaf (by kernel_rfl))))))

theorem ls_21_ok : LsOk Try.prog (List.length ([] : List PB)) (lsM [(3, L21_3)] (List.length ([] : List PB))) (bodyOf Try.prog 21) := LsOk.many fun j B hB hk c hc hi => by
  simp only [lookM] at hB
  split at hB
  · rename_i e; have := Nat.eq_of_beq_eq_true e; subst this; cases hB
    have e1 : loopAt Try.prog 21 3 = [cAt Try.prog 21 3] := loopAt_one (by kernel_rfl)
    have e2 : c ∈ loopAt Try.prog 21 3 := loopsAt_mem hc hi
    rw [e1] at e2; cases List.mem_singleton.1 e2; exact L21_3_run
  cases hB

noncomputable def ev_21 (env : List Dat) : Tree (Nat × List Dat) := Lk.boxC false LK cs_87 21 (lsM [(3, L21_3)] (List.length ([] : List PB))) (mkF [stV 0, stV 5] [] [] [(dlV 0 (.own 0), [.arr TTm 4])] fun _ => none) env
theorem op_21_ex : ∃ f : List Dat → Option (Nat × List Dat), ∀ env, f env = (ev_21 env).sel := ⟨fun env => (ev_21 env).sel, fun _ => rfl⟩
noncomputable def op_21 : List Dat → Option (Nat × List Dat) := Classical.choose op_21_ex
theorem op_21_eq (env : List Dat) : op_21 env = (ev_21 env).sel := Classical.choose_spec op_21_ex env
noncomputable def B21 : FBox := mkF [stV 0, stV 5] [] [] [(dlV 0 (.own 0), [.arr TTm 4])] op_21
theorem B21_ok : RunOk Try.prog 21 (boxRun B21) := mkF_ok (op := op_21) cs_87_ok hmix false (ls_21_ok) (fun env x h => by rw [op_21_eq] at h; rw [← boxC_lk]; exact h)
theorem op_21_good {p : Nat × List Dat → Prop} {T : Tree (Nat × List Dat)} {env : List Dat} (h : Imp T (ev_21 env)) (g : Good p T.sel) : Good p (op_21 env) := by
  rw [op_21_eq]
  exact h.good g

noncomputable def fn_21_t : List Dat → Tree (Nat × List Dat)
  | [.n n0, .n n1, .n n2, .l (Ty.int IntKind.u8) l3, .n n4, .n n5, .n n6, .n n7, .l (Ty.int IntKind.u8) l8, .n n9] =>
    (let r1 : Option (Nat × List Dat) := (op_L21_3 [.k 0, .l (Ty.int IntKind.u8) l8, .n (0 : Int), .n n0, .n n1, .n n2, .l (Ty.int IntKind.u8) l3, .n n4, .n (0 : Int), .n (0 : Int), .n (0 : Int), .n (0 : Int), .n (ixor IntKind.u64 n0 n5), .n (ixor IntKind.u64 n1 n6), .n (ixor IntKind.u64 n2 n7), .n (ixor IntKind.u32 n4 n9), .l TTm []]);
     (.node (isK 0 [HK.n, HK.n, HK.n, HK.n, HK.n, HK.n, HK.n, HK.n, HK.l TTm] r1)
      (.leaf ((0, [.n (gn (dOf r1) 4), .n (gn (dOf r1) 5), .n (gn (dOf r1) 6), .n (gn (dOf r1) 7), .l TTm (gl TTm (dOf r1) 8)])))
      (.bad 351)))
  | _ => .bad 0
theorem fn_21_t_im (n0 : Int) (n1 : Int) (n2 : Int) (l3 : List (Ty.den (Ty.int IntKind.u8))) (n4 : Int) (n5 : Int) (n6 : Int) (n7 : Int) (l8 : List (Ty.den (Ty.int IntKind.u8))) (n9 : Int) : Imp (fn_21_t [.n n0, .n n1, .n n2, .l (Ty.int IntKind.u8) l3, .n n4, .n n5, .n n6, .n n7, .l (Ty.int IntKind.u8) l8, .n n9]) (ev_21 [.n n0, .n n1, .n n2, .l TB l3, .n n4, .n n5, .n n6, .n n7, .l TB l8, .n n9]) :=
(.node (by kernel_rfl) (by kernel_rfl) (fun h0 =>
(.path [1] (by kernel_rfl)
(.leaf (by kernel_rfl)))) (fun h0 =>
.none))

noncomputable def cs_21 : FuncId → Option CSpec := csLend 21 B21 cs_87
theorem cs_21_ok : CsOk Try.prog cs_21 := csLend_ok cs_87_ok B21_ok

noncomputable def st_L22_8 (env : List Dat) : Tree Step := Lk.stepMC false LK cs_21 22 8 ls0 (mkM 0 [] [(sh 52 [(2, .ptr 0 0), (4, .ptr 1 0), (38, .imm TTm 0), (39, .int .i64 1), (40, .int .i64 2)], [stB 3, stB 8])] [] [(.exit 0, sh 52 [(2, .ptr 0 0), (4, .ptr 1 0)], [stB 0, stB 5])] fun _ => none) env
theorem op_L22_8_ex : ∃ f : List Dat → Option (Nat × List Dat), ∀ env, f env = iterS st_L22_8 FU env := ⟨iterS st_L22_8 FU, fun _ => rfl⟩
noncomputable def op_L22_8 : List Dat → Option (Nat × List Dat) := Classical.choose op_L22_8_ex
theorem op_L22_8_eq (env : List Dat) : op_L22_8 env = iterS st_L22_8 FU env := Classical.choose_spec op_L22_8_ex env
noncomputable def L22_8 : MBox := mkM 0 [] [(sh 52 [(2, .ptr 0 0), (4, .ptr 1 0), (38, .imm TTm 0), (39, .int .i64 1), (40, .int .i64 2)], [stB 3, stB 8])] [] [(.exit 0, sh 52 [(2, .ptr 0 0), (4, .ptr 1 0)], [stB 0, stB 5])] op_L22_8
theorem L22_8_eqs : L22_8 = mkM 0 [] [(sh 52 [(2, .ptr 0 0), (4, .ptr 1 0), (38, .imm TTm 0), (39, .int .i64 1), (40, .int .i64 2)], [stB 3, stB 8])] [] [(.exit 0, sh 52 [(2, .ptr 0 0), (4, .ptr 1 0)], [stB 0, stB 5])] (iterS st_L22_8 FU) := congrArg (fun f => mkM 0 [] [(sh 52 [(2, .ptr 0 0), (4, .ptr 1 0), (38, .imm TTm 0), (39, .int .i64 1), (40, .int .i64 2)], [stB 3, stB 8])] [] [(.exit 0, sh 52 [(2, .ptr 0 0), (4, .ptr 1 0)], [stB 0, stB 5])] f) (funext op_L22_8_eq)
theorem L22_8_run : ∀ t s x, (manyRun L22_8 t s).sel = some x → CodeOk Try.prog 0 (.loop (cAt Try.prog 22 8)) t s x := by
  rw [L22_8_eqs]
  exact mkM_ok (st := st_L22_8) (m := FU) cs_21_ok hmix false (LsOk.none _ _ _) (by kernel_rfl) (fun env y h => by rw [← stepMC_lk]; exact h)
theorem op_L22_8_good {p : Nat × List Dat → Prop} (Inv : List Dat → Prop) (μ : List Dat → Nat) (h : ∀ env, Inv env → Good (fun y => match y with | .go e => Inv e ∧ μ e < μ env | .stop k d => p (k, d)) (st_L22_8 env).sel) (env : List Dat) (hi : Inv env) (hm : μ env < FU) : Good p (op_L22_8 env) := by
  rw [op_L22_8_eq]
  exact iterS_good Inv μ p h FU env hi hm

noncomputable def fn_L22_8_t : List Dat → Tree Step
  | [.l (Ty.pair (Ty.int IntKind.i64) (Ty.int IntKind.u8)) l0, .n n1, .n n2, .n n3, .n n4, .n n5, .l (Ty.int IntKind.u8) l6, .n n7, .n n8, .n n9, .n n10, .l (Ty.int IntKind.u8) l11, .n n12] =>
    (.node (decide (n2 < n1))
     (.node (inR (tm_1 l0 n2) 64)
      (.leaf (Step.go [.k 0, .l TTm l0, .n n1, .n (IntKind.wrap .i64 (n2 + (1 : Int))), .n n3, .n n4, .n n5, .l (Ty.int IntKind.u8) (List.set l6 (Int.toNat (tm_1 l0 n2)) (tm_2 l0 n2)), .n n7, .n n8, .n n9, .n n10, .l (Ty.int IntKind.u8) l11, .n n12]))
      (.bad 17))
     (.leaf (Step.stop 0 [.n n3, .n n4, .n n5, .l (Ty.int IntKind.u8) l6, .n n7, .n n8, .n n9, .n n10, .l (Ty.int IntKind.u8) l11, .n n12])))
  | _ => .bad 0
theorem fn_L22_8_t_im (l0 : List (Ty.den TTm)) (n1 : Int) (n2 : Int) (n3 : Int) (n4 : Int) (n5 : Int) (l6 : List (Ty.den (Ty.int IntKind.u8))) (n7 : Int) (n8 : Int) (n9 : Int) (n10 : Int) (l11 : List (Ty.den (Ty.int IntKind.u8))) (n12 : Int) (g0 : 0 ≤ n2) (g1 :  n1 = (l0.length : Int)) : Imp (fn_L22_8_t [.l TTm l0, .n n1, .n n2, .n n3, .n n4, .n n5, .l (Ty.int IntKind.u8) l6, .n n7, .n n8, .n n9, .n n10, .l (Ty.int IntKind.u8) l11, .n n12]) (st_L22_8 [.k 0, .l TTm l0, .n n1, .n n2, .n n3, .n n4, .n n5, .l TB l6, .n n7, .n n8, .n n9, .n n10, .l TB l11, .n n12]) :=
(.path [1] (by kernel_rfl)
(.node (by kernel_rfl) (by kernel_rfl) (fun h0 =>
(.pt (c := (inR n2 (List.length l0))) (by kernel_rfl) (by kernel_rfl) (by (simp only [w64d, decide_eq_true_eq, decide_eq_false_iff_not, beq_iff_eq, beq_eq_false_iff_ne, bne_iff_ne, ne_eq, inR, Bool.and_eq_true, Bool.and_eq_false_iff, Bool.not_eq_true', Bool.not_eq_false', Bool.not_eq_eq_eq_not, Bool.not_true, Bool.not_false] at *; omega))
(.node (by kernel_rfl) (by kernel_rfl) (fun h1 =>
(.path [1] (by kernel_rfl)
(.leaf (by kernel_rfl)))) (fun h1 =>
.none)))) (fun h0 =>
(.path [1] (by kernel_rfl)
(.leaf (by kernel_rfl))))))

theorem ls_22_ok : LsOk Try.prog (List.length ([] : List PB)) (lsM [(8, L22_8)] (List.length ([] : List PB))) (bodyOf Try.prog 22) := LsOk.many fun j B hB hk c hc hi => by
  simp only [lookM] at hB
  split at hB
  · rename_i e; have := Nat.eq_of_beq_eq_true e; subst this; cases hB
    have e1 : loopAt Try.prog 22 8 = [cAt Try.prog 22 8] := loopAt_one (by kernel_rfl)
    have e2 : c ∈ loopAt Try.prog 22 8 := loopsAt_mem hc hi
    rw [e1] at e2; cases List.mem_singleton.1 e2; exact L22_8_run
  cases hB

noncomputable def ev_22 (env : List Dat) : Tree (Nat × List Dat) := Lk.boxC false LK cs_21 22 (lsM [(8, L22_8)] (List.length ([] : List PB))) (mkF [stV 0, dlV 5 (.imm TTm 9)] [] [] [(.tup [stV 0, .int .i64 5], [])] fun _ => none) env
theorem op_22_ex : ∃ f : List Dat → Option (Nat × List Dat), ∀ env, f env = (ev_22 env).sel := ⟨fun env => (ev_22 env).sel, fun _ => rfl⟩
noncomputable def op_22 : List Dat → Option (Nat × List Dat) := Classical.choose op_22_ex
theorem op_22_eq (env : List Dat) : op_22 env = (ev_22 env).sel := Classical.choose_spec op_22_ex env
noncomputable def B22 : FBox := mkF [stV 0, dlV 5 (.imm TTm 9)] [] [] [(.tup [stV 0, .int .i64 5], [])] op_22
theorem B22_ok : RunOk Try.prog 22 (boxRun B22) := mkF_ok (op := op_22) cs_21_ok hmix false (ls_22_ok) (fun env x h => by rw [op_22_eq] at h; rw [← boxC_lk]; exact h)
theorem op_22_good {p : Nat × List Dat → Prop} {T : Tree (Nat × List Dat)} {env : List Dat} (h : Imp T (ev_22 env)) (g : Good p T.sel) : Good p (op_22 env) := by
  rw [op_22_eq]
  exact h.good g

noncomputable def fn_22_t : List Dat → Tree (Nat × List Dat)
  | [.n n0, .n n1, .n n2, .l (Ty.int IntKind.u8) l3, .n n4, .n n5, .n n6, .n n7, .n n8, .l (Ty.pair (Ty.int IntKind.i64) (Ty.int IntKind.u8)) l9] =>
    (let r1 : Option (Nat × List Dat) := (op_86 [.l TTm l9]);
     (.node (isK 0 [HK.b] r1)
      (.node (!gb (dOf r1) 0)
       (.leaf ((0, [.n (0 : Int), .n (0 : Int), .n (0 : Int), .l (Ty.int IntKind.u8) (List.replicate 64 (0 : Int)), .n (0 : Int), .n (2 : Int)])))
       (let r2 : Option (Nat × List Dat) := (op_L22_8 [.k 0, .l TTm l9, .n (↑(List.length l9) : Int), .n (0 : Int), .n (ixor IntKind.u64 n0 n5), .n (ixor IntKind.u64 n1 n6), .n (ixor IntKind.u64 n2 n7), .l (Ty.int IntKind.u8) l3, .n (ixor IntKind.u32 n4 n8), .n (0 : Int), .n (0 : Int), .n (0 : Int), .l (Ty.int IntKind.u8) (List.replicate 64 (0 : Int)), .n (0 : Int)]);
        (.node (isK 0 [HK.n, HK.n, HK.n, HK.l (Ty.int IntKind.u8), HK.n, HK.n, HK.n, HK.n, HK.l (Ty.int IntKind.u8), HK.n] r2)
         (.leaf ((0, [.n (gn (dOf r2) 0), .n (gn (dOf r2) 1), .n (gn (dOf r2) 2), .l (Ty.int IntKind.u8) (gl (Ty.int IntKind.u8) (dOf r2) 3), .n (gn (dOf r2) 4), .n (0 : Int)])))
         (.bad 351))))
      (.bad 351)))
  | _ => .bad 0
theorem fn_22_t_im (n0 : Int) (n1 : Int) (n2 : Int) (l3 : List (Ty.den (Ty.int IntKind.u8))) (n4 : Int) (n5 : Int) (n6 : Int) (n7 : Int) (n8 : Int) (l9 : List (Ty.den TTm)) : Imp (fn_22_t [.n n0, .n n1, .n n2, .l (Ty.int IntKind.u8) l3, .n n4, .n n5, .n n6, .n n7, .n n8, .l TTm l9]) (ev_22 [.n n0, .n n1, .n n2, .l TB l3, .n n4, .n n5, .n n6, .n n7, .n n8, .l TTm l9]) :=
(.node (by kernel_rfl) (by kernel_rfl) (fun h0 =>
(.path [1] (by kernel_rfl)
(.node (by kernel_rfl) (by kernel_rfl) (fun h1 =>
(.path [1] (by kernel_rfl)
(.leaf (by kernel_rfl)))) (fun h1 =>
(.node (by kernel_rfl) (by kernel_rfl) (fun h2 =>
(.path [1] (by kernel_rfl)
(.leaf (by kernel_rfl)))) (fun h2 =>
.none)))))) (fun h0 =>
.none))

noncomputable def cs_22 : FuncId → Option CSpec := csLend 22 B22 cs_21
theorem cs_22_ok : CsOk Try.prog cs_22 := csLend_ok cs_21_ok B22_ok

noncomputable def st_L23_8 (env : List Dat) : Tree Step := Lk.stepMC false LK cs_22 23 8 ls0 (mkM 0 [] [(sh 58 [(2, .ptr 0 0), (3, .ptr 1 0), (4, .ptr 2 0), (6, .int .i64 0)], [stB 1, msB 6 (.imm TTm 20), stB 21])] [] [(.exit 0, sh 58 [(2, .ptr 0 0), (4, .ptr 1 0)], [stB 0, stB 5])] fun _ => none) env
theorem op_L23_8_ex : ∃ f : List Dat → Option (Nat × List Dat), ∀ env, f env = iterS st_L23_8 FU env := ⟨iterS st_L23_8 FU, fun _ => rfl⟩
noncomputable def op_L23_8 : List Dat → Option (Nat × List Dat) := Classical.choose op_L23_8_ex
theorem op_L23_8_eq (env : List Dat) : op_L23_8 env = iterS st_L23_8 FU env := Classical.choose_spec op_L23_8_ex env
noncomputable def L23_8 : MBox := mkM 0 [] [(sh 58 [(2, .ptr 0 0), (3, .ptr 1 0), (4, .ptr 2 0), (6, .int .i64 0)], [stB 1, msB 6 (.imm TTm 20), stB 21])] [] [(.exit 0, sh 58 [(2, .ptr 0 0), (4, .ptr 1 0)], [stB 0, stB 5])] op_L23_8
theorem L23_8_eqs : L23_8 = mkM 0 [] [(sh 58 [(2, .ptr 0 0), (3, .ptr 1 0), (4, .ptr 2 0), (6, .int .i64 0)], [stB 1, msB 6 (.imm TTm 20), stB 21])] [] [(.exit 0, sh 58 [(2, .ptr 0 0), (4, .ptr 1 0)], [stB 0, stB 5])] (iterS st_L23_8 FU) := congrArg (fun f => mkM 0 [] [(sh 58 [(2, .ptr 0 0), (3, .ptr 1 0), (4, .ptr 2 0), (6, .int .i64 0)], [stB 1, msB 6 (.imm TTm 20), stB 21])] [] [(.exit 0, sh 58 [(2, .ptr 0 0), (4, .ptr 1 0)], [stB 0, stB 5])] f) (funext op_L23_8_eq)
theorem L23_8_run : ∀ t s x, (manyRun L23_8 t s).sel = some x → CodeOk Try.prog 0 (.loop (cAt Try.prog 23 8)) t s x := by
  rw [L23_8_eqs]
  exact mkM_ok (st := st_L23_8) (m := FU) cs_22_ok hmix false (LsOk.none _ _ _) (by kernel_rfl) (fun env y h => by rw [← stepMC_lk]; exact h)
theorem op_L23_8_good {p : Nat × List Dat → Prop} (Inv : List Dat → Prop) (μ : List Dat → Nat) (h : ∀ env, Inv env → Good (fun y => match y with | .go e => Inv e ∧ μ e < μ env | .stop k d => p (k, d)) (st_L23_8 env).sel) (env : List Dat) (hi : Inv env) (hm : μ env < FU) : Good p (op_L23_8 env) := by
  rw [op_L23_8_eq]
  exact iterS_good Inv μ p h FU env hi hm

noncomputable def fn_L23_8_t : List Dat → Tree Step
  | [.n n0, .n n1, .n n2, .n n3, .l (Ty.int IntKind.u8) l4, .n n5, .n n6, .n n7, .n n8, .n n9, .n n10, .n n11, .n n12, .n n13, .l (Ty.int IntKind.u8) l14, .n n15, .n n16, .n n17, .n n18, .n n19, .l (Ty.pair (Ty.int IntKind.i64) (Ty.int IntKind.u8)) l20, .n n21, .n n22, .n n23, .l (Ty.int IntKind.u8) l24, .n n25] =>
    (.node (decide (n0 < (↑(List.length l20) : Int)))
     (.node (inR (tm_1 l20 n0) 64)
      (.leaf (Step.go [.k 0, .n (IntKind.wrap .i64 (n0 + (1 : Int))), .n n1, .n n2, .n n3, .l (Ty.int IntKind.u8) (List.set l4 (Int.toNat (tm_1 l20 n0)) (tm_2 l20 n0)), .n n5, .n n6, .n n7, .n n8, .n n9, .n n10, .n n11, .n n12, .n n13, .l (Ty.int IntKind.u8) l14, .n n15, .n n16, .n n17, .n n18, .n n19, .l TTm l20, .n n21, .n n22, .n n23, .l (Ty.int IntKind.u8) l24, .n n25]))
      (.bad 17))
     (.leaf (Step.stop 0 [.n n1, .n n2, .n n3, .l (Ty.int IntKind.u8) l4, .n n5, .n n21, .n n22, .n n23, .l (Ty.int IntKind.u8) l24, .n n25])))
  | _ => .bad 0
theorem fn_L23_8_t_im (n0 : Int) (n1 : Int) (n2 : Int) (n3 : Int) (l4 : List (Ty.den (Ty.int IntKind.u8))) (n5 : Int) (n6 : Int) (n7 : Int) (n8 : Int) (n9 : Int) (n10 : Int) (n11 : Int) (n12 : Int) (n13 : Int) (l14 : List (Ty.den (Ty.int IntKind.u8))) (n15 : Int) (n16 : Int) (n17 : Int) (n18 : Int) (n19 : Int) (l20 : List (Ty.den TTm)) (n21 : Int) (n22 : Int) (n23 : Int) (l24 : List (Ty.den (Ty.int IntKind.u8))) (n25 : Int) (g0 : 0 ≤ n0) : Imp (fn_L23_8_t [.n n0, .n n1, .n n2, .n n3, .l (Ty.int IntKind.u8) l4, .n n5, .n n6, .n n7, .n n8, .n n9, .n n10, .n n11, .n n12, .n n13, .l (Ty.int IntKind.u8) l14, .n n15, .n n16, .n n17, .n n18, .n n19, .l TTm l20, .n n21, .n n22, .n n23, .l (Ty.int IntKind.u8) l24, .n n25]) (st_L23_8 [.k 0, .n n0, .n n1, .n n2, .n n3, .l TB l4, .n n5, .n n6, .n n7, .n n8, .n n9, .n n10, .n n11, .n n12, .n n13, .l TB l14, .n n15, .n n16, .n n17, .n n18, .n n19, .l TTm l20, .n n21, .n n22, .n n23, .l TB l24, .n n25]) :=
(.path [1] (by kernel_rfl)
(.node (by kernel_rfl) (by kernel_rfl) (fun h0 =>
(.pt (c := (inR n0 (List.length l20))) (by kernel_rfl) (by kernel_rfl) (by (simp only [w64d, decide_eq_true_eq, decide_eq_false_iff_not, beq_iff_eq, beq_eq_false_iff_ne, bne_iff_ne, ne_eq, inR, Bool.and_eq_true, Bool.and_eq_false_iff, Bool.not_eq_true', Bool.not_eq_false', Bool.not_eq_eq_eq_not, Bool.not_true, Bool.not_false] at *; omega))
(.pt (c := (inR n0 (List.length l20))) (by kernel_rfl) (by kernel_rfl) (by (simp only [w64d, decide_eq_true_eq, decide_eq_false_iff_not, beq_iff_eq, beq_eq_false_iff_ne, bne_iff_ne, ne_eq, inR, Bool.and_eq_true, Bool.and_eq_false_iff, Bool.not_eq_true', Bool.not_eq_false', Bool.not_eq_eq_eq_not, Bool.not_true, Bool.not_false] at *; omega))
(.node (by kernel_rfl) (by kernel_rfl) (fun h1 =>
(.path [1,1] (by kernel_rfl)
(.leaf (by kernel_rfl)))) (fun h1 =>
.none))))) (fun h0 =>
(.path [1] (by kernel_rfl)
(.leaf (by kernel_rfl))))))

theorem ls_23_ok : LsOk Try.prog (List.length ([] : List PB)) (lsM [(8, L23_8)] (List.length ([] : List PB))) (bodyOf Try.prog 23) := LsOk.many fun j B hB hk c hc hi => by
  simp only [lookM] at hB
  split at hB
  · rename_i e; have := Nat.eq_of_beq_eq_true e; subst this; cases hB
    have e1 : loopAt Try.prog 23 8 = [cAt Try.prog 23 8] := loopAt_one (by kernel_rfl)
    have e2 : c ∈ loopAt Try.prog 23 8 := loopsAt_mem hc hi
    rw [e1] at e2; cases List.mem_singleton.1 e2; exact L23_8_run
  cases hB

noncomputable def ev_23 (env : List Dat) : Tree (Nat × List Dat) := Lk.boxC false LK cs_22 23 (lsM [(8, L23_8)] (List.length ([] : List PB))) (mkF [stV 0, msV 5 (.imm TTm 19)] [] [] [(.tup [stV 0, .int .i64 5], [])] fun _ => none) env
theorem op_23_ex : ∃ f : List Dat → Option (Nat × List Dat), ∀ env, f env = (ev_23 env).sel := ⟨fun env => (ev_23 env).sel, fun _ => rfl⟩
noncomputable def op_23 : List Dat → Option (Nat × List Dat) := Classical.choose op_23_ex
theorem op_23_eq (env : List Dat) : op_23 env = (ev_23 env).sel := Classical.choose_spec op_23_ex env
noncomputable def B23 : FBox := mkF [stV 0, msV 5 (.imm TTm 19)] [] [] [(.tup [stV 0, .int .i64 5], [])] op_23
theorem B23_ok : RunOk Try.prog 23 (boxRun B23) := mkF_ok (op := op_23) cs_22_ok hmix false (ls_23_ok) (fun env x h => by rw [op_23_eq] at h; rw [← boxC_lk]; exact h)
theorem op_23_good {p : Nat × List Dat → Prop} {T : Tree (Nat × List Dat)} {env : List Dat} (h : Imp T (ev_23 env)) (g : Good p T.sel) : Good p (op_23 env) := by
  rw [op_23_eq]
  exact h.good g

noncomputable def fn_23_t : List Dat → Tree (Nat × List Dat)
  | [.n n0, .n n1, .n n2, .l (Ty.int IntKind.u8) l3, .n n4, .n n5, .n n6, .n n7, .n n8, .n n9, .n n10, .n n11, .n n12, .l (Ty.int IntKind.u8) l13, .n n14, .n n15, .n n16, .n n17, .n n18, .l (Ty.pair (Ty.int IntKind.i64) (Ty.int IntKind.u8)) l19] =>
    (let r1 : Option (Nat × List Dat) := (op_87 [.l TTm l19]);
     (.node (isK 0 [HK.b] r1)
      (.node (!gb (dOf r1) 0)
       (.leaf ((0, [.n (0 : Int), .n (0 : Int), .n (0 : Int), .l (Ty.int IntKind.u8) (List.replicate 64 (0 : Int)), .n (0 : Int), .n (2 : Int)])))
       (let r2 : Option (Nat × List Dat) := (op_L23_8 [.k 0, .n (0 : Int), .n (ixor IntKind.u64 n0 n15), .n (ixor IntKind.u64 n1 n16), .n (ixor IntKind.u64 n2 n17), .l (Ty.int IntKind.u8) l3, .n (ixor IntKind.u32 n4 n18), .n n5, .n n6, .n n7, .n n8, .n n9, .n n10, .n n11, .n n12, .l (Ty.int IntKind.u8) l13, .n n14, .n n15, .n n16, .n n17, .n n18, .l TTm l19, .n (0 : Int), .n (0 : Int), .n (0 : Int), .l (Ty.int IntKind.u8) (List.replicate 64 (0 : Int)), .n (0 : Int)]);
        (.node (isK 0 [HK.n, HK.n, HK.n, HK.l (Ty.int IntKind.u8), HK.n, HK.n, HK.n, HK.n, HK.l (Ty.int IntKind.u8), HK.n] r2)
         (.leaf ((0, [.n (gn (dOf r2) 0), .n (gn (dOf r2) 1), .n (gn (dOf r2) 2), .l (Ty.int IntKind.u8) (gl (Ty.int IntKind.u8) (dOf r2) 3), .n (gn (dOf r2) 4), .n (0 : Int)])))
         (.bad 351))))
      (.bad 351)))
  | _ => .bad 0
theorem fn_23_t_im (n0 : Int) (n1 : Int) (n2 : Int) (l3 : List (Ty.den (Ty.int IntKind.u8))) (n4 : Int) (n5 : Int) (n6 : Int) (n7 : Int) (n8 : Int) (n9 : Int) (n10 : Int) (n11 : Int) (n12 : Int) (l13 : List (Ty.den (Ty.int IntKind.u8))) (n14 : Int) (n15 : Int) (n16 : Int) (n17 : Int) (n18 : Int) (l19 : List (Ty.den TTm)) : Imp (fn_23_t [.n n0, .n n1, .n n2, .l (Ty.int IntKind.u8) l3, .n n4, .n n5, .n n6, .n n7, .n n8, .n n9, .n n10, .n n11, .n n12, .l (Ty.int IntKind.u8) l13, .n n14, .n n15, .n n16, .n n17, .n n18, .l TTm l19]) (ev_23 [.n n0, .n n1, .n n2, .l TB l3, .n n4, .n n5, .n n6, .n n7, .n n8, .n n9, .n n10, .n n11, .n n12, .l TB l13, .n n14, .n n15, .n n16, .n n17, .n n18, .l TTm l19]) :=
(.node (by kernel_rfl) (by kernel_rfl) (fun h0 =>
(.path [1] (by kernel_rfl)
(.node (by kernel_rfl) (by kernel_rfl) (fun h1 =>
(.path [1] (by kernel_rfl)
(.leaf (by kernel_rfl)))) (fun h1 =>
(.node (by kernel_rfl) (by kernel_rfl) (fun h2 =>
(.path [1] (by kernel_rfl)
(.leaf (by kernel_rfl)))) (fun h2 =>
.none)))))) (fun h0 =>
.none))

noncomputable def cs_23 : FuncId → Option CSpec := csLend 23 B23 cs_22
theorem cs_23_ok : CsOk Try.prog cs_23 := csLend_ok cs_22_ok B23_ok

noncomputable def st_L24_3 (env : List Dat) : Tree Step := Lk.stepMC false LK cs_23 24 3 ls0 (mkM (cv := [(3, [], 14, .own TTm)]) 0 [] [(sh 59 [(1, .ptr 0 0), (2, .ptr 1 0), (3, .ptr 2 0), (4, .int .i64 0)], [msB 1 (.imm TTm 15), msB 16 .nilsl, msB 30 (.own 3), .arr TTm 44])] [] [(.exit 0, sh 59 [(2, .ptr 0 0), (3, .ptr 1 0)], [msB 0 .nilsl, msB 14 (.own 2), .arr TTm 28])] fun _ => none) env
theorem op_L24_3_ex : ∃ f : List Dat → Option (Nat × List Dat), ∀ env, f env = iterS st_L24_3 FU env := ⟨iterS st_L24_3 FU, fun _ => rfl⟩
noncomputable def op_L24_3 : List Dat → Option (Nat × List Dat) := Classical.choose op_L24_3_ex
theorem op_L24_3_eq (env : List Dat) : op_L24_3 env = iterS st_L24_3 FU env := Classical.choose_spec op_L24_3_ex env
noncomputable def L24_3 : MBox := mkM (cv := [(3, [], 14, .own TTm)]) 0 [] [(sh 59 [(1, .ptr 0 0), (2, .ptr 1 0), (3, .ptr 2 0), (4, .int .i64 0)], [msB 1 (.imm TTm 15), msB 16 .nilsl, msB 30 (.own 3), .arr TTm 44])] [] [(.exit 0, sh 59 [(2, .ptr 0 0), (3, .ptr 1 0)], [msB 0 .nilsl, msB 14 (.own 2), .arr TTm 28])] op_L24_3
theorem L24_3_eqs : L24_3 = mkM (cv := [(3, [], 14, .own TTm)]) 0 [] [(sh 59 [(1, .ptr 0 0), (2, .ptr 1 0), (3, .ptr 2 0), (4, .int .i64 0)], [msB 1 (.imm TTm 15), msB 16 .nilsl, msB 30 (.own 3), .arr TTm 44])] [] [(.exit 0, sh 59 [(2, .ptr 0 0), (3, .ptr 1 0)], [msB 0 .nilsl, msB 14 (.own 2), .arr TTm 28])] (iterS st_L24_3 FU) := congrArg (fun f => mkM (cv := [(3, [], 14, .own TTm)]) 0 [] [(sh 59 [(1, .ptr 0 0), (2, .ptr 1 0), (3, .ptr 2 0), (4, .int .i64 0)], [msB 1 (.imm TTm 15), msB 16 .nilsl, msB 30 (.own 3), .arr TTm 44])] [] [(.exit 0, sh 59 [(2, .ptr 0 0), (3, .ptr 1 0)], [msB 0 .nilsl, msB 14 (.own 2), .arr TTm 28])] f) (funext op_L24_3_eq)
theorem L24_3_run : ∀ t s x, (manyRun L24_3 t s).sel = some x → CodeOk Try.prog 0 (.loop (cAt Try.prog 24 3)) t s x := by
  rw [L24_3_eqs]
  exact mkM_ok (st := st_L24_3) (m := FU) cs_23_ok hmix false (LsOk.none _ _ _) (by kernel_rfl) (fun env y h => by rw [← stepMC_lk]; exact h)
theorem op_L24_3_good {p : Nat × List Dat → Prop} (Inv : List Dat → Prop) (μ : List Dat → Nat) (h : ∀ env, Inv env → Good (fun y => match y with | .go e => Inv e ∧ μ e < μ env | .stop k d => p (k, d)) (st_L24_3 env).sel) (env : List Dat) (hi : Inv env) (hm : μ env < FU) : Good p (op_L24_3 env) := by
  rw [op_L24_3_eq]
  exact iterS_good Inv μ p h FU env hi hm

noncomputable def fn_L24_3_t : List Dat → Tree Step
  | (.n n0 :: .n n1 :: .n n2 :: .n n3 :: .n n4 :: .n n5 :: .n n6 :: .n n7 :: .n n8 :: .l (Ty.int IntKind.u8) l9 :: .n n10 :: .n n11 :: .n n12 :: .n n13 :: .n n14 :: .l (Ty.pair (Ty.int IntKind.i64) (Ty.int IntKind.u8)) l15 :: .n n16 :: .n n17 :: .n n18 :: .n n19 :: .n n20 :: .n n21 :: .n n22 :: .n n23 :: .l (Ty.int IntKind.u8) l24 :: .n n25 :: .n n26 :: .n n27 :: .n n28 :: .n n29 :: .n n30 :: .n n31 :: .n n32 :: .n n33 :: .n n34 :: .n n35 :: .n n36 :: .n n37 :: .l (Ty.int IntKind.u8) l38 :: .n n39 :: .n n40 :: .n n41 :: .n n42 :: .n n43 :: .l (Ty.pair (Ty.int IntKind.i64) (Ty.int IntKind.u8)) l44 :: []) =>
    (.node (decide (n0 < (↑(List.length l15) : Int)))
     (.node (decide ((List.length l44 + 1) * 16 ≤ 140737488355328))
      (.leaf (Step.go (.k 0 :: .n (IntKind.wrap .i64 (n0 + (1 : Int))) :: .n n1 :: .n n2 :: .n n3 :: .n n4 :: .n n5 :: .n n6 :: .n n7 :: .n n8 :: .l (Ty.int IntKind.u8) l9 :: .n n10 :: .n n11 :: .n n12 :: .n n13 :: .n n14 :: .l TTm l15 :: .n n16 :: .n n17 :: .n n18 :: .n n19 :: .n n20 :: .n n21 :: .n n22 :: .n n23 :: .l (Ty.int IntKind.u8) l24 :: .n n25 :: .n n26 :: .n n27 :: .n n28 :: .n n29 :: .n n30 :: .n n31 :: .n n32 :: .n n33 :: .n n34 :: .n n35 :: .n n36 :: .n n37 :: .l (Ty.int IntKind.u8) l38 :: .n n39 :: .n n40 :: .n n41 :: .n n42 :: .n n43 :: .l TTm (l44 ++ ([(tm_1 l15 n0, tm_2 l15 n0)] : List (Ty.den TTm))) :: [])))
      (.bad 62))
     (.leaf (Step.stop 0 [.n n16, .n n17, .n n18, .n n19, .n n20, .n n21, .n n22, .n n23, .l (Ty.int IntKind.u8) l24, .n n25, .n n26, .n n27, .n n28, .n n29, .n n30, .n n31, .n n32, .n n33, .n n34, .n n35, .n n36, .n n37, .l (Ty.int IntKind.u8) l38, .n n39, .n n40, .n n41, .n n42, .n n43, .l TTm l44])))
  | _ => .bad 0
theorem fn_L24_3_t_im (n0 : Int) (n1 : Int) (n2 : Int) (n3 : Int) (n4 : Int) (n5 : Int) (n6 : Int) (n7 : Int) (n8 : Int) (l9 : List (Ty.den (Ty.int IntKind.u8))) (n10 : Int) (n11 : Int) (n12 : Int) (n13 : Int) (n14 : Int) (l15 : List (Ty.den TTm)) (n16 : Int) (n17 : Int) (n18 : Int) (n19 : Int) (n20 : Int) (n21 : Int) (n22 : Int) (n23 : Int) (l24 : List (Ty.den (Ty.int IntKind.u8))) (n25 : Int) (n26 : Int) (n27 : Int) (n28 : Int) (n29 : Int) (n30 : Int) (n31 : Int) (n32 : Int) (n33 : Int) (n34 : Int) (n35 : Int) (n36 : Int) (n37 : Int) (l38 : List (Ty.den (Ty.int IntKind.u8))) (n39 : Int) (n40 : Int) (n41 : Int) (n42 : Int) (n43 : Int) (l44 : List (Ty.den TTm)) (g0 : 0 ≤ n0) : Imp (fn_L24_3_t (.n n0 :: .n n1 :: .n n2 :: .n n3 :: .n n4 :: .n n5 :: .n n6 :: .n n7 :: .n n8 :: .l (Ty.int IntKind.u8) l9 :: .n n10 :: .n n11 :: .n n12 :: .n n13 :: .n n14 :: .l TTm l15 :: .n n16 :: .n n17 :: .n n18 :: .n n19 :: .n n20 :: .n n21 :: .n n22 :: .n n23 :: .l (Ty.int IntKind.u8) l24 :: .n n25 :: .n n26 :: .n n27 :: .n n28 :: .n n29 :: .n n30 :: .n n31 :: .n n32 :: .n n33 :: .n n34 :: .n n35 :: .n n36 :: .n n37 :: .l (Ty.int IntKind.u8) l38 :: .n n39 :: .n n40 :: .n n41 :: .n n42 :: .n n43 :: .l TTm l44 :: [])) (st_L24_3 [.k 0, .n n0, .n n1, .n n2, .n n3, .n n4, .n n5, .n n6, .n n7, .n n8, .l TB l9, .n n10, .n n11, .n n12, .n n13, .n n14, .l TTm l15, .n n16, .n n17, .n n18, .n n19, .n n20, .n n21, .n n22, .n n23, .l TB l24, .n n25, .n n26, .n n27, .n n28, .n n29, .n n30, .n n31, .n n32, .n n33, .n n34, .n n35, .n n36, .n n37, .l TB l38, .n n39, .n n40, .n n41, .n n42, .n n43, .l TTm l44]) :=
(.path [1] (by kernel_rfl)
(.node (by kernel_rfl) (by kernel_rfl) (fun h0 =>
(.pt (c := (inR n0 (List.length l15))) (by kernel_rfl) (by kernel_rfl) (by (simp only [w64d, decide_eq_true_eq, decide_eq_false_iff_not, beq_iff_eq, beq_eq_false_iff_ne, bne_iff_ne, ne_eq, inR, Bool.and_eq_true, Bool.and_eq_false_iff, Bool.not_eq_true', Bool.not_eq_false', Bool.not_eq_eq_eq_not, Bool.not_true, Bool.not_false] at *; omega))
(.pt (c := (inR n0 (List.length l15))) (by kernel_rfl) (by kernel_rfl) (by (simp only [w64d, decide_eq_true_eq, decide_eq_false_iff_not, beq_iff_eq, beq_eq_false_iff_ne, bne_iff_ne, ne_eq, inR, Bool.and_eq_true, Bool.and_eq_false_iff, Bool.not_eq_true', Bool.not_eq_false', Bool.not_eq_eq_eq_not, Bool.not_true, Bool.not_false] at *; omega))
(.node (by kernel_rfl) (by kernel_rfl) (fun h1 =>
(.path [1,1] (by kernel_rfl)
(.leaf (by kernel_rfl)))) (fun h1 =>
.none))))) (fun h0 =>
(.path [1] (by kernel_rfl)
(.leaf (by kernel_rfl))))))

theorem ls_24_ok : LsOk Try.prog (List.length ([] : List PB)) (lsM [(3, L24_3)] (List.length ([] : List PB))) (bodyOf Try.prog 24) := LsOk.many fun j B hB hk c hc hi => by
  simp only [lookM] at hB
  split at hB
  · rename_i e; have := Nat.eq_of_beq_eq_true e; subst this; cases hB
    have e1 : loopAt Try.prog 24 3 = [cAt Try.prog 24 3] := loopAt_one (by kernel_rfl)
    have e2 : c ∈ loopAt Try.prog 24 3 := loopsAt_mem hc hi
    rw [e1] at e2; cases List.mem_singleton.1 e2; exact L24_3_run
  cases hB

noncomputable def ev_24 (env : List Dat) : Tree (Nat × List Dat) := Lk.boxC false LK cs_23 24 (lsM [(3, L24_3)] (List.length ([] : List PB))) (mkF [msV 0 (.imm TTm 14)] [] [] [(msV 0 (.own 0), [.arr TTm 14])] fun _ => none) env
theorem op_24_ex : ∃ f : List Dat → Option (Nat × List Dat), ∀ env, f env = (ev_24 env).sel := ⟨fun env => (ev_24 env).sel, fun _ => rfl⟩
noncomputable def op_24 : List Dat → Option (Nat × List Dat) := Classical.choose op_24_ex
theorem op_24_eq (env : List Dat) : op_24 env = (ev_24 env).sel := Classical.choose_spec op_24_ex env
noncomputable def B24 : FBox := mkF [msV 0 (.imm TTm 14)] [] [] [(msV 0 (.own 0), [.arr TTm 14])] op_24
theorem B24_ok : RunOk Try.prog 24 (boxRun B24) := mkF_ok (op := op_24) cs_23_ok hmix false (ls_24_ok) (fun env x h => by rw [op_24_eq] at h; rw [← boxC_lk]; exact h)
theorem op_24_good {p : Nat × List Dat → Prop} {T : Tree (Nat × List Dat)} {env : List Dat} (h : Imp T (ev_24 env)) (g : Good p T.sel) : Good p (op_24 env) := by
  rw [op_24_eq]
  exact h.good g

noncomputable def fn_24_t : List Dat → Tree (Nat × List Dat)
  | [.n n0, .n n1, .n n2, .n n3, .n n4, .n n5, .n n6, .n n7, .l (Ty.int IntKind.u8) l8, .n n9, .n n10, .n n11, .n n12, .n n13, .l (Ty.pair (Ty.int IntKind.i64) (Ty.int IntKind.u8)) l14] =>
    (let r1 : Option (Nat × List Dat) := (op_L24_3 (.k 0 :: .n (0 : Int) :: .n n0 :: .n n1 :: .n n2 :: .n n3 :: .n n4 :: .n n5 :: .n n6 :: .n n7 :: .l (Ty.int IntKind.u8) l8 :: .n n9 :: .n n10 :: .n n11 :: .n n12 :: .n n13 :: .l TTm l14 :: .n (0 : Int) :: .n (0 : Int) :: .n (0 : Int) :: .n (0 : Int) :: .n (0 : Int) :: .n (0 : Int) :: .n (0 : Int) :: .n (0 : Int) :: .l (Ty.int IntKind.u8) (List.replicate 64 (0 : Int)) :: .n (0 : Int) :: .n (0 : Int) :: .n (0 : Int) :: .n (0 : Int) :: .n (0 : Int) :: .n n0 :: .n n1 :: .n n2 :: .n n3 :: .n n4 :: .n n5 :: .n n6 :: .n n7 :: .l (Ty.int IntKind.u8) l8 :: .n n9 :: .n n10 :: .n n11 :: .n n12 :: .n n13 :: .l TTm [] :: []));
     (.node (isK 0 [HK.n, HK.n, HK.n, HK.n, HK.n, HK.n, HK.n, HK.n, HK.l (Ty.int IntKind.u8), HK.n, HK.n, HK.n, HK.n, HK.n, HK.n, HK.n, HK.n, HK.n, HK.n, HK.n, HK.n, HK.n, HK.l (Ty.int IntKind.u8), HK.n, HK.n, HK.n, HK.n, HK.n, HK.l TTm] r1)
      (.leaf ((0, [.n (gn (dOf r1) 14), .n (gn (dOf r1) 15), .n (gn (dOf r1) 16), .n (gn (dOf r1) 17), .n (gn (dOf r1) 18), .n (gn (dOf r1) 19), .n (gn (dOf r1) 20), .n (gn (dOf r1) 21), .l (Ty.int IntKind.u8) (gl (Ty.int IntKind.u8) (dOf r1) 22), .n (gn (dOf r1) 23), .n (gn (dOf r1) 24), .n (gn (dOf r1) 25), .n (gn (dOf r1) 26), .n (gn (dOf r1) 27), .l TTm (gl TTm (dOf r1) 28)])))
      (.bad 351)))
  | _ => .bad 0
theorem fn_24_t_im (n0 : Int) (n1 : Int) (n2 : Int) (n3 : Int) (n4 : Int) (n5 : Int) (n6 : Int) (n7 : Int) (l8 : List (Ty.den (Ty.int IntKind.u8))) (n9 : Int) (n10 : Int) (n11 : Int) (n12 : Int) (n13 : Int) (l14 : List (Ty.den TTm)) : Imp (fn_24_t [.n n0, .n n1, .n n2, .n n3, .n n4, .n n5, .n n6, .n n7, .l (Ty.int IntKind.u8) l8, .n n9, .n n10, .n n11, .n n12, .n n13, .l TTm l14]) (ev_24 [.n n0, .n n1, .n n2, .n n3, .n n4, .n n5, .n n6, .n n7, .l TB l8, .n n9, .n n10, .n n11, .n n12, .n n13, .l TTm l14]) :=
(.node (by kernel_rfl) (by kernel_rfl) (fun h0 =>
(.path [1] (by kernel_rfl)
(.leaf (by kernel_rfl)))) (fun h0 =>
.none))

noncomputable def cs_24 : FuncId → Option CSpec := csLend 24 B24 cs_23
theorem cs_24_ok : CsOk Try.prog cs_24 := csLend_ok cs_23_ok B24_ok

noncomputable def st_L26_6 (env : List Dat) : Tree Step := Lk.stepMC false LK cs_24 26 6 ls0 (mkM (cv := [(3, [], 14, .own TTm)]) 0 [] [(sh 57 [(3, .ptr 0 0), (4, .ptr 1 0), (5, .ptr 2 0), (6, .ptr 3 0), (7, .int .i64 0)], [msB 1 (.own 4), stB 15, stB 20, msB 25 .nilsl, .arr TTm 39])] [] [(.exit 0, sh 57 [(3, .ptr 0 0), (6, .ptr 1 0)], [msB 0 (.own 2), msB 14 .nilsl, .arr TTm 28])] fun _ => none) env
theorem op_L26_6_ex : ∃ f : List Dat → Option (Nat × List Dat), ∀ env, f env = iterS st_L26_6 FU env := ⟨iterS st_L26_6 FU, fun _ => rfl⟩
noncomputable def op_L26_6 : List Dat → Option (Nat × List Dat) := Classical.choose op_L26_6_ex
theorem op_L26_6_eq (env : List Dat) : op_L26_6 env = iterS st_L26_6 FU env := Classical.choose_spec op_L26_6_ex env
noncomputable def L26_6 : MBox := mkM (cv := [(3, [], 14, .own TTm)]) 0 [] [(sh 57 [(3, .ptr 0 0), (4, .ptr 1 0), (5, .ptr 2 0), (6, .ptr 3 0), (7, .int .i64 0)], [msB 1 (.own 4), stB 15, stB 20, msB 25 .nilsl, .arr TTm 39])] [] [(.exit 0, sh 57 [(3, .ptr 0 0), (6, .ptr 1 0)], [msB 0 (.own 2), msB 14 .nilsl, .arr TTm 28])] op_L26_6
theorem L26_6_eqs : L26_6 = mkM (cv := [(3, [], 14, .own TTm)]) 0 [] [(sh 57 [(3, .ptr 0 0), (4, .ptr 1 0), (5, .ptr 2 0), (6, .ptr 3 0), (7, .int .i64 0)], [msB 1 (.own 4), stB 15, stB 20, msB 25 .nilsl, .arr TTm 39])] [] [(.exit 0, sh 57 [(3, .ptr 0 0), (6, .ptr 1 0)], [msB 0 (.own 2), msB 14 .nilsl, .arr TTm 28])] (iterS st_L26_6 FU) := congrArg (fun f => mkM (cv := [(3, [], 14, .own TTm)]) 0 [] [(sh 57 [(3, .ptr 0 0), (4, .ptr 1 0), (5, .ptr 2 0), (6, .ptr 3 0), (7, .int .i64 0)], [msB 1 (.own 4), stB 15, stB 20, msB 25 .nilsl, .arr TTm 39])] [] [(.exit 0, sh 57 [(3, .ptr 0 0), (6, .ptr 1 0)], [msB 0 (.own 2), msB 14 .nilsl, .arr TTm 28])] f) (funext op_L26_6_eq)
theorem L26_6_run : ∀ t s x, (manyRun L26_6 t s).sel = some x → CodeOk Try.prog 0 (.loop (cAt Try.prog 26 6)) t s x := by
  rw [L26_6_eqs]
  exact mkM_ok (st := st_L26_6) (m := FU) cs_24_ok hmix false (LsOk.none _ _ _) (by kernel_rfl) (fun env y h => by rw [← stepMC_lk]; exact h)
theorem op_L26_6_good {p : Nat × List Dat → Prop} (Inv : List Dat → Prop) (μ : List Dat → Nat) (h : ∀ env, Inv env → Good (fun y => match y with | .go e => Inv e ∧ μ e < μ env | .stop k d => p (k, d)) (st_L26_6 env).sel) (env : List Dat) (hi : Inv env) (hm : μ env < FU) : Good p (op_L26_6 env) := by
  rw [op_L26_6_eq]
  exact iterS_good Inv μ p h FU env hi hm

noncomputable def fn_L26_6_t : List Dat → Tree Step
  | (.n n0 :: .n n1 :: .n n2 :: .n n3 :: .n n4 :: .n n5 :: .n n6 :: .n n7 :: .n n8 :: .l (Ty.int IntKind.u8) l9 :: .n n10 :: .n n11 :: .n n12 :: .n n13 :: .n n14 :: .n n15 :: .n n16 :: .n n17 :: .l (Ty.int IntKind.u8) l18 :: .n n19 :: .n n20 :: .n n21 :: .n n22 :: .l (Ty.int IntKind.u8) l23 :: .n n24 :: .n n25 :: .n n26 :: .n n27 :: .n n28 :: .n n29 :: .n n30 :: .n n31 :: .n n32 :: .l (Ty.int IntKind.u8) l33 :: .n n34 :: .n n35 :: .n n36 :: .n n37 :: .n n38 :: .l (Ty.pair (Ty.int IntKind.i64) (Ty.int IntKind.u8)) l39 :: []) =>
    (.node (decide (n0 < (64 : Int)))
     (.node ((List.getD l18 (Int.toNat n0) (0 : Int) : Int) != (List.getD l23 (Int.toNat n0) (0 : Int) : Int))
      (.node (decide ((List.length l39 + 1) * 16 ≤ 140737488355328))
       (.leaf (Step.go (.k 0 :: .n (IntKind.wrap .i64 (n0 + (1 : Int))) :: .n n1 :: .n n2 :: .n n3 :: .n n4 :: .n n5 :: .n n6 :: .n n7 :: .n n8 :: .l (Ty.int IntKind.u8) l9 :: .n n10 :: .n n11 :: .n n12 :: .n n13 :: .n n14 :: .n n15 :: .n n16 :: .n n17 :: .l (Ty.int IntKind.u8) l18 :: .n n19 :: .n n20 :: .n n21 :: .n n22 :: .l (Ty.int IntKind.u8) l23 :: .n n24 :: .n n25 :: .n n26 :: .n n27 :: .n n28 :: .n n29 :: .n n30 :: .n n31 :: .n n32 :: .l (Ty.int IntKind.u8) l33 :: .n n34 :: .n n35 :: .n n36 :: .n n37 :: .n n38 :: .l TTm (l39 ++ ([(n0, List.getD l23 (Int.toNat n0) (0 : Int))] : List (Ty.den TTm))) :: [])))
       (.bad 62))
      (.leaf (Step.go (.k 0 :: .n (IntKind.wrap .i64 (n0 + (1 : Int))) :: .n n1 :: .n n2 :: .n n3 :: .n n4 :: .n n5 :: .n n6 :: .n n7 :: .n n8 :: .l (Ty.int IntKind.u8) l9 :: .n n10 :: .n n11 :: .n n12 :: .n n13 :: .n n14 :: .n n15 :: .n n16 :: .n n17 :: .l (Ty.int IntKind.u8) l18 :: .n n19 :: .n n20 :: .n n21 :: .n n22 :: .l (Ty.int IntKind.u8) l23 :: .n n24 :: .n n25 :: .n n26 :: .n n27 :: .n n28 :: .n n29 :: .n n30 :: .n n31 :: .n n32 :: .l (Ty.int IntKind.u8) l33 :: .n n34 :: .n n35 :: .n n36 :: .n n37 :: .n n38 :: .l TTm l39 :: []))))
     (.leaf (Step.stop 0 [.n n1, .n n2, .n n3, .n n4, .n n5, .n n6, .n n7, .n n8, .l (Ty.int IntKind.u8) l9, .n n10, .n n11, .n n12, .n n13, .n n14, .n n25, .n n26, .n n27, .n n28, .n n29, .n n30, .n n31, .n n32, .l (Ty.int IntKind.u8) l33, .n n34, .n n35, .n n36, .n n37, .n n38, .l TTm l39])))
  | _ => .bad 0
theorem fn_L26_6_t_im (n0 : Int) (n1 : Int) (n2 : Int) (n3 : Int) (n4 : Int) (n5 : Int) (n6 : Int) (n7 : Int) (n8 : Int) (l9 : List (Ty.den (Ty.int IntKind.u8))) (n10 : Int) (n11 : Int) (n12 : Int) (n13 : Int) (n14 : Int) (n15 : Int) (n16 : Int) (n17 : Int) (l18 : List (Ty.den (Ty.int IntKind.u8))) (n19 : Int) (n20 : Int) (n21 : Int) (n22 : Int) (l23 : List (Ty.den (Ty.int IntKind.u8))) (n24 : Int) (n25 : Int) (n26 : Int) (n27 : Int) (n28 : Int) (n29 : Int) (n30 : Int) (n31 : Int) (n32 : Int) (l33 : List (Ty.den (Ty.int IntKind.u8))) (n34 : Int) (n35 : Int) (n36 : Int) (n37 : Int) (n38 : Int) (l39 : List (Ty.den TTm)) (g0 : 0 ≤ n0) : Imp (fn_L26_6_t (.n n0 :: .n n1 :: .n n2 :: .n n3 :: .n n4 :: .n n5 :: .n n6 :: .n n7 :: .n n8 :: .l (Ty.int IntKind.u8) l9 :: .n n10 :: .n n11 :: .n n12 :: .n n13 :: .n n14 :: .n n15 :: .n n16 :: .n n17 :: .l (Ty.int IntKind.u8) l18 :: .n n19 :: .n n20 :: .n n21 :: .n n22 :: .l (Ty.int IntKind.u8) l23 :: .n n24 :: .n n25 :: .n n26 :: .n n27 :: .n n28 :: .n n29 :: .n n30 :: .n n31 :: .n n32 :: .l (Ty.int IntKind.u8) l33 :: .n n34 :: .n n35 :: .n n36 :: .n n37 :: .n n38 :: .l TTm l39 :: [])) (st_L26_6 [.k 0, .n n0, .n n1, .n n2, .n n3, .n n4, .n n5, .n n6, .n n7, .n n8, .l TB l9, .n n10, .n n11, .n n12, .n n13, .n n14, .n n15, .n n16, .n n17, .l TB l18, .n n19, .n n20, .n n21, .n n22, .l TB l23, .n n24, .n n25, .n n26, .n n27, .n n28, .n n29, .n n30, .n n31, .n n32, .l TB l33, .n n34, .n n35, .n n36, .n n37, .n n38, .l TTm l39]) :=
(.path [1] (by kernel_rfl)
(.node (by kernel_rfl) (by kernel_rfl) (fun h0 =>
(.pt (c := (inR n0 64)) (by kernel_rfl) (by kernel_rfl) (by (simp only [w64d, decide_eq_true_eq, decide_eq_false_iff_not, beq_iff_eq, beq_eq_false_iff_ne, bne_iff_ne, ne_eq, inR, Bool.and_eq_true, Bool.and_eq_false_iff, Bool.not_eq_true', Bool.not_eq_false', Bool.not_eq_eq_eq_not, Bool.not_true, Bool.not_false] at *; omega))
(.pt (c := (inR n0 64)) (by kernel_rfl) (by kernel_rfl) (by (simp only [w64d, decide_eq_true_eq, decide_eq_false_iff_not, beq_iff_eq, beq_eq_false_iff_ne, bne_iff_ne, ne_eq, inR, Bool.and_eq_true, Bool.and_eq_false_iff, Bool.not_eq_true', Bool.not_eq_false', Bool.not_eq_eq_eq_not, Bool.not_true, Bool.not_false] at *; omega))
(.path [1] (by kernel_rfl)
(.node (by kernel_rfl) (by kernel_rfl) (fun h1 =>
(.pt (c := (inR n0 64)) (by kernel_rfl) (by kernel_rfl) (by (simp only [w64d, decide_eq_true_eq, decide_eq_false_iff_not, beq_iff_eq, beq_eq_false_iff_ne, bne_iff_ne, ne_eq, inR, Bool.and_eq_true, Bool.and_eq_false_iff, Bool.not_eq_true', Bool.not_eq_false', Bool.not_eq_eq_eq_not, Bool.not_true, Bool.not_false] at *; omega))
(.node (by kernel_rfl) (by kernel_rfl) (fun h2 =>
(.path [1,1] (by kernel_rfl)
(.leaf (by kernel_rfl)))) (fun h2 =>
.none)))) (fun h1 =>
(.path [1] (by kernel_rfl)
(.leaf (by kernel_rfl))))))))) (fun h0 =>
(.path [1] (by kernel_rfl)
(.leaf (by kernel_rfl))))))

theorem ls_26_ok : LsOk Try.prog (List.length ([] : List PB)) (lsM [(6, L26_6)] (List.length ([] : List PB))) (bodyOf Try.prog 26) := LsOk.many fun j B hB hk c hc hi => by
  simp only [lookM] at hB
  split at hB
  · rename_i e; have := Nat.eq_of_beq_eq_true e; subst this; cases hB
    have e1 : loopAt Try.prog 26 6 = [cAt Try.prog 26 6] := loopAt_one (by kernel_rfl)
    have e2 : c ∈ loopAt Try.prog 26 6 := loopsAt_mem hc hi
    rw [e1] at e2; cases List.mem_singleton.1 e2; exact L26_6_run
  cases hB

noncomputable def ev_26 (env : List Dat) : Tree (Nat × List Dat) := Lk.boxC false LK cs_24 26 (lsM [(6, L26_6)] (List.length ([] : List PB))) (mkF [msV 0 .nilsl, stV 14, stV 19] [] [] [(msV 0 (.own 0), [.arr TTm 14])] fun _ => none) env
theorem op_26_ex : ∃ f : List Dat → Option (Nat × List Dat), ∀ env, f env = (ev_26 env).sel := ⟨fun env => (ev_26 env).sel, fun _ => rfl⟩
noncomputable def op_26 : List Dat → Option (Nat × List Dat) := Classical.choose op_26_ex
theorem op_26_eq (env : List Dat) : op_26 env = (ev_26 env).sel := Classical.choose_spec op_26_ex env
noncomputable def B26 : FBox := mkF [msV 0 .nilsl, stV 14, stV 19] [] [] [(msV 0 (.own 0), [.arr TTm 14])] op_26
theorem B26_ok : RunOk Try.prog 26 (boxRun B26) := mkF_ok (op := op_26) cs_24_ok hmix false (ls_26_ok) (fun env x h => by rw [op_26_eq] at h; rw [← boxC_lk]; exact h)
theorem op_26_good {p : Nat × List Dat → Prop} {T : Tree (Nat × List Dat)} {env : List Dat} (h : Imp T (ev_26 env)) (g : Good p T.sel) : Good p (op_26 env) := by
  rw [op_26_eq]
  exact h.good g

noncomputable def fn_26_t : List Dat → Tree (Nat × List Dat)
  | [.n n0, .n n1, .n n2, .n n3, .n n4, .n n5, .n n6, .n n7, .l (Ty.int IntKind.u8) l8, .n n9, .n n10, .n n11, .n n12, .n n13, .n n14, .n n15, .n n16, .l (Ty.int IntKind.u8) l17, .n n18, .n n19, .n n20, .n n21, .l (Ty.int IntKind.u8) l22, .n n23] =>
    (let r1 : Option (Nat × List Dat) := (op_L26_6 (.k 0 :: .n (0 : Int) :: .n n0 :: .n n1 :: .n n2 :: .n n3 :: .n n4 :: .n n5 :: .n n6 :: .n n7 :: .l (Ty.int IntKind.u8) l8 :: .n n9 :: .n (ixor IntKind.u64 n14 n19) :: .n (ixor IntKind.u64 n15 n20) :: .n (ixor IntKind.u64 n16 n21) :: .n (ixor IntKind.u32 n18 n23) :: .n n14 :: .n n15 :: .n n16 :: .l (Ty.int IntKind.u8) l17 :: .n n18 :: .n n19 :: .n n20 :: .n n21 :: .l (Ty.int IntKind.u8) l22 :: .n n23 :: .n (0 : Int) :: .n (0 : Int) :: .n (0 : Int) :: .n (0 : Int) :: .n (0 : Int) :: .n (0 : Int) :: .n (0 : Int) :: .n (0 : Int) :: .l (Ty.int IntKind.u8) (List.replicate 64 (0 : Int)) :: .n (0 : Int) :: .n (0 : Int) :: .n (0 : Int) :: .n (0 : Int) :: .n (0 : Int) :: .l TTm [] :: []));
     (.node (isK 0 [HK.n, HK.n, HK.n, HK.n, HK.n, HK.n, HK.n, HK.n, HK.l (Ty.int IntKind.u8), HK.n, HK.n, HK.n, HK.n, HK.n, HK.n, HK.n, HK.n, HK.n, HK.n, HK.n, HK.n, HK.n, HK.l (Ty.int IntKind.u8), HK.n, HK.n, HK.n, HK.n, HK.n, HK.l TTm] r1)
      (.leaf ((0, [.n (gn (dOf r1) 0), .n (gn (dOf r1) 1), .n (gn (dOf r1) 2), .n (gn (dOf r1) 3), .n (gn (dOf r1) 4), .n (gn (dOf r1) 5), .n (gn (dOf r1) 6), .n (gn (dOf r1) 7), .l (Ty.int IntKind.u8) (gl (Ty.int IntKind.u8) (dOf r1) 8), .n (gn (dOf r1) 9), .n (gn (dOf r1) 10), .n (gn (dOf r1) 11), .n (gn (dOf r1) 12), .n (gn (dOf r1) 13), .l TTm (gl TTm (dOf r1) 28)])))
      (.bad 351)))
  | _ => .bad 0
theorem fn_26_t_im (n0 : Int) (n1 : Int) (n2 : Int) (n3 : Int) (n4 : Int) (n5 : Int) (n6 : Int) (n7 : Int) (l8 : List (Ty.den (Ty.int IntKind.u8))) (n9 : Int) (n10 : Int) (n11 : Int) (n12 : Int) (n13 : Int) (n14 : Int) (n15 : Int) (n16 : Int) (l17 : List (Ty.den (Ty.int IntKind.u8))) (n18 : Int) (n19 : Int) (n20 : Int) (n21 : Int) (l22 : List (Ty.den (Ty.int IntKind.u8))) (n23 : Int) : Imp (fn_26_t [.n n0, .n n1, .n n2, .n n3, .n n4, .n n5, .n n6, .n n7, .l (Ty.int IntKind.u8) l8, .n n9, .n n10, .n n11, .n n12, .n n13, .n n14, .n n15, .n n16, .l (Ty.int IntKind.u8) l17, .n n18, .n n19, .n n20, .n n21, .l (Ty.int IntKind.u8) l22, .n n23]) (ev_26 [.n n0, .n n1, .n n2, .n n3, .n n4, .n n5, .n n6, .n n7, .l TB l8, .n n9, .n n10, .n n11, .n n12, .n n13, .n n14, .n n15, .n n16, .l TB l17, .n n18, .n n19, .n n20, .n n21, .l TB l22, .n n23]) :=
(.node (by kernel_rfl) (by kernel_rfl) (fun h0 =>
(.path [1] (by kernel_rfl)
(.leaf (by kernel_rfl)))) (fun h0 =>
.none))

noncomputable def cs_26 : FuncId → Option CSpec := csLend 26 B26 cs_24
theorem cs_26_ok : CsOk Try.prog cs_26 := csLend_ok cs_24_ok B26_ok

noncomputable def st_L25_4 (env : List Dat) : Tree Step := Lk.stepMC false LK cs_26 25 4 ls0 (mkM 0 [] [(sh 101 [(2, .ptr 0 0), (3, .ptr 1 0), (5, .int .i64 0)], [msB 1 (.imm TTm 15), msB 16 (.imm TTm 30)])] [] [(.exit 0, sh 101 [], []), (.ret, sh 101 [(4, .bool 0)], [])] fun _ => none) env
theorem op_L25_4_ex : ∃ f : List Dat → Option (Nat × List Dat), ∀ env, f env = iterS st_L25_4 FU env := ⟨iterS st_L25_4 FU, fun _ => rfl⟩
noncomputable def op_L25_4 : List Dat → Option (Nat × List Dat) := Classical.choose op_L25_4_ex
theorem op_L25_4_eq (env : List Dat) : op_L25_4 env = iterS st_L25_4 FU env := Classical.choose_spec op_L25_4_ex env
noncomputable def L25_4 : MBox := mkM 0 [] [(sh 101 [(2, .ptr 0 0), (3, .ptr 1 0), (5, .int .i64 0)], [msB 1 (.imm TTm 15), msB 16 (.imm TTm 30)])] [] [(.exit 0, sh 101 [], []), (.ret, sh 101 [(4, .bool 0)], [])] op_L25_4
theorem L25_4_eqs : L25_4 = mkM 0 [] [(sh 101 [(2, .ptr 0 0), (3, .ptr 1 0), (5, .int .i64 0)], [msB 1 (.imm TTm 15), msB 16 (.imm TTm 30)])] [] [(.exit 0, sh 101 [], []), (.ret, sh 101 [(4, .bool 0)], [])] (iterS st_L25_4 FU) := congrArg (fun f => mkM 0 [] [(sh 101 [(2, .ptr 0 0), (3, .ptr 1 0), (5, .int .i64 0)], [msB 1 (.imm TTm 15), msB 16 (.imm TTm 30)])] [] [(.exit 0, sh 101 [], []), (.ret, sh 101 [(4, .bool 0)], [])] f) (funext op_L25_4_eq)
theorem L25_4_run : ∀ t s x, (manyRun L25_4 t s).sel = some x → CodeOk Try.prog 0 (.loop (cAt Try.prog 25 4)) t s x := by
  rw [L25_4_eqs]
  exact mkM_ok (st := st_L25_4) (m := FU) cs_26_ok hmix false (LsOk.none _ _ _) (by kernel_rfl) (fun env y h => by rw [← stepMC_lk]; exact h)
theorem op_L25_4_good {p : Nat × List Dat → Prop} (Inv : List Dat → Prop) (μ : List Dat → Nat) (h : ∀ env, Inv env → Good (fun y => match y with | .go e => Inv e ∧ μ e < μ env | .stop k d => p (k, d)) (st_L25_4 env).sel) (env : List Dat) (hi : Inv env) (hm : μ env < FU) : Good p (op_L25_4 env) := by
  rw [op_L25_4_eq]
  exact iterS_good Inv μ p h FU env hi hm

noncomputable def fn_L25_4_t : List Dat → Tree Step
  | (.n n0 :: .n n1 :: .n n2 :: .n n3 :: .n n4 :: .n n5 :: .n n6 :: .n n7 :: .n n8 :: .l (Ty.int IntKind.u8) l9 :: .n n10 :: .n n11 :: .n n12 :: .n n13 :: .n n14 :: .l (Ty.pair (Ty.int IntKind.i64) (Ty.int IntKind.u8)) l15 :: .n n16 :: .n n17 :: .n n18 :: .n n19 :: .n n20 :: .n n21 :: .n n22 :: .n n23 :: .l (Ty.int IntKind.u8) l24 :: .n n25 :: .n n26 :: .n n27 :: .n n28 :: .n n29 :: .l (Ty.pair (Ty.int IntKind.i64) (Ty.int IntKind.u8)) l30 :: []) =>
    (.node (decide (n0 < (↑(List.length l15) : Int)))
     (.node (!(tm_1 l15 n0 == tm_1 l30 n0 && (tm_2 l15 n0 == tm_2 l30 n0 && true)))
      (.leaf (Step.stop 1 [.b false]))
      (.leaf (Step.go (.k 0 :: .n (IntKind.wrap .i64 (n0 + (1 : Int))) :: .n n1 :: .n n2 :: .n n3 :: .n n4 :: .n n5 :: .n n6 :: .n n7 :: .n n8 :: .l (Ty.int IntKind.u8) l9 :: .n n10 :: .n n11 :: .n n12 :: .n n13 :: .n n14 :: .l TTm l15 :: .n n16 :: .n n17 :: .n n18 :: .n n19 :: .n n20 :: .n n21 :: .n n22 :: .n n23 :: .l (Ty.int IntKind.u8) l24 :: .n n25 :: .n n26 :: .n n27 :: .n n28 :: .n n29 :: .l TTm l30 :: []))))
     (.leaf (Step.stop 0 [])))
  | _ => .bad 0
theorem fn_L25_4_t_im (n0 : Int) (n1 : Int) (n2 : Int) (n3 : Int) (n4 : Int) (n5 : Int) (n6 : Int) (n7 : Int) (n8 : Int) (l9 : List (Ty.den (Ty.int IntKind.u8))) (n10 : Int) (n11 : Int) (n12 : Int) (n13 : Int) (n14 : Int) (l15 : List (Ty.den TTm)) (n16 : Int) (n17 : Int) (n18 : Int) (n19 : Int) (n20 : Int) (n21 : Int) (n22 : Int) (n23 : Int) (l24 : List (Ty.den (Ty.int IntKind.u8))) (n25 : Int) (n26 : Int) (n27 : Int) (n28 : Int) (n29 : Int) (l30 : List (Ty.den TTm)) (g0 : 0 ≤ n0) (g1 :  (l15.length : Int) = (l30.length : Int)) : Imp (fn_L25_4_t (.n n0 :: .n n1 :: .n n2 :: .n n3 :: .n n4 :: .n n5 :: .n n6 :: .n n7 :: .n n8 :: .l (Ty.int IntKind.u8) l9 :: .n n10 :: .n n11 :: .n n12 :: .n n13 :: .n n14 :: .l TTm l15 :: .n n16 :: .n n17 :: .n n18 :: .n n19 :: .n n20 :: .n n21 :: .n n22 :: .n n23 :: .l (Ty.int IntKind.u8) l24 :: .n n25 :: .n n26 :: .n n27 :: .n n28 :: .n n29 :: .l TTm l30 :: [])) (st_L25_4 [.k 0, .n n0, .n n1, .n n2, .n n3, .n n4, .n n5, .n n6, .n n7, .n n8, .l TB l9, .n n10, .n n11, .n n12, .n n13, .n n14, .l TTm l15, .n n16, .n n17, .n n18, .n n19, .n n20, .n n21, .n n22, .n n23, .l TB l24, .n n25, .n n26, .n n27, .n n28, .n n29, .l TTm l30]) :=
(.path [1] (by kernel_rfl)
(.node (by kernel_rfl) (by kernel_rfl) (fun h0 =>
(.pt (c := (inR n0 (List.length l15))) (by kernel_rfl) (by kernel_rfl) (by (simp only [w64d, decide_eq_true_eq, decide_eq_false_iff_not, beq_iff_eq, beq_eq_false_iff_ne, bne_iff_ne, ne_eq, inR, Bool.and_eq_true, Bool.and_eq_false_iff, Bool.not_eq_true', Bool.not_eq_false', Bool.not_eq_eq_eq_not, Bool.not_true, Bool.not_false] at *; omega))
(.pt (c := (inR n0 (List.length l30))) (by kernel_rfl) (by kernel_rfl) (by (simp only [w64d, decide_eq_true_eq, decide_eq_false_iff_not, beq_iff_eq, beq_eq_false_iff_ne, bne_iff_ne, ne_eq, inR, Bool.and_eq_true, Bool.and_eq_false_iff, Bool.not_eq_true', Bool.not_eq_false', Bool.not_eq_eq_eq_not, Bool.not_true, Bool.not_false] at *; omega))
(.path [1] (by kernel_rfl)
(.node (by kernel_rfl) (by kernel_rfl) (fun h1 =>
(.path [1] (by kernel_rfl)
(.leaf (by kernel_rfl)))) (fun h1 =>
(.path [1] (by kernel_rfl)
(.leaf (by kernel_rfl))))))))) (fun h0 =>
(.path [1] (by kernel_rfl)
(.leaf (by kernel_rfl))))))

theorem ls_25_ok : LsOk Try.prog (List.length ([] : List PB)) (lsM [(4, L25_4)] (List.length ([] : List PB))) (bodyOf Try.prog 25) := LsOk.many fun j B hB hk c hc hi => by
  simp only [lookM] at hB
  split at hB
  · rename_i e; have := Nat.eq_of_beq_eq_true e; subst this; cases hB
    have e1 : loopAt Try.prog 25 4 = [cAt Try.prog 25 4] := loopAt_one (by kernel_rfl)
    have e2 : c ∈ loopAt Try.prog 25 4 := loopsAt_mem hc hi
    rw [e1] at e2; cases List.mem_singleton.1 e2; exact L25_4_run
  cases hB

noncomputable def ev_25 (env : List Dat) : Tree (Nat × List Dat) := Lk.boxC false LK cs_26 25 (lsM [(4, L25_4)] (List.length ([] : List PB))) (mkF [msV 0 (.imm TTm 14), msV 15 (.imm TTm 29)] [] [] [(.bool 0, [])] fun _ => none) env
theorem op_25_ex : ∃ f : List Dat → Option (Nat × List Dat), ∀ env, f env = (ev_25 env).sel := ⟨fun env => (ev_25 env).sel, fun _ => rfl⟩
noncomputable def op_25 : List Dat → Option (Nat × List Dat) := Classical.choose op_25_ex
theorem op_25_eq (env : List Dat) : op_25 env = (ev_25 env).sel := Classical.choose_spec op_25_ex env
noncomputable def B25 : FBox := mkF [msV 0 (.imm TTm 14), msV 15 (.imm TTm 29)] [] [] [(.bool 0, [])] op_25
theorem B25_ok : RunOk Try.prog 25 (boxRun B25) := mkF_ok (op := op_25) cs_26_ok hmix false (ls_25_ok) (fun env x h => by rw [op_25_eq] at h; rw [← boxC_lk]; exact h)
theorem op_25_good {p : Nat × List Dat → Prop} {T : Tree (Nat × List Dat)} {env : List Dat} (h : Imp T (ev_25 env)) (g : Good p T.sel) : Good p (op_25 env) := by
  rw [op_25_eq]
  exact h.good g

noncomputable def fn_25_t : List Dat → Tree (Nat × List Dat)
  | [.n n0, .n n1, .n n2, .n n3, .n n4, .n n5, .n n6, .n n7, .l (Ty.int IntKind.u8) l8, .n n9, .n n10, .n n11, .n n12, .n n13, .l (Ty.pair (Ty.int IntKind.i64) (Ty.int IntKind.u8)) l14, .n n15, .n n16, .n n17, .n n18, .n n19, .n n20, .n n21, .n n22, .l (Ty.int IntKind.u8) l23, .n n24, .n n25, .n n26, .n n27, .n n28, .l (Ty.pair (Ty.int IntKind.i64) (Ty.int IntKind.u8)) l29] =>
    (.node (n0 != n15)
     (.leaf ((0, [.b false])))
     (.node (n1 != n16)
      (.leaf ((0, [.b false])))
      (.node (n2 != n17)
       (.leaf ((0, [.b false])))
       (.node (n3 != n18)
        (.leaf ((0, [.b false])))
        (.node (n4 != n19)
         (.leaf ((0, [.b false])))
         (.node (!(n5 == n20 && (n6 == n21 && (n7 == n22 && (eqL (Ty.int IntKind.u8) l8 l23 && (n9 == n24 && true))))))
          (.leaf ((0, [.b false])))
          (.node (n10 != n25)
           (.leaf ((0, [.b false])))
           (.node (n11 != n26)
            (.leaf ((0, [.b false])))
            (.node (n12 != n27)
             (.leaf ((0, [.b false])))
             (.node (n13 != n28)
              (.leaf ((0, [.b false])))
              (.node ((↑(List.length l14) : Int) != (↑(List.length l29) : Int))
               (.leaf ((0, [.b false])))
               (let r1 : Option (Nat × List Dat) := (op_L25_4 (.k 0 :: .n (0 : Int) :: .n n0 :: .n n1 :: .n n2 :: .n n3 :: .n n4 :: .n n5 :: .n n6 :: .n n7 :: .l (Ty.int IntKind.u8) l8 :: .n n9 :: .n n10 :: .n n11 :: .n n12 :: .n n13 :: .l TTm l14 :: .n n15 :: .n n16 :: .n n17 :: .n n18 :: .n n19 :: .n n20 :: .n n21 :: .n n22 :: .l (Ty.int IntKind.u8) l23 :: .n n24 :: .n n25 :: .n n26 :: .n n27 :: .n n28 :: .l TTm l29 :: []));
                (.node (isK 0 [] r1)
                 (.leaf ((0, [.b true])))
                 (.node (isK 1 [HK.b] r1)
                  (.leaf ((0, [.b (gb (dOf r1) 0)])))
                  (.bad 351)))))))))))))))
  | _ => .bad 0
theorem fn_25_t_im (n0 : Int) (n1 : Int) (n2 : Int) (n3 : Int) (n4 : Int) (n5 : Int) (n6 : Int) (n7 : Int) (l8 : List (Ty.den (Ty.int IntKind.u8))) (n9 : Int) (n10 : Int) (n11 : Int) (n12 : Int) (n13 : Int) (l14 : List (Ty.den TTm)) (n15 : Int) (n16 : Int) (n17 : Int) (n18 : Int) (n19 : Int) (n20 : Int) (n21 : Int) (n22 : Int) (l23 : List (Ty.den (Ty.int IntKind.u8))) (n24 : Int) (n25 : Int) (n26 : Int) (n27 : Int) (n28 : Int) (l29 : List (Ty.den TTm)) : Imp (fn_25_t [.n n0, .n n1, .n n2, .n n3, .n n4, .n n5, .n n6, .n n7, .l (Ty.int IntKind.u8) l8, .n n9, .n n10, .n n11, .n n12, .n n13, .l TTm l14, .n n15, .n n16, .n n17, .n n18, .n n19, .n n20, .n n21, .n n22, .l (Ty.int IntKind.u8) l23, .n n24, .n n25, .n n26, .n n27, .n n28, .l TTm l29]) (ev_25 [.n n0, .n n1, .n n2, .n n3, .n n4, .n n5, .n n6, .n n7, .l TB l8, .n n9, .n n10, .n n11, .n n12, .n n13, .l TTm l14, .n n15, .n n16, .n n17, .n n18, .n n19, .n n20, .n n21, .n n22, .l TB l23, .n n24, .n n25, .n n26, .n n27, .n n28, .l TTm l29]) :=
(.node (by kernel_rfl) (by kernel_rfl) (fun h0 =>
(.path [1,1,1,1,1,1,1,1,1,1,1,1,1,1,1,1,1,1,1,1,1] (by kernel_rfl)
(.leaf (by kernel_rfl)))) (fun h0 =>
(.node (by kernel_rfl) (by kernel_rfl) (fun h1 =>
(.path [1,1,1,1,1,1,1,1,1,1,1,1,1,1,1,1,1,1,1] (by kernel_rfl)
(.leaf (by kernel_rfl)))) (fun h1 =>
(.node (by kernel_rfl) (by kernel_rfl) (fun h2 =>
(.path [1,1,1,1,1,1,1,1,1,1,1,1,1,1,1,1,1] (by kernel_rfl)
(.leaf (by kernel_rfl)))) (fun h2 =>
(.node (by kernel_rfl) (by kernel_rfl) (fun h3 =>
(.path [1,1,1,1,1,1,1,1,1,1,1,1,1,1,1] (by kernel_rfl)
(.leaf (by kernel_rfl)))) (fun h3 =>
(.node (by kernel_rfl) (by kernel_rfl) (fun h4 =>
(.path [1,1,1,1,1,1,1,1,1,1,1,1,1] (by kernel_rfl)
(.leaf (by kernel_rfl)))) (fun h4 =>
(.node (by kernel_rfl) (by kernel_rfl) (fun h5 =>
(.path [1,1,1,1,1,1,1,1,1,1,1] (by kernel_rfl)
(.leaf (by kernel_rfl)))) (fun h5 =>
(.node (by kernel_rfl) (by kernel_rfl) (fun h6 =>
(.path [1,1,1,1,1,1,1,1,1] (by kernel_rfl)
(.leaf (by kernel_rfl)))) (fun h6 =>
(.node (by kernel_rfl) (by kernel_rfl) (fun h7 =>
(.path [1,1,1,1,1,1,1] (by kernel_rfl)
(.leaf (by kernel_rfl)))) (fun h7 =>
(.node (by kernel_rfl) (by kernel_rfl) (fun h8 =>
(.path [1,1,1,1,1] (by kernel_rfl)
(.leaf (by kernel_rfl)))) (fun h8 =>
(.node (by kernel_rfl) (by kernel_rfl) (fun h9 =>
(.path [1,1,1] (by kernel_rfl)
(.leaf (by kernel_rfl)))) (fun h9 =>
(.node (by kernel_rfl) (by kernel_rfl) (fun h10 =>
(.path [1] (by kernel_rfl)
(.leaf (by kernel_rfl)))) (fun h10 =>
(.node (by kernel_rfl) (by kernel_rfl) (fun h11 =>
(.path [1] (by kernel_rfl)
(.leaf (by kernel_rfl)))) (fun h11 =>
(.node (by kernel_rfl) (by kernel_rfl) (fun h12 =>
(.path [1] (by kernel_rfl)
(.leaf (by kernel_rfl)))) (fun h12 =>
.none))))))))))))))))))))))))))

noncomputable def cs_25 : FuncId → Option CSpec := csLend 25 B25 cs_26
theorem cs_25_ok : CsOk Try.prog cs_25 := csLend_ok cs_26_ok B25_ok

noncomputable def ev_W4 (env : List Dat) : Tree Bool := Lk.lawB false LK cs_25 4 ls0 (instL [stV 0, stV 5, dlV 10 (.imm TTm 14)] env)

theorem W4_law (env : List Dat) (h : (ev_W4 env).sel = some true) {w : World} {args : Array Value} (ha : LRel R0 (snapOf w) (instL [stV 0, stV 5, dlV 10 (.imm TTm 14)] env) args) :
    Calls Try.prog 4 args w fun e w' => e = .returned (.bool true) ∧ Below w.heap.size w w' :=
  lawB_ok cs_25_ok hmix false (ls := ls0) (LsOk.none _ _ _) (by rw [← lawB_lk]; exact h) ha

noncomputable def fn_W4_t : List Dat → Tree Bool
  | [.n n0, .n n1, .n n2, .l (Ty.int IntKind.u8) l3, .n n4, .n n5, .n n6, .n n7, .l (Ty.int IntKind.u8) l8, .n n9, .n n10, .n n11, .n n12, .n n13, .l (Ty.pair (Ty.int IntKind.i64) (Ty.int IntKind.u8)) l14] =>
    (.node (decide ((↑(List.length l14) : Int) > (200 : Int)))
     (.leaf (true))
     (let r1 : Option (Nat × List Dat) := (op_21 [.n n0, .n n1, .n n2, .l (Ty.int IntKind.u8) l3, .n n4, .n n5, .n n6, .n n7, .l (Ty.int IntKind.u8) l8, .n n9]);
      (.node (isK 0 [HK.n, HK.n, HK.n, HK.n, HK.l TTm] r1)
       (let r2 : Option (Nat × List Dat) := (op_22 [.n n0, .n n1, .n n2, .l (Ty.int IntKind.u8) l3, .n n4, .n (gn (dOf r1) 0), .n (gn (dOf r1) 1), .n (gn (dOf r1) 2), .n (gn (dOf r1) 3), .l TTm (gl TTm (dOf r1) 4)]);
        (.node (isK 0 [HK.n, HK.n, HK.n, HK.l (Ty.int IntKind.u8), HK.n, HK.n] r2)
         (let r3 : Option (Nat × List Dat) := (op_22 [.n n0, .n n1, .n n2, .l (Ty.int IntKind.u8) l3, .n n4, .n n10, .n n11, .n n12, .n n13, .l TTm l14]);
          (.node (isK 0 [HK.n, HK.n, HK.n, HK.l (Ty.int IntKind.u8), HK.n, HK.n] r3)
           (let r4 : Option (Nat × List Dat) := (op_24 [.n (0 : Int), .n (0 : Int), .n (0 : Int), .n (0 : Int), .n (0 : Int), .n (0 : Int), .n (0 : Int), .n (0 : Int), .l (Ty.int IntKind.u8) (List.replicate 64 (0 : Int)), .n (0 : Int), .n n10, .n n11, .n n12, .n n13, .l TTm l14]);
            (.node (isK 0 [HK.n, HK.n, HK.n, HK.n, HK.n, HK.n, HK.n, HK.n, HK.l (Ty.int IntKind.u8), HK.n, HK.n, HK.n, HK.n, HK.n, HK.l TTm] r4)
             (let r5 : Option (Nat × List Dat) := (op_23 [.n n0, .n n1, .n n2, .l (Ty.int IntKind.u8) l3, .n n4, .n (gn (dOf r4) 0), .n (gn (dOf r4) 1), .n (gn (dOf r4) 2), .n (gn (dOf r4) 3), .n (gn (dOf r4) 4), .n (gn (dOf r4) 5), .n (gn (dOf r4) 6), .n (gn (dOf r4) 7), .l (Ty.int IntKind.u8) (gl (Ty.int IntKind.u8) (dOf r4) 8), .n (gn (dOf r4) 9), .n (gn (dOf r4) 10), .n (gn (dOf r4) 11), .n (gn (dOf r4) 12), .n (gn (dOf r4) 13), .l TTm (gl TTm (dOf r4) 14)]);
              (.node (isK 0 [HK.n, HK.n, HK.n, HK.l (Ty.int IntKind.u8), HK.n, HK.n] r5)
               (let r6 : Option (Nat × List Dat) := (op_24 [.n (0 : Int), .n (0 : Int), .n (0 : Int), .n (0 : Int), .n (0 : Int), .n (0 : Int), .n (0 : Int), .n (0 : Int), .l (Ty.int IntKind.u8) (List.replicate 64 (0 : Int)), .n (0 : Int), .n (gn (dOf r1) 0), .n (gn (dOf r1) 1), .n (gn (dOf r1) 2), .n (gn (dOf r1) 3), .l TTm (gl TTm (dOf r1) 4)]);
                (.node (isK 0 [HK.n, HK.n, HK.n, HK.n, HK.n, HK.n, HK.n, HK.n, HK.l (Ty.int IntKind.u8), HK.n, HK.n, HK.n, HK.n, HK.n, HK.l TTm] r6)
                 (let r7 : Option (Nat × List Dat) := (op_26 [.n (0 : Int), .n (0 : Int), .n (0 : Int), .n (0 : Int), .n (0 : Int), .n (0 : Int), .n (0 : Int), .n (0 : Int), .l (Ty.int IntKind.u8) (List.replicate 64 (0 : Int)), .n (0 : Int), .n (0 : Int), .n (0 : Int), .n (0 : Int), .n (0 : Int), .n n0, .n n1, .n n2, .l (Ty.int IntKind.u8) l3, .n n4, .n n5, .n n6, .n n7, .l (Ty.int IntKind.u8) l8, .n n9]);
                  (.node (isK 0 [HK.n, HK.n, HK.n, HK.n, HK.n, HK.n, HK.n, HK.n, HK.l (Ty.int IntKind.u8), HK.n, HK.n, HK.n, HK.n, HK.n, HK.l TTm] r7)
                   (let r8 : Option (Nat × List Dat) := (op_25 [.n (gn (dOf r6) 0), .n (gn (dOf r6) 1), .n (gn (dOf r6) 2), .n (gn (dOf r6) 3), .n (gn (dOf r6) 4), .n (gn (dOf r6) 5), .n (gn (dOf r6) 6), .n (gn (dOf r6) 7), .l (Ty.int IntKind.u8) (gl (Ty.int IntKind.u8) (dOf r6) 8), .n (gn (dOf r6) 9), .n (gn (dOf r6) 10), .n (gn (dOf r6) 11), .n (gn (dOf r6) 12), .n (gn (dOf r6) 13), .l TTm (gl TTm (dOf r6) 14), .n (gn (dOf r7) 0), .n (gn (dOf r7) 1), .n (gn (dOf r7) 2), .n (gn (dOf r7) 3), .n (gn (dOf r7) 4), .n (gn (dOf r7) 5), .n (gn (dOf r7) 6), .n (gn (dOf r7) 7), .l (Ty.int IntKind.u8) (gl (Ty.int IntKind.u8) (dOf r7) 8), .n (gn (dOf r7) 9), .n (gn (dOf r7) 10), .n (gn (dOf r7) 11), .n (gn (dOf r7) 12), .n (gn (dOf r7) 13), .l TTm (gl TTm (dOf r7) 14)]);
                    (.node (isK 0 [HK.b] r8)
                     (.node (gb (dOf r8) 0)
                      (.node (gn (dOf r2) 0 == n5 && (gn (dOf r2) 1 == n6 && (gn (dOf r2) 2 == n7 && (eqL (Ty.int IntKind.u8) (gl (Ty.int IntKind.u8) (dOf r2) 3) l8 && (gn (dOf r2) 4 == n9 && true)))))
                       (.node (gn (dOf r2) 5 == (0 : Int))
                        (.node (gn (dOf r3) 0 == gn (dOf r5) 0 && (gn (dOf r3) 1 == gn (dOf r5) 1 && (gn (dOf r3) 2 == gn (dOf r5) 2 && (eqL (Ty.int IntKind.u8) (gl (Ty.int IntKind.u8) (dOf r3) 3) (gl (Ty.int IntKind.u8) (dOf r5) 3) && (gn (dOf r3) 4 == gn (dOf r5) 4 && true)))))
                         (.node (gn (dOf r3) 5 == gn (dOf r5) 5)
                          (.leaf (true))
                          (.leaf (false)))
                         (.leaf (false)))
                        (.leaf (false)))
                       (.leaf (false)))
                      (.leaf (false)))
                     (.bad 351)))
                   (.bad 351)))
                 (.bad 351)))
               (.bad 351)))
             (.bad 351)))
           (.bad 351)))
         (.bad 351)))
       (.bad 351))))
  | _ => .bad 0
theorem fn_W4_t_im (n0 : Int) (n1 : Int) (n2 : Int) (l3 : List (Ty.den (Ty.int IntKind.u8))) (n4 : Int) (n5 : Int) (n6 : Int) (n7 : Int) (l8 : List (Ty.den (Ty.int IntKind.u8))) (n9 : Int) (n10 : Int) (n11 : Int) (n12 : Int) (n13 : Int) (l14 : List (Ty.den TTm)) : Imp (fn_W4_t [.n n0, .n n1, .n n2, .l (Ty.int IntKind.u8) l3, .n n4, .n n5, .n n6, .n n7, .l (Ty.int IntKind.u8) l8, .n n9, .n n10, .n n11, .n n12, .n n13, .l TTm l14]) (ev_W4 [.n n0, .n n1, .n n2, .l TB l3, .n n4, .n n5, .n n6, .n n7, .l TB l8, .n n9, .n n10, .n n11, .n n12, .n n13, .l TTm l14]) :=
(.node (by kernel_rfl) (by kernel_rfl) (fun h0 =>
(.path [1,1,1] (by kernel_rfl)
(.leaf (by kernel_rfl)))) (fun h0 =>
(.node (by kernel_rfl) (by kernel_rfl) (fun h1 =>
(.path [1] (by kernel_rfl)
(.node (by kernel_rfl) (by kernel_rfl) (fun h2 =>
(.path [1] (by kernel_rfl)
(.node (by kernel_rfl) (by kernel_rfl) (fun h3 =>
(.path [1] (by kernel_rfl)
(.node (by kernel_rfl) (by kernel_rfl) (fun h4 =>
(.path [1] (by kernel_rfl)
(.node (by kernel_rfl) (by kernel_rfl) (fun h5 =>
(.path [1,1] (by kernel_rfl)
(.node (by kernel_rfl) (by kernel_rfl) (fun h6 =>
(.path [1] (by kernel_rfl)
(.node (by kernel_rfl) (by kernel_rfl) (fun h7 =>
(.path [1] (by kernel_rfl)
(.node (by kernel_rfl) (by kernel_rfl) (fun h8 =>
(.path [1] (by kernel_rfl)
(.node (by kernel_rfl) (by kernel_rfl) (fun h9 =>
(.node (by kernel_rfl) (by kernel_rfl) (fun h10 =>
(.node (by kernel_rfl) (by kernel_rfl) (fun h11 =>
(.node (by kernel_rfl) (by kernel_rfl) (fun h12 =>
(.node (by kernel_rfl) (by kernel_rfl) (fun h13 =>
(.path [1,1,1,1] (by kernel_rfl)
(.leaf (by kernel_rfl)))) (fun h13 =>
(.path [0,1] (by kernel_rfl)
(.leaf (by kernel_rfl)))))) (fun h12 =>
(.path [0,0,0,1] (by kernel_rfl)
(.leaf (by kernel_rfl)))))) (fun h11 =>
(.path [0,0,0,0,0,1] (by kernel_rfl)
(.leaf (by kernel_rfl)))))) (fun h10 =>
(.path [0,0,0,0,0,0,0,1] (by kernel_rfl)
(.leaf (by kernel_rfl)))))) (fun h9 =>
(.path [0,0,0,0,0,0,0,0,0,1] (by kernel_rfl)
(.leaf (by kernel_rfl))))))) (fun h8 =>
.none)))) (fun h7 =>
.none)))) (fun h6 =>
.none)))) (fun h5 =>
.none)))) (fun h4 =>
.none)))) (fun h3 =>
.none)))) (fun h2 =>
.none)))) (fun h1 =>
.none))))
end Go.Proofs.Ythbceghdobfijaa.Vx
