import Derived.Test.YtjngnkedennjdaaVxIm
import Derived.Test.YtjngnkedennjdaaVxLk
import Derived.Test.YtjngnkedennjdaaVxLaw
import Derived.Test.YtjngnkedennjdaaX08a
import Derived.KernelRfl
namespace Go.Proofs.Ytjngnkedennjdaa.Vx
open Go Go.RowKit
set_option linter.unusedVariables false
set_option linter.unusedSimpArgs false
set_option maxRecDepth 100000
set_option maxHeartbeats 0

abbrev TMr : Ty := .pair (.int .u64) (.pair (.int .u64) (.pair (.int .u64) (.pair (.int .u32) (.pair (.int .u32) (.int .u64)))))
def mkV (h : Nat) : PV := .agg [.imm TMr h, .nilsl, .int .u64 (h+1), .int .u32 (h+2), .int .u64 (h+3)]
def mkB (h : Nat) : PB := .cells [.imm TMr h, .nilsl, .int .u64 (h+1), .int .u32 (h+2), .int .u64 (h+3)]
def mkO (h b : Nat) : PB := .cells [.own b, .nilsl, .int .u64 h, .int .u32 (h+1), .int .u64 (h+2)]
def apM (l : List (Ty.den TMr)) (e : Ty.den TMr) : List (Ty.den TMr) := l ++ [e]
def fnV (f : Nat) (cs : List PV) : PV := .fn (.func f) [] cs
noncomputable def st_L31_3 (env : List Dat) : Tree Step := Lk.stepMC false LK cs_9 43 3 ls0 (mkM 0 [] [(sh 13 [(0, .int .i64 0), (3, .int .u64 1), (4, .int .i64 2)], [])] [] [(.exit 0, sh 13 [(3, .int .u64 0)], [])] fun _ => none) env
theorem op_L31_3_ex : ∃ f : List Dat → Option (Nat × List Dat), ∀ env, f env = iterS st_L31_3 FU env := ⟨iterS st_L31_3 FU, fun _ => rfl⟩
noncomputable def op_L31_3 : List Dat → Option (Nat × List Dat) := Classical.choose op_L31_3_ex
theorem op_L31_3_eq (env : List Dat) : op_L31_3 env = iterS st_L31_3 FU env := Classical.choose_spec op_L31_3_ex env
noncomputable def L31_3 : MBox := mkM 0 [] [(sh 13 [(0, .int .i64 0), (3, .int .u64 1), (4, .int .i64 2)], [])] [] [(.exit 0, sh 13 [(3, .int .u64 0)], [])] op_L31_3
theorem L31_3_eqs : L31_3 = mkM 0 [] [(sh 13 [(0, .int .i64 0), (3, .int .u64 1), (4, .int .i64 2)], [])] [] [(.exit 0, sh 13 [(3, .int .u64 0)], [])] (iterS st_L31_3 FU) := congrArg (fun f => mkM 0 [] [(sh 13 [(0, .int .i64 0), (3, .int .u64 1), (4, .int .i64 2)], [])] [] [(.exit 0, sh 13 [(3, .int .u64 0)], [])] f) (funext op_L31_3_eq)
theorem L31_3_run : ∀ t s x, (manyRun L31_3 t s).sel = some x → CodeOk Try.prog 0 (.loop (cAt Try.prog 43 3)) t s x := by
  rw [L31_3_eqs]
  exact mkM_ok (st := st_L31_3) (m := FU) cs_9_ok hmix false (LsOk.none _ _ _) (by kernel_rfl) (fun env y h => by rw [← stepMC_lk]; exact h)
theorem op_L31_3_good {p : Nat × List Dat → Prop} (Inv : List Dat → Prop) (μ : List Dat → Nat) (h : ∀ env, Inv env → Good (fun y => match y with | .go e => Inv e ∧ μ e < μ env | .stop k d => p (k, d)) (st_L31_3 env).sel) (env : List Dat) (hi : Inv env) (hm : μ env < FU) : Good p (op_L31_3 env) := by
  rw [op_L31_3_eq]
  exact iterS_good Inv μ p h FU env hi hm

noncomputable def fn_L31_3_t : List Dat → Tree Step
  | [.n n0, .n n1, .n n2] =>
    (.node (decide (n2 < n0))
     (.leaf (Step.go [.k 0, .n n0, .n (IntKind.wrap .u64 (n1 * (2 : Int))), .n (IntKind.wrap .i64 (n2 + (1 : Int)))]))
     (.leaf (Step.stop 0 [.n n1])))
  | _ => .bad 0
theorem fn_L31_3_t_im (n0 : Int) (n1 : Int) (n2 : Int) : Imp (fn_L31_3_t [.n n0, .n n1, .n n2]) (st_L31_3 [.k 0, .n n0, .n n1, .n n2]) :=
(.path [1] (by kernel_rfl)
(.node (by kernel_rfl) (by kernel_rfl) (fun h0 =>
(.path [1] (by kernel_rfl)
(.leaf (by kernel_rfl)))) (fun h0 =>
(.path [1] (by kernel_rfl)
(.leaf (by kernel_rfl))))))

theorem ls_31_ok : LsOk Try.prog (List.length ([] : List PB)) (lsM [(3, L31_3)] (List.length ([] : List PB))) (bodyOf Try.prog 43) := LsOk.many fun j B hB hk c hc hi => by
  simp only [lookM] at hB
  split at hB
  · rename_i e; have := Nat.eq_of_beq_eq_true e; subst this; cases hB
    have e1 : loopAt Try.prog 43 3 = [cAt Try.prog 43 3] := loopAt_one (by kernel_rfl)
    have e2 : c ∈ loopAt Try.prog 43 3 := loopsAt_mem hc hi
    rw [e1] at e2; cases List.mem_singleton.1 e2; exact L31_3_run
  cases hB

noncomputable def ev_31 (env : List Dat) : Tree (Nat × List Dat) := Lk.boxC false LK cs_9 43 (lsM [(3, L31_3)] (List.length ([] : List PB))) (mkF [.int .i64 0] [] [] [(.int .u64 0, [])] fun _ => none) env
theorem op_31_ex : ∃ f : List Dat → Option (Nat × List Dat), ∀ env, f env = (ev_31 env).sel := ⟨fun env => (ev_31 env).sel, fun _ => rfl⟩
noncomputable def op_31 : List Dat → Option (Nat × List Dat) := Classical.choose op_31_ex
theorem op_31_eq (env : List Dat) : op_31 env = (ev_31 env).sel := Classical.choose_spec op_31_ex env
noncomputable def B31 : FBox := mkF [.int .i64 0] [] [] [(.int .u64 0, [])] op_31
theorem B31_ok : RunOk Try.prog 43 (boxRun B31) := mkF_ok (op := op_31) cs_9_ok hmix false (ls_31_ok) (fun env x h => by rw [op_31_eq] at h; rw [← boxC_lk]; exact h)
theorem op_31_good {p : Nat × List Dat → Prop} {T : Tree (Nat × List Dat)} {env : List Dat} (h : Imp T (ev_31 env)) (g : Good p T.sel) : Good p (op_31 env) := by
  rw [op_31_eq]
  exact h.good g

noncomputable def fn_31_t : List Dat → Tree (Nat × List Dat)
  | [.n n0] =>
    (let r1 : Option (Nat × List Dat) := (op_L31_3 [.k 0, .n n0, .n (1 : Int), .n (0 : Int)]);
     (.node (isK 0 [HK.n] r1)
      (.leaf ((0, [.n (gn (dOf r1) 0)])))
      (.bad 351)))
  | _ => .bad 0
theorem fn_31_t_im (n0 : Int) : Imp (fn_31_t [.n n0]) (ev_31 [.n n0]) :=
(.node (by kernel_rfl) (by kernel_rfl) (fun h0 =>
(.path [1] (by kernel_rfl)
(.leaf (by kernel_rfl)))) (fun h0 =>
.none))

noncomputable def cs_31 : FuncId → Option CSpec := csLend 43 B31 cs_9
theorem cs_31_ok : CsOk Try.prog cs_31 := csLend_ok cs_9_ok B31_ok

noncomputable def ev_10 (env : List Dat) : Tree (Nat × List Dat) := Lk.boxC false LK cs_31 42 ls0 (mkF [.int .u64 0, .int .i64 1] [] [] [(.bool 0, [])] fun _ => none) env
theorem op_10_ex : ∃ f : List Dat → Option (Nat × List Dat), ∀ env, f env = (ev_10 env).sel := ⟨fun env => (ev_10 env).sel, fun _ => rfl⟩
noncomputable def op_10 : List Dat → Option (Nat × List Dat) := Classical.choose op_10_ex
theorem op_10_eq (env : List Dat) : op_10 env = (ev_10 env).sel := Classical.choose_spec op_10_ex env
noncomputable def B10 : FBox := mkF [.int .u64 0, .int .i64 1] [] [] [(.bool 0, [])] op_10
theorem B10_ok : RunOk Try.prog 42 (boxRun B10) := mkF_ok (op := op_10) cs_31_ok hmix false (LsOk.none _ _ _) (fun env x h => by rw [op_10_eq] at h; rw [← boxC_lk]; exact h)
theorem op_10_good {p : Nat × List Dat → Prop} {T : Tree (Nat × List Dat)} {env : List Dat} (h : Imp T (ev_10 env)) (g : Good p T.sel) : Good p (op_10 env) := by
  rw [op_10_eq]
  exact h.good g

noncomputable def fn_10_t : List Dat → Tree (Nat × List Dat)
  | [.n n0, .n n1] =>
    (.node (decide (n1 ≥ (0 : Int)))
     (.node (decide (n1 < (64 : Int)))
      (.leaf ((0, [.b (iand IntKind.u64 (ishr IntKind.u64 n0 n1) (1 : Int) == (1 : Int))])))
      (.leaf ((0, [.b false]))))
     (.leaf ((0, [.b false]))))
  | _ => .bad 0
theorem fn_10_t_im (n0 : Int) (n1 : Int) : Imp (fn_10_t [.n n0, .n n1]) (ev_10 [.n n0, .n n1]) :=
(.path [1] (by kernel_rfl)
(.node (by kernel_rfl) (by kernel_rfl) (fun h0 =>
(.path [1] (by kernel_rfl)
(.node (by kernel_rfl) (by kernel_rfl) (fun h1 =>
(.pt (c := (!decide (n1 < (0 : Int)))) (by kernel_rfl) (by kernel_rfl) (by (simp only [w64d, decide_eq_true_eq, decide_eq_false_iff_not, beq_iff_eq, beq_eq_false_iff_ne, bne_iff_ne, ne_eq, inR, Bool.and_eq_true, Bool.and_eq_false_iff, Bool.not_eq_true', Bool.not_eq_false', Bool.not_eq_eq_eq_not, Bool.not_true, Bool.not_false] at *; omega))
(.path [1] (by kernel_rfl)
(.leaf (by kernel_rfl))))) (fun h1 =>
(.path [0,1] (by kernel_rfl)
(.leaf (by kernel_rfl))))))) (fun h0 =>
(.path [0,1,0,0,1] (by kernel_rfl)
(.leaf (by kernel_rfl))))))

noncomputable def cs_10 : FuncId → Option CSpec := csLend 42 B10 cs_31
theorem cs_10_ok : CsOk Try.prog cs_10 := csLend_ok cs_31_ok B10_ok

noncomputable def ev_11 (env : List Dat) : Tree (Nat × List Dat) := Lk.boxC false LK cs_10 28 ls0 (mkF [.int .u64 0, .int .i64 1] [] [] [(.bool 0, [])] fun _ => none) env
theorem op_11_ex : ∃ f : List Dat → Option (Nat × List Dat), ∀ env, f env = (ev_11 env).sel := ⟨fun env => (ev_11 env).sel, fun _ => rfl⟩
noncomputable def op_11 : List Dat → Option (Nat × List Dat) := Classical.choose op_11_ex
theorem op_11_eq (env : List Dat) : op_11 env = (ev_11 env).sel := Classical.choose_spec op_11_ex env
noncomputable def B11 : FBox := mkF [.int .u64 0, .int .i64 1] [] [] [(.bool 0, [])] op_11
theorem B11_ok : RunOk Try.prog 28 (boxRun B11) := mkF_ok (op := op_11) cs_10_ok hmix false (LsOk.none _ _ _) (fun env x h => by rw [op_11_eq] at h; rw [← boxC_lk]; exact h)
theorem op_11_good {p : Nat × List Dat → Prop} {T : Tree (Nat × List Dat)} {env : List Dat} (h : Imp T (ev_11 env)) (g : Good p T.sel) : Good p (op_11 env) := by
  rw [op_11_eq]
  exact h.good g

noncomputable def fn_11_t : List Dat → Tree (Nat × List Dat)
  | [.n n0, .n n1] =>
    (.node (decide (n1 ≥ (0 : Int)))
     (.node (decide (n1 ≤ (63 : Int)))
      (let r1 : Option (Nat × List Dat) := (op_31 [.n n1]);
       (.node (isK 0 [HK.n] r1)
        (.node (!decide (gn (dOf r1) 0 = (0 : Int)))
         (.leaf ((0, [.b (Int.tmod (IntKind.wrap .u64 (Int.tdiv n0 (gn (dOf r1) 0))) (2 : Int) == (1 : Int))])))
         (.bad 80))
        (.bad 351)))
      (.leaf ((0, [.b false]))))
     (.leaf ((0, [.b false]))))
  | _ => .bad 0
theorem fn_11_t_im (n0 : Int) (n1 : Int) : Imp (fn_11_t [.n n0, .n n1]) (ev_11 [.n n0, .n n1]) :=
(.node (by kernel_rfl) (by kernel_rfl) (fun h0 =>
(.node (by kernel_rfl) (by kernel_rfl) (fun h1 =>
(.node (by kernel_rfl) (by kernel_rfl) (fun h2 =>
(.path [1] (by kernel_rfl)
(.node (by kernel_rfl) (by kernel_rfl) (fun h3 =>
(.path [1,1] (by kernel_rfl)
(.leaf (by kernel_rfl)))) (fun h3 =>
.none)))) (fun h2 =>
.none))) (fun h1 =>
(.path [0,1] (by kernel_rfl)
(.leaf (by kernel_rfl)))))) (fun h0 =>
(.path [0,0,0,1] (by kernel_rfl)
(.leaf (by kernel_rfl)))))

noncomputable def cs_11 : FuncId → Option CSpec := csLend 28 B11 cs_10
theorem cs_11_ok : CsOk Try.prog cs_11 := csLend_ok cs_10_ok B11_ok

noncomputable def st_L25a_3 (env : List Dat) : Tree Step := Lk.stepMC false LK cs_11 25 3 ls0 (mkM 0 [] [(sh 28 [(1, .int .u64 0), (2, fnV 26 []), (7, .int .u32 1), (11, .imm TMr 2), (12, .int .i64 3), (13, .int .i64 4)], [])] [] [(.exit 0, sh 28 [(7, .int .u32 0)], [])] fun _ => none) env
theorem op_L25a_3_ex : ∃ f : List Dat → Option (Nat × List Dat), ∀ env, f env = iterS st_L25a_3 FU env := ⟨iterS st_L25a_3 FU, fun _ => rfl⟩
noncomputable def op_L25a_3 : List Dat → Option (Nat × List Dat) := Classical.choose op_L25a_3_ex
theorem op_L25a_3_eq (env : List Dat) : op_L25a_3 env = iterS st_L25a_3 FU env := Classical.choose_spec op_L25a_3_ex env
noncomputable def L25a_3 : MBox := mkM 0 [] [(sh 28 [(1, .int .u64 0), (2, fnV 26 []), (7, .int .u32 1), (11, .imm TMr 2), (12, .int .i64 3), (13, .int .i64 4)], [])] [] [(.exit 0, sh 28 [(7, .int .u32 0)], [])] op_L25a_3
theorem L25a_3_eqs : L25a_3 = mkM 0 [] [(sh 28 [(1, .int .u64 0), (2, fnV 26 []), (7, .int .u32 1), (11, .imm TMr 2), (12, .int .i64 3), (13, .int .i64 4)], [])] [] [(.exit 0, sh 28 [(7, .int .u32 0)], [])] (iterS st_L25a_3 FU) := congrArg (fun f => mkM 0 [] [(sh 28 [(1, .int .u64 0), (2, fnV 26 []), (7, .int .u32 1), (11, .imm TMr 2), (12, .int .i64 3), (13, .int .i64 4)], [])] [] [(.exit 0, sh 28 [(7, .int .u32 0)], [])] f) (funext op_L25a_3_eq)
theorem L25a_3_run : ∀ t s x, (manyRun L25a_3 t s).sel = some x → CodeOk Try.prog 0 (.loop (cAt Try.prog 25 3)) t s x := by
  rw [L25a_3_eqs]
  exact mkM_ok (st := st_L25a_3) (m := FU) cs_11_ok hmix false (LsOk.none _ _ _) (by kernel_rfl) (fun env y h => by rw [← stepMC_lk]; exact h)
theorem op_L25a_3_good {p : Nat × List Dat → Prop} (Inv : List Dat → Prop) (μ : List Dat → Nat) (h : ∀ env, Inv env → Good (fun y => match y with | .go e => Inv e ∧ μ e < μ env | .stop k d => p (k, d)) (st_L25a_3 env).sel) (env : List Dat) (hi : Inv env) (hm : μ env < FU) : Good p (op_L25a_3 env) := by
  rw [op_L25a_3_eq]
  exact iterS_good Inv μ p h FU env hi hm

noncomputable def fn_L25a_3_t : List Dat → Tree Step
  | [.n n0, .n n1, .l (Ty.pair (Ty.int IntKind.u64) (Ty.pair (Ty.int IntKind.u64) (Ty.pair (Ty.int IntKind.u64) (Ty.pair (Ty.int IntKind.u32) (Ty.pair (Ty.int IntKind.u32) (Ty.int IntKind.u64)))))) l2, .n n3, .n n4] =>
    (.node (decide (n4 < n3))
     (let r1 : Option (Nat × List Dat) := (op_10 [.n n0, .n n4]);
      (.node (isK 0 [HK.b] r1)
       (.node (gb (dOf r1) 0)
        (.leaf (Step.go [.k 0, .n n0, .n (ior IntKind.u32 n1 (Prod.fst (Prod.snd (Prod.snd (Prod.snd (List.getD l2 (Int.toNat n4) (Ty.dflt TMr))))))), .l TMr l2, .n n3, .n (IntKind.wrap .i64 (n4 + (1 : Int)))]))
        (.leaf (Step.go [.k 0, .n n0, .n n1, .l TMr l2, .n n3, .n (IntKind.wrap .i64 (n4 + (1 : Int)))])))
       (.bad 351)))
     (.leaf (Step.stop 0 [.n n1])))
  | _ => .bad 0
theorem fn_L25a_3_t_im (n0 : Int) (n1 : Int) (l2 : List (Ty.den TMr)) (n3 : Int) (n4 : Int) (g0 : 0 ≤ n4) (g1 :  n3 = (l2.length : Int)) : Imp (fn_L25a_3_t [.n n0, .n n1, .l TMr l2, .n n3, .n n4]) (st_L25a_3 [.k 0, .n n0, .n n1, .l TMr l2, .n n3, .n n4]) :=
(.path [1] (by kernel_rfl)
(.node (by kernel_rfl) (by kernel_rfl) (fun h0 =>
(.pt (c := (inR n4 (List.length l2))) (by kernel_rfl) (by kernel_rfl) (by (simp only [w64d, decide_eq_true_eq, decide_eq_false_iff_not, beq_iff_eq, beq_eq_false_iff_ne, bne_iff_ne, ne_eq, inR, Bool.and_eq_true, Bool.and_eq_false_iff, Bool.not_eq_true', Bool.not_eq_false', Bool.not_eq_eq_eq_not, Bool.not_true, Bool.not_false] at *; omega))
(.node (by kernel_rfl) (by kernel_rfl) (fun h1 =>
(.path [1] (by kernel_rfl)
(.node (by kernel_rfl) (by kernel_rfl) (fun h2 =>
(.path [1,1,1] (by kernel_rfl)
(.leaf (by kernel_rfl)))) (fun h2 =>
(.path [1] (by kernel_rfl)
(.leaf (by kernel_rfl))))))) (fun h1 =>
.none)))) (fun h0 =>
(.path [1] (by kernel_rfl)
(.leaf (by kernel_rfl))))))

theorem ls_25a_ok : LsOk Try.prog (List.length ([] : List PB)) (lsM [(3, L25a_3)] (List.length ([] : List PB))) (bodyOf Try.prog 25) := LsOk.many fun j B hB hk c hc hi => by
  simp only [lookM] at hB
  split at hB
  · rename_i e; have := Nat.eq_of_beq_eq_true e; subst this; cases hB
    have e1 : loopAt Try.prog 25 3 = [cAt Try.prog 25 3] := loopAt_one (by kernel_rfl)
    have e2 : c ∈ loopAt Try.prog 25 3 := loopsAt_mem hc hi
    rw [e1] at e2; cases List.mem_singleton.1 e2; exact L25a_3_run
  cases hB

noncomputable def ev_25a (env : List Dat) : Tree (Nat × List Dat) := Lk.boxC false LK cs_11 25 (lsM [(3, L25a_3)] (List.length ([] : List PB))) (mkF [.imm TMr 0, .int .u64 1, fnV 26 []] [] [] [(.int .u32 0, [])] fun _ => none) env
theorem op_25a_ex : ∃ f : List Dat → Option (Nat × List Dat), ∀ env, f env = (ev_25a env).sel := ⟨fun env => (ev_25a env).sel, fun _ => rfl⟩
noncomputable def op_25a : List Dat → Option (Nat × List Dat) := Classical.choose op_25a_ex
theorem op_25a_eq (env : List Dat) : op_25a env = (ev_25a env).sel := Classical.choose_spec op_25a_ex env
noncomputable def B25a : FBox := mkF [.imm TMr 0, .int .u64 1, fnV 26 []] [] [] [(.int .u32 0, [])] op_25a
theorem B25a_ok : RunOk Try.prog 25 (boxRun B25a) := mkF_ok (op := op_25a) cs_11_ok hmix false (ls_25a_ok) (fun env x h => by rw [op_25a_eq] at h; rw [← boxC_lk]; exact h)
theorem op_25a_good {p : Nat × List Dat → Prop} {T : Tree (Nat × List Dat)} {env : List Dat} (h : Imp T (ev_25a env)) (g : Good p T.sel) : Good p (op_25a env) := by
  rw [op_25a_eq]
  exact h.good g

noncomputable def fn_25a_t : List Dat → Tree (Nat × List Dat)
  | [.l (Ty.pair (Ty.int IntKind.u64) (Ty.pair (Ty.int IntKind.u64) (Ty.pair (Ty.int IntKind.u64) (Ty.pair (Ty.int IntKind.u32) (Ty.pair (Ty.int IntKind.u32) (Ty.int IntKind.u64)))))) l0, .n n1] =>
    (let r1 : Option (Nat × List Dat) := (op_L25a_3 [.k 0, .n n1, .n (0 : Int), .l TMr l0, .n (↑(List.length l0) : Int), .n (0 : Int)]);
     (.node (isK 0 [HK.n] r1)
      (.leaf ((0, [.n (gn (dOf r1) 0)])))
      (.bad 351)))
  | _ => .bad 0
theorem fn_25a_t_im (l0 : List (Ty.den TMr)) (n1 : Int) : Imp (fn_25a_t [.l TMr l0, .n n1]) (ev_25a [.l TMr l0, .n n1]) :=
(.node (by kernel_rfl) (by kernel_rfl) (fun h0 =>
(.path [1] (by kernel_rfl)
(.leaf (by kernel_rfl)))) (fun h0 =>
.none))

noncomputable def st_L25b_3 (env : List Dat) : Tree Step := Lk.stepMC false LK cs_11 25 3 ls0 (mkM 0 [] [(sh 28 [(1, .int .u64 0), (2, fnV 27 []), (7, .int .u32 1), (11, .imm TMr 2), (12, .int .i64 3), (13, .int .i64 4)], [])] [] [(.exit 0, sh 28 [(7, .int .u32 0)], [])] fun _ => none) env
theorem op_L25b_3_ex : ∃ f : List Dat → Option (Nat × List Dat), ∀ env, f env = iterS st_L25b_3 FU env := ⟨iterS st_L25b_3 FU, fun _ => rfl⟩
noncomputable def op_L25b_3 : List Dat → Option (Nat × List Dat) := Classical.choose op_L25b_3_ex
theorem op_L25b_3_eq (env : List Dat) : op_L25b_3 env = iterS st_L25b_3 FU env := Classical.choose_spec op_L25b_3_ex env
noncomputable def L25b_3 : MBox := mkM 0 [] [(sh 28 [(1, .int .u64 0), (2, fnV 27 []), (7, .int .u32 1), (11, .imm TMr 2), (12, .int .i64 3), (13, .int .i64 4)], [])] [] [(.exit 0, sh 28 [(7, .int .u32 0)], [])] op_L25b_3
theorem L25b_3_eqs : L25b_3 = mkM 0 [] [(sh 28 [(1, .int .u64 0), (2, fnV 27 []), (7, .int .u32 1), (11, .imm TMr 2), (12, .int .i64 3), (13, .int .i64 4)], [])] [] [(.exit 0, sh 28 [(7, .int .u32 0)], [])] (iterS st_L25b_3 FU) := congrArg (fun f => mkM 0 [] [(sh 28 [(1, .int .u64 0), (2, fnV 27 []), (7, .int .u32 1), (11, .imm TMr 2), (12, .int .i64 3), (13, .int .i64 4)], [])] [] [(.exit 0, sh 28 [(7, .int .u32 0)], [])] f) (funext op_L25b_3_eq)
theorem L25b_3_run : ∀ t s x, (manyRun L25b_3 t s).sel = some x → CodeOk Try.prog 0 (.loop (cAt Try.prog 25 3)) t s x := by
  rw [L25b_3_eqs]
  exact mkM_ok (st := st_L25b_3) (m := FU) cs_11_ok hmix false (LsOk.none _ _ _) (by kernel_rfl) (fun env y h => by rw [← stepMC_lk]; exact h)
theorem op_L25b_3_good {p : Nat × List Dat → Prop} (Inv : List Dat → Prop) (μ : List Dat → Nat) (h : ∀ env, Inv env → Good (fun y => match y with | .go e => Inv e ∧ μ e < μ env | .stop k d => p (k, d)) (st_L25b_3 env).sel) (env : List Dat) (hi : Inv env) (hm : μ env < FU) : Good p (op_L25b_3 env) := by
  rw [op_L25b_3_eq]
  exact iterS_good Inv μ p h FU env hi hm

noncomputable def fn_L25b_3_t : List Dat → Tree Step
  | [.n n0, .n n1, .l (Ty.pair (Ty.int IntKind.u64) (Ty.pair (Ty.int IntKind.u64) (Ty.pair (Ty.int IntKind.u64) (Ty.pair (Ty.int IntKind.u32) (Ty.pair (Ty.int IntKind.u32) (Ty.int IntKind.u64)))))) l2, .n n3, .n n4] =>
    (.node (decide (n4 < n3))
     (let r1 : Option (Nat × List Dat) := (op_10 [.n n0, .n n4]);
      (.node (isK 0 [HK.b] r1)
       (.node (gb (dOf r1) 0)
        (.leaf (Step.go [.k 0, .n n0, .n (ior IntKind.u32 n1 (Prod.fst (Prod.snd (Prod.snd (Prod.snd (Prod.snd (List.getD l2 (Int.toNat n4) (Ty.dflt TMr)))))))), .l TMr l2, .n n3, .n (IntKind.wrap .i64 (n4 + (1 : Int)))]))
        (.leaf (Step.go [.k 0, .n n0, .n n1, .l TMr l2, .n n3, .n (IntKind.wrap .i64 (n4 + (1 : Int)))])))
       (.bad 351)))
     (.leaf (Step.stop 0 [.n n1])))
  | _ => .bad 0
theorem fn_L25b_3_t_im (n0 : Int) (n1 : Int) (l2 : List (Ty.den TMr)) (n3 : Int) (n4 : Int) (g0 : 0 ≤ n4) (g1 :  n3 = (l2.length : Int)) : Imp (fn_L25b_3_t [.n n0, .n n1, .l TMr l2, .n n3, .n n4]) (st_L25b_3 [.k 0, .n n0, .n n1, .l TMr l2, .n n3, .n n4]) :=
(.path [1] (by kernel_rfl)
(.node (by kernel_rfl) (by kernel_rfl) (fun h0 =>
(.pt (c := (inR n4 (List.length l2))) (by kernel_rfl) (by kernel_rfl) (by (simp only [w64d, decide_eq_true_eq, decide_eq_false_iff_not, beq_iff_eq, beq_eq_false_iff_ne, bne_iff_ne, ne_eq, inR, Bool.and_eq_true, Bool.and_eq_false_iff, Bool.not_eq_true', Bool.not_eq_false', Bool.not_eq_eq_eq_not, Bool.not_true, Bool.not_false] at *; omega))
(.node (by kernel_rfl) (by kernel_rfl) (fun h1 =>
(.path [1] (by kernel_rfl)
(.node (by kernel_rfl) (by kernel_rfl) (fun h2 =>
(.path [1,1,1] (by kernel_rfl)
(.leaf (by kernel_rfl)))) (fun h2 =>
(.path [1] (by kernel_rfl)
(.leaf (by kernel_rfl))))))) (fun h1 =>
.none)))) (fun h0 =>
(.path [1] (by kernel_rfl)
(.leaf (by kernel_rfl))))))

theorem ls_25b_ok : LsOk Try.prog (List.length ([] : List PB)) (lsM [(3, L25b_3)] (List.length ([] : List PB))) (bodyOf Try.prog 25) := LsOk.many fun j B hB hk c hc hi => by
  simp only [lookM] at hB
  split at hB
  · rename_i e; have := Nat.eq_of_beq_eq_true e; subst this; cases hB
    have e1 : loopAt Try.prog 25 3 = [cAt Try.prog 25 3] := loopAt_one (by kernel_rfl)
    have e2 : c ∈ loopAt Try.prog 25 3 := loopsAt_mem hc hi
    rw [e1] at e2; cases List.mem_singleton.1 e2; exact L25b_3_run
  cases hB

noncomputable def ev_25b (env : List Dat) : Tree (Nat × List Dat) := Lk.boxC false LK cs_11 25 (lsM [(3, L25b_3)] (List.length ([] : List PB))) (mkF [.imm TMr 0, .int .u64 1, fnV 27 []] [] [] [(.int .u32 0, [])] fun _ => none) env
theorem op_25b_ex : ∃ f : List Dat → Option (Nat × List Dat), ∀ env, f env = (ev_25b env).sel := ⟨fun env => (ev_25b env).sel, fun _ => rfl⟩
noncomputable def op_25b : List Dat → Option (Nat × List Dat) := Classical.choose op_25b_ex
theorem op_25b_eq (env : List Dat) : op_25b env = (ev_25b env).sel := Classical.choose_spec op_25b_ex env
noncomputable def B25b : FBox := mkF [.imm TMr 0, .int .u64 1, fnV 27 []] [] [] [(.int .u32 0, [])] op_25b
theorem B25b_ok : RunOk Try.prog 25 (boxRun B25b) := mkF_ok (op := op_25b) cs_11_ok hmix false (ls_25b_ok) (fun env x h => by rw [op_25b_eq] at h; rw [← boxC_lk]; exact h)
theorem op_25b_good {p : Nat × List Dat → Prop} {T : Tree (Nat × List Dat)} {env : List Dat} (h : Imp T (ev_25b env)) (g : Good p T.sel) : Good p (op_25b env) := by
  rw [op_25b_eq]
  exact h.good g

noncomputable def fn_25b_t : List Dat → Tree (Nat × List Dat)
  | [.l (Ty.pair (Ty.int IntKind.u64) (Ty.pair (Ty.int IntKind.u64) (Ty.pair (Ty.int IntKind.u64) (Ty.pair (Ty.int IntKind.u32) (Ty.pair (Ty.int IntKind.u32) (Ty.int IntKind.u64)))))) l0, .n n1] =>
    (let r1 : Option (Nat × List Dat) := (op_L25b_3 [.k 0, .n n1, .n (0 : Int), .l TMr l0, .n (↑(List.length l0) : Int), .n (0 : Int)]);
     (.node (isK 0 [HK.n] r1)
      (.leaf ((0, [.n (gn (dOf r1) 0)])))
      (.bad 351)))
  | _ => .bad 0
theorem fn_25b_t_im (l0 : List (Ty.den TMr)) (n1 : Int) : Imp (fn_25b_t [.l TMr l0, .n n1]) (ev_25b [.l TMr l0, .n n1]) :=
(.node (by kernel_rfl) (by kernel_rfl) (fun h0 =>
(.path [1] (by kernel_rfl)
(.leaf (by kernel_rfl)))) (fun h0 =>
.none))

noncomputable def cs_25b : FuncId → Option CSpec := csAdd 25 [B25a, B25b] cs_11
theorem cs_25b_ok : CsOk Try.prog cs_25b := csAdd_ok cs_11_ok fun B hB => by
  simp only [List.mem_cons, List.not_mem_nil, or_false] at hB
  rcases hB with rfl | rfl
  · exact B25a_ok
  · exact B25b_ok

noncomputable def st_L29_3 (env : List Dat) : Tree Step := Lk.stepMC false LK cs_25b 29 3 ls0 (mkM 0 [] [(sh 28 [(1, .int .u64 0), (2, fnV 30 []), (7, .int .u64 1), (11, .imm TMr 2), (12, .int .i64 3), (13, .int .i64 4)], [])] [] [(.exit 0, sh 28 [(7, .int .u64 0)], [])] fun _ => none) env
theorem op_L29_3_ex : ∃ f : List Dat → Option (Nat × List Dat), ∀ env, f env = iterS st_L29_3 FU env := ⟨iterS st_L29_3 FU, fun _ => rfl⟩
noncomputable def op_L29_3 : List Dat → Option (Nat × List Dat) := Classical.choose op_L29_3_ex
theorem op_L29_3_eq (env : List Dat) : op_L29_3 env = iterS st_L29_3 FU env := Classical.choose_spec op_L29_3_ex env
noncomputable def L29_3 : MBox := mkM 0 [] [(sh 28 [(1, .int .u64 0), (2, fnV 30 []), (7, .int .u64 1), (11, .imm TMr 2), (12, .int .i64 3), (13, .int .i64 4)], [])] [] [(.exit 0, sh 28 [(7, .int .u64 0)], [])] op_L29_3
theorem L29_3_eqs : L29_3 = mkM 0 [] [(sh 28 [(1, .int .u64 0), (2, fnV 30 []), (7, .int .u64 1), (11, .imm TMr 2), (12, .int .i64 3), (13, .int .i64 4)], [])] [] [(.exit 0, sh 28 [(7, .int .u64 0)], [])] (iterS st_L29_3 FU) := congrArg (fun f => mkM 0 [] [(sh 28 [(1, .int .u64 0), (2, fnV 30 []), (7, .int .u64 1), (11, .imm TMr 2), (12, .int .i64 3), (13, .int .i64 4)], [])] [] [(.exit 0, sh 28 [(7, .int .u64 0)], [])] f) (funext op_L29_3_eq)
theorem L29_3_run : ∀ t s x, (manyRun L29_3 t s).sel = some x → CodeOk Try.prog 0 (.loop (cAt Try.prog 29 3)) t s x := by
  rw [L29_3_eqs]
  exact mkM_ok (st := st_L29_3) (m := FU) cs_25b_ok hmix false (LsOk.none _ _ _) (by kernel_rfl) (fun env y h => by rw [← stepMC_lk]; exact h)
theorem op_L29_3_good {p : Nat × List Dat → Prop} (Inv : List Dat → Prop) (μ : List Dat → Nat) (h : ∀ env, Inv env → Good (fun y => match y with | .go e => Inv e ∧ μ e < μ env | .stop k d => p (k, d)) (st_L29_3 env).sel) (env : List Dat) (hi : Inv env) (hm : μ env < FU) : Good p (op_L29_3 env) := by
  rw [op_L29_3_eq]
  exact iterS_good Inv μ p h FU env hi hm

noncomputable def fn_L29_3_t : List Dat → Tree Step
  | [.n n0, .n n1, .l (Ty.pair (Ty.int IntKind.u64) (Ty.pair (Ty.int IntKind.u64) (Ty.pair (Ty.int IntKind.u64) (Ty.pair (Ty.int IntKind.u32) (Ty.pair (Ty.int IntKind.u32) (Ty.int IntKind.u64)))))) l2, .n n3, .n n4] =>
    (.node (decide (n4 < n3))
     (let r1 : Option (Nat × List Dat) := (op_10 [.n n0, .n n4]);
      (.node (isK 0 [HK.b] r1)
       (.node (gb (dOf r1) 0)
        (.leaf (Step.go [.k 0, .n n0, .n (ior IntKind.u64 n1 (Prod.snd (Prod.snd (Prod.snd (Prod.snd (Prod.snd (List.getD l2 (Int.toNat n4) (Ty.dflt TMr)))))))), .l TMr l2, .n n3, .n (IntKind.wrap .i64 (n4 + (1 : Int)))]))
        (.leaf (Step.go [.k 0, .n n0, .n n1, .l TMr l2, .n n3, .n (IntKind.wrap .i64 (n4 + (1 : Int)))])))
       (.bad 351)))
     (.leaf (Step.stop 0 [.n n1])))
  | _ => .bad 0
theorem fn_L29_3_t_im (n0 : Int) (n1 : Int) (l2 : List (Ty.den TMr)) (n3 : Int) (n4 : Int) (g0 : 0 ≤ n4) (g1 :  n3 = (l2.length : Int)) : Imp (fn_L29_3_t [.n n0, .n n1, .l TMr l2, .n n3, .n n4]) (st_L29_3 [.k 0, .n n0, .n n1, .l TMr l2, .n n3, .n n4]) :=
(.path [1] (by kernel_rfl)
(.node (by kernel_rfl) (by kernel_rfl) (fun h0 =>
(.pt (c := (inR n4 (List.length l2))) (by kernel_rfl) (by kernel_rfl) (by (simp only [w64d, decide_eq_true_eq, decide_eq_false_iff_not, beq_iff_eq, beq_eq_false_iff_ne, bne_iff_ne, ne_eq, inR, Bool.and_eq_true, Bool.and_eq_false_iff, Bool.not_eq_true', Bool.not_eq_false', Bool.not_eq_eq_eq_not, Bool.not_true, Bool.not_false] at *; omega))
(.node (by kernel_rfl) (by kernel_rfl) (fun h1 =>
(.path [1] (by kernel_rfl)
(.node (by kernel_rfl) (by kernel_rfl) (fun h2 =>
(.path [1,1,1] (by kernel_rfl)
(.leaf (by kernel_rfl)))) (fun h2 =>
(.path [1] (by kernel_rfl)
(.leaf (by kernel_rfl))))))) (fun h1 =>
.none)))) (fun h0 =>
(.path [1] (by kernel_rfl)
(.leaf (by kernel_rfl))))))

theorem ls_29_ok : LsOk Try.prog (List.length ([] : List PB)) (lsM [(3, L29_3)] (List.length ([] : List PB))) (bodyOf Try.prog 29) := LsOk.many fun j B hB hk c hc hi => by
  simp only [lookM] at hB
  split at hB
  · rename_i e; have := Nat.eq_of_beq_eq_true e; subst this; cases hB
    have e1 : loopAt Try.prog 29 3 = [cAt Try.prog 29 3] := loopAt_one (by kernel_rfl)
    have e2 : c ∈ loopAt Try.prog 29 3 := loopsAt_mem hc hi
    rw [e1] at e2; cases List.mem_singleton.1 e2; exact L29_3_run
  cases hB

noncomputable def ev_29 (env : List Dat) : Tree (Nat × List Dat) := Lk.boxC false LK cs_25b 29 (lsM [(3, L29_3)] (List.length ([] : List PB))) (mkF [.imm TMr 0, .int .u64 1, fnV 30 []] [] [] [(.int .u64 0, [])] fun _ => none) env
theorem op_29_ex : ∃ f : List Dat → Option (Nat × List Dat), ∀ env, f env = (ev_29 env).sel := ⟨fun env => (ev_29 env).sel, fun _ => rfl⟩
noncomputable def op_29 : List Dat → Option (Nat × List Dat) := Classical.choose op_29_ex
theorem op_29_eq (env : List Dat) : op_29 env = (ev_29 env).sel := Classical.choose_spec op_29_ex env
noncomputable def B29 : FBox := mkF [.imm TMr 0, .int .u64 1, fnV 30 []] [] [] [(.int .u64 0, [])] op_29
theorem B29_ok : RunOk Try.prog 29 (boxRun B29) := mkF_ok (op := op_29) cs_25b_ok hmix false (ls_29_ok) (fun env x h => by rw [op_29_eq] at h; rw [← boxC_lk]; exact h)
theorem op_29_good {p : Nat × List Dat → Prop} {T : Tree (Nat × List Dat)} {env : List Dat} (h : Imp T (ev_29 env)) (g : Good p T.sel) : Good p (op_29 env) := by
  rw [op_29_eq]
  exact h.good g

noncomputable def fn_29_t : List Dat → Tree (Nat × List Dat)
  | [.l (Ty.pair (Ty.int IntKind.u64) (Ty.pair (Ty.int IntKind.u64) (Ty.pair (Ty.int IntKind.u64) (Ty.pair (Ty.int IntKind.u32) (Ty.pair (Ty.int IntKind.u32) (Ty.int IntKind.u64)))))) l0, .n n1] =>
    (let r1 : Option (Nat × List Dat) := (op_L29_3 [.k 0, .n n1, .n (0 : Int), .l TMr l0, .n (↑(List.length l0) : Int), .n (0 : Int)]);
     (.node (isK 0 [HK.n] r1)
      (.leaf ((0, [.n (gn (dOf r1) 0)])))
      (.bad 351)))
  | _ => .bad 0
theorem fn_29_t_im (l0 : List (Ty.den TMr)) (n1 : Int) : Imp (fn_29_t [.l TMr l0, .n n1]) (ev_29 [.l TMr l0, .n n1]) :=
(.node (by kernel_rfl) (by kernel_rfl) (fun h0 =>
(.path [1] (by kernel_rfl)
(.leaf (by kernel_rfl)))) (fun h0 =>
.none))

noncomputable def cs_29 : FuncId → Option CSpec := csAdd 29 [B29] cs_25b
theorem cs_29_ok : CsOk Try.prog cs_29 := csAdd_ok cs_25b_ok fun B hB => by
  cases List.mem_singleton.1 hB
  exact B29_ok

noncomputable def st_Lneed_3 (env : List Dat) : Tree Step := Lk.stepMC false LK cs_29 11 3 ls0 (mkM 0 [] [(sh 41 [(1, .int .u64 0), (2, .ptr 0 0), (6, .int .u32 1), (7, .int .u32 2), (8, .int .i64 3)], [mkB 4])] [] [(.exit 0, sh 41 [(6, .int .u32 0), (7, .int .u32 1)], [])] fun _ => none) env
theorem op_Lneed_3_ex : ∃ f : List Dat → Option (Nat × List Dat), ∀ env, f env = iterS st_Lneed_3 FU env := ⟨iterS st_Lneed_3 FU, fun _ => rfl⟩
noncomputable def op_Lneed_3 : List Dat → Option (Nat × List Dat) := Classical.choose op_Lneed_3_ex
theorem op_Lneed_3_eq (env : List Dat) : op_Lneed_3 env = iterS st_Lneed_3 FU env := Classical.choose_spec op_Lneed_3_ex env
noncomputable def Lneed_3 : MBox := mkM 0 [] [(sh 41 [(1, .int .u64 0), (2, .ptr 0 0), (6, .int .u32 1), (7, .int .u32 2), (8, .int .i64 3)], [mkB 4])] [] [(.exit 0, sh 41 [(6, .int .u32 0), (7, .int .u32 1)], [])] op_Lneed_3
theorem Lneed_3_eqs : Lneed_3 = mkM 0 [] [(sh 41 [(1, .int .u64 0), (2, .ptr 0 0), (6, .int .u32 1), (7, .int .u32 2), (8, .int .i64 3)], [mkB 4])] [] [(.exit 0, sh 41 [(6, .int .u32 0), (7, .int .u32 1)], [])] (iterS st_Lneed_3 FU) := congrArg (fun f => mkM 0 [] [(sh 41 [(1, .int .u64 0), (2, .ptr 0 0), (6, .int .u32 1), (7, .int .u32 2), (8, .int .i64 3)], [mkB 4])] [] [(.exit 0, sh 41 [(6, .int .u32 0), (7, .int .u32 1)], [])] f) (funext op_Lneed_3_eq)
theorem Lneed_3_run : ∀ t s x, (manyRun Lneed_3 t s).sel = some x → CodeOk Try.prog 0 (.loop (cAt Try.prog 11 3)) t s x := by
  rw [Lneed_3_eqs]
  exact mkM_ok (st := st_Lneed_3) (m := FU) cs_29_ok hmix false (LsOk.none _ _ _) (by kernel_rfl) (fun env y h => by rw [← stepMC_lk]; exact h)
theorem op_Lneed_3_good {p : Nat × List Dat → Prop} (Inv : List Dat → Prop) (μ : List Dat → Nat) (h : ∀ env, Inv env → Good (fun y => match y with | .go e => Inv e ∧ μ e < μ env | .stop k d => p (k, d)) (st_Lneed_3 env).sel) (env : List Dat) (hi : Inv env) (hm : μ env < FU) : Good p (op_Lneed_3 env) := by
  rw [op_Lneed_3_eq]
  exact iterS_good Inv μ p h FU env hi hm

noncomputable def fn_Lneed_3_t : List Dat → Tree Step
  | [.n n0, .n n1, .n n2, .n n3, .l (Ty.pair (Ty.int IntKind.u64) (Ty.pair (Ty.int IntKind.u64) (Ty.pair (Ty.int IntKind.u64) (Ty.pair (Ty.int IntKind.u32) (Ty.pair (Ty.int IntKind.u32) (Ty.int IntKind.u64)))))) l4] =>
    (.node (decide (n3 < (↑(List.length l4) : Int)))
     (.node (decide (n3 < (64 : Int)))
      (let r1 : Option (Nat × List Dat) := (op_11 [.n n0, .n n3]);
       (.node (isK 0 [HK.b] r1)
        (.node (gb (dOf r1) 0)
         (.leaf (Step.go [.k 0, .n n0, .n (ior IntKind.u32 n1 (Prod.fst (Prod.snd (Prod.snd (Prod.snd (List.getD l4 (Int.toNat n3) (Ty.dflt TMr))))))), .n (ior IntKind.u32 n2 (Prod.fst (Prod.snd (Prod.snd (Prod.snd (Prod.snd (List.getD l4 (Int.toNat n3) (Ty.dflt TMr)))))))), .n (IntKind.wrap .i64 (n3 + (1 : Int))), .l TMr l4, .n (0 : Int), .n (0 : Int), .n (0 : Int)]))
         (.leaf (Step.go [.k 0, .n n0, .n n1, .n n2, .n (IntKind.wrap .i64 (n3 + (1 : Int))), .l TMr l4, .n (0 : Int), .n (0 : Int), .n (0 : Int)])))
        (.bad 351)))
      (.leaf (Step.stop 0 [.n n1, .n n2])))
     (.leaf (Step.stop 0 [.n n1, .n n2])))
  | _ => .bad 0
theorem fn_Lneed_3_t_im (n0 : Int) (n1 : Int) (n2 : Int) (n3 : Int) (l4 : List (Ty.den TMr)) (g0 : 0 ≤ n3) : Imp (fn_Lneed_3_t [.n n0, .n n1, .n n2, .n n3, .l TMr l4]) (st_Lneed_3 [.k 0, .n n0, .n n1, .n n2, .n n3, .l TMr l4, .n 0, .n 0, .n 0]) :=
(.path [1] (by kernel_rfl)
(.node (by kernel_rfl) (by kernel_rfl) (fun h0 =>
(.node (by kernel_rfl) (by kernel_rfl) (fun h1 =>
(.node (by kernel_rfl) (by kernel_rfl) (fun h2 =>
(.path [1] (by kernel_rfl)
(.node (by kernel_rfl) (by kernel_rfl) (fun h3 =>
(.pt (c := (inR n3 (List.length l4))) (by kernel_rfl) (by kernel_rfl) (by (simp only [w64d, decide_eq_true_eq, decide_eq_false_iff_not, beq_iff_eq, beq_eq_false_iff_ne, bne_iff_ne, ne_eq, inR, Bool.and_eq_true, Bool.and_eq_false_iff, Bool.not_eq_true', Bool.not_eq_false', Bool.not_eq_eq_eq_not, Bool.not_true, Bool.not_false] at *; omega))
(.pt (c := (inR n3 (List.length l4))) (by kernel_rfl) (by kernel_rfl) (by (simp only [w64d, decide_eq_true_eq, decide_eq_false_iff_not, beq_iff_eq, beq_eq_false_iff_ne, bne_iff_ne, ne_eq, inR, Bool.and_eq_true, Bool.and_eq_false_iff, Bool.not_eq_true', Bool.not_eq_false', Bool.not_eq_eq_eq_not, Bool.not_true, Bool.not_false] at *; omega))
(.path [1] (by kernel_rfl)
(.leaf (by kernel_rfl)))))) (fun h3 =>
(.path [1] (by kernel_rfl)
(.leaf (by kernel_rfl))))))) (fun h2 =>
.none))) (fun h1 =>
(.path [1] (by kernel_rfl)
(.leaf (by kernel_rfl)))))) (fun h0 =>
(.path [0,0,1] (by kernel_rfl)
(.leaf (by kernel_rfl))))))

theorem ls_need_ok : LsOk Try.prog (List.length ([] : List PB)) (lsM [(3, Lneed_3)] (List.length ([] : List PB))) (bodyOf Try.prog 11) := LsOk.many fun j B hB hk c hc hi => by
  simp only [lookM] at hB
  split at hB
  · rename_i e; have := Nat.eq_of_beq_eq_true e; subst this; cases hB
    have e1 : loopAt Try.prog 11 3 = [cAt Try.prog 11 3] := loopAt_one (by kernel_rfl)
    have e2 : c ∈ loopAt Try.prog 11 3 := loopsAt_mem hc hi
    rw [e1] at e2; cases List.mem_singleton.1 e2; exact Lneed_3_run
  cases hB

noncomputable def ev_need (env : List Dat) : Tree (Nat × List Dat) := Lk.boxC false LK cs_29 11 (lsM [(3, Lneed_3)] (List.length ([] : List PB))) (mkF [mkV 0, .int .u64 4] [] [] [(.tup [.int .u32 0, .int .u32 1], [])] fun _ => none) env
theorem op_need_ex : ∃ f : List Dat → Option (Nat × List Dat), ∀ env, f env = (ev_need env).sel := ⟨fun env => (ev_need env).sel, fun _ => rfl⟩
noncomputable def op_need : List Dat → Option (Nat × List Dat) := Classical.choose op_need_ex
theorem op_need_eq (env : List Dat) : op_need env = (ev_need env).sel := Classical.choose_spec op_need_ex env
noncomputable def Bneed : FBox := mkF [mkV 0, .int .u64 4] [] [] [(.tup [.int .u32 0, .int .u32 1], [])] op_need
theorem Bneed_ok : RunOk Try.prog 11 (boxRun Bneed) := mkF_ok (op := op_need) cs_29_ok hmix false (ls_need_ok) (fun env x h => by rw [op_need_eq] at h; rw [← boxC_lk]; exact h)
theorem op_need_good {p : Nat × List Dat → Prop} {T : Tree (Nat × List Dat)} {env : List Dat} (h : Imp T (ev_need env)) (g : Good p T.sel) : Good p (op_need env) := by
  rw [op_need_eq]
  exact h.good g

noncomputable def fn_need_t : List Dat → Tree (Nat × List Dat)
  | [.l (Ty.pair (Ty.int IntKind.u64) (Ty.pair (Ty.int IntKind.u64) (Ty.pair (Ty.int IntKind.u64) (Ty.pair (Ty.int IntKind.u32) (Ty.pair (Ty.int IntKind.u32) (Ty.int IntKind.u64)))))) l0, .n n1, .n n2, .n n3, .n n4] =>
    (let r1 : Option (Nat × List Dat) := (op_Lneed_3 [.k 0, .n n4, .n (0 : Int), .n (0 : Int), .n (0 : Int), .l TMr l0, .n n1, .n n2, .n n3]);
     (.node (isK 0 [HK.n, HK.n] r1)
      (.leaf ((0, [.n (gn (dOf r1) 0), .n (gn (dOf r1) 1)])))
      (.bad 351)))
  | _ => .bad 0
theorem fn_need_t_im (l0 : List (Ty.den TMr)) (n1 : Int) (n2 : Int) (n3 : Int) (n4 : Int) : Imp (fn_need_t [.l TMr l0, .n n1, .n n2, .n n3, .n n4]) (ev_need [.l TMr l0, .n n1, .n n2, .n n3, .n n4]) :=
(.node (by kernel_rfl) (by kernel_rfl) (fun h0 =>
(.path [1] (by kernel_rfl)
(.leaf (by kernel_rfl)))) (fun h0 =>
.none))

noncomputable def cs_need : FuncId → Option CSpec := csLend 11 Bneed cs_29
theorem cs_need_ok : CsOk Try.prog cs_need := csLend_ok cs_29_ok Bneed_ok

noncomputable def st_Lclash_3 (env : List Dat) : Tree Step := Lk.stepMC false LK cs_need 13 3 ls0 (mkM 0 [] [(sh 30 [(1, .int .u64 0), (2, .ptr 0 0), (5, .int .u64 1), (6, .int .i64 2)], [mkB 3])] [] [(.exit 0, sh 30 [(5, .int .u64 0)], [])] fun _ => none) env
theorem op_Lclash_3_ex : ∃ f : List Dat → Option (Nat × List Dat), ∀ env, f env = iterS st_Lclash_3 FU env := ⟨iterS st_Lclash_3 FU, fun _ => rfl⟩
noncomputable def op_Lclash_3 : List Dat → Option (Nat × List Dat) := Classical.choose op_Lclash_3_ex
theorem op_Lclash_3_eq (env : List Dat) : op_Lclash_3 env = iterS st_Lclash_3 FU env := Classical.choose_spec op_Lclash_3_ex env
noncomputable def Lclash_3 : MBox := mkM 0 [] [(sh 30 [(1, .int .u64 0), (2, .ptr 0 0), (5, .int .u64 1), (6, .int .i64 2)], [mkB 3])] [] [(.exit 0, sh 30 [(5, .int .u64 0)], [])] op_Lclash_3
theorem Lclash_3_eqs : Lclash_3 = mkM 0 [] [(sh 30 [(1, .int .u64 0), (2, .ptr 0 0), (5, .int .u64 1), (6, .int .i64 2)], [mkB 3])] [] [(.exit 0, sh 30 [(5, .int .u64 0)], [])] (iterS st_Lclash_3 FU) := congrArg (fun f => mkM 0 [] [(sh 30 [(1, .int .u64 0), (2, .ptr 0 0), (5, .int .u64 1), (6, .int .i64 2)], [mkB 3])] [] [(.exit 0, sh 30 [(5, .int .u64 0)], [])] f) (funext op_Lclash_3_eq)
theorem Lclash_3_run : ∀ t s x, (manyRun Lclash_3 t s).sel = some x → CodeOk Try.prog 0 (.loop (cAt Try.prog 13 3)) t s x := by
  rw [Lclash_3_eqs]
  exact mkM_ok (st := st_Lclash_3) (m := FU) cs_need_ok hmix false (LsOk.none _ _ _) (by kernel_rfl) (fun env y h => by rw [← stepMC_lk]; exact h)
theorem op_Lclash_3_good {p : Nat × List Dat → Prop} (Inv : List Dat → Prop) (μ : List Dat → Nat) (h : ∀ env, Inv env → Good (fun y => match y with | .go e => Inv e ∧ μ e < μ env | .stop k d => p (k, d)) (st_Lclash_3 env).sel) (env : List Dat) (hi : Inv env) (hm : μ env < FU) : Good p (op_Lclash_3 env) := by
  rw [op_Lclash_3_eq]
  exact iterS_good Inv μ p h FU env hi hm

noncomputable def fn_Lclash_3_t : List Dat → Tree Step
  | [.n n0, .n n1, .n n2, .l (Ty.pair (Ty.int IntKind.u64) (Ty.pair (Ty.int IntKind.u64) (Ty.pair (Ty.int IntKind.u64) (Ty.pair (Ty.int IntKind.u32) (Ty.pair (Ty.int IntKind.u32) (Ty.int IntKind.u64)))))) l3] =>
    (.node (decide (n2 < (↑(List.length l3) : Int)))
     (.node (decide (n2 < (64 : Int)))
      (let r1 : Option (Nat × List Dat) := (op_11 [.n n0, .n n2]);
       (.node (isK 0 [HK.b] r1)
        (.node (gb (dOf r1) 0)
         (.leaf (Step.go [.k 0, .n n0, .n (ior IntKind.u64 n1 (Prod.snd (Prod.snd (Prod.snd (Prod.snd (Prod.snd (List.getD l3 (Int.toNat n2) (Ty.dflt TMr)))))))), .n (IntKind.wrap .i64 (n2 + (1 : Int))), .l TMr l3, .n (0 : Int), .n (0 : Int), .n (0 : Int)]))
         (.leaf (Step.go [.k 0, .n n0, .n n1, .n (IntKind.wrap .i64 (n2 + (1 : Int))), .l TMr l3, .n (0 : Int), .n (0 : Int), .n (0 : Int)])))
        (.bad 351)))
      (.leaf (Step.stop 0 [.n n1])))
     (.leaf (Step.stop 0 [.n n1])))
  | _ => .bad 0
theorem fn_Lclash_3_t_im (n0 : Int) (n1 : Int) (n2 : Int) (l3 : List (Ty.den TMr)) (g0 : 0 ≤ n2) : Imp (fn_Lclash_3_t [.n n0, .n n1, .n n2, .l TMr l3]) (st_Lclash_3 [.k 0, .n n0, .n n1, .n n2, .l TMr l3, .n 0, .n 0, .n 0]) :=
(.path [1] (by kernel_rfl)
(.node (by kernel_rfl) (by kernel_rfl) (fun h0 =>
(.node (by kernel_rfl) (by kernel_rfl) (fun h1 =>
(.node (by kernel_rfl) (by kernel_rfl) (fun h2 =>
(.path [1] (by kernel_rfl)
(.node (by kernel_rfl) (by kernel_rfl) (fun h3 =>
(.pt (c := (inR n2 (List.length l3))) (by kernel_rfl) (by kernel_rfl) (by (simp only [w64d, decide_eq_true_eq, decide_eq_false_iff_not, beq_iff_eq, beq_eq_false_iff_ne, bne_iff_ne, ne_eq, inR, Bool.and_eq_true, Bool.and_eq_false_iff, Bool.not_eq_true', Bool.not_eq_false', Bool.not_eq_eq_eq_not, Bool.not_true, Bool.not_false] at *; omega))
(.path [1] (by kernel_rfl)
(.leaf (by kernel_rfl))))) (fun h3 =>
(.path [1] (by kernel_rfl)
(.leaf (by kernel_rfl))))))) (fun h2 =>
.none))) (fun h1 =>
(.path [1] (by kernel_rfl)
(.leaf (by kernel_rfl)))))) (fun h0 =>
(.path [0,0,1] (by kernel_rfl)
(.leaf (by kernel_rfl))))))

theorem ls_clash_ok : LsOk Try.prog (List.length ([] : List PB)) (lsM [(3, Lclash_3)] (List.length ([] : List PB))) (bodyOf Try.prog 13) := LsOk.many fun j B hB hk c hc hi => by
  simp only [lookM] at hB
  split at hB
  · rename_i e; have := Nat.eq_of_beq_eq_true e; subst this; cases hB
    have e1 : loopAt Try.prog 13 3 = [cAt Try.prog 13 3] := loopAt_one (by kernel_rfl)
    have e2 : c ∈ loopAt Try.prog 13 3 := loopsAt_mem hc hi
    rw [e1] at e2; cases List.mem_singleton.1 e2; exact Lclash_3_run
  cases hB

noncomputable def ev_clash (env : List Dat) : Tree (Nat × List Dat) := Lk.boxC false LK cs_need 13 (lsM [(3, Lclash_3)] (List.length ([] : List PB))) (mkF [mkV 0, .int .u64 4] [] [] [(.int .u64 0, [])] fun _ => none) env
theorem op_clash_ex : ∃ f : List Dat → Option (Nat × List Dat), ∀ env, f env = (ev_clash env).sel := ⟨fun env => (ev_clash env).sel, fun _ => rfl⟩
noncomputable def op_clash : List Dat → Option (Nat × List Dat) := Classical.choose op_clash_ex
theorem op_clash_eq (env : List Dat) : op_clash env = (ev_clash env).sel := Classical.choose_spec op_clash_ex env
noncomputable def Bclash : FBox := mkF [mkV 0, .int .u64 4] [] [] [(.int .u64 0, [])] op_clash
theorem Bclash_ok : RunOk Try.prog 13 (boxRun Bclash) := mkF_ok (op := op_clash) cs_need_ok hmix false (ls_clash_ok) (fun env x h => by rw [op_clash_eq] at h; rw [← boxC_lk]; exact h)
theorem op_clash_good {p : Nat × List Dat → Prop} {T : Tree (Nat × List Dat)} {env : List Dat} (h : Imp T (ev_clash env)) (g : Good p T.sel) : Good p (op_clash env) := by
  rw [op_clash_eq]
  exact h.good g

noncomputable def fn_clash_t : List Dat → Tree (Nat × List Dat)
  | [.l (Ty.pair (Ty.int IntKind.u64) (Ty.pair (Ty.int IntKind.u64) (Ty.pair (Ty.int IntKind.u64) (Ty.pair (Ty.int IntKind.u32) (Ty.pair (Ty.int IntKind.u32) (Ty.int IntKind.u64)))))) l0, .n n1, .n n2, .n n3, .n n4] =>
    (let r1 : Option (Nat × List Dat) := (op_Lclash_3 [.k 0, .n n4, .n (0 : Int), .n (0 : Int), .l TMr l0, .n n1, .n n2, .n n3]);
     (.node (isK 0 [HK.n] r1)
      (.leaf ((0, [.n (gn (dOf r1) 0)])))
      (.bad 351)))
  | _ => .bad 0
theorem fn_clash_t_im (l0 : List (Ty.den TMr)) (n1 : Int) (n2 : Int) (n3 : Int) (n4 : Int) : Imp (fn_clash_t [.l TMr l0, .n n1, .n n2, .n n3, .n n4]) (ev_clash [.l TMr l0, .n n1, .n n2, .n n3, .n n4]) :=
(.node (by kernel_rfl) (by kernel_rfl) (fun h0 =>
(.path [1] (by kernel_rfl)
(.leaf (by kernel_rfl)))) (fun h0 =>
.none))

noncomputable def cs_clash : FuncId → Option CSpec := csLend 13 Bclash cs_need
theorem cs_clash_ok : CsOk Try.prog cs_clash := csLend_ok cs_need_ok Bclash_ok

noncomputable def st_L4_5 (env : List Dat) : Tree Step := Lk.stepMC false LK cs_clash 4 5 ls0 (mkM (cv := [(5, [], 0, .own TMr)]) 0 [] [(sh 92 [(0, .imm TMr 0), (1, .int .u64 1), (5, .ptr 0 0), (6, .int .i64 2)], [mkO 3 1, .arr TMr 6])] [] [(.exit 0, sh 92 [(0, .imm TMr 0), (1, .int .u64 1), (5, .ptr 0 0)], [mkO 2 1, .arr TMr 5])] fun _ => none) env
theorem op_L4_5_ex : ∃ f : List Dat → Option (Nat × List Dat), ∀ env, f env = iterS st_L4_5 FU env := ⟨iterS st_L4_5 FU, fun _ => rfl⟩
noncomputable def op_L4_5 : List Dat → Option (Nat × List Dat) := Classical.choose op_L4_5_ex
theorem op_L4_5_eq (env : List Dat) : op_L4_5 env = iterS st_L4_5 FU env := Classical.choose_spec op_L4_5_ex env
noncomputable def L4_5 : MBox := mkM (cv := [(5, [], 0, .own TMr)]) 0 [] [(sh 92 [(0, .imm TMr 0), (1, .int .u64 1), (5, .ptr 0 0), (6, .int .i64 2)], [mkO 3 1, .arr TMr 6])] [] [(.exit 0, sh 92 [(0, .imm TMr 0), (1, .int .u64 1), (5, .ptr 0 0)], [mkO 2 1, .arr TMr 5])] op_L4_5
theorem L4_5_eqs : L4_5 = mkM (cv := [(5, [], 0, .own TMr)]) 0 [] [(sh 92 [(0, .imm TMr 0), (1, .int .u64 1), (5, .ptr 0 0), (6, .int .i64 2)], [mkO 3 1, .arr TMr 6])] [] [(.exit 0, sh 92 [(0, .imm TMr 0), (1, .int .u64 1), (5, .ptr 0 0)], [mkO 2 1, .arr TMr 5])] (iterS st_L4_5 FU) := congrArg (fun f => mkM (cv := [(5, [], 0, .own TMr)]) 0 [] [(sh 92 [(0, .imm TMr 0), (1, .int .u64 1), (5, .ptr 0 0), (6, .int .i64 2)], [mkO 3 1, .arr TMr 6])] [] [(.exit 0, sh 92 [(0, .imm TMr 0), (1, .int .u64 1), (5, .ptr 0 0)], [mkO 2 1, .arr TMr 5])] f) (funext op_L4_5_eq)
theorem L4_5_run : ∀ t s x, (manyRun L4_5 t s).sel = some x → CodeOk Try.prog 0 (.loop (cAt Try.prog 4 5)) t s x := by
  rw [L4_5_eqs]
  exact mkM_ok (st := st_L4_5) (m := FU) cs_clash_ok hmix false (LsOk.none _ _ _) (by kernel_rfl) (fun env y h => by rw [← stepMC_lk]; exact h)
theorem op_L4_5_good {p : Nat × List Dat → Prop} (Inv : List Dat → Prop) (μ : List Dat → Nat) (h : ∀ env, Inv env → Good (fun y => match y with | .go e => Inv e ∧ μ e < μ env | .stop k d => p (k, d)) (st_L4_5 env).sel) (env : List Dat) (hi : Inv env) (hm : μ env < FU) : Good p (op_L4_5 env) := by
  rw [op_L4_5_eq]
  exact iterS_good Inv μ p h FU env hi hm

noncomputable def fn_L4_5_t : List Dat → Tree Step
  | [.l (Ty.pair (Ty.int IntKind.u64) (Ty.pair (Ty.int IntKind.u64) (Ty.pair (Ty.int IntKind.u64) (Ty.pair (Ty.int IntKind.u32) (Ty.pair (Ty.int IntKind.u32) (Ty.int IntKind.u64)))))) l0, .n n1, .n n2, .l (Ty.pair (Ty.int IntKind.u64) (Ty.pair (Ty.int IntKind.u64) (Ty.pair (Ty.int IntKind.u64) (Ty.pair (Ty.int IntKind.u32) (Ty.pair (Ty.int IntKind.u32) (Ty.int IntKind.u64)))))) l3] =>
    (.node (decide (n2 < (↑(List.length l0) : Int)))
     (.node (decide ((List.length l3 + 1) * 40 ≤ 140737488355328))
      (.leaf (Step.go [.k 0, .l TMr l0, .n n1, .n (IntKind.wrap .i64 (n2 + (1 : Int))), .n (0 : Int), .n (0 : Int), .n (0 : Int), .l TMr (apM l3 (Prod.fst (List.getD l0 (Int.toNat n2) (Ty.dflt TMr)), Prod.fst (Prod.snd (List.getD l0 (Int.toNat n2) (Ty.dflt TMr))), Prod.fst (Prod.snd (Prod.snd (List.getD l0 (Int.toNat n2) (Ty.dflt TMr)))), Prod.fst (Prod.snd (Prod.snd (Prod.snd (List.getD l0 (Int.toNat n2) (Ty.dflt TMr))))), Prod.fst (Prod.snd (Prod.snd (Prod.snd (Prod.snd (List.getD l0 (Int.toNat n2) (Ty.dflt TMr)))))), Prod.snd (Prod.snd (Prod.snd (Prod.snd (Prod.snd (List.getD l0 (Int.toNat n2) (Ty.dflt TMr))))))))]))
      (.bad 62))
     (.leaf (Step.stop 0 [.l TMr l0, .n n1, .n (0 : Int), .n (0 : Int), .n (0 : Int), .l TMr l3])))
  | _ => .bad 0
theorem fn_L4_5_t_im (l0 : List (Ty.den TMr)) (n1 : Int) (n2 : Int) (l3 : List (Ty.den TMr)) (g0 : 0 ≤ n2) : Imp (fn_L4_5_t [.l TMr l0, .n n1, .n n2, .l TMr l3]) (st_L4_5 [.k 0, .l TMr l0, .n n1, .n n2, .n 0, .n 0, .n 0, .l TMr l3]) :=
(.path [1] (by kernel_rfl)
(.node (by kernel_rfl) (by kernel_rfl) (fun h0 =>
(.pt (c := (inR n2 (List.length l0))) (by kernel_rfl) (by kernel_rfl) (by (simp only [w64d, decide_eq_true_eq, decide_eq_false_iff_not, beq_iff_eq, beq_eq_false_iff_ne, bne_iff_ne, ne_eq, inR, Bool.and_eq_true, Bool.and_eq_false_iff, Bool.not_eq_true', Bool.not_eq_false', Bool.not_eq_eq_eq_not, Bool.not_true, Bool.not_false] at *; omega))
(.pt (c := (inR n2 (List.length l0))) (by kernel_rfl) (by kernel_rfl) (by (simp only [w64d, decide_eq_true_eq, decide_eq_false_iff_not, beq_iff_eq, beq_eq_false_iff_ne, bne_iff_ne, ne_eq, inR, Bool.and_eq_true, Bool.and_eq_false_iff, Bool.not_eq_true', Bool.not_eq_false', Bool.not_eq_eq_eq_not, Bool.not_true, Bool.not_false] at *; omega))
(.pt (c := (inR n2 (List.length l0))) (by kernel_rfl) (by kernel_rfl) (by (simp only [w64d, decide_eq_true_eq, decide_eq_false_iff_not, beq_iff_eq, beq_eq_false_iff_ne, bne_iff_ne, ne_eq, inR, Bool.and_eq_true, Bool.and_eq_false_iff, Bool.not_eq_true', Bool.not_eq_false', Bool.not_eq_eq_eq_not, Bool.not_true, Bool.not_false] at *; omega))
(.pt (c := (inR n2 (List.length l0))) (by kernel_rfl) (by kernel_rfl) (by (simp only [w64d, decide_eq_true_eq, decide_eq_false_iff_not, beq_iff_eq, beq_eq_false_iff_ne, bne_iff_ne, ne_eq, inR, Bool.and_eq_true, Bool.and_eq_false_iff, Bool.not_eq_true', Bool.not_eq_false', Bool.not_eq_eq_eq_not, Bool.not_true, Bool.not_false] at *; omega))
(.pt (c := (inR n2 (List.length l0))) (by kernel_rfl) (by kernel_rfl) (by (simp only [w64d, decide_eq_true_eq, decide_eq_false_iff_not, beq_iff_eq, beq_eq_false_iff_ne, bne_iff_ne, ne_eq, inR, Bool.and_eq_true, Bool.and_eq_false_iff, Bool.not_eq_true', Bool.not_eq_false', Bool.not_eq_eq_eq_not, Bool.not_true, Bool.not_false] at *; omega))
(.pt (c := (inR n2 (List.length l0))) (by kernel_rfl) (by kernel_rfl) (by (simp only [w64d, decide_eq_true_eq, decide_eq_false_iff_not, beq_iff_eq, beq_eq_false_iff_ne, bne_iff_ne, ne_eq, inR, Bool.and_eq_true, Bool.and_eq_false_iff, Bool.not_eq_true', Bool.not_eq_false', Bool.not_eq_eq_eq_not, Bool.not_true, Bool.not_false] at *; omega))
(.node (by kernel_rfl) (by kernel_rfl) (fun h1 =>
(.path [1,1] (by kernel_rfl)
(.leaf (by kernel_rfl)))) (fun h1 =>
.none))))))))) (fun h0 =>
(.path [1] (by kernel_rfl)
(.leaf (by kernel_rfl))))))

theorem ls_4_ok : LsOk Try.prog (0) (lsM [(5, L4_5)] (0)) (bodyOf Try.prog 4) := LsOk.many fun j B hB hk c hc hi => by
  simp only [lookM] at hB
  split at hB
  · rename_i e; have := Nat.eq_of_beq_eq_true e; subst this; cases hB
    have e1 : loopAt Try.prog 4 5 = [cAt Try.prog 4 5] := loopAt_one (by kernel_rfl)
    have e2 : c ∈ loopAt Try.prog 4 5 := loopsAt_mem hc hi
    rw [e1] at e2; cases List.mem_singleton.1 e2; exact L4_5_run
  cases hB

noncomputable def ev_W4 (env : List Dat) : Tree Bool := Lk.lawB false LK cs_clash 4 (lsM [(5, L4_5)] (0)) (instL [.imm TMr 0, .int .u64 1] env)

theorem W4_law (env : List Dat) (h : (ev_W4 env).sel = some true) {w : World} {args : Array Value} (ha : LRel R0 (snapOf w) (instL [.imm TMr 0, .int .u64 1] env) args) :
    Calls Try.prog 4 args w fun e w' => e = .returned (.bool true) ∧ Below w.heap.size w w' :=
  lawB_ok cs_clash_ok hmix false (ls := (lsM [(5, L4_5)] (0))) (ls_4_ok) (by rw [← lawB_lk]; exact h) ha

noncomputable def fn_W4_t : List Dat → Tree Bool
  | [.l (Ty.pair (Ty.int IntKind.u64) (Ty.pair (Ty.int IntKind.u64) (Ty.pair (Ty.int IntKind.u64) (Ty.pair (Ty.int IntKind.u32) (Ty.pair (Ty.int IntKind.u32) (Ty.int IntKind.u64)))))) l0, .n n1] =>
    (.node (decide ((↑(List.length l0) : Int) > (100 : Int)))
     (.leaf (true))
     (let r1 : Option (Nat × List Dat) := (op_L4_5 [.k 0, .l TMr l0, .n n1, .n (0 : Int), .n (0 : Int), .n (0 : Int), .n (0 : Int), .l TMr []]);
      (.node (isK 0 [HK.l TMr, HK.n, HK.n, HK.n, HK.n, HK.l TMr] r1)
       (let r2 : Option (Nat × List Dat) := (op_25a [.l TMr (gl TMr (dOf r1) 0), .n (gn (dOf r1) 1)]);
        (.node (isK 0 [HK.n] r2)
         (let r3 : Option (Nat × List Dat) := (op_25b [.l TMr (gl TMr (dOf r1) 0), .n (gn (dOf r1) 1)]);
          (.node (isK 0 [HK.n] r3)
           (let r4 : Option (Nat × List Dat) := (op_need [.l TMr (gl TMr (dOf r1) 5), .n (gn (dOf r1) 2), .n (gn (dOf r1) 3), .n (gn (dOf r1) 4), .n (gn (dOf r1) 1)]);
            (.node (isK 0 [HK.n, HK.n] r4)
             (.node (gn (dOf r2) 0 == gn (dOf r4) 0)
              (.node (gn (dOf r3) 0 == gn (dOf r4) 1)
               (let r5 : Option (Nat × List Dat) := (op_29 [.l TMr (gl TMr (dOf r1) 0), .n (gn (dOf r1) 1)]);
                (.node (isK 0 [HK.n] r5)
                 (let r6 : Option (Nat × List Dat) := (op_clash [.l TMr (gl TMr (dOf r1) 5), .n (gn (dOf r1) 2), .n (gn (dOf r1) 3), .n (gn (dOf r1) 4), .n (gn (dOf r1) 1)]);
                  (.node (isK 0 [HK.n] r6)
                   (.node (gn (dOf r5) 0 == gn (dOf r6) 0)
                    (.leaf (true))
                    (.leaf (false)))
                   (.bad 351)))
                 (.bad 351)))
               (.leaf (false)))
              (.leaf (false)))
             (.bad 351)))
           (.bad 351)))
         (.bad 351)))
       (.bad 351))))
  | _ => .bad 0
theorem fn_W4_t_im (l0 : List (Ty.den TMr)) (n1 : Int) : Imp (fn_W4_t [.l TMr l0, .n n1]) (ev_W4 [.l TMr l0, .n n1]) :=
(.node (by kernel_rfl) (by kernel_rfl) (fun h0 =>
(.path [1,1,1] (by kernel_rfl)
(.leaf (by kernel_rfl)))) (fun h0 =>
(.node (by kernel_rfl) (by kernel_rfl) (fun h1 =>
(.path [1,1] (by kernel_rfl)
(.node (by kernel_rfl) (by kernel_rfl) (fun h2 =>
(.path [1,1] (by kernel_rfl)
(.node (by kernel_rfl) (by kernel_rfl) (fun h3 =>
(.path [1,1,1] (by kernel_rfl)
(.node (by kernel_rfl) (by kernel_rfl) (fun h4 =>
(.path [1] (by kernel_rfl)
(.node (by kernel_rfl) (by kernel_rfl) (fun h5 =>
(.node (by kernel_rfl) (by kernel_rfl) (fun h6 =>
(.path [1,1] (by kernel_rfl)
(.node (by kernel_rfl) (by kernel_rfl) (fun h7 =>
(.path [1,1] (by kernel_rfl)
(.node (by kernel_rfl) (by kernel_rfl) (fun h8 =>
(.path [1] (by kernel_rfl)
(.node (by kernel_rfl) (by kernel_rfl) (fun h9 =>
(.path [1,1,1,1] (by kernel_rfl)
(.leaf (by kernel_rfl)))) (fun h9 =>
(.path [0,1] (by kernel_rfl)
(.leaf (by kernel_rfl))))))) (fun h8 =>
.none)))) (fun h7 =>
.none)))) (fun h6 =>
(.path [0,0,0,1] (by kernel_rfl)
(.leaf (by kernel_rfl)))))) (fun h5 =>
(.path [0,0,0,0,0,1] (by kernel_rfl)
(.leaf (by kernel_rfl))))))) (fun h4 =>
.none)))) (fun h3 =>
.none)))) (fun h2 =>
.none)))) (fun h1 =>
.none))))
end Go.Proofs.Ytjngnkedennjdaa.Vx
