import Derived.Test.YtpkmihelefkphaaVxIm
import Derived.Test.YtpkmihelefkphaaVxLk
import Derived.Test.YtpkmihelefkphaaVxLaw
import Derived.Test.YtpkmihelefkphaaX03a
import Derived.KernelRfl
namespace Go.Proofs.Ytpkmihelefkphaa.Vx
open Go Go.RowKit
set_option linter.unusedVariables false
set_option linter.unusedSimpArgs false
set_option maxRecDepth 100000
set_option maxHeartbeats 0

abbrev TS : Ty := .str
noncomputable def ev_10 (env : List Dat) : Tree (Nat × List Dat) := Lk.boxC false LK cs_12 10 ls0 (mkF [.int .i32 0] [] [] [(.bool 0, [])] fun _ => none) env
theorem op_10_ex : ∃ f : List Dat → Option (Nat × List Dat), ∀ env, f env = (ev_10 env).sel := ⟨fun env => (ev_10 env).sel, fun _ => rfl⟩
noncomputable def op_10 : List Dat → Option (Nat × List Dat) := Classical.choose op_10_ex
theorem op_10_eq (env : List Dat) : op_10 env = (ev_10 env).sel := Classical.choose_spec op_10_ex env
noncomputable def B10 : FBox := mkF [.int .i32 0] [] [] [(.bool 0, [])] op_10
theorem B10_ok : RunOk Try.prog 10 (boxRun B10) := mkF_ok (op := op_10) cs_12_ok hmix false (LsOk.none _ _ _) (fun env x h => by rw [op_10_eq] at h; rw [← boxC_lk]; exact h)
theorem op_10_good {p : Nat × List Dat → Prop} {T : Tree (Nat × List Dat)} {env : List Dat} (h : Imp T (ev_10 env)) (g : Good p T.sel) : Good p (op_10 env) := by
  rw [op_10_eq]
  exact h.good g

noncomputable def fn_10_t : List Dat → Tree (Nat × List Dat)
  | [.n n0] =>
    (.node (n0 == (58 : Int))
     (.leaf ((0, [.b false])))
     (.node (n0 == (35 : Int))
      (.leaf ((0, [.b false])))
      (.node (n0 == (43 : Int))
       (.leaf ((0, [.b false])))
       (.node (n0 == (45 : Int))
        (.leaf ((0, [.b false])))
        (.node (n0 == (65533 : Int))
         (.leaf ((0, [.b false])))
         (.node (decide (n0 > (32 : Int)))
          (.node (decide (n0 < (127 : Int)))
           (.leaf ((0, [.b true])))
           (.leaf ((0, [.b (decide (n0 > (160 : Int)))]))))
          (.leaf ((0, [.b false])))))))))
  | _ => .bad 0
theorem fn_10_t_im (n0 : Int) : Imp (fn_10_t [.n n0]) (ev_10 [.n n0]) :=
(.node (by kernel_rfl) (by kernel_rfl) (fun h0 =>
(.pt (by kernel_rfl) (by kernel_rfl) h0
(.path [1] (by kernel_rfl)
(.leaf (by kernel_rfl))))) (fun h0 =>
(.node (by kernel_rfl) (by kernel_rfl) (fun h1 =>
(.pt (by kernel_rfl) (by kernel_rfl) h1
(.path [1] (by kernel_rfl)
(.leaf (by kernel_rfl))))) (fun h1 =>
(.node (by kernel_rfl) (by kernel_rfl) (fun h2 =>
(.pt (by kernel_rfl) (by kernel_rfl) h2
(.path [1] (by kernel_rfl)
(.leaf (by kernel_rfl))))) (fun h2 =>
(.node (by kernel_rfl) (by kernel_rfl) (fun h3 =>
(.pt (by kernel_rfl) (by kernel_rfl) h3
(.path [1] (by kernel_rfl)
(.leaf (by kernel_rfl))))) (fun h3 =>
(.node (by kernel_rfl) (by kernel_rfl) (fun h4 =>
(.path [1] (by kernel_rfl)
(.leaf (by kernel_rfl)))) (fun h4 =>
(.node (by kernel_rfl) (by kernel_rfl) (fun h5 =>
(.node (by kernel_rfl) (by kernel_rfl) (fun h6 =>
(.path [1,1] (by kernel_rfl)
(.leaf (by kernel_rfl)))) (fun h6 =>
(.path [1] (by kernel_rfl)
(.leaf (by kernel_rfl)))))) (fun h5 =>
(.path [0,1] (by kernel_rfl)
(.leaf (by kernel_rfl)))))))))))))))

noncomputable def cs_10 : FuncId → Option CSpec := csLend 10 B10 cs_12
theorem cs_10_ok : CsOk Try.prog cs_10 := csLend_ok cs_12_ok B10_ok

noncomputable def ev_11 (env : List Dat) : Tree (Nat × List Dat) := Lk.boxC false LK cs_10 11 ls0 (mkF [.int .i32 0] [] [] [(.bool 0, [])] fun _ => none) env
theorem op_11_ex : ∃ f : List Dat → Option (Nat × List Dat), ∀ env, f env = (ev_11 env).sel := ⟨fun env => (ev_11 env).sel, fun _ => rfl⟩
noncomputable def op_11 : List Dat → Option (Nat × List Dat) := Classical.choose op_11_ex
theorem op_11_eq (env : List Dat) : op_11 env = (ev_11 env).sel := Classical.choose_spec op_11_ex env
noncomputable def B11 : FBox := mkF [.int .i32 0] [] [] [(.bool 0, [])] op_11
theorem B11_ok : RunOk Try.prog 11 (boxRun B11) := mkF_ok (op := op_11) cs_10_ok hmix false (LsOk.none _ _ _) (fun env x h => by rw [op_11_eq] at h; rw [← boxC_lk]; exact h)
theorem op_11_good {p : Nat × List Dat → Prop} {T : Tree (Nat × List Dat)} {env : List Dat} (h : Imp T (ev_11 env)) (g : Good p T.sel) : Good p (op_11 env) := by
  rw [op_11_eq]
  exact h.good g

noncomputable def fn_11_t : List Dat → Tree (Nat × List Dat)
  | [.n n0] =>
    (.node (decide (n0 ≥ (33 : Int)))
     (.node (n0 != (58 : Int))
      (.node (n0 != (35 : Int))
       (.node (n0 != (43 : Int))
        (.node (n0 != (45 : Int))
         (.node (n0 != (65533 : Int))
          (.node (decide (n0 < (127 : Int)))
           (.leaf ((0, [.b true])))
           (.leaf ((0, [.b (decide (n0 > (160 : Int)))]))))
          (.leaf ((0, [.b false]))))
         (.leaf ((0, [.b false]))))
        (.leaf ((0, [.b false]))))
       (.leaf ((0, [.b false]))))
      (.leaf ((0, [.b false]))))
     (.leaf ((0, [.b false]))))
  | _ => .bad 0
theorem fn_11_t_im (n0 : Int) : Imp (fn_11_t [.n n0]) (ev_11 [.n n0]) :=
(.node (by kernel_rfl) (by kernel_rfl) (fun h0 =>
(.node (by kernel_rfl) (by kernel_rfl) (fun h1 =>
(.node (by kernel_rfl) (by kernel_rfl) (fun h2 =>
(.node (by kernel_rfl) (by kernel_rfl) (fun h3 =>
(.node (by kernel_rfl) (by kernel_rfl) (fun h4 =>
(.node (by kernel_rfl) (by kernel_rfl) (fun h5 =>
(.node (by kernel_rfl) (by kernel_rfl) (fun h6 =>
(.path [1,1] (by kernel_rfl)
(.leaf (by kernel_rfl)))) (fun h6 =>
(.path [1] (by kernel_rfl)
(.leaf (by kernel_rfl)))))) (fun h5 =>
(.path [0,1] (by kernel_rfl)
(.leaf (by kernel_rfl)))))) (fun h4 =>
(.path [0,0,0,1] (by kernel_rfl)
(.leaf (by kernel_rfl)))))) (fun h3 =>
(.path [0,0,0,0,0,1] (by kernel_rfl)
(.leaf (by kernel_rfl)))))) (fun h2 =>
(.path [0,0,0,0,0,0,0,1] (by kernel_rfl)
(.leaf (by kernel_rfl)))))) (fun h1 =>
(.path [0,0,0,0,0,0,0,0,0,1] (by kernel_rfl)
(.leaf (by kernel_rfl)))))) (fun h0 =>
(.path [0,0,0,0,0,0,0,0,0,0,0,1] (by kernel_rfl)
(.leaf (by kernel_rfl)))))

noncomputable def cs_11 : FuncId → Option CSpec := csLend 11 B11 cs_10
theorem cs_11_ok : CsOk Try.prog cs_11 := csLend_ok cs_10_ok B11_ok

noncomputable def st_L13_3 (env : List Dat) : Tree Step := Lk.stepMC false LK cs_11 13 3 ls0 (mkM 0 [] [(sh 22 [(0, .str 0), (3, .int .i64 1), (7, .itr 0)], [.iter 2 3])] [] [(.exit 0, sh 22 [(3, .int .i64 0)], []), (.ret, sh 22 [(2, .bool 0)], [])] fun _ => none) env
theorem op_L13_3_ex : ∃ f : List Dat → Option (Nat × List Dat), ∀ env, f env = iterS st_L13_3 FU env := ⟨iterS st_L13_3 FU, fun _ => rfl⟩
noncomputable def op_L13_3 : List Dat → Option (Nat × List Dat) := Classical.choose op_L13_3_ex
theorem op_L13_3_eq (env : List Dat) : op_L13_3 env = iterS st_L13_3 FU env := Classical.choose_spec op_L13_3_ex env
noncomputable def L13_3 : MBox := mkM 0 [] [(sh 22 [(0, .str 0), (3, .int .i64 1), (7, .itr 0)], [.iter 2 3])] [] [(.exit 0, sh 22 [(3, .int .i64 0)], []), (.ret, sh 22 [(2, .bool 0)], [])] op_L13_3
theorem L13_3_eqs : L13_3 = mkM 0 [] [(sh 22 [(0, .str 0), (3, .int .i64 1), (7, .itr 0)], [.iter 2 3])] [] [(.exit 0, sh 22 [(3, .int .i64 0)], []), (.ret, sh 22 [(2, .bool 0)], [])] (iterS st_L13_3 FU) := congrArg (fun f => mkM 0 [] [(sh 22 [(0, .str 0), (3, .int .i64 1), (7, .itr 0)], [.iter 2 3])] [] [(.exit 0, sh 22 [(3, .int .i64 0)], []), (.ret, sh 22 [(2, .bool 0)], [])] f) (funext op_L13_3_eq)
theorem L13_3_run : ∀ t s x, (manyRun L13_3 t s).sel = some x → CodeOk Try.prog 0 (.loop (cAt Try.prog 13 3)) t s x := by
  rw [L13_3_eqs]
  exact mkM_ok (st := st_L13_3) (m := FU) cs_11_ok hmix false (LsOk.none _ _ _) (by kernel_rfl) (fun env y h => by rw [← stepMC_lk]; exact h)
theorem op_L13_3_good {p : Nat × List Dat → Prop} (Inv : List Dat → Prop) (μ : List Dat → Nat) (h : ∀ env, Inv env → Good (fun y => match y with | .go e => Inv e ∧ μ e < μ env | .stop k d => p (k, d)) (st_L13_3 env).sel) (env : List Dat) (hi : Inv env) (hm : μ env < FU) : Good p (op_L13_3 env) := by
  rw [op_L13_3_eq]
  exact iterS_good Inv μ p h FU env hi hm

noncomputable def fn_L13_3_t : List Dat → Tree Step
  | [.s s0, .n n1, .n n2] =>
    (.node (decide (n2 < (↑(ByteArray.size s0) : Int)))
     (.node (decide (IntKind.wrap .i64 (n1 + (1 : Int)) > (16 : Int)))
      (.leaf (Step.stop 1 [.b false]))
      (let r1 : Option (Nat × List Dat) := (op_10 [.n (decC s0 n2)]);
       (.node (isK 0 [HK.b] r1)
        (.node (!gb (dOf r1) 0)
         (.leaf (Step.stop 1 [.b false]))
         (.leaf (Step.go [.k 0, .s s0, .n (IntKind.wrap .i64 (n1 + (1 : Int))), .s s0, .n (n2 + decW s0 n2)])))
        (.bad 351))))
     (.leaf (Step.stop 0 [.n n1])))
  | _ => .bad 0
theorem fn_L13_3_t_im (s0 : ByteArray) (n1 : Int) (n2 : Int) : Imp (fn_L13_3_t [.s s0, .n n1, .n n2]) (st_L13_3 [.k 0, .s s0, .n n1, .s s0, .n n2]) :=
(.path [1] (by kernel_rfl)
(.node (by kernel_rfl) (by kernel_rfl) (fun h0 =>
(.path [1] (by kernel_rfl)
(.node (by kernel_rfl) (by kernel_rfl) (fun h1 =>
(.path [1,1,1] (by kernel_rfl)
(.leaf (by kernel_rfl)))) (fun h1 =>
(.node (by kernel_rfl) (by kernel_rfl) (fun h2 =>
(.path [1] (by kernel_rfl)
(.node (by kernel_rfl) (by kernel_rfl) (fun h3 =>
(.path [1] (by kernel_rfl)
(.leaf (by kernel_rfl)))) (fun h3 =>
(.path [1] (by kernel_rfl)
(.leaf (by kernel_rfl))))))) (fun h2 =>
.none)))))) (fun h0 =>
(.path [0,1] (by kernel_rfl)
(.leaf (by kernel_rfl))))))

theorem ls_13_ok : LsOk Try.prog (List.length ([] : List PB)) (lsM [(3, L13_3)] (List.length ([] : List PB))) (bodyOf Try.prog 13) := LsOk.many fun j B hB hk c hc hi => by
  simp only [lookM] at hB
  split at hB
  · rename_i e; have := Nat.eq_of_beq_eq_true e; subst this; cases hB
    have e1 : loopAt Try.prog 13 3 = [cAt Try.prog 13 3] := loopAt_one (by kernel_rfl)
    have e2 : c ∈ loopAt Try.prog 13 3 := loopsAt_mem hc hi
    rw [e1] at e2; cases List.mem_singleton.1 e2; exact L13_3_run
  cases hB

noncomputable def ev_13 (env : List Dat) : Tree (Nat × List Dat) := Lk.boxC false LK cs_11 13 (lsM [(3, L13_3)] (List.length ([] : List PB))) (mkF [.str 0] [] [] [(.bool 0, [])] fun _ => none) env
theorem op_13_ex : ∃ f : List Dat → Option (Nat × List Dat), ∀ env, f env = (ev_13 env).sel := ⟨fun env => (ev_13 env).sel, fun _ => rfl⟩
noncomputable def op_13 : List Dat → Option (Nat × List Dat) := Classical.choose op_13_ex
theorem op_13_eq (env : List Dat) : op_13 env = (ev_13 env).sel := Classical.choose_spec op_13_ex env
noncomputable def B13 : FBox := mkF [.str 0] [] [] [(.bool 0, [])] op_13
theorem B13_ok : RunOk Try.prog 13 (boxRun B13) := mkF_ok (op := op_13) cs_11_ok hmix false (ls_13_ok) (fun env x h => by rw [op_13_eq] at h; rw [← boxC_lk]; exact h)
theorem op_13_good {p : Nat × List Dat → Prop} {T : Tree (Nat × List Dat)} {env : List Dat} (h : Imp T (ev_13 env)) (g : Good p T.sel) : Good p (op_13 env) := by
  rw [op_13_eq]
  exact h.good g

noncomputable def fn_13_t : List Dat → Tree (Nat × List Dat)
  | [.s s0] =>
    (let r1 : Option (Nat × List Dat) := (op_L13_3 [.k 0, .s s0, .n (0 : Int), .s s0, .n (0 : Int)]);
     (.node (isK 0 [HK.n] r1)
      (.leaf ((0, [.b (decide (gn (dOf r1) 0 > (0 : Int)))])))
      (.node (isK 1 [HK.b] r1)
       (.leaf ((0, [.b (gb (dOf r1) 0)])))
       (.bad 351))))
  | _ => .bad 0
theorem fn_13_t_im (s0 : ByteArray) : Imp (fn_13_t [.s s0]) (ev_13 [.s s0]) :=
(.node (by kernel_rfl) (by kernel_rfl) (fun h0 =>
(.path [1] (by kernel_rfl)
(.leaf (by kernel_rfl)))) (fun h0 =>
(.node (by kernel_rfl) (by kernel_rfl) (fun h1 =>
(.path [1] (by kernel_rfl)
(.leaf (by kernel_rfl)))) (fun h1 =>
.none))))

noncomputable def cs_13 : FuncId → Option CSpec := csLend 13 B13 cs_11
theorem cs_13_ok : CsOk Try.prog cs_13 := csLend_ok cs_11_ok B13_ok

noncomputable def st_L14_3 (env : List Dat) : Tree Step := Lk.stepMC false LK cs_13 14 3 ls0 (mkM 0 [] [(sh 22 [(0, .str 0), (3, .int .i64 1), (7, .itr 0)], [.iter 2 3])] [] [(.exit 0, sh 22 [(3, .int .i64 0)], []), (.ret, sh 22 [(2, .bool 0)], [])] fun _ => none) env
theorem op_L14_3_ex : ∃ f : List Dat → Option (Nat × List Dat), ∀ env, f env = iterS st_L14_3 FU env := ⟨iterS st_L14_3 FU, fun _ => rfl⟩
noncomputable def op_L14_3 : List Dat → Option (Nat × List Dat) := Classical.choose op_L14_3_ex
theorem op_L14_3_eq (env : List Dat) : op_L14_3 env = iterS st_L14_3 FU env := Classical.choose_spec op_L14_3_ex env
noncomputable def L14_3 : MBox := mkM 0 [] [(sh 22 [(0, .str 0), (3, .int .i64 1), (7, .itr 0)], [.iter 2 3])] [] [(.exit 0, sh 22 [(3, .int .i64 0)], []), (.ret, sh 22 [(2, .bool 0)], [])] op_L14_3
theorem L14_3_eqs : L14_3 = mkM 0 [] [(sh 22 [(0, .str 0), (3, .int .i64 1), (7, .itr 0)], [.iter 2 3])] [] [(.exit 0, sh 22 [(3, .int .i64 0)], []), (.ret, sh 22 [(2, .bool 0)], [])] (iterS st_L14_3 FU) := congrArg (fun f => mkM 0 [] [(sh 22 [(0, .str 0), (3, .int .i64 1), (7, .itr 0)], [.iter 2 3])] [] [(.exit 0, sh 22 [(3, .int .i64 0)], []), (.ret, sh 22 [(2, .bool 0)], [])] f) (funext op_L14_3_eq)
theorem L14_3_run : ∀ t s x, (manyRun L14_3 t s).sel = some x → CodeOk Try.prog 0 (.loop (cAt Try.prog 14 3)) t s x := by
  rw [L14_3_eqs]
  exact mkM_ok (st := st_L14_3) (m := FU) cs_13_ok hmix false (LsOk.none _ _ _) (by kernel_rfl) (fun env y h => by rw [← stepMC_lk]; exact h)
theorem op_L14_3_good {p : Nat × List Dat → Prop} (Inv : List Dat → Prop) (μ : List Dat → Nat) (h : ∀ env, Inv env → Good (fun y => match y with | .go e => Inv e ∧ μ e < μ env | .stop k d => p (k, d)) (st_L14_3 env).sel) (env : List Dat) (hi : Inv env) (hm : μ env < FU) : Good p (op_L14_3 env) := by
  rw [op_L14_3_eq]
  exact iterS_good Inv μ p h FU env hi hm

noncomputable def fn_L14_3_t : List Dat → Tree Step
  | [.s s0, .n n1, .n n2] =>
    (.node (decide (n2 < (↑(ByteArray.size s0) : Int)))
     (let r1 : Option (Nat × List Dat) := (op_11 [.n (decC s0 n2)]);
      (.node (isK 0 [HK.b] r1)
       (.node (!gb (dOf r1) 0)
        (.leaf (Step.stop 1 [.b false]))
        (.leaf (Step.go [.k 0, .s s0, .n (IntKind.wrap .i64 (n1 + (1 : Int))), .s s0, .n (n2 + decW s0 n2)])))
       (.bad 351)))
     (.leaf (Step.stop 0 [.n n1])))
  | _ => .bad 0
theorem fn_L14_3_t_im (s0 : ByteArray) (n1 : Int) (n2 : Int) : Imp (fn_L14_3_t [.s s0, .n n1, .n n2]) (st_L14_3 [.k 0, .s s0, .n n1, .s s0, .n n2]) :=
(.path [1] (by kernel_rfl)
(.node (by kernel_rfl) (by kernel_rfl) (fun h0 =>
(.path [1] (by kernel_rfl)
(.node (by kernel_rfl) (by kernel_rfl) (fun h1 =>
(.path [1] (by kernel_rfl)
(.node (by kernel_rfl) (by kernel_rfl) (fun h2 =>
(.path [1] (by kernel_rfl)
(.leaf (by kernel_rfl)))) (fun h2 =>
(.path [1] (by kernel_rfl)
(.leaf (by kernel_rfl))))))) (fun h1 =>
.none)))) (fun h0 =>
(.path [0,1] (by kernel_rfl)
(.leaf (by kernel_rfl))))))

theorem ls_14_ok : LsOk Try.prog (List.length ([] : List PB)) (lsM [(3, L14_3)] (List.length ([] : List PB))) (bodyOf Try.prog 14) := LsOk.many fun j B hB hk c hc hi => by
  simp only [lookM] at hB
  split at hB
  · rename_i e; have := Nat.eq_of_beq_eq_true e; subst this; cases hB
    have e1 : loopAt Try.prog 14 3 = [cAt Try.prog 14 3] := loopAt_one (by kernel_rfl)
    have e2 : c ∈ loopAt Try.prog 14 3 := loopsAt_mem hc hi
    rw [e1] at e2; cases List.mem_singleton.1 e2; exact L14_3_run
  cases hB

noncomputable def ev_14 (env : List Dat) : Tree (Nat × List Dat) := Lk.boxC false LK cs_13 14 (lsM [(3, L14_3)] (List.length ([] : List PB))) (mkF [.str 0] [] [] [(.bool 0, [])] fun _ => none) env
theorem op_14_ex : ∃ f : List Dat → Option (Nat × List Dat), ∀ env, f env = (ev_14 env).sel := ⟨fun env => (ev_14 env).sel, fun _ => rfl⟩
noncomputable def op_14 : List Dat → Option (Nat × List Dat) := Classical.choose op_14_ex
theorem op_14_eq (env : List Dat) : op_14 env = (ev_14 env).sel := Classical.choose_spec op_14_ex env
noncomputable def B14 : FBox := mkF [.str 0] [] [] [(.bool 0, [])] op_14
theorem B14_ok : RunOk Try.prog 14 (boxRun B14) := mkF_ok (op := op_14) cs_13_ok hmix false (ls_14_ok) (fun env x h => by rw [op_14_eq] at h; rw [← boxC_lk]; exact h)
theorem op_14_good {p : Nat × List Dat → Prop} {T : Tree (Nat × List Dat)} {env : List Dat} (h : Imp T (ev_14 env)) (g : Good p T.sel) : Good p (op_14 env) := by
  rw [op_14_eq]
  exact h.good g

noncomputable def fn_14_t : List Dat → Tree (Nat × List Dat)
  | [.s s0] =>
    (let r1 : Option (Nat × List Dat) := (op_L14_3 [.k 0, .s s0, .n (0 : Int), .s s0, .n (0 : Int)]);
     (.node (isK 0 [HK.n] r1)
      (.node (decide (gn (dOf r1) 0 ≥ (1 : Int)))
       (.leaf ((0, [.b (decide (gn (dOf r1) 0 ≤ (16 : Int)))])))
       (.leaf ((0, [.b false]))))
      (.node (isK 1 [HK.b] r1)
       (.leaf ((0, [.b (gb (dOf r1) 0)])))
       (.bad 351))))
  | _ => .bad 0
theorem fn_14_t_im (s0 : ByteArray) : Imp (fn_14_t [.s s0]) (ev_14 [.s s0]) :=
(.node (by kernel_rfl) (by kernel_rfl) (fun h0 =>
(.node (by kernel_rfl) (by kernel_rfl) (fun h1 =>
(.path [1] (by kernel_rfl)
(.leaf (by kernel_rfl)))) (fun h1 =>
(.path [0,1] (by kernel_rfl)
(.leaf (by kernel_rfl)))))) (fun h0 =>
(.node (by kernel_rfl) (by kernel_rfl) (fun h1 =>
(.path [1] (by kernel_rfl)
(.leaf (by kernel_rfl)))) (fun h1 =>
.none))))

noncomputable def cs_14 : FuncId → Option CSpec := csLend 14 B14 cs_13
theorem cs_14_ok : CsOk Try.prog cs_14 := csLend_ok cs_13_ok B14_ok

noncomputable def st_L15_4 (env : List Dat) : Tree Step := Lk.stepMC false LK cs_14 15 4 ls0 (mkM 0 [] [(sh 30 [(0, .str 0), (3, .own 0), (4, .int .i64 1), (8, .itr 1)], [.arr TS 2, .iter 3 4])] [(3, TS)] [(.exit 0, sh 30 [(0, .str 0), (3, .own 0), (4, .int .i64 1)], [.arr TS 2])] fun _ => none) env
theorem op_L15_4_ex : ∃ f : List Dat → Option (Nat × List Dat), ∀ env, f env = iterS st_L15_4 FU env := ⟨iterS st_L15_4 FU, fun _ => rfl⟩
noncomputable def op_L15_4 : List Dat → Option (Nat × List Dat) := Classical.choose op_L15_4_ex
theorem op_L15_4_eq (env : List Dat) : op_L15_4 env = iterS st_L15_4 FU env := Classical.choose_spec op_L15_4_ex env
noncomputable def L15_4 : MBox := mkM 0 [] [(sh 30 [(0, .str 0), (3, .own 0), (4, .int .i64 1), (8, .itr 1)], [.arr TS 2, .iter 3 4])] [(3, TS)] [(.exit 0, sh 30 [(0, .str 0), (3, .own 0), (4, .int .i64 1)], [.arr TS 2])] op_L15_4
theorem L15_4_eqs : L15_4 = mkM 0 [] [(sh 30 [(0, .str 0), (3, .own 0), (4, .int .i64 1), (8, .itr 1)], [.arr TS 2, .iter 3 4])] [(3, TS)] [(.exit 0, sh 30 [(0, .str 0), (3, .own 0), (4, .int .i64 1)], [.arr TS 2])] (iterS st_L15_4 FU) := congrArg (fun f => mkM 0 [] [(sh 30 [(0, .str 0), (3, .own 0), (4, .int .i64 1), (8, .itr 1)], [.arr TS 2, .iter 3 4])] [(3, TS)] [(.exit 0, sh 30 [(0, .str 0), (3, .own 0), (4, .int .i64 1)], [.arr TS 2])] f) (funext op_L15_4_eq)
theorem L15_4_run : ∀ t s x, (manyRun L15_4 t s).sel = some x → CodeOk Try.prog 0 (.loop (cAt Try.prog 15 4)) t s x := by
  rw [L15_4_eqs]
  exact mkM_ok (st := st_L15_4) (m := FU) cs_14_ok hmix false (LsOk.none _ _ _) (by kernel_rfl) (fun env y h => by rw [← stepMC_lk]; exact h)
theorem op_L15_4_good {p : Nat × List Dat → Prop} (Inv : List Dat → Prop) (μ : List Dat → Nat) (h : ∀ env, Inv env → Good (fun y => match y with | .go e => Inv e ∧ μ e < μ env | .stop k d => p (k, d)) (st_L15_4 env).sel) (env : List Dat) (hi : Inv env) (hm : μ env < FU) : Good p (op_L15_4 env) := by
  rw [op_L15_4_eq]
  exact iterS_good Inv μ p h FU env hi hm

noncomputable def fn_L15_4_t : List Dat → Tree Step
  | [.s s0, .n n1, .l (Ty.str) l2, .n n3] =>
    (.node (decide (n3 < (↑(ByteArray.size s0) : Int)))
     (.node (decC s0 n3 == (10 : Int))
      (.node (decide ((0 : Int) ≤ n3) && decide (n3 ≤ (↑(ByteArray.size s0) : Int)))
       (.node (decide ((0 : Int) ≤ n1) && decide (n1 ≤ n3))
        (.node (decide ((List.length l2 + 1) * 16 ≤ 140737488355328))
         (.leaf (Step.go [.k 0, .s s0, .n (IntKind.wrap .i64 (n3 + (1 : Int))), .l Ty.str (l2 ++ [ByteArray.extract s0 (Int.toNat n1) (Int.toNat n3)]), .s s0, .n (n3 + decW s0 n3)]))
         (.bad 62))
        (.bad 43))
       (.bad 42))
      (.leaf (Step.go [.k 0, .s s0, .n n1, .l Ty.str l2, .s s0, .n (n3 + decW s0 n3)])))
     (.leaf (Step.stop 0 [.s s0, .n n1, .l Ty.str l2])))
  | _ => .bad 0
theorem fn_L15_4_t_im (s0 : ByteArray) (n1 : Int) (l2 : List (Ty.den (Ty.str))) (n3 : Int) : Imp (fn_L15_4_t [.s s0, .n n1, .l (Ty.str) l2, .n n3]) (st_L15_4 [.k 0, .s s0, .n n1, .l TS l2, .s s0, .n n3]) :=
(.path [1] (by kernel_rfl)
(.node (by kernel_rfl) (by kernel_rfl) (fun h0 =>
(.path [1] (by kernel_rfl)
(.node (by kernel_rfl) (by kernel_rfl) (fun h1 =>
(.node (by kernel_rfl) (by kernel_rfl) (fun h2 =>
(.node (by kernel_rfl) (by kernel_rfl) (fun h3 =>
(.node (by kernel_rfl) (by kernel_rfl) (fun h4 =>
(.path [1] (by kernel_rfl)
(.leaf (by kernel_rfl)))) (fun h4 =>
.none))) (fun h3 =>
.none))) (fun h2 =>
.none))) (fun h1 =>
(.path [1] (by kernel_rfl)
(.leaf (by kernel_rfl))))))) (fun h0 =>
(.path [0,1] (by kernel_rfl)
(.leaf (by kernel_rfl))))))

theorem ls_15_ok : LsOk Try.prog (List.length ([] : List PB)) (lsM [(4, L15_4)] (List.length ([] : List PB))) (bodyOf Try.prog 15) := LsOk.many fun j B hB hk c hc hi => by
  simp only [lookM] at hB
  split at hB
  · rename_i e; have := Nat.eq_of_beq_eq_true e; subst this; cases hB
    have e1 : loopAt Try.prog 15 4 = [cAt Try.prog 15 4] := loopAt_one (by kernel_rfl)
    have e2 : c ∈ loopAt Try.prog 15 4 := loopsAt_mem hc hi
    rw [e1] at e2; cases List.mem_singleton.1 e2; exact L15_4_run
  cases hB

noncomputable def ev_15 (env : List Dat) : Tree (Nat × List Dat) := Lk.boxC false LK cs_14 15 (lsM [(4, L15_4)] (List.length ([] : List PB))) (mkF [.str 0] [] [] [(.own 0, [.arr TS 0])] fun _ => none) env
theorem op_15_ex : ∃ f : List Dat → Option (Nat × List Dat), ∀ env, f env = (ev_15 env).sel := ⟨fun env => (ev_15 env).sel, fun _ => rfl⟩
noncomputable def op_15 : List Dat → Option (Nat × List Dat) := Classical.choose op_15_ex
theorem op_15_eq (env : List Dat) : op_15 env = (ev_15 env).sel := Classical.choose_spec op_15_ex env
noncomputable def B15 : FBox := mkF [.str 0] [] [] [(.own 0, [.arr TS 0])] op_15
theorem B15_ok : RunOk Try.prog 15 (boxRun B15) := mkF_ok (op := op_15) cs_14_ok hmix false (ls_15_ok) (fun env x h => by rw [op_15_eq] at h; rw [← boxC_lk]; exact h)
theorem op_15_good {p : Nat × List Dat → Prop} {T : Tree (Nat × List Dat)} {env : List Dat} (h : Imp T (ev_15 env)) (g : Good p T.sel) : Good p (op_15 env) := by
  rw [op_15_eq]
  exact h.good g

noncomputable def fn_15_t : List Dat → Tree (Nat × List Dat)
  | [.s s0] =>
    (let r1 : Option (Nat × List Dat) := (op_L15_4 [.k 0, .s s0, .n (0 : Int), .l Ty.str [], .s s0, .n (0 : Int)]);
     (.node (isK 0 [HK.s, HK.n, HK.l Ty.str] r1)
      (.node (decide ((0 : Int) ≤ gn (dOf r1) 1) && decide (gn (dOf r1) 1 ≤ (↑(ByteArray.size (gs (dOf r1) 0)) : Int)))
       (.node (decide ((List.length (gl Ty.str (dOf r1) 2) + 1) * 16 ≤ 140737488355328))
        (.leaf ((0, [.l Ty.str (gl Ty.str (dOf r1) 2 ++ [ByteArray.extract (gs (dOf r1) 0) (Int.toNat (gn (dOf r1) 1)) (Int.toNat (↑(ByteArray.size (gs (dOf r1) 0)) : Int))])])))
        (.bad 62))
       (.bad 43))
      (.bad 351)))
  | _ => .bad 0
theorem fn_15_t_im (s0 : ByteArray) : Imp (fn_15_t [.s s0]) (ev_15 [.s s0]) :=
(.node (by kernel_rfl) (by kernel_rfl) (fun h0 =>
(.pt (c := (true && decide ((↑(ByteArray.size (gs (dOf (op_L15_4 [.k 0, .s s0, .n (0 : Int), .l Ty.str [], .s s0, .n (0 : Int)])) 0)) : Int) ≤ (↑(ByteArray.size (gs (dOf (op_L15_4 [.k 0, .s s0, .n (0 : Int), .l Ty.str [], .s s0, .n (0 : Int)])) 0)) : Int)))) (by kernel_rfl) (by kernel_rfl) (by (simp [*]; done))
(.node (by kernel_rfl) (by kernel_rfl) (fun h1 =>
(.node (by kernel_rfl) (by kernel_rfl) (fun h2 =>
(.path [1] (by kernel_rfl)
(.leaf (by kernel_rfl)))) (fun h2 =>
.none))) (fun h1 =>
.none)))) (fun h0 =>
.none))

noncomputable def cs_15 : FuncId → Option CSpec := csLend 15 B15 cs_14
theorem cs_15_ok : CsOk Try.prog cs_15 := csLend_ok cs_14_ok B15_ok

noncomputable def st_L16_4 (env : List Dat) : Tree Step := Lk.stepMC false LK cs_15 16 4 ls0 (mkM 0 [] [(sh 26 [(0, .imm TS 0), (1, .imm TS 1), (5, .int .i64 2)], [])] [] [(.exit 0, sh 26 [], []), (.ret, sh 26 [(4, .bool 0)], [])] fun _ => none) env
theorem op_L16_4_ex : ∃ f : List Dat → Option (Nat × List Dat), ∀ env, f env = iterS st_L16_4 FU env := ⟨iterS st_L16_4 FU, fun _ => rfl⟩
noncomputable def op_L16_4 : List Dat → Option (Nat × List Dat) := Classical.choose op_L16_4_ex
theorem op_L16_4_eq (env : List Dat) : op_L16_4 env = iterS st_L16_4 FU env := Classical.choose_spec op_L16_4_ex env
noncomputable def L16_4 : MBox := mkM 0 [] [(sh 26 [(0, .imm TS 0), (1, .imm TS 1), (5, .int .i64 2)], [])] [] [(.exit 0, sh 26 [], []), (.ret, sh 26 [(4, .bool 0)], [])] op_L16_4
theorem L16_4_eqs : L16_4 = mkM 0 [] [(sh 26 [(0, .imm TS 0), (1, .imm TS 1), (5, .int .i64 2)], [])] [] [(.exit 0, sh 26 [], []), (.ret, sh 26 [(4, .bool 0)], [])] (iterS st_L16_4 FU) := congrArg (fun f => mkM 0 [] [(sh 26 [(0, .imm TS 0), (1, .imm TS 1), (5, .int .i64 2)], [])] [] [(.exit 0, sh 26 [], []), (.ret, sh 26 [(4, .bool 0)], [])] f) (funext op_L16_4_eq)
theorem L16_4_run : ∀ t s x, (manyRun L16_4 t s).sel = some x → CodeOk Try.prog 0 (.loop (cAt Try.prog 16 4)) t s x := by
  rw [L16_4_eqs]
  exact mkM_ok (st := st_L16_4) (m := FU) cs_15_ok hmix false (LsOk.none _ _ _) (by kernel_rfl) (fun env y h => by rw [← stepMC_lk]; exact h)
theorem op_L16_4_good {p : Nat × List Dat → Prop} (Inv : List Dat → Prop) (μ : List Dat → Nat) (h : ∀ env, Inv env → Good (fun y => match y with | .go e => Inv e ∧ μ e < μ env | .stop k d => p (k, d)) (st_L16_4 env).sel) (env : List Dat) (hi : Inv env) (hm : μ env < FU) : Good p (op_L16_4 env) := by
  rw [op_L16_4_eq]
  exact iterS_good Inv μ p h FU env hi hm

noncomputable def fn_L16_4_t : List Dat → Tree Step
  | [.l (Ty.str) l0, .l (Ty.str) l1, .n n2] =>
    (.node (decide (n2 < (↑(List.length l0) : Int)))
     (.node (!strEq (List.getD l0 (Int.toNat n2) (Ty.dflt Ty.str)) (List.getD l1 (Int.toNat n2) (Ty.dflt Ty.str)))
      (.leaf (Step.stop 1 [.b false]))
      (.leaf (Step.go [.k 0, .l Ty.str l0, .l Ty.str l1, .n (IntKind.wrap .i64 (n2 + (1 : Int)))])))
     (.leaf (Step.stop 0 [])))
  | _ => .bad 0
theorem fn_L16_4_t_im (l0 : List (Ty.den (Ty.str))) (l1 : List (Ty.den (Ty.str))) (n2 : Int) (g0 : 0 ≤ n2) (g1 :  (l0.length : Int) = (l1.length : Int)) : Imp (fn_L16_4_t [.l (Ty.str) l0, .l (Ty.str) l1, .n n2]) (st_L16_4 [.k 0, .l TS l0, .l TS l1, .n n2]) :=
(.path [1] (by kernel_rfl)
(.node (by kernel_rfl) (by kernel_rfl) (fun h0 =>
(.pt (c := (inR n2 (List.length l0))) (by kernel_rfl) (by kernel_rfl) (by (simp only [w64d, decide_eq_true_eq, decide_eq_false_iff_not, beq_iff_eq, beq_eq_false_iff_ne, bne_iff_ne, ne_eq, inR, Bool.and_eq_true, Bool.and_eq_false_iff, Bool.not_eq_true', Bool.not_eq_false', Bool.not_eq_eq_eq_not, Bool.not_true, Bool.not_false] at *; omega))
(.pt (c := (inR n2 (List.length l1))) (by kernel_rfl) (by kernel_rfl) (by (simp only [w64d, decide_eq_true_eq, decide_eq_false_iff_not, beq_iff_eq, beq_eq_false_iff_ne, bne_iff_ne, ne_eq, inR, Bool.and_eq_true, Bool.and_eq_false_iff, Bool.not_eq_true', Bool.not_eq_false', Bool.not_eq_eq_eq_not, Bool.not_true, Bool.not_false] at *; omega))
(.path [1] (by kernel_rfl)
(.node (by kernel_rfl) (by kernel_rfl) (fun h1 =>
(.path [1] (by kernel_rfl)
(.leaf (by kernel_rfl)))) (fun h1 =>
(.path [1] (by kernel_rfl)
(.leaf (by kernel_rfl))))))))) (fun h0 =>
(.path [1] (by kernel_rfl)
(.leaf (by kernel_rfl))))))

theorem ls_16_ok : LsOk Try.prog (List.length ([] : List PB)) (lsM [(4, L16_4)] (List.length ([] : List PB))) (bodyOf Try.prog 16) := LsOk.many fun j B hB hk c hc hi => by
  simp only [lookM] at hB
  split at hB
  · rename_i e; have := Nat.eq_of_beq_eq_true e; subst this; cases hB
    have e1 : loopAt Try.prog 16 4 = [cAt Try.prog 16 4] := loopAt_one (by kernel_rfl)
    have e2 : c ∈ loopAt Try.prog 16 4 := loopsAt_mem hc hi
    rw [e1] at e2; cases List.mem_singleton.1 e2; exact L16_4_run
  cases hB

noncomputable def ev_16 (env : List Dat) : Tree (Nat × List Dat) := Lk.boxC false LK cs_15 16 (lsM [(4, L16_4)] (List.length ([] : List PB))) (mkF [.imm TS 0, .imm TS 1] [] [] [(.bool 0, [])] fun _ => none) env
theorem op_16_ex : ∃ f : List Dat → Option (Nat × List Dat), ∀ env, f env = (ev_16 env).sel := ⟨fun env => (ev_16 env).sel, fun _ => rfl⟩
noncomputable def op_16 : List Dat → Option (Nat × List Dat) := Classical.choose op_16_ex
theorem op_16_eq (env : List Dat) : op_16 env = (ev_16 env).sel := Classical.choose_spec op_16_ex env
noncomputable def B16 : FBox := mkF [.imm TS 0, .imm TS 1] [] [] [(.bool 0, [])] op_16
theorem B16_ok : RunOk Try.prog 16 (boxRun B16) := mkF_ok (op := op_16) cs_15_ok hmix false (ls_16_ok) (fun env x h => by rw [op_16_eq] at h; rw [← boxC_lk]; exact h)
theorem op_16_good {p : Nat × List Dat → Prop} {T : Tree (Nat × List Dat)} {env : List Dat} (h : Imp T (ev_16 env)) (g : Good p T.sel) : Good p (op_16 env) := by
  rw [op_16_eq]
  exact h.good g

noncomputable def fn_16_t : List Dat → Tree (Nat × List Dat)
  | [.l (Ty.str) l0, .l (Ty.str) l1] =>
    (.node ((↑(List.length l0) : Int) != (↑(List.length l1) : Int))
     (.leaf ((0, [.b false])))
     (let r1 : Option (Nat × List Dat) := (op_L16_4 [.k 0, .l Ty.str l0, .l Ty.str l1, .n (0 : Int)]);
      (.node (isK 0 [] r1)
       (.leaf ((0, [.b true])))
       (.node (isK 1 [HK.b] r1)
        (.leaf ((0, [.b (gb (dOf r1) 0)])))
        (.bad 351)))))
  | _ => .bad 0
theorem fn_16_t_im (l0 : List (Ty.den (Ty.str))) (l1 : List (Ty.den (Ty.str))) : Imp (fn_16_t [.l (Ty.str) l0, .l (Ty.str) l1]) (ev_16 [.l TS l0, .l TS l1]) :=
(.node (by kernel_rfl) (by kernel_rfl) (fun h0 =>
(.path [1] (by kernel_rfl)
(.leaf (by kernel_rfl)))) (fun h0 =>
(.node (by kernel_rfl) (by kernel_rfl) (fun h1 =>
(.path [1] (by kernel_rfl)
(.leaf (by kernel_rfl)))) (fun h1 =>
(.node (by kernel_rfl) (by kernel_rfl) (fun h2 =>
(.path [1] (by kernel_rfl)
(.leaf (by kernel_rfl)))) (fun h2 =>
.none))))))

noncomputable def cs_16 : FuncId → Option CSpec := csLend 16 B16 cs_15
theorem cs_16_ok : CsOk Try.prog cs_16 := csLend_ok cs_15_ok B16_ok

noncomputable def st_L17_4 (env : List Dat) : Tree Step := Lk.stepMC false LK cs_16 17 4 ls0 (mkM 0 [] [(sh 31 [(0, .str 0), (3, .own 0), (4, .int .i64 1), (5, .int .i64 2)], [.arr TS 3])] [(3, TS)] [(.exit 0, sh 31 [(0, .str 0), (3, .own 0), (4, .int .i64 1)], [.arr TS 2])] fun _ => none) env
theorem op_L17_4_ex : ∃ f : List Dat → Option (Nat × List Dat), ∀ env, f env = iterS st_L17_4 FU env := ⟨iterS st_L17_4 FU, fun _ => rfl⟩
noncomputable def op_L17_4 : List Dat → Option (Nat × List Dat) := Classical.choose op_L17_4_ex
theorem op_L17_4_eq (env : List Dat) : op_L17_4 env = iterS st_L17_4 FU env := Classical.choose_spec op_L17_4_ex env
noncomputable def L17_4 : MBox := mkM 0 [] [(sh 31 [(0, .str 0), (3, .own 0), (4, .int .i64 1), (5, .int .i64 2)], [.arr TS 3])] [(3, TS)] [(.exit 0, sh 31 [(0, .str 0), (3, .own 0), (4, .int .i64 1)], [.arr TS 2])] op_L17_4
theorem L17_4_eqs : L17_4 = mkM 0 [] [(sh 31 [(0, .str 0), (3, .own 0), (4, .int .i64 1), (5, .int .i64 2)], [.arr TS 3])] [(3, TS)] [(.exit 0, sh 31 [(0, .str 0), (3, .own 0), (4, .int .i64 1)], [.arr TS 2])] (iterS st_L17_4 FU) := congrArg (fun f => mkM 0 [] [(sh 31 [(0, .str 0), (3, .own 0), (4, .int .i64 1), (5, .int .i64 2)], [.arr TS 3])] [(3, TS)] [(.exit 0, sh 31 [(0, .str 0), (3, .own 0), (4, .int .i64 1)], [.arr TS 2])] f) (funext op_L17_4_eq)
theorem L17_4_run : ∀ t s x, (manyRun L17_4 t s).sel = some x → CodeOk Try.prog 0 (.loop (cAt Try.prog 17 4)) t s x := by
  rw [L17_4_eqs]
  exact mkM_ok (st := st_L17_4) (m := FU) cs_16_ok hmix false (LsOk.none _ _ _) (by kernel_rfl) (fun env y h => by rw [← stepMC_lk]; exact h)
theorem op_L17_4_good {p : Nat × List Dat → Prop} (Inv : List Dat → Prop) (μ : List Dat → Nat) (h : ∀ env, Inv env → Good (fun y => match y with | .go e => Inv e ∧ μ e < μ env | .stop k d => p (k, d)) (st_L17_4 env).sel) (env : List Dat) (hi : Inv env) (hm : μ env < FU) : Good p (op_L17_4 env) := by
  rw [op_L17_4_eq]
  exact iterS_good Inv μ p h FU env hi hm

noncomputable def fn_L17_4_t : List Dat → Tree Step
  | [.s s0, .n n1, .n n2, .l (Ty.str) l3] =>
    (.node (decide (n2 < (↑(ByteArray.size s0) : Int)))
     (.node (strAt s0 n2 == (10 : Int))
      (.node (decide ((0 : Int) ≤ n1) && decide (n1 ≤ n2))
       (.node (decide ((List.length l3 + 1) * 16 ≤ 140737488355328))
        (.leaf (Step.go [.k 0, .s s0, .n (IntKind.wrap .i64 (n2 + (1 : Int))), .n (IntKind.wrap .i64 (n2 + (1 : Int))), .l Ty.str (l3 ++ [ByteArray.extract s0 (Int.toNat n1) (Int.toNat n2)])]))
        (.bad 62))
       (.bad 43))
      (.leaf (Step.go [.k 0, .s s0, .n n1, .n (IntKind.wrap .i64 (n2 + (1 : Int))), .l Ty.str l3])))
     (.leaf (Step.stop 0 [.s s0, .n n1, .l Ty.str l3])))
  | _ => .bad 0
theorem fn_L17_4_t_im (s0 : ByteArray) (n1 : Int) (n2 : Int) (l3 : List (Ty.den (Ty.str))) (g0 : 0 ≤ n2) : Imp (fn_L17_4_t [.s s0, .n n1, .n n2, .l (Ty.str) l3]) (st_L17_4 [.k 0, .s s0, .n n1, .n n2, .l TS l3]) :=
(.path [1] (by kernel_rfl)
(.node (by kernel_rfl) (by kernel_rfl) (fun h0 =>
(.pt (c := (inR n2 (ByteArray.size s0))) (by kernel_rfl) (by kernel_rfl) (by (simp only [w64d, decide_eq_true_eq, decide_eq_false_iff_not, beq_iff_eq, beq_eq_false_iff_ne, bne_iff_ne, ne_eq, inR, Bool.and_eq_true, Bool.and_eq_false_iff, Bool.not_eq_true', Bool.not_eq_false', Bool.not_eq_eq_eq_not, Bool.not_true, Bool.not_false] at *; omega))
(.node (by kernel_rfl) (by kernel_rfl) (fun h1 =>
(.pt (c := (decide ((0 : Int) ≤ n2) && decide (n2 ≤ (↑(ByteArray.size s0) : Int)))) (by kernel_rfl) (by kernel_rfl) (by (simp only [w64d, decide_eq_true_eq, decide_eq_false_iff_not, beq_iff_eq, beq_eq_false_iff_ne, bne_iff_ne, ne_eq, inR, Bool.and_eq_true, Bool.and_eq_false_iff, Bool.not_eq_true', Bool.not_eq_false', Bool.not_eq_eq_eq_not, Bool.not_true, Bool.not_false] at *; omega))
(.node (by kernel_rfl) (by kernel_rfl) (fun h2 =>
(.node (by kernel_rfl) (by kernel_rfl) (fun h3 =>
(.path [1] (by kernel_rfl)
(.leaf (by kernel_rfl)))) (fun h3 =>
.none))) (fun h2 =>
.none)))) (fun h1 =>
(.path [1] (by kernel_rfl)
(.leaf (by kernel_rfl))))))) (fun h0 =>
(.path [1] (by kernel_rfl)
(.leaf (by kernel_rfl))))))

theorem ls_17_ok : LsOk Try.prog (List.length ([] : List PB)) (lsM [(4, L17_4)] (List.length ([] : List PB))) (bodyOf Try.prog 17) := LsOk.many fun j B hB hk c hc hi => by
  simp only [lookM] at hB
  split at hB
  · rename_i e; have := Nat.eq_of_beq_eq_true e; subst this; cases hB
    have e1 : loopAt Try.prog 17 4 = [cAt Try.prog 17 4] := loopAt_one (by kernel_rfl)
    have e2 : c ∈ loopAt Try.prog 17 4 := loopsAt_mem hc hi
    rw [e1] at e2; cases List.mem_singleton.1 e2; exact L17_4_run
  cases hB

noncomputable def ev_17 (env : List Dat) : Tree (Nat × List Dat) := Lk.boxC false LK cs_16 17 (lsM [(4, L17_4)] (List.length ([] : List PB))) (mkF [.str 0] [] [] [(.own 0, [.arr TS 0])] fun _ => none) env
theorem op_17_ex : ∃ f : List Dat → Option (Nat × List Dat), ∀ env, f env = (ev_17 env).sel := ⟨fun env => (ev_17 env).sel, fun _ => rfl⟩
noncomputable def op_17 : List Dat → Option (Nat × List Dat) := Classical.choose op_17_ex
theorem op_17_eq (env : List Dat) : op_17 env = (ev_17 env).sel := Classical.choose_spec op_17_ex env
noncomputable def B17 : FBox := mkF [.str 0] [] [] [(.own 0, [.arr TS 0])] op_17
theorem B17_ok : RunOk Try.prog 17 (boxRun B17) := mkF_ok (op := op_17) cs_16_ok hmix false (ls_17_ok) (fun env x h => by rw [op_17_eq] at h; rw [← boxC_lk]; exact h)
theorem op_17_good {p : Nat × List Dat → Prop} {T : Tree (Nat × List Dat)} {env : List Dat} (h : Imp T (ev_17 env)) (g : Good p T.sel) : Good p (op_17 env) := by
  rw [op_17_eq]
  exact h.good g

noncomputable def fn_17_t : List Dat → Tree (Nat × List Dat)
  | [.s s0] =>
    (let r1 : Option (Nat × List Dat) := (op_L17_4 [.k 0, .s s0, .n (0 : Int), .n (0 : Int), .l Ty.str []]);
     (.node (isK 0 [HK.s, HK.n, HK.l Ty.str] r1)
      (.node (decide ((0 : Int) ≤ gn (dOf r1) 1) && decide (gn (dOf r1) 1 ≤ (↑(ByteArray.size (gs (dOf r1) 0)) : Int)))
       (.node (decide ((List.length (gl Ty.str (dOf r1) 2) + 1) * 16 ≤ 140737488355328))
        (.leaf ((0, [.l Ty.str (gl Ty.str (dOf r1) 2 ++ [ByteArray.extract (gs (dOf r1) 0) (Int.toNat (gn (dOf r1) 1)) (Int.toNat (↑(ByteArray.size (gs (dOf r1) 0)) : Int))])])))
        (.bad 62))
       (.bad 43))
      (.bad 351)))
  | _ => .bad 0
theorem fn_17_t_im (s0 : ByteArray) : Imp (fn_17_t [.s s0]) (ev_17 [.s s0]) :=
(.node (by kernel_rfl) (by kernel_rfl) (fun h0 =>
(.pt (c := (true && decide ((↑(ByteArray.size (gs (dOf (op_L17_4 [.k 0, .s s0, .n (0 : Int), .n (0 : Int), .l Ty.str []])) 0)) : Int) ≤ (↑(ByteArray.size (gs (dOf (op_L17_4 [.k 0, .s s0, .n (0 : Int), .n (0 : Int), .l Ty.str []])) 0)) : Int)))) (by kernel_rfl) (by kernel_rfl) (by (simp [*]; done))
(.node (by kernel_rfl) (by kernel_rfl) (fun h1 =>
(.node (by kernel_rfl) (by kernel_rfl) (fun h2 =>
(.path [1] (by kernel_rfl)
(.leaf (by kernel_rfl)))) (fun h2 =>
.none))) (fun h1 =>
.none)))) (fun h0 =>
.none))

noncomputable def cs_17 : FuncId → Option CSpec := csLend 17 B17 cs_16
theorem cs_17_ok : CsOk Try.prog cs_17 := csLend_ok cs_16_ok B17_ok

noncomputable def st_L24_2 (env : List Dat) : Tree Step := Lk.stepMC false LK cs_17 24 2 ls0 (mkM 0 [] [(sh 18 [(0, .str 0), (3, .int .i64 1)], [])] [] [(.exit 0, sh 18 [(0, .str 0)], []), (.ret, sh 18 [(2, .str 0)], [])] fun _ => none) env
theorem op_L24_2_ex : ∃ f : List Dat → Option (Nat × List Dat), ∀ env, f env = iterS st_L24_2 FU env := ⟨iterS st_L24_2 FU, fun _ => rfl⟩
noncomputable def op_L24_2 : List Dat → Option (Nat × List Dat) := Classical.choose op_L24_2_ex
theorem op_L24_2_eq (env : List Dat) : op_L24_2 env = iterS st_L24_2 FU env := Classical.choose_spec op_L24_2_ex env
noncomputable def L24_2 : MBox := mkM 0 [] [(sh 18 [(0, .str 0), (3, .int .i64 1)], [])] [] [(.exit 0, sh 18 [(0, .str 0)], []), (.ret, sh 18 [(2, .str 0)], [])] op_L24_2
theorem L24_2_eqs : L24_2 = mkM 0 [] [(sh 18 [(0, .str 0), (3, .int .i64 1)], [])] [] [(.exit 0, sh 18 [(0, .str 0)], []), (.ret, sh 18 [(2, .str 0)], [])] (iterS st_L24_2 FU) := congrArg (fun f => mkM 0 [] [(sh 18 [(0, .str 0), (3, .int .i64 1)], [])] [] [(.exit 0, sh 18 [(0, .str 0)], []), (.ret, sh 18 [(2, .str 0)], [])] f) (funext op_L24_2_eq)
theorem L24_2_run : ∀ t s x, (manyRun L24_2 t s).sel = some x → CodeOk Try.prog 0 (.loop (cAt Try.prog 24 2)) t s x := by
  rw [L24_2_eqs]
  exact mkM_ok (st := st_L24_2) (m := FU) cs_17_ok hmix false (LsOk.none _ _ _) (by kernel_rfl) (fun env y h => by rw [← stepMC_lk]; exact h)
theorem op_L24_2_good {p : Nat × List Dat → Prop} (Inv : List Dat → Prop) (μ : List Dat → Nat) (h : ∀ env, Inv env → Good (fun y => match y with | .go e => Inv e ∧ μ e < μ env | .stop k d => p (k, d)) (st_L24_2 env).sel) (env : List Dat) (hi : Inv env) (hm : μ env < FU) : Good p (op_L24_2 env) := by
  rw [op_L24_2_eq]
  exact iterS_good Inv μ p h FU env hi hm

noncomputable def fn_L24_2_t : List Dat → Tree Step
  | [.s s0, .n n1] =>
    (.node (decide (n1 < (↑(ByteArray.size s0) : Int)))
     (.node (strAt s0 n1 == (35 : Int))
      (.leaf (Step.stop 1 [.s (ByteArray.extract s0 0 (Int.toNat n1))]))
      (.leaf (Step.go [.k 0, .s s0, .n (IntKind.wrap .i64 (n1 + (1 : Int)))])))
     (.leaf (Step.stop 0 [.s s0])))
  | _ => .bad 0
theorem fn_L24_2_t_im (s0 : ByteArray) (n1 : Int) (g0 : 0 ≤ n1) : Imp (fn_L24_2_t [.s s0, .n n1]) (st_L24_2 [.k 0, .s s0, .n n1]) :=
(.path [1] (by kernel_rfl)
(.node (by kernel_rfl) (by kernel_rfl) (fun h0 =>
(.pt (c := (inR n1 (ByteArray.size s0))) (by kernel_rfl) (by kernel_rfl) (by (simp only [w64d, decide_eq_true_eq, decide_eq_false_iff_not, beq_iff_eq, beq_eq_false_iff_ne, bne_iff_ne, ne_eq, inR, Bool.and_eq_true, Bool.and_eq_false_iff, Bool.not_eq_true', Bool.not_eq_false', Bool.not_eq_eq_eq_not, Bool.not_true, Bool.not_false] at *; omega))
(.node (by kernel_rfl) (by kernel_rfl) (fun h1 =>
(.pt (c := (decide ((0 : Int) ≤ n1) && decide (n1 ≤ (↑(ByteArray.size s0) : Int)))) (by kernel_rfl) (by kernel_rfl) (by (simp only [w64d, decide_eq_true_eq, decide_eq_false_iff_not, beq_iff_eq, beq_eq_false_iff_ne, bne_iff_ne, ne_eq, inR, Bool.and_eq_true, Bool.and_eq_false_iff, Bool.not_eq_true', Bool.not_eq_false', Bool.not_eq_eq_eq_not, Bool.not_true, Bool.not_false] at *; omega))
(.pt (c := (true && decide ((0 : Int) ≤ n1))) (by kernel_rfl) (by kernel_rfl) (by (simp [*]; done))
(.path [1] (by kernel_rfl)
(.leaf (by kernel_rfl)))))) (fun h1 =>
(.path [1] (by kernel_rfl)
(.leaf (by kernel_rfl))))))) (fun h0 =>
(.path [1] (by kernel_rfl)
(.leaf (by kernel_rfl))))))

theorem ls_24_ok : LsOk Try.prog (List.length ([] : List PB)) (lsM [(2, L24_2)] (List.length ([] : List PB))) (bodyOf Try.prog 24) := LsOk.many fun j B hB hk c hc hi => by
  simp only [lookM] at hB
  split at hB
  · rename_i e; have := Nat.eq_of_beq_eq_true e; subst this; cases hB
    have e1 : loopAt Try.prog 24 2 = [cAt Try.prog 24 2] := loopAt_one (by kernel_rfl)
    have e2 : c ∈ loopAt Try.prog 24 2 := loopsAt_mem hc hi
    rw [e1] at e2; cases List.mem_singleton.1 e2; exact L24_2_run
  cases hB

noncomputable def ev_24 (env : List Dat) : Tree (Nat × List Dat) := Lk.boxC false LK cs_17 24 (lsM [(2, L24_2)] (List.length ([] : List PB))) (mkF [.str 0] [] [] [(.str 0, [])] fun _ => none) env
theorem op_24_ex : ∃ f : List Dat → Option (Nat × List Dat), ∀ env, f env = (ev_24 env).sel := ⟨fun env => (ev_24 env).sel, fun _ => rfl⟩
noncomputable def op_24 : List Dat → Option (Nat × List Dat) := Classical.choose op_24_ex
theorem op_24_eq (env : List Dat) : op_24 env = (ev_24 env).sel := Classical.choose_spec op_24_ex env
noncomputable def B24 : FBox := mkF [.str 0] [] [] [(.str 0, [])] op_24
theorem B24_ok : RunOk Try.prog 24 (boxRun B24) := mkF_ok (op := op_24) cs_17_ok hmix false (ls_24_ok) (fun env x h => by rw [op_24_eq] at h; rw [← boxC_lk]; exact h)
theorem op_24_good {p : Nat × List Dat → Prop} {T : Tree (Nat × List Dat)} {env : List Dat} (h : Imp T (ev_24 env)) (g : Good p T.sel) : Good p (op_24 env) := by
  rw [op_24_eq]
  exact h.good g

noncomputable def fn_24_t : List Dat → Tree (Nat × List Dat)
  | [.s s0] =>
    (let r1 : Option (Nat × List Dat) := (op_L24_2 [.k 0, .s s0, .n (0 : Int)]);
     (.node (isK 0 [HK.s] r1)
      (.leaf ((0, [.s (gs (dOf r1) 0)])))
      (.node (isK 1 [HK.s] r1)
       (.leaf ((0, [.s (gs (dOf r1) 0)])))
       (.bad 351))))
  | _ => .bad 0
theorem fn_24_t_im (s0 : ByteArray) : Imp (fn_24_t [.s s0]) (ev_24 [.s s0]) :=
(.node (by kernel_rfl) (by kernel_rfl) (fun h0 =>
(.path [1] (by kernel_rfl)
(.leaf (by kernel_rfl)))) (fun h0 =>
(.node (by kernel_rfl) (by kernel_rfl) (fun h1 =>
(.path [1] (by kernel_rfl)
(.leaf (by kernel_rfl)))) (fun h1 =>
.none))))

noncomputable def cs_24 : FuncId → Option CSpec := csLend 24 B24 cs_17
theorem cs_24_ok : CsOk Try.prog cs_24 := csLend_ok cs_17_ok B24_ok

noncomputable def ev_25 (env : List Dat) : Tree (Nat × List Dat) := Lk.boxC false LK cs_24 25 ls0 (mkF [.str 0, .int .i64 1] [] [] [(.bool 0, [])] fun _ => none) env
theorem op_25_ex : ∃ f : List Dat → Option (Nat × List Dat), ∀ env, f env = (ev_25 env).sel := ⟨fun env => (ev_25 env).sel, fun _ => rfl⟩
noncomputable def op_25 : List Dat → Option (Nat × List Dat) := Classical.choose op_25_ex
theorem op_25_eq (env : List Dat) : op_25 env = (ev_25 env).sel := Classical.choose_spec op_25_ex env
noncomputable def B25 : FBox := mkF [.str 0, .int .i64 1] [] [] [(.bool 0, [])] op_25
theorem B25_ok : RunOk Try.prog 25 (boxRun B25) := mkF_ok (op := op_25) cs_24_ok hmix false (LsOk.none _ _ _) (fun env x h => by rw [op_25_eq] at h; rw [← boxC_lk]; exact h)
theorem op_25_good {p : Nat × List Dat → Prop} {T : Tree (Nat × List Dat)} {env : List Dat} (h : Imp T (ev_25 env)) (g : Good p T.sel) : Good p (op_25 env) := by
  rw [op_25_eq]
  exact h.good g

noncomputable def fn_25_t : List Dat → Tree (Nat × List Dat)
  | [.s s0, .n n1] =>
    (.node (decide (IntKind.wrap .i64 (n1 + (3 : Int)) ≤ (↑(ByteArray.size s0) : Int)))
     (.node (inR n1 (ByteArray.size s0))
      (.node (strAt s0 n1 == (239 : Int))
       (.node (inR (IntKind.wrap .i64 (n1 + (1 : Int))) (ByteArray.size s0))
        (.node (strAt s0 (IntKind.wrap .i64 (n1 + (1 : Int))) == (191 : Int))
         (.node (inR (IntKind.wrap .i64 (n1 + (2 : Int))) (ByteArray.size s0))
          (.leaf ((0, [.b (strAt s0 (IntKind.wrap .i64 (n1 + (2 : Int))) == (189 : Int))])))
          (.bad 30))
         (.leaf ((0, [.b false]))))
        (.bad 30))
       (.leaf ((0, [.b false]))))
      (.bad 30))
     (.leaf ((0, [.b false]))))
  | _ => .bad 0
theorem fn_25_t_im (s0 : ByteArray) (n1 : Int) : Imp (fn_25_t [.s s0, .n n1]) (ev_25 [.s s0, .n n1]) :=
(.node (by kernel_rfl) (by kernel_rfl) (fun h0 =>
(.node (by kernel_rfl) (by kernel_rfl) (fun h1 =>
(.node (by kernel_rfl) (by kernel_rfl) (fun h2 =>
(.node (by kernel_rfl) (by kernel_rfl) (fun h3 =>
(.node (by kernel_rfl) (by kernel_rfl) (fun h4 =>
(.node (by kernel_rfl) (by kernel_rfl) (fun h5 =>
(.path [1] (by kernel_rfl)
(.leaf (by kernel_rfl)))) (fun h5 =>
.none))) (fun h4 =>
(.path [0,1] (by kernel_rfl)
(.leaf (by kernel_rfl)))))) (fun h3 =>
.none))) (fun h2 =>
(.path [0,0,0,1] (by kernel_rfl)
(.leaf (by kernel_rfl)))))) (fun h1 =>
.none))) (fun h0 =>
(.path [0,0,0,0,0,1] (by kernel_rfl)
(.leaf (by kernel_rfl)))))

noncomputable def cs_25 : FuncId → Option CSpec := csLend 25 B25 cs_24
theorem cs_25_ok : CsOk Try.prog cs_25 := csLend_ok cs_24_ok B25_ok

noncomputable def st_L23_4 (env : List Dat) : Tree Step := Lk.stepMC false LK cs_25 23 4 ls0 (mkM 0 [] [(sh 28 [(0, .str 0), (3, .own 0), (4, .int .i64 1), (8, .itr 1)], [.arr TS 2, .iter 3 4])] [(3, TS)] [(.exit 0, sh 28 [(0, .str 0), (3, .own 0), (4, .int .i64 1)], [.arr TS 2])] fun _ => none) env
theorem op_L23_4_ex : ∃ f : List Dat → Option (Nat × List Dat), ∀ env, f env = iterS st_L23_4 FU env := ⟨iterS st_L23_4 FU, fun _ => rfl⟩
noncomputable def op_L23_4 : List Dat → Option (Nat × List Dat) := Classical.choose op_L23_4_ex
theorem op_L23_4_eq (env : List Dat) : op_L23_4 env = iterS st_L23_4 FU env := Classical.choose_spec op_L23_4_ex env
noncomputable def L23_4 : MBox := mkM 0 [] [(sh 28 [(0, .str 0), (3, .own 0), (4, .int .i64 1), (8, .itr 1)], [.arr TS 2, .iter 3 4])] [(3, TS)] [(.exit 0, sh 28 [(0, .str 0), (3, .own 0), (4, .int .i64 1)], [.arr TS 2])] op_L23_4
theorem L23_4_eqs : L23_4 = mkM 0 [] [(sh 28 [(0, .str 0), (3, .own 0), (4, .int .i64 1), (8, .itr 1)], [.arr TS 2, .iter 3 4])] [(3, TS)] [(.exit 0, sh 28 [(0, .str 0), (3, .own 0), (4, .int .i64 1)], [.arr TS 2])] (iterS st_L23_4 FU) := congrArg (fun f => mkM 0 [] [(sh 28 [(0, .str 0), (3, .own 0), (4, .int .i64 1), (8, .itr 1)], [.arr TS 2, .iter 3 4])] [(3, TS)] [(.exit 0, sh 28 [(0, .str 0), (3, .own 0), (4, .int .i64 1)], [.arr TS 2])] f) (funext op_L23_4_eq)
theorem L23_4_run : ∀ t s x, (manyRun L23_4 t s).sel = some x → CodeOk Try.prog 0 (.loop (cAt Try.prog 23 4)) t s x := by
  rw [L23_4_eqs]
  exact mkM_ok (st := st_L23_4) (m := FU) cs_25_ok hmix false (LsOk.none _ _ _) (by kernel_rfl) (fun env y h => by rw [← stepMC_lk]; exact h)
theorem op_L23_4_good {p : Nat × List Dat → Prop} (Inv : List Dat → Prop) (μ : List Dat → Nat) (h : ∀ env, Inv env → Good (fun y => match y with | .go e => Inv e ∧ μ e < μ env | .stop k d => p (k, d)) (st_L23_4 env).sel) (env : List Dat) (hi : Inv env) (hm : μ env < FU) : Good p (op_L23_4 env) := by
  rw [op_L23_4_eq]
  exact iterS_good Inv μ p h FU env hi hm

noncomputable def fn_L23_4_t : List Dat → Tree Step
  | [.s s0, .n n1, .l (Ty.str) l2, .n n3] =>
    (.node (decide (n3 < (↑(ByteArray.size s0) : Int)))
     (.node (decC s0 n3 == (32 : Int))
      (.node (decide ((0 : Int) ≤ n3) && decide (n3 ≤ (↑(ByteArray.size s0) : Int)))
       (.node (decide ((0 : Int) ≤ n1) && decide (n1 ≤ n3))
        (.node (strEq (ByteArray.extract s0 (Int.toNat n1) (Int.toNat n3)) { data := { toList := [] } })
         (.leaf (Step.go [.k 0, .s s0, .n (IntKind.wrap .i64 (n3 + (1 : Int))), .l Ty.str l2, .s s0, .n (n3 + decW s0 n3)]))
         (.node (decide ((List.length l2 + 1) * 16 ≤ 140737488355328))
          (.leaf (Step.go [.k 0, .s s0, .n (IntKind.wrap .i64 (n3 + (1 : Int))), .l Ty.str (l2 ++ [ByteArray.extract s0 (Int.toNat n1) (Int.toNat n3)]), .s s0, .n (n3 + decW s0 n3)]))
          (.bad 62)))
        (.bad 43))
       (.bad 42))
      (.leaf (Step.go [.k 0, .s s0, .n n1, .l Ty.str l2, .s s0, .n (n3 + decW s0 n3)])))
     (.leaf (Step.stop 0 [.s s0, .n n1, .l Ty.str l2])))
  | _ => .bad 0
theorem fn_L23_4_t_im (s0 : ByteArray) (n1 : Int) (l2 : List (Ty.den (Ty.str))) (n3 : Int) : Imp (fn_L23_4_t [.s s0, .n n1, .l (Ty.str) l2, .n n3]) (st_L23_4 [.k 0, .s s0, .n n1, .l TS l2, .s s0, .n n3]) :=
(.path [1] (by kernel_rfl)
(.node (by kernel_rfl) (by kernel_rfl) (fun h0 =>
(.path [1] (by kernel_rfl)
(.node (by kernel_rfl) (by kernel_rfl) (fun h1 =>
(.node (by kernel_rfl) (by kernel_rfl) (fun h2 =>
(.node (by kernel_rfl) (by kernel_rfl) (fun h3 =>
(.path [1] (by kernel_rfl)
(.node (by kernel_rfl) (by kernel_rfl) (fun h4 =>
(.path [1,1] (by kernel_rfl)
(.leaf (by kernel_rfl)))) (fun h4 =>
(.node (by kernel_rfl) (by kernel_rfl) (fun h5 =>
(.path [1,1] (by kernel_rfl)
(.leaf (by kernel_rfl)))) (fun h5 =>
.none)))))) (fun h3 =>
.none))) (fun h2 =>
.none))) (fun h1 =>
(.path [1] (by kernel_rfl)
(.leaf (by kernel_rfl))))))) (fun h0 =>
(.path [0,1] (by kernel_rfl)
(.leaf (by kernel_rfl))))))

theorem ls_23_ok : LsOk Try.prog (List.length ([] : List PB)) (lsM [(4, L23_4)] (List.length ([] : List PB))) (bodyOf Try.prog 23) := LsOk.many fun j B hB hk c hc hi => by
  simp only [lookM] at hB
  split at hB
  · rename_i e; have := Nat.eq_of_beq_eq_true e; subst this; cases hB
    have e1 : loopAt Try.prog 23 4 = [cAt Try.prog 23 4] := loopAt_one (by kernel_rfl)
    have e2 : c ∈ loopAt Try.prog 23 4 := loopsAt_mem hc hi
    rw [e1] at e2; cases List.mem_singleton.1 e2; exact L23_4_run
  cases hB

noncomputable def ev_23 (env : List Dat) : Tree (Nat × List Dat) := Lk.boxC false LK cs_25 23 (lsM [(4, L23_4)] (List.length ([] : List PB))) (mkF [.str 0] [] [] [(.own 0, [.arr TS 0])] fun _ => none) env
theorem op_23_ex : ∃ f : List Dat → Option (Nat × List Dat), ∀ env, f env = (ev_23 env).sel := ⟨fun env => (ev_23 env).sel, fun _ => rfl⟩
noncomputable def op_23 : List Dat → Option (Nat × List Dat) := Classical.choose op_23_ex
theorem op_23_eq (env : List Dat) : op_23 env = (ev_23 env).sel := Classical.choose_spec op_23_ex env
noncomputable def B23 : FBox := mkF [.str 0] [] [] [(.own 0, [.arr TS 0])] op_23
theorem B23_ok : RunOk Try.prog 23 (boxRun B23) := mkF_ok (op := op_23) cs_25_ok hmix false (ls_23_ok) (fun env x h => by rw [op_23_eq] at h; rw [← boxC_lk]; exact h)
theorem op_23_good {p : Nat × List Dat → Prop} {T : Tree (Nat × List Dat)} {env : List Dat} (h : Imp T (ev_23 env)) (g : Good p T.sel) : Good p (op_23 env) := by
  rw [op_23_eq]
  exact h.good g

noncomputable def fn_23_t : List Dat → Tree (Nat × List Dat)
  | [.s s0] =>
    (let r1 : Option (Nat × List Dat) := (op_L23_4 [.k 0, .s s0, .n (0 : Int), .l Ty.str [], .s s0, .n (0 : Int)]);
     (.node (isK 0 [HK.s, HK.n, HK.l Ty.str] r1)
      (.node (decide ((0 : Int) ≤ gn (dOf r1) 1) && decide (gn (dOf r1) 1 ≤ (↑(ByteArray.size (gs (dOf r1) 0)) : Int)))
       (.node (strEq (ByteArray.extract (gs (dOf r1) 0) (Int.toNat (gn (dOf r1) 1)) (Int.toNat (↑(ByteArray.size (gs (dOf r1) 0)) : Int))) { data := { toList := [] } })
        (.leaf ((0, [.l Ty.str (gl Ty.str (dOf r1) 2)])))
        (.node (decide ((List.length (gl Ty.str (dOf r1) 2) + 1) * 16 ≤ 140737488355328))
         (.leaf ((0, [.l Ty.str (gl Ty.str (dOf r1) 2 ++ [ByteArray.extract (gs (dOf r1) 0) (Int.toNat (gn (dOf r1) 1)) (Int.toNat (↑(ByteArray.size (gs (dOf r1) 0)) : Int))])])))
         (.bad 62)))
       (.bad 43))
      (.bad 351)))
  | _ => .bad 0
theorem fn_23_t_im (s0 : ByteArray) : Imp (fn_23_t [.s s0]) (ev_23 [.s s0]) :=
(.node (by kernel_rfl) (by kernel_rfl) (fun h0 =>
(.pt (c := (true && decide ((↑(ByteArray.size (gs (dOf (op_L23_4 [.k 0, .s s0, .n (0 : Int), .l Ty.str [], .s s0, .n (0 : Int)])) 0)) : Int) ≤ (↑(ByteArray.size (gs (dOf (op_L23_4 [.k 0, .s s0, .n (0 : Int), .l Ty.str [], .s s0, .n (0 : Int)])) 0)) : Int)))) (by kernel_rfl) (by kernel_rfl) (by (simp [*]; done))
(.node (by kernel_rfl) (by kernel_rfl) (fun h1 =>
(.path [1] (by kernel_rfl)
(.node (by kernel_rfl) (by kernel_rfl) (fun h2 =>
(.path [1,1] (by kernel_rfl)
(.leaf (by kernel_rfl)))) (fun h2 =>
(.node (by kernel_rfl) (by kernel_rfl) (fun h3 =>
(.path [1,1] (by kernel_rfl)
(.leaf (by kernel_rfl)))) (fun h3 =>
.none)))))) (fun h1 =>
.none)))) (fun h0 =>
.none))

noncomputable def cs_23 : FuncId → Option CSpec := csLend 23 B23 cs_25
theorem cs_23_ok : CsOk Try.prog cs_23 := csLend_ok cs_25_ok B23_ok

noncomputable def st_L18_3 (env : List Dat) : Tree Step := Lk.stepMC false LK cs_23 18 3 ls0 (mkM 0 [] [(sh 35 [(0, .str 0), (4, .int .i64 1), (10, .itr 0)], [.iter 2 3])] [] [(.exit 0, sh 35 [(0, .str 0), (4, .int .i64 1)], []), (.ret, sh 35 [(2, .nilsl), (3, .int .i64 0)], [])] fun _ => none) env
theorem op_L18_3_ex : ∃ f : List Dat → Option (Nat × List Dat), ∀ env, f env = iterS st_L18_3 FU env := ⟨iterS st_L18_3 FU, fun _ => rfl⟩
noncomputable def op_L18_3 : List Dat → Option (Nat × List Dat) := Classical.choose op_L18_3_ex
theorem op_L18_3_eq (env : List Dat) : op_L18_3 env = iterS st_L18_3 FU env := Classical.choose_spec op_L18_3_ex env
noncomputable def L18_3 : MBox := mkM 0 [] [(sh 35 [(0, .str 0), (4, .int .i64 1), (10, .itr 0)], [.iter 2 3])] [] [(.exit 0, sh 35 [(0, .str 0), (4, .int .i64 1)], []), (.ret, sh 35 [(2, .nilsl), (3, .int .i64 0)], [])] op_L18_3
theorem L18_3_eqs : L18_3 = mkM 0 [] [(sh 35 [(0, .str 0), (4, .int .i64 1), (10, .itr 0)], [.iter 2 3])] [] [(.exit 0, sh 35 [(0, .str 0), (4, .int .i64 1)], []), (.ret, sh 35 [(2, .nilsl), (3, .int .i64 0)], [])] (iterS st_L18_3 FU) := congrArg (fun f => mkM 0 [] [(sh 35 [(0, .str 0), (4, .int .i64 1), (10, .itr 0)], [.iter 2 3])] [] [(.exit 0, sh 35 [(0, .str 0), (4, .int .i64 1)], []), (.ret, sh 35 [(2, .nilsl), (3, .int .i64 0)], [])] f) (funext op_L18_3_eq)
theorem L18_3_run : ∀ t s x, (manyRun L18_3 t s).sel = some x → CodeOk Try.prog 0 (.loop (cAt Try.prog 18 3)) t s x := by
  rw [L18_3_eqs]
  exact mkM_ok (st := st_L18_3) (m := FU) cs_23_ok hmix false (LsOk.none _ _ _) (by kernel_rfl) (fun env y h => by rw [← stepMC_lk]; exact h)
theorem op_L18_3_good {p : Nat × List Dat → Prop} (Inv : List Dat → Prop) (μ : List Dat → Nat) (h : ∀ env, Inv env → Good (fun y => match y with | .go e => Inv e ∧ μ e < μ env | .stop k d => p (k, d)) (st_L18_3 env).sel) (env : List Dat) (hi : Inv env) (hm : μ env < FU) : Good p (op_L18_3 env) := by
  rw [op_L18_3_eq]
  exact iterS_good Inv μ p h FU env hi hm

noncomputable def fn_L18_3_t : List Dat → Tree Step
  | [.s s0, .n n1, .n n2] =>
    (.node (decide (n2 < (↑(ByteArray.size s0) : Int)))
     (.node (decC s0 n2 == (35 : Int))
      (.leaf (Step.stop 0 [.s s0, .n n2]))
      (.node (decide (decC s0 n2 < (32 : Int)))
       (.leaf (Step.stop 1 [.n (30 : Int)]))
       (.node (decC s0 n2 == (65533 : Int))
        (.node (decide ((0 : Int) ≤ n2) && decide (n2 ≤ (↑(ByteArray.size s0) : Int)))
         (.node (decide ((↑(ByteArray.size (ByteArray.extract s0 (Int.toNat n2) (Int.toNat (↑(ByteArray.size s0) : Int)))) : Int) ≥ (3 : Int)))
          (.node (true && decide ((3 : Int) ≤ (↑(ByteArray.size (ByteArray.extract s0 (Int.toNat n2) (Int.toNat (↑(ByteArray.size s0) : Int)))) : Int)))
           (.node (!strEq (ByteArray.extract (ByteArray.extract s0 (Int.toNat n2) (Int.toNat (↑(ByteArray.size s0) : Int))) 0 3) { data := { toList := [(239 : UInt8), (191 : UInt8), (189 : UInt8)] } })
            (.leaf (Step.stop 1 [.n (30 : Int)]))
            (.leaf (Step.go [.k 0, .s s0, .n n1, .s s0, .n (n2 + decW s0 n2)])))
           (.bad 42))
          (.leaf (Step.stop 1 [.n (30 : Int)])))
         (.bad 43))
        (.leaf (Step.go [.k 0, .s s0, .n n1, .s s0, .n (n2 + decW s0 n2)])))))
     (.leaf (Step.stop 0 [.s s0, .n n1])))
  | _ => .bad 0
theorem fn_L18_3_t_im (s0 : ByteArray) (n1 : Int) (n2 : Int) : Imp (fn_L18_3_t [.s s0, .n n1, .n n2]) (st_L18_3 [.k 0, .s s0, .n n1, .s s0, .n n2]) :=
(.path [1] (by kernel_rfl)
(.node (by kernel_rfl) (by kernel_rfl) (fun h0 =>
(.path [1] (by kernel_rfl)
(.node (by kernel_rfl) (by kernel_rfl) (fun h1 =>
(.path [1] (by kernel_rfl)
(.leaf (by kernel_rfl)))) (fun h1 =>
(.node (by kernel_rfl) (by kernel_rfl) (fun h2 =>
(.path [1,1,1] (by kernel_rfl)
(.leaf (by kernel_rfl)))) (fun h2 =>
(.node (by kernel_rfl) (by kernel_rfl) (fun h3 =>
(.pt (c := (true && decide ((↑(ByteArray.size s0) : Int) ≤ (↑(ByteArray.size s0) : Int)))) (by kernel_rfl) (by kernel_rfl) (by (simp [*]; done))
(.node (by kernel_rfl) (by kernel_rfl) (fun h4 =>
(.path [1,1] (by kernel_rfl)
(.node (by kernel_rfl) (by kernel_rfl) (fun h5 =>
(.node (by kernel_rfl) (by kernel_rfl) (fun h6 =>
(.path [1,1,1] (by kernel_rfl)
(.node (by kernel_rfl) (by kernel_rfl) (fun h7 =>
(.path [1] (by kernel_rfl)
(.leaf (by kernel_rfl)))) (fun h7 =>
(.path [1] (by kernel_rfl)
(.leaf (by kernel_rfl))))))) (fun h6 =>
.none))) (fun h5 =>
(.path [0,1,1,1,1] (by kernel_rfl)
(.leaf (by kernel_rfl))))))) (fun h4 =>
.none)))) (fun h3 =>
(.path [0,0,1] (by kernel_rfl)
(.leaf (by kernel_rfl))))))))))) (fun h0 =>
(.path [0,1] (by kernel_rfl)
(.leaf (by kernel_rfl))))))

theorem ls_18_ok : LsOk Try.prog (List.length ([] : List PB)) (lsM [(3, L18_3)] (List.length ([] : List PB))) (bodyOf Try.prog 18) := LsOk.many fun j B hB hk c hc hi => by
  simp only [lookM] at hB
  split at hB
  · rename_i e; have := Nat.eq_of_beq_eq_true e; subst this; cases hB
    have e1 : loopAt Try.prog 18 3 = [cAt Try.prog 18 3] := loopAt_one (by kernel_rfl)
    have e2 : c ∈ loopAt Try.prog 18 3 := loopsAt_mem hc hi
    rw [e1] at e2; cases List.mem_singleton.1 e2; exact L18_3_run
  cases hB

noncomputable def ev_18 (env : List Dat) : Tree (Nat × List Dat) := Lk.boxC false LK cs_23 18 (lsM [(3, L18_3)] (List.length ([] : List PB))) (mkF [.str 0] [] [] [(.tup [.own 0, .int .i64 0], [.arr TS 1]), (.tup [.nilsl, .int .i64 0], [])] fun _ => none) env
theorem op_18_ex : ∃ f : List Dat → Option (Nat × List Dat), ∀ env, f env = (ev_18 env).sel := ⟨fun env => (ev_18 env).sel, fun _ => rfl⟩
noncomputable def op_18 : List Dat → Option (Nat × List Dat) := Classical.choose op_18_ex
theorem op_18_eq (env : List Dat) : op_18 env = (ev_18 env).sel := Classical.choose_spec op_18_ex env
noncomputable def B18 : FBox := mkF [.str 0] [] [] [(.tup [.own 0, .int .i64 0], [.arr TS 1]), (.tup [.nilsl, .int .i64 0], [])] op_18
theorem B18_ok : RunOk Try.prog 18 (boxRun B18) := mkF_ok (op := op_18) cs_23_ok hmix false (ls_18_ok) (fun env x h => by rw [op_18_eq] at h; rw [← boxC_lk]; exact h)
theorem op_18_good {p : Nat × List Dat → Prop} {T : Tree (Nat × List Dat)} {env : List Dat} (h : Imp T (ev_18 env)) (g : Good p T.sel) : Good p (op_18 env) := by
  rw [op_18_eq]
  exact h.good g

noncomputable def fn_18_t : List Dat → Tree (Nat × List Dat)
  | [.s s0] =>
    (let r1 : Option (Nat × List Dat) := (op_L18_3 [.k 0, .s s0, .n (↑(ByteArray.size s0) : Int), .s s0, .n (0 : Int)]);
     (.node (isK 0 [HK.s, HK.n] r1)
      (.node (decide ((0 : Int) ≤ gn (dOf r1) 1) && decide (gn (dOf r1) 1 ≤ (↑(ByteArray.size (gs (dOf r1) 0)) : Int)))
       (.node (true && decide ((0 : Int) ≤ gn (dOf r1) 1))
        (let r2 : Option (Nat × List Dat) := (op_23 [.s (ByteArray.extract (gs (dOf r1) 0) 0 (Int.toNat (gn (dOf r1) 1)))]);
         (.node (isK 0 [HK.l Ty.str] r2)
          (.leaf ((0, [.n (0 : Int), .l Ty.str (gl Ty.str (dOf r2) 0)])))
          (.bad 351)))
        (.bad 43))
       (.bad 42))
      (.node (isK 1 [HK.n] r1)
       (.leaf ((1, [.n (gn (dOf r1) 0)])))
       (.bad 351))))
  | _ => .bad 0
theorem fn_18_t_im (s0 : ByteArray) : Imp (fn_18_t [.s s0]) (ev_18 [.s s0]) :=
(.node (by kernel_rfl) (by kernel_rfl) (fun h0 =>
(.node (by kernel_rfl) (by kernel_rfl) (fun h1 =>
(.node (by kernel_rfl) (by kernel_rfl) (fun h2 =>
(.node (by kernel_rfl) (by kernel_rfl) (fun h3 =>
(.path [1,1] (by kernel_rfl)
(.leaf (by kernel_rfl)))) (fun h3 =>
.none))) (fun h2 =>
.none))) (fun h1 =>
.none))) (fun h0 =>
(.node (by kernel_rfl) (by kernel_rfl) (fun h1 =>
(.path [1] (by kernel_rfl)
(.leaf (by kernel_rfl)))) (fun h1 =>
.none))))

noncomputable def cs_18 : FuncId → Option CSpec := csLend 18 B18 cs_23
theorem cs_18_ok : CsOk Try.prog cs_18 := csLend_ok cs_23_ok B18_ok

noncomputable def st_L19_3 (env : List Dat) : Tree Step := Lk.stepMC false LK cs_18 19 3 ls0 (mkM 0 [] [(sh 58 [(0, .str 0), (12, .itr 0)], [.iter 1 2])] [] [(.exit 0, sh 58 [(0, .str 0)], []), (.ret, sh 58 [(2, .nilsl), (3, .int .i64 0)], [])] fun _ => none) env
theorem op_L19_3_ex : ∃ f : List Dat → Option (Nat × List Dat), ∀ env, f env = iterS st_L19_3 FU env := ⟨iterS st_L19_3 FU, fun _ => rfl⟩
noncomputable def op_L19_3 : List Dat → Option (Nat × List Dat) := Classical.choose op_L19_3_ex
theorem op_L19_3_eq (env : List Dat) : op_L19_3 env = iterS st_L19_3 FU env := Classical.choose_spec op_L19_3_ex env
noncomputable def L19_3 : MBox := mkM 0 [] [(sh 58 [(0, .str 0), (12, .itr 0)], [.iter 1 2])] [] [(.exit 0, sh 58 [(0, .str 0)], []), (.ret, sh 58 [(2, .nilsl), (3, .int .i64 0)], [])] op_L19_3
theorem L19_3_eqs : L19_3 = mkM 0 [] [(sh 58 [(0, .str 0), (12, .itr 0)], [.iter 1 2])] [] [(.exit 0, sh 58 [(0, .str 0)], []), (.ret, sh 58 [(2, .nilsl), (3, .int .i64 0)], [])] (iterS st_L19_3 FU) := congrArg (fun f => mkM 0 [] [(sh 58 [(0, .str 0), (12, .itr 0)], [.iter 1 2])] [] [(.exit 0, sh 58 [(0, .str 0)], []), (.ret, sh 58 [(2, .nilsl), (3, .int .i64 0)], [])] f) (funext op_L19_3_eq)
theorem L19_3_run : ∀ t s x, (manyRun L19_3 t s).sel = some x → CodeOk Try.prog 0 (.loop (cAt Try.prog 19 3)) t s x := by
  rw [L19_3_eqs]
  exact mkM_ok (st := st_L19_3) (m := FU) cs_18_ok hmix false (LsOk.none _ _ _) (by kernel_rfl) (fun env y h => by rw [← stepMC_lk]; exact h)
theorem op_L19_3_good {p : Nat × List Dat → Prop} (Inv : List Dat → Prop) (μ : List Dat → Nat) (h : ∀ env, Inv env → Good (fun y => match y with | .go e => Inv e ∧ μ e < μ env | .stop k d => p (k, d)) (st_L19_3 env).sel) (env : List Dat) (hi : Inv env) (hm : μ env < FU) : Good p (op_L19_3 env) := by
  rw [op_L19_3_eq]
  exact iterS_good Inv μ p h FU env hi hm

noncomputable def fn_L19_3_t : List Dat → Tree Step
  | [.s s0, .n n1] =>
    (.node (decide (n1 < (↑(ByteArray.size s0) : Int)))
     (.node (decide (decC s0 n1 < (32 : Int)))
      (.leaf (Step.stop 1 [.n (30 : Int)]))
      (.node (decC s0 n1 == (65533 : Int))
       (let r1 : Option (Nat × List Dat) := (op_25 [.s s0, .n n1]);
        (.node (isK 0 [HK.b] r1)
         (.node (!gb (dOf r1) 0)
          (.leaf (Step.stop 1 [.n (30 : Int)]))
          (.leaf (Step.go [.k 0, .s s0, .s s0, .n (n1 + decW s0 n1)])))
         (.bad 351)))
       (.leaf (Step.go [.k 0, .s s0, .s s0, .n (n1 + decW s0 n1)]))))
     (.leaf (Step.stop 0 [.s s0])))
  | _ => .bad 0
theorem fn_L19_3_t_im (s0 : ByteArray) (n1 : Int) : Imp (fn_L19_3_t [.s s0, .n n1]) (st_L19_3 [.k 0, .s s0, .s s0, .n n1]) :=
(.path [1] (by kernel_rfl)
(.node (by kernel_rfl) (by kernel_rfl) (fun h0 =>
(.path [1] (by kernel_rfl)
(.node (by kernel_rfl) (by kernel_rfl) (fun h1 =>
(.path [1,1,1] (by kernel_rfl)
(.leaf (by kernel_rfl)))) (fun h1 =>
(.node (by kernel_rfl) (by kernel_rfl) (fun h2 =>
(.node (by kernel_rfl) (by kernel_rfl) (fun h3 =>
(.path [1] (by kernel_rfl)
(.node (by kernel_rfl) (by kernel_rfl) (fun h4 =>
(.path [1] (by kernel_rfl)
(.leaf (by kernel_rfl)))) (fun h4 =>
(.path [1] (by kernel_rfl)
(.leaf (by kernel_rfl))))))) (fun h3 =>
.none))) (fun h2 =>
(.path [0,0,1] (by kernel_rfl)
(.leaf (by kernel_rfl))))))))) (fun h0 =>
(.path [0,1] (by kernel_rfl)
(.leaf (by kernel_rfl))))))

noncomputable def st_L19_10 (env : List Dat) : Tree Step := Lk.stepMC false LK cs_18 19 10 ls0 (mkM 0 [] [(sh 58 [(0, .str 0), (6, .own 0), (7, .int .i64 1), (8, .int .i64 2)], [.arr TS 3])] [(6, TS)] [(.exit 2, sh 58 [(6, .own 0)], [.arr TS 0])] fun _ => none) env
theorem op_L19_10_ex : ∃ f : List Dat → Option (Nat × List Dat), ∀ env, f env = iterS st_L19_10 FU env := ⟨iterS st_L19_10 FU, fun _ => rfl⟩
noncomputable def op_L19_10 : List Dat → Option (Nat × List Dat) := Classical.choose op_L19_10_ex
theorem op_L19_10_eq (env : List Dat) : op_L19_10 env = iterS st_L19_10 FU env := Classical.choose_spec op_L19_10_ex env
noncomputable def L19_10 : MBox := mkM 0 [] [(sh 58 [(0, .str 0), (6, .own 0), (7, .int .i64 1), (8, .int .i64 2)], [.arr TS 3])] [(6, TS)] [(.exit 2, sh 58 [(6, .own 0)], [.arr TS 0])] op_L19_10
theorem L19_10_eqs : L19_10 = mkM 0 [] [(sh 58 [(0, .str 0), (6, .own 0), (7, .int .i64 1), (8, .int .i64 2)], [.arr TS 3])] [(6, TS)] [(.exit 2, sh 58 [(6, .own 0)], [.arr TS 0])] (iterS st_L19_10 FU) := congrArg (fun f => mkM 0 [] [(sh 58 [(0, .str 0), (6, .own 0), (7, .int .i64 1), (8, .int .i64 2)], [.arr TS 3])] [(6, TS)] [(.exit 2, sh 58 [(6, .own 0)], [.arr TS 0])] f) (funext op_L19_10_eq)
theorem L19_10_run : ∀ t s x, (manyRun L19_10 t s).sel = some x → CodeOk Try.prog 0 (.loop (cAt Try.prog 19 10)) t s x := by
  rw [L19_10_eqs]
  exact mkM_ok (st := st_L19_10) (m := FU) cs_18_ok hmix false (LsOk.none _ _ _) (by kernel_rfl) (fun env y h => by rw [← stepMC_lk]; exact h)
theorem op_L19_10_good {p : Nat × List Dat → Prop} (Inv : List Dat → Prop) (μ : List Dat → Nat) (h : ∀ env, Inv env → Good (fun y => match y with | .go e => Inv e ∧ μ e < μ env | .stop k d => p (k, d)) (st_L19_10 env).sel) (env : List Dat) (hi : Inv env) (hm : μ env < FU) : Good p (op_L19_10 env) := by
  rw [op_L19_10_eq]
  exact iterS_good Inv μ p h FU env hi hm

noncomputable def fn_L19_10_t : List Dat → Tree Step
  | [.s s0, .n n1, .n n2, .l (Ty.str) l3] =>
    (.node (decide (n2 ≤ (↑(ByteArray.size s0) : Int)))
     (.node (decide (n2 < (↑(ByteArray.size s0) : Int)))
      (.node (strAt s0 n2 != (32 : Int))
       (.leaf (Step.go [.k 0, .s s0, .n n1, .n (IntKind.wrap .i64 (n2 + (1 : Int))), .l Ty.str l3]))
       (.node (decide (n2 > n1))
        (.node (decide ((0 : Int) ≤ n1) && decide (n1 ≤ n2))
         (.node (decide ((List.length l3 + 1) * 16 ≤ 140737488355328))
          (.leaf (Step.go [.k 0, .s s0, .n (IntKind.wrap .i64 (n2 + (1 : Int))), .n (IntKind.wrap .i64 (n2 + (1 : Int))), .l Ty.str (l3 ++ [ByteArray.extract s0 (Int.toNat n1) (Int.toNat n2)])]))
          (.bad 62))
         (.bad 43))
        (.leaf (Step.go [.k 0, .s s0, .n (IntKind.wrap .i64 (n2 + (1 : Int))), .n (IntKind.wrap .i64 (n2 + (1 : Int))), .l Ty.str l3]))))
      (.node (decide (n2 > n1))
       (.node (decide ((0 : Int) ≤ n1) && decide (n1 ≤ n2))
        (.node (decide ((List.length l3 + 1) * 16 ≤ 140737488355328))
         (.leaf (Step.go [.k 0, .s s0, .n (IntKind.wrap .i64 (n2 + (1 : Int))), .n (IntKind.wrap .i64 (n2 + (1 : Int))), .l Ty.str (l3 ++ [ByteArray.extract s0 (Int.toNat n1) (Int.toNat n2)])]))
         (.bad 62))
        (.bad 43))
       (.leaf (Step.go [.k 0, .s s0, .n (IntKind.wrap .i64 (n2 + (1 : Int))), .n (IntKind.wrap .i64 (n2 + (1 : Int))), .l Ty.str l3]))))
     (.leaf (Step.stop 0 [.l Ty.str l3])))
  | _ => .bad 0
theorem fn_L19_10_t_im (s0 : ByteArray) (n1 : Int) (n2 : Int) (l3 : List (Ty.den (Ty.str))) (g0 : 0 ≤ n2) : Imp (fn_L19_10_t [.s s0, .n n1, .n n2, .l (Ty.str) l3]) (st_L19_10 [.k 0, .s s0, .n n1, .n n2, .l TS l3]) :=
(.path [1] (by kernel_rfl)
(.node (by kernel_rfl) (by kernel_rfl) (fun h0 =>
(.node (by kernel_rfl) (by kernel_rfl) (fun h1 =>
(.pt (c := (inR n2 (ByteArray.size s0))) (by kernel_rfl) (by kernel_rfl) (by (simp only [w64d, decide_eq_true_eq, decide_eq_false_iff_not, beq_iff_eq, beq_eq_false_iff_ne, bne_iff_ne, ne_eq, inR, Bool.and_eq_true, Bool.and_eq_false_iff, Bool.not_eq_true', Bool.not_eq_false', Bool.not_eq_eq_eq_not, Bool.not_true, Bool.not_false] at *; omega))
(.node (by kernel_rfl) (by kernel_rfl) (fun h2 =>
(.path [1] (by kernel_rfl)
(.leaf (by kernel_rfl)))) (fun h2 =>
(.node (by kernel_rfl) (by kernel_rfl) (fun h3 =>
(.pt (c := (decide ((0 : Int) ≤ n2) && decide (n2 ≤ (↑(ByteArray.size s0) : Int)))) (by kernel_rfl) (by kernel_rfl) (by (simp [*]; done))
(.node (by kernel_rfl) (by kernel_rfl) (fun h4 =>
(.node (by kernel_rfl) (by kernel_rfl) (fun h5 =>
(.path [1] (by kernel_rfl)
(.leaf (by kernel_rfl)))) (fun h5 =>
.none))) (fun h4 =>
.none)))) (fun h3 =>
(.path [1] (by kernel_rfl)
(.leaf (by kernel_rfl))))))))) (fun h1 =>
(.path [0,0] (by kernel_rfl)
(.node (by kernel_rfl) (by kernel_rfl) (fun h2 =>
(.pt (c := (decide ((0 : Int) ≤ n2) && decide (n2 ≤ (↑(ByteArray.size s0) : Int)))) (by kernel_rfl) (by kernel_rfl) (by (simp [*]; done))
(.node (by kernel_rfl) (by kernel_rfl) (fun h3 =>
(.node (by kernel_rfl) (by kernel_rfl) (fun h4 =>
(.path [1] (by kernel_rfl)
(.leaf (by kernel_rfl)))) (fun h4 =>
.none))) (fun h3 =>
.none)))) (fun h2 =>
(.path [1] (by kernel_rfl)
(.leaf (by kernel_rfl))))))))) (fun h0 =>
(.path [1] (by kernel_rfl)
(.leaf (by kernel_rfl))))))

theorem ls_19_ok : LsOk Try.prog (List.length ([] : List PB)) (lsM [(3, L19_3), (10, L19_10)] (List.length ([] : List PB))) (bodyOf Try.prog 19) := LsOk.many fun j B hB hk c hc hi => by
  simp only [lookM] at hB
  split at hB
  · rename_i e; have := Nat.eq_of_beq_eq_true e; subst this; cases hB
    have e1 : loopAt Try.prog 19 3 = [cAt Try.prog 19 3] := loopAt_one (by kernel_rfl)
    have e2 : c ∈ loopAt Try.prog 19 3 := loopsAt_mem hc hi
    rw [e1] at e2; cases List.mem_singleton.1 e2; exact L19_3_run
  split at hB
  · rename_i e; have := Nat.eq_of_beq_eq_true e; subst this; cases hB
    have e1 : loopAt Try.prog 19 10 = [cAt Try.prog 19 10] := loopAt_one (by kernel_rfl)
    have e2 : c ∈ loopAt Try.prog 19 10 := loopsAt_mem hc hi
    rw [e1] at e2; cases List.mem_singleton.1 e2; exact L19_10_run
  cases hB

noncomputable def ev_19 (env : List Dat) : Tree (Nat × List Dat) := Lk.boxC false LK cs_18 19 (lsM [(3, L19_3), (10, L19_10)] (List.length ([] : List PB))) (mkF [.str 0] [] [] [(.tup [.own 0, .int .i64 0], [.arr TS 1]), (.tup [.nilsl, .int .i64 0], [])] fun _ => none) env
theorem op_19_ex : ∃ f : List Dat → Option (Nat × List Dat), ∀ env, f env = (ev_19 env).sel := ⟨fun env => (ev_19 env).sel, fun _ => rfl⟩
noncomputable def op_19 : List Dat → Option (Nat × List Dat) := Classical.choose op_19_ex
theorem op_19_eq (env : List Dat) : op_19 env = (ev_19 env).sel := Classical.choose_spec op_19_ex env
noncomputable def B19 : FBox := mkF [.str 0] [] [] [(.tup [.own 0, .int .i64 0], [.arr TS 1]), (.tup [.nilsl, .int .i64 0], [])] op_19
theorem B19_ok : RunOk Try.prog 19 (boxRun B19) := mkF_ok (op := op_19) cs_18_ok hmix false (ls_19_ok) (fun env x h => by rw [op_19_eq] at h; rw [← boxC_lk]; exact h)
theorem op_19_good {p : Nat × List Dat → Prop} {T : Tree (Nat × List Dat)} {env : List Dat} (h : Imp T (ev_19 env)) (g : Good p T.sel) : Good p (op_19 env) := by
  rw [op_19_eq]
  exact h.good g

noncomputable def fn_19_t : List Dat → Tree (Nat × List Dat)
  | [.s s0] =>
    (let r1 : Option (Nat × List Dat) := (op_24 [.s s0]);
     (.node (isK 0 [HK.s] r1)
      (let r2 : Option (Nat × List Dat) := (op_L19_3 [.k 0, .s (gs (dOf r1) 0), .s (gs (dOf r1) 0), .n (0 : Int)]);
       (.node (isK 0 [HK.s] r2)
        (let r3 : Option (Nat × List Dat) := (op_L19_10 [.k 0, .s (gs (dOf r2) 0), .n (0 : Int), .n (0 : Int), .l Ty.str []]);
         (.node (isK 0 [HK.l Ty.str] r3)
          (.leaf ((0, [.n (0 : Int), .l Ty.str (gl Ty.str (dOf r3) 0)])))
          (.bad 351)))
        (.node (isK 1 [HK.n] r2)
         (.leaf ((1, [.n (gn (dOf r2) 0)])))
         (.bad 351))))
      (.bad 351)))
  | _ => .bad 0
theorem fn_19_t_im (s0 : ByteArray) : Imp (fn_19_t [.s s0]) (ev_19 [.s s0]) :=
(.node (by kernel_rfl) (by kernel_rfl) (fun h0 =>
(.path [1] (by kernel_rfl)
(.node (by kernel_rfl) (by kernel_rfl) (fun h1 =>
(.node (by kernel_rfl) (by kernel_rfl) (fun h2 =>
(.path [1] (by kernel_rfl)
(.leaf (by kernel_rfl)))) (fun h2 =>
.none))) (fun h1 =>
(.node (by kernel_rfl) (by kernel_rfl) (fun h2 =>
(.path [1] (by kernel_rfl)
(.leaf (by kernel_rfl)))) (fun h2 =>
.none)))))) (fun h0 =>
.none))

noncomputable def cs_19 : FuncId → Option CSpec := csLend 19 B19 cs_18
theorem cs_19_ok : CsOk Try.prog cs_19 := csLend_ok cs_18_ok B19_ok

noncomputable def ev_W3 (env : List Dat) : Tree Bool := Lk.lawB false LK cs_19 3 ls0 (instL [.int .i32 0] env)

theorem W3_law (env : List Dat) (h : (ev_W3 env).sel = some true) {w : World} {args : Array Value} (ha : LRel R0 (snapOf w) (instL [.int .i32 0] env) args) :
    Calls Try.prog 3 args w fun e w' => e = .returned (.bool true) ∧ Below w.heap.size w w' :=
  lawB_ok cs_19_ok hmix false (ls := ls0) (LsOk.none _ _ _) (by rw [← lawB_lk]; exact h) ha

noncomputable def fn_W3_t : List Dat → Tree Bool
  | [.n n0] =>
    (let r1 : Option (Nat × List Dat) := (op_10 [.n n0]);
     (.node (isK 0 [HK.b] r1)
      (let r2 : Option (Nat × List Dat) := (op_11 [.n n0]);
       (.node (isK 0 [HK.b] r2)
        (.node (gb (dOf r1) 0 == gb (dOf r2) 0)
         (.leaf (true))
         (.leaf (false)))
        (.bad 351)))
      (.bad 351)))
  | _ => .bad 0
theorem fn_W3_t_im (n0 : Int) : Imp (fn_W3_t [.n n0]) (ev_W3 [.n n0]) :=
(.node (by kernel_rfl) (by kernel_rfl) (fun h0 =>
(.path [1] (by kernel_rfl)
(.node (by kernel_rfl) (by kernel_rfl) (fun h1 =>
(.path [1] (by kernel_rfl)
(.node (by kernel_rfl) (by kernel_rfl) (fun h2 =>
(.path [1,1,1] (by kernel_rfl)
(.leaf (by kernel_rfl)))) (fun h2 =>
(.path [0] (by kernel_rfl)
(.leaf (by kernel_rfl))))))) (fun h1 =>
.none)))) (fun h0 =>
.none))

noncomputable def ev_W4 (env : List Dat) : Tree Bool := Lk.lawB false LK cs_19 4 ls0 (instL [.str 0] env)

theorem W4_law (env : List Dat) (h : (ev_W4 env).sel = some true) {w : World} {args : Array Value} (ha : LRel R0 (snapOf w) (instL [.str 0] env) args) :
    Calls Try.prog 4 args w fun e w' => e = .returned (.bool true) ∧ Below w.heap.size w w' :=
  lawB_ok cs_19_ok hmix false (ls := ls0) (LsOk.none _ _ _) (by rw [← lawB_lk]; exact h) ha

noncomputable def fn_W4_t : List Dat → Tree Bool
  | [.s s0] =>
    (.node (decide ((↑(ByteArray.size s0) : Int) > (500 : Int)))
     (.leaf (true))
     (let r1 : Option (Nat × List Dat) := (op_13 [.s s0]);
      (.node (isK 0 [HK.b] r1)
       (let r2 : Option (Nat × List Dat) := (op_14 [.s s0]);
        (.node (isK 0 [HK.b] r2)
         (.node (gb (dOf r1) 0 == gb (dOf r2) 0)
          (.leaf (true))
          (.leaf (false)))
         (.bad 351)))
       (.bad 351))))
  | _ => .bad 0
theorem fn_W4_t_im (s0 : ByteArray) : Imp (fn_W4_t [.s s0]) (ev_W4 [.s s0]) :=
(.node (by kernel_rfl) (by kernel_rfl) (fun h0 =>
(.path [1,1,1,1,1] (by kernel_rfl)
(.leaf (by kernel_rfl)))) (fun h0 =>
(.node (by kernel_rfl) (by kernel_rfl) (fun h1 =>
(.path [1] (by kernel_rfl)
(.node (by kernel_rfl) (by kernel_rfl) (fun h2 =>
(.path [1] (by kernel_rfl)
(.node (by kernel_rfl) (by kernel_rfl) (fun h3 =>
(.path [1,1,1] (by kernel_rfl)
(.leaf (by kernel_rfl)))) (fun h3 =>
(.path [0] (by kernel_rfl)
(.leaf (by kernel_rfl))))))) (fun h2 =>
.none)))) (fun h1 =>
.none))))

noncomputable def st_L5_6 (env : List Dat) : Tree Step := Lk.stepMC false LK cs_19 5 6 ls0 (mkM 0 [] [(sh 40 [(0, .str 0), (3, .own 0), (4, .str 1), (5, .int .i64 2)], [.arr TS 3])] [] [(.exit 0, sh 40 [(0, .str 0), (3, .own 0), (4, .str 1)], [.arr TS 2])] fun _ => none) env
theorem op_L5_6_ex : ∃ f : List Dat → Option (Nat × List Dat), ∀ env, f env = iterS st_L5_6 FU env := ⟨iterS st_L5_6 FU, fun _ => rfl⟩
noncomputable def op_L5_6 : List Dat → Option (Nat × List Dat) := Classical.choose op_L5_6_ex
theorem op_L5_6_eq (env : List Dat) : op_L5_6 env = iterS st_L5_6 FU env := Classical.choose_spec op_L5_6_ex env
noncomputable def L5_6 : MBox := mkM 0 [] [(sh 40 [(0, .str 0), (3, .own 0), (4, .str 1), (5, .int .i64 2)], [.arr TS 3])] [] [(.exit 0, sh 40 [(0, .str 0), (3, .own 0), (4, .str 1)], [.arr TS 2])] op_L5_6
theorem L5_6_eqs : L5_6 = mkM 0 [] [(sh 40 [(0, .str 0), (3, .own 0), (4, .str 1), (5, .int .i64 2)], [.arr TS 3])] [] [(.exit 0, sh 40 [(0, .str 0), (3, .own 0), (4, .str 1)], [.arr TS 2])] (iterS st_L5_6 FU) := congrArg (fun f => mkM 0 [] [(sh 40 [(0, .str 0), (3, .own 0), (4, .str 1), (5, .int .i64 2)], [.arr TS 3])] [] [(.exit 0, sh 40 [(0, .str 0), (3, .own 0), (4, .str 1)], [.arr TS 2])] f) (funext op_L5_6_eq)
theorem L5_6_run : ∀ t s x, (manyRun L5_6 t s).sel = some x → CodeOk Try.prog 0 (.loop (cAt Try.prog 5 6)) t s x := by
  rw [L5_6_eqs]
  exact mkM_ok (st := st_L5_6) (m := FU) cs_19_ok hmix false (LsOk.none _ _ _) (by kernel_rfl) (fun env y h => by rw [← stepMC_lk]; exact h)
theorem op_L5_6_good {p : Nat × List Dat → Prop} (Inv : List Dat → Prop) (μ : List Dat → Nat) (h : ∀ env, Inv env → Good (fun y => match y with | .go e => Inv e ∧ μ e < μ env | .stop k d => p (k, d)) (st_L5_6 env).sel) (env : List Dat) (hi : Inv env) (hm : μ env < FU) : Good p (op_L5_6 env) := by
  rw [op_L5_6_eq]
  exact iterS_good Inv μ p h FU env hi hm

noncomputable def fn_L5_6_t : List Dat → Tree Step
  | [.s s0, .s s1, .n n2, .l (Ty.str) l3] =>
    (.node (decide (n2 < (↑(List.length l3) : Int)))
     (.node (decide (n2 > (0 : Int)))
      (.node (decide (ByteArray.size s1 + 1 ≤ 9223372036854775807))
       (.node (decide (ByteArray.size (s1 ++ { data := { toList := [(10 : UInt8)] } }) + ByteArray.size (List.getD l3 (Int.toNat n2) (Ty.dflt Ty.str)) ≤ 9223372036854775807))
        (.leaf (Step.go [.k 0, .s s0, .s (s1 ++ { data := { toList := [(10 : UInt8)] } } ++ (List.getD l3 (Int.toNat n2) (Ty.dflt Ty.str) : ByteArray)), .n (IntKind.wrap .i64 (n2 + (1 : Int))), .l Ty.str l3]))
        (.bad 84))
       (.bad 84))
      (.node (decide (ByteArray.size s1 + ByteArray.size (List.getD l3 (Int.toNat n2) (Ty.dflt Ty.str)) ≤ 9223372036854775807))
       (.leaf (Step.go [.k 0, .s s0, .s (s1 ++ (List.getD l3 (Int.toNat n2) (Ty.dflt Ty.str) : ByteArray)), .n (IntKind.wrap .i64 (n2 + (1 : Int))), .l Ty.str l3]))
       (.bad 84)))
     (.leaf (Step.stop 0 [.s s0, .s s1, .l Ty.str l3])))
  | _ => .bad 0
theorem fn_L5_6_t_im (s0 : ByteArray) (s1 : ByteArray) (n2 : Int) (l3 : List (Ty.den (Ty.str))) (g0 : 0 ≤ n2) : Imp (fn_L5_6_t [.s s0, .s s1, .n n2, .l (Ty.str) l3]) (st_L5_6 [.k 0, .s s0, .s s1, .n n2, .l TS l3]) :=
(.path [1] (by kernel_rfl)
(.node (by kernel_rfl) (by kernel_rfl) (fun h0 =>
(.node (by kernel_rfl) (by kernel_rfl) (fun h1 =>
(.node (by kernel_rfl) (by kernel_rfl) (fun h2 =>
(.pt (c := (inR n2 (List.length l3))) (by kernel_rfl) (by kernel_rfl) (by (simp only [w64d, decide_eq_true_eq, decide_eq_false_iff_not, beq_iff_eq, beq_eq_false_iff_ne, bne_iff_ne, ne_eq, inR, Bool.and_eq_true, Bool.and_eq_false_iff, Bool.not_eq_true', Bool.not_eq_false', Bool.not_eq_eq_eq_not, Bool.not_true, Bool.not_false] at *; omega))
(.node (by kernel_rfl) (by kernel_rfl) (fun h3 =>
(.path [1] (by kernel_rfl)
(.leaf (by kernel_rfl)))) (fun h3 =>
.none)))) (fun h2 =>
.none))) (fun h1 =>
(.pt (c := (inR n2 (List.length l3))) (by kernel_rfl) (by kernel_rfl) (by (simp only [w64d, decide_eq_true_eq, decide_eq_false_iff_not, beq_iff_eq, beq_eq_false_iff_ne, bne_iff_ne, ne_eq, inR, Bool.and_eq_true, Bool.and_eq_false_iff, Bool.not_eq_true', Bool.not_eq_false', Bool.not_eq_eq_eq_not, Bool.not_true, Bool.not_false] at *; omega))
(.node (by kernel_rfl) (by kernel_rfl) (fun h2 =>
(.path [1] (by kernel_rfl)
(.leaf (by kernel_rfl)))) (fun h2 =>
.none)))))) (fun h0 =>
(.path [1] (by kernel_rfl)
(.leaf (by kernel_rfl))))))

theorem ls_5_ok : LsOk Try.prog (0) (lsM [(6, L5_6)] (0)) (bodyOf Try.prog 5) := LsOk.many fun j B hB hk c hc hi => by
  simp only [lookM] at hB
  split at hB
  · rename_i e; have := Nat.eq_of_beq_eq_true e; subst this; cases hB
    have e1 : loopAt Try.prog 5 6 = [cAt Try.prog 5 6] := loopAt_one (by kernel_rfl)
    have e2 : c ∈ loopAt Try.prog 5 6 := loopsAt_mem hc hi
    rw [e1] at e2; cases List.mem_singleton.1 e2; exact L5_6_run
  cases hB

noncomputable def ev_W5 (env : List Dat) : Tree Bool := Lk.lawB false LK cs_19 5 (lsM [(6, L5_6)] (0)) (instL [.str 0] env)

theorem W5_law (env : List Dat) (h : (ev_W5 env).sel = some true) {w : World} {args : Array Value} (ha : LRel R0 (snapOf w) (instL [.str 0] env) args) :
    Calls Try.prog 5 args w fun e w' => e = .returned (.bool true) ∧ Below w.heap.size w w' :=
  lawB_ok cs_19_ok hmix false (ls := (lsM [(6, L5_6)] (0))) (ls_5_ok) (by rw [← lawB_lk]; exact h) ha

noncomputable def fn_W5_t : List Dat → Tree Bool
  | [.s s0] =>
    (.node (decide ((↑(ByteArray.size s0) : Int) > (2000 : Int)))
     (.leaf (true))
     (let r1 : Option (Nat × List Dat) := (op_15 [.s s0]);
      (.node (isK 0 [HK.l Ty.str] r1)
       (let r2 : Option (Nat × List Dat) := (op_L5_6 [.k 0, .s s0, .s { data := { toList := [] } }, .n (0 : Int), .l Ty.str (gl Ty.str (dOf r1) 0)]);
        (.node (isK 0 [HK.s, HK.s, HK.l Ty.str] r2)
         (let r3 : Option (Nat × List Dat) := (op_17 [.s (gs (dOf r2) 0)]);
          (.node (isK 0 [HK.l Ty.str] r3)
           (let r4 : Option (Nat × List Dat) := (op_16 [.l Ty.str (gl Ty.str (dOf r2) 2), .l Ty.str (gl Ty.str (dOf r3) 0)]);
            (.node (isK 0 [HK.b] r4)
             (.node (gb (dOf r4) 0)
              (.node (strEq (gs (dOf r2) 1) (gs (dOf r2) 0))
               (.leaf (true))
               (.leaf (false)))
              (.leaf (false)))
             (.bad 351)))
           (.bad 351)))
         (.bad 351)))
       (.bad 351))))
  | _ => .bad 0
theorem fn_W5_t_im (s0 : ByteArray) : Imp (fn_W5_t [.s s0]) (ev_W5 [.s s0]) :=
(.node (by kernel_rfl) (by kernel_rfl) (fun h0 =>
(.path [1,1,1] (by kernel_rfl)
(.leaf (by kernel_rfl)))) (fun h0 =>
(.node (by kernel_rfl) (by kernel_rfl) (fun h1 =>
(.path [1] (by kernel_rfl)
(.node (by kernel_rfl) (by kernel_rfl) (fun h2 =>
(.node (by kernel_rfl) (by kernel_rfl) (fun h3 =>
(.path [1] (by kernel_rfl)
(.node (by kernel_rfl) (by kernel_rfl) (fun h4 =>
(.path [1] (by kernel_rfl)
(.node (by kernel_rfl) (by kernel_rfl) (fun h5 =>
(.node (by kernel_rfl) (by kernel_rfl) (fun h6 =>
(.path [1,1,1] (by kernel_rfl)
(.leaf (by kernel_rfl)))) (fun h6 =>
(.path [0] (by kernel_rfl)
(.leaf (by kernel_rfl)))))) (fun h5 =>
(.path [0,0,0] (by kernel_rfl)
(.leaf (by kernel_rfl))))))) (fun h4 =>
.none)))) (fun h3 =>
.none))) (fun h2 =>
.none)))) (fun h1 =>
.none))))

noncomputable def ev_W6 (env : List Dat) : Tree Bool := Lk.lawB false LK cs_19 6 ls0 (instL [.str 0] env)

theorem W6_law (env : List Dat) (h : (ev_W6 env).sel = some true) {w : World} {args : Array Value} (ha : LRel R0 (snapOf w) (instL [.str 0] env) args) :
    Calls Try.prog 6 args w fun e w' => e = .returned (.bool true) ∧ Below w.heap.size w w' :=
  lawB_ok cs_19_ok hmix false (ls := ls0) (LsOk.none _ _ _) (by rw [← lawB_lk]; exact h) ha

noncomputable def fn_W6_t : List Dat → Tree Bool
  | [.s s0] =>
    (.node (decide ((↑(ByteArray.size s0) : Int) > (2000 : Int)))
     (.leaf (true))
     (let r1 : Option (Nat × List Dat) := (op_18 [.s s0]);
      (.node (isK 0 [HK.n, HK.l Ty.str] r1)
       (let r2 : Option (Nat × List Dat) := (op_19 [.s s0]);
        (.node (isK 0 [HK.n, HK.l Ty.str] r2)
         (.node (gn (dOf r1) 0 == gn (dOf r2) 0)
          (let r3 : Option (Nat × List Dat) := (op_16 [.l Ty.str (gl Ty.str (dOf r1) 1), .l Ty.str (gl Ty.str (dOf r2) 1)]);
           (.node (isK 0 [HK.b] r3)
            (.node (gb (dOf r3) 0)
             (.leaf (true))
             (.leaf (false)))
            (.bad 351)))
          (.leaf (false)))
         (.node (isK 1 [HK.n] r2)
          (.node (gn (dOf r1) 0 == gn (dOf r2) 0)
           (let r3 : Option (Nat × List Dat) := (op_16 [.l Ty.str (gl Ty.str (dOf r1) 1), .l Ty.str []]);
            (.node (isK 0 [HK.b] r3)
             (.node (gb (dOf r3) 0)
              (.leaf (true))
              (.leaf (false)))
             (.bad 351)))
           (.leaf (false)))
          (.bad 351))))
       (.node (isK 1 [HK.n] r1)
        (let r2 : Option (Nat × List Dat) := (op_19 [.s s0]);
         (.node (isK 0 [HK.n, HK.l Ty.str] r2)
          (.node (gn (dOf r1) 0 == gn (dOf r2) 0)
           (let r3 : Option (Nat × List Dat) := (op_16 [.l Ty.str [], .l Ty.str (gl Ty.str (dOf r2) 1)]);
            (.node (isK 0 [HK.b] r3)
             (.node (gb (dOf r3) 0)
              (.leaf (true))
              (.leaf (false)))
             (.bad 351)))
           (.leaf (false)))
          (.node (isK 1 [HK.n] r2)
           (.node (gn (dOf r1) 0 == gn (dOf r2) 0)
            (let r3 : Option (Nat × List Dat) := (op_16 [.l Ty.str [], .l Ty.str []]);
             (.node (isK 0 [HK.b] r3)
              (.node (gb (dOf r3) 0)
               (.leaf (true))
               (.leaf (false)))
              (.bad 351)))
            (.leaf (false)))
           (.bad 351))))
        (.bad 351)))))
  | _ => .bad 0
theorem fn_W6_t_im (s0 : ByteArray) : Imp (fn_W6_t [.s s0]) (ev_W6 [.s s0]) :=
(.node (by kernel_rfl) (by kernel_rfl) (fun h0 =>
(.path [1,1,1] (by kernel_rfl)
(.leaf (by kernel_rfl)))) (fun h0 =>
(.node (by kernel_rfl) (by kernel_rfl) (fun h1 =>
(.path [1] (by kernel_rfl)
(.node (by kernel_rfl) (by kernel_rfl) (fun h2 =>
(.path [1] (by kernel_rfl)
(.node (by kernel_rfl) (by kernel_rfl) (fun h3 =>
(.node (by kernel_rfl) (by kernel_rfl) (fun h4 =>
(.path [1] (by kernel_rfl)
(.node (by kernel_rfl) (by kernel_rfl) (fun h5 =>
(.path [1,1,1] (by kernel_rfl)
(.leaf (by kernel_rfl)))) (fun h5 =>
(.path [0] (by kernel_rfl)
(.leaf (by kernel_rfl))))))) (fun h4 =>
.none))) (fun h3 =>
(.path [0,0,0] (by kernel_rfl)
(.leaf (by kernel_rfl))))))) (fun h2 =>
(.node (by kernel_rfl) (by kernel_rfl) (fun h3 =>
(.path [1] (by kernel_rfl)
(.node (by kernel_rfl) (by kernel_rfl) (fun h4 =>
(.node (by kernel_rfl) (by kernel_rfl) (fun h5 =>
(.path [1] (by kernel_rfl)
(.node (by kernel_rfl) (by kernel_rfl) (fun h6 =>
(.path [1,1,1] (by kernel_rfl)
(.leaf (by kernel_rfl)))) (fun h6 =>
(.path [0] (by kernel_rfl)
(.leaf (by kernel_rfl))))))) (fun h5 =>
.none))) (fun h4 =>
(.path [0,0,0] (by kernel_rfl)
(.leaf (by kernel_rfl))))))) (fun h3 =>
.none)))))) (fun h1 =>
(.node (by kernel_rfl) (by kernel_rfl) (fun h2 =>
(.path [1] (by kernel_rfl)
(.node (by kernel_rfl) (by kernel_rfl) (fun h3 =>
(.path [1] (by kernel_rfl)
(.node (by kernel_rfl) (by kernel_rfl) (fun h4 =>
(.node (by kernel_rfl) (by kernel_rfl) (fun h5 =>
(.path [1] (by kernel_rfl)
(.node (by kernel_rfl) (by kernel_rfl) (fun h6 =>
(.path [1,1,1] (by kernel_rfl)
(.leaf (by kernel_rfl)))) (fun h6 =>
(.path [0] (by kernel_rfl)
(.leaf (by kernel_rfl))))))) (fun h5 =>
.none))) (fun h4 =>
(.path [0,0,0] (by kernel_rfl)
(.leaf (by kernel_rfl))))))) (fun h3 =>
(.node (by kernel_rfl) (by kernel_rfl) (fun h4 =>
(.path [1] (by kernel_rfl)
(.node (by kernel_rfl) (by kernel_rfl) (fun h5 =>
(.node (by kernel_rfl) (by kernel_rfl) (fun h6 =>
(.path [1] (by kernel_rfl)
(.node (by kernel_rfl) (by kernel_rfl) (fun h7 =>
(.path [1,1,1] (by kernel_rfl)
(.leaf (by kernel_rfl)))) (fun h7 =>
(.path [0] (by kernel_rfl)
(.leaf (by kernel_rfl))))))) (fun h6 =>
.none))) (fun h5 =>
(.path [0,0,0] (by kernel_rfl)
(.leaf (by kernel_rfl))))))) (fun h4 =>
.none)))))) (fun h2 =>
.none))))))
end Go.Proofs.Ytpkmihelefkphaa.Vx
