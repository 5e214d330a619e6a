import Derived.Test.YtlocflgfoodiiaaVxIm
import Derived.Test.YtlocflgfoodiiaaVxLk
import Derived.Test.YtlocflgfoodiiaaVxLaw
import Derived.Test.YtlocflgfoodiiaaX05n
import Derived.KernelRfl
namespace Go.Proofs.Ytlocflgfoodiiaa.Vx
open Go Go.RowKit
set_option linter.unusedVariables false
set_option linter.unusedSimpArgs false
set_option maxRecDepth 100000
set_option maxHeartbeats 0

def apR (l : List (Ty.den TRt)) (e : Ty.den TRt) : List (Ty.den TRt) := l ++ [e]
def oC (b : Nat) : PB := .cells [.own b, .own (b+1), .own (b+2), .own (b+3)]
def nC : PB := .cells [.nilsl, .nilsl, .nilsl, .nilsl]
noncomputable def ev_21 (env : List Dat) : Tree (Nat × List Dat) := Lk.boxC false LK cs_15 21 ls0 (mkF [.int .i64 0, .int .i64 1] [] [] [(.int .i64 0, [])] fun _ => none) env
theorem op_21_ex : ∃ f : List Dat → Option (Nat × List Dat), ∀ env, f env = (ev_21 env).sel := ⟨fun env => (ev_21 env).sel, fun _ => rfl⟩
noncomputable def op_21 : List Dat → Option (Nat × List Dat) := Classical.choose op_21_ex
theorem op_21_eq (env : List Dat) : op_21 env = (ev_21 env).sel := Classical.choose_spec op_21_ex env
noncomputable def B21 : FBox := mkF [.int .i64 0, .int .i64 1] [] [] [(.int .i64 0, [])] op_21
theorem B21_ok : RunOk Try.prog 21 (boxRun B21) := mkF_ok (op := op_21) cs_15_ok hmix false (LsOk.none _ _ _) (fun env x h => by rw [op_21_eq] at h; rw [← boxC_lk]; exact h)
theorem op_21_good {p : Nat × List Dat → Prop} {T : Tree (Nat × List Dat)} {env : List Dat} (h : Imp T (ev_21 env)) (g : Good p T.sel) : Good p (op_21 env) := by
  rw [op_21_eq]
  exact h.good g

noncomputable def fn_21_t : List Dat → Tree (Nat × List Dat)
  | [.n n0, .n n1] =>
    (.node (decide (n1 ≤ (0 : Int)))
     (.leaf ((0, [.n (0 : Int)])))
     (.leaf ((0, [.n (Int.tmod (IntKind.wrap .i64 (Int.tmod n0 n1 + n1)) n1)]))))
  | _ => .bad 0
theorem fn_21_t_im (n0 : Int) (n1 : Int) : Imp (fn_21_t [.n n0, .n n1]) (ev_21 [.n n0, .n n1]) :=
(.nd (fun h0 =>
(.pa [1]
.lf)) (fun h0 =>
(.pt (c := (!decide (n1 = (0 : Int)))) (by kernel_rfl) (by kernel_rfl) (by (simp only [w64d, decide_eq_true_eq, decide_eq_false_iff_not, beq_iff_eq, beq_eq_false_iff_ne, bne_iff_ne, ne_eq, inR, Bool.and_eq_true, Bool.and_eq_false_iff, Bool.not_eq_true', Bool.not_eq_false', Bool.not_eq_eq_eq_not, Bool.not_true, Bool.not_false] at *; omega))
(.pt (c := (!decide (n1 = (0 : Int)))) (by kernel_rfl) (by kernel_rfl) (by (simp only [w64d, decide_eq_true_eq, decide_eq_false_iff_not, beq_iff_eq, beq_eq_false_iff_ne, bne_iff_ne, ne_eq, inR, Bool.and_eq_true, Bool.and_eq_false_iff, Bool.not_eq_true', Bool.not_eq_false', Bool.not_eq_eq_eq_not, Bool.not_true, Bool.not_false] at *; omega))
(.pa [1]
.lf)))))

noncomputable def cs_21 : FuncId → Option CSpec := csLend 21 B21 cs_15
theorem cs_21_ok : CsOk Try.prog cs_21 := csLend_ok cs_15_ok B21_ok

noncomputable def st_L20_6 (env : List Dat) : Tree Step := Lk.stepMC false LK cs_21 20 6 ls0 (mkM (cv := [(3, [], 3, .own TRt)]) 0 [] [(sh 73 [(1, .ptr 0 0), (2, .ptr 1 0), (3, .ptr 2 0), (4, .int .i64 0)], [laB 1, nC, oC 3, .arr TS 5, .arr TPt 6, .arr TPt 7, .arr TRt 8])] [] [(.exit 0, sh 73 [(2, .ptr 0 0), (3, .ptr 1 0)], [nC, oC 2, .arr TS 0, .arr TPt 1, .arr TPt 2, .arr TRt 3])] fun _ => none) env
theorem op_L20_6_ex : ∃ f : List Dat → Option (Nat × List Dat), ∀ env, f env = iterS st_L20_6 FU env := ⟨iterS st_L20_6 FU, fun _ => rfl⟩
noncomputable def op_L20_6 : List Dat → Option (Nat × List Dat) := Classical.choose op_L20_6_ex
theorem op_L20_6_eq (env : List Dat) : op_L20_6 env = iterS st_L20_6 FU env := Classical.choose_spec op_L20_6_ex env
noncomputable def L20_6 : MBox := mkM (cv := [(3, [], 3, .own TRt)]) 0 [] [(sh 73 [(1, .ptr 0 0), (2, .ptr 1 0), (3, .ptr 2 0), (4, .int .i64 0)], [laB 1, nC, oC 3, .arr TS 5, .arr TPt 6, .arr TPt 7, .arr TRt 8])] [] [(.exit 0, sh 73 [(2, .ptr 0 0), (3, .ptr 1 0)], [nC, oC 2, .arr TS 0, .arr TPt 1, .arr TPt 2, .arr TRt 3])] op_L20_6
theorem L20_6_eqs : L20_6 = mkM (cv := [(3, [], 3, .own TRt)]) 0 [] [(sh 73 [(1, .ptr 0 0), (2, .ptr 1 0), (3, .ptr 2 0), (4, .int .i64 0)], [laB 1, nC, oC 3, .arr TS 5, .arr TPt 6, .arr TPt 7, .arr TRt 8])] [] [(.exit 0, sh 73 [(2, .ptr 0 0), (3, .ptr 1 0)], [nC, oC 2, .arr TS 0, .arr TPt 1, .arr TPt 2, .arr TRt 3])] (iterS st_L20_6 FU) := congrArg (fun f => mkM (cv := [(3, [], 3, .own TRt)]) 0 [] [(sh 73 [(1, .ptr 0 0), (2, .ptr 1 0), (3, .ptr 2 0), (4, .int .i64 0)], [laB 1, nC, oC 3, .arr TS 5, .arr TPt 6, .arr TPt 7, .arr TRt 8])] [] [(.exit 0, sh 73 [(2, .ptr 0 0), (3, .ptr 1 0)], [nC, oC 2, .arr TS 0, .arr TPt 1, .arr TPt 2, .arr TRt 3])] f) (funext op_L20_6_eq)
theorem L20_6_run : ∀ t s x, (manyRun L20_6 t s).sel = some x → CodeOk Try.prog 0 (.loop (cAt Try.prog 20 6)) t s x := by
  rw [L20_6_eqs]
  exact mkM_ok (st := st_L20_6) (m := FU) cs_21_ok hmix false (LsOk.none _ _ _) (by kernel_rfl) (fun env y h => by rw [← stepMC_lk]; exact h)
theorem op_L20_6_good {p : Nat × List Dat → Prop} (Inv : List Dat → Prop) (μ : List Dat → Nat) (h : ∀ env, Inv env → Good (fun y => match y with | .go e => Inv e ∧ μ e < μ env | .stop k d => p (k, d)) (st_L20_6 env).sel) (env : List Dat) (hi : Inv env) (hm : μ env < FU) : Good p (op_L20_6 env) := by
  rw [op_L20_6_eq]
  exact iterS_good Inv μ p h FU env hi hm

noncomputable def fn_L20_6_t : List Dat → Tree Step
  | [.n n0, .l (Ty.str) l1, .l (Ty.pair Ty.str (Ty.int IntKind.i64)) l2, .l (Ty.pair Ty.str (Ty.int IntKind.i64)) l3, .l (Ty.pair Ty.str (Ty.pair (Ty.int IntKind.i64) (Ty.pair (Ty.sl (Ty.int IntKind.i64)) (Ty.pair (Ty.sl (Ty.pair (Ty.int IntKind.i64) Ty.bool)) (Ty.pair (Ty.sl (Ty.int IntKind.i64)) (Ty.sl (Ty.pair (Ty.int IntKind.i64) Ty.bool))))))) l4, .l (Ty.str) l5, .l (Ty.pair Ty.str (Ty.int IntKind.i64)) l6, .l (Ty.pair Ty.str (Ty.int IntKind.i64)) l7, .l (Ty.pair Ty.str (Ty.pair (Ty.int IntKind.i64) (Ty.pair (Ty.sl (Ty.int IntKind.i64)) (Ty.pair (Ty.sl (Ty.pair (Ty.int IntKind.i64) Ty.bool)) (Ty.pair (Ty.sl (Ty.int IntKind.i64)) (Ty.sl (Ty.pair (Ty.int IntKind.i64) Ty.bool))))))) l8] =>
    (.node (decide (n0 < (↑(List.length l4) : Int)))
     (.node (decide (List.length (Prod.fst (Prod.snd (Prod.snd (List.getD l4 (Int.toNat n0) (Ty.dflt TRt))))) * 8 ≤ 140737488355328))
      (.node (decide (List.length (Prod.fst (Prod.snd (Prod.snd (Prod.snd (List.getD l4 (Int.toNat n0) (Ty.dflt TRt)))))) * 16 ≤ 140737488355328))
       (.node (decide (List.length (Prod.fst (Prod.snd (Prod.snd (Prod.snd (Prod.snd (List.getD l4 (Int.toNat n0) (Ty.dflt TRt))))))) * 8 ≤ 140737488355328))
        (.node (decide (List.length (Prod.snd (Prod.snd (Prod.snd (Prod.snd (Prod.snd (List.getD l4 (Int.toNat n0) (Ty.dflt TRt))))))) * 16 ≤ 140737488355328))
         (.node (decide ((List.length l8 + 1) * 120 ≤ 140737488355328))
          (.leaf (Step.go [.k 0, .n (IntKind.wrap .i64 (n0 + (1 : Int))), .l Ty.str l1, .l TPt l2, .l TPt l3, .l TRt l4, .l Ty.str l5, .l TPt l6, .l TPt l7, .l TRt (apR (l8) (Prod.fst (List.getD l4 (Int.toNat n0) (Ty.dflt TRt)), Prod.fst (Prod.snd (List.getD l4 (Int.toNat n0) (Ty.dflt TRt))), Prod.fst (Prod.snd (Prod.snd (List.getD l4 (Int.toNat n0) (Ty.dflt TRt)))), Prod.fst (Prod.snd (Prod.snd (Prod.snd (List.getD l4 (Int.toNat n0) (Ty.dflt TRt))))), Prod.fst (Prod.snd (Prod.snd (Prod.snd (Prod.snd (List.getD l4 (Int.toNat n0) (Ty.dflt TRt)))))), Prod.snd (Prod.snd (Prod.snd (Prod.snd (Prod.snd (List.getD l4 (Int.toNat n0) (Ty.dflt TRt))))))))]))
          (.bad 62))
         (.bad 60))
        (.bad 60))
       (.bad 60))
      (.bad 60))
     (.leaf (Step.stop 0 [.l Ty.str l5, .l TPt l6, .l TPt l7, .l TRt l8])))
  | _ => .bad 0
theorem fn_L20_6_t_im (n0 : Int) (l1 : List (Ty.den TS)) (l2 : List (Ty.den TPt)) (l3 : List (Ty.den TPt)) (l4 : List (Ty.den TRt)) (l5 : List (Ty.den TS)) (l6 : List (Ty.den TPt)) (l7 : List (Ty.den TPt)) (l8 : List (Ty.den TRt)) (g0 : 0 ≤ n0) : Imp (fn_L20_6_t [.n n0, .l TS l1, .l TPt l2, .l TPt l3, .l TRt l4, .l TS l5, .l TPt l6, .l TPt l7, .l TRt l8]) (st_L20_6 [.k 0, .n n0, .l TS l1, .l TPt l2, .l TPt l3, .l TRt l4, .l TS l5, .l TPt l6, .l TPt l7, .l TRt l8]) :=
(.pa [1]
(.nd (fun h0 =>
(.pt (c := (inR n0 (List.length l4))) (by kernel_rfl) (by kernel_rfl) (by (simp only [w64d, decide_eq_true_eq, decide_eq_false_iff_not, beq_iff_eq, beq_eq_false_iff_ne, bne_iff_ne, ne_eq, inR, Bool.and_eq_true, Bool.and_eq_false_iff, Bool.not_eq_true', Bool.not_eq_false', Bool.not_eq_eq_eq_not, Bool.not_true, Bool.not_false] at *; omega))
(.nd (fun h1 =>
(.nd (fun h2 =>
(.nd (fun h3 =>
(.nd (fun h4 =>
(.nd (fun h5 =>
(.pa [1]
.lf)) (fun h5 =>
.none))) (fun h4 =>
.none))) (fun h3 =>
.none))) (fun h2 =>
.none))) (fun h1 =>
.none)))) (fun h0 =>
(.pa [1]
.lf))))

theorem ls_20_ok : LsOk Try.prog (List.length ([] : List PB)) (lsM [(6, L20_6)] (List.length ([] : List PB))) (bodyOf Try.prog 20) := LsOk.many fun j B hB hk c hc hi => by
  simp only [lookM] at hB
  split at hB
  · rename_i e; have := Nat.eq_of_beq_eq_true e; subst this; cases hB
    have e1 : loopAt Try.prog 20 6 = [cAt Try.prog 20 6] := loopAt_one (by kernel_rfl)
    have e2 : c ∈ loopAt Try.prog 20 6 := loopsAt_mem hc hi
    rw [e1] at e2; cases List.mem_singleton.1 e2; exact L20_6_run
  cases hB

noncomputable def ev_20 (env : List Dat) : Tree (Nat × List Dat) := Lk.boxC false LK cs_21 20 (lsM [(6, L20_6)] (List.length ([] : List PB))) (mkF [laV 0] [] [] [(.agg [.own 0, .own 1, .own 2, .own 3], [.arr TS 0, .arr TPt 1, .arr TPt 2, .arr TRt 3])] fun _ => none) env
theorem op_20_ex : ∃ f : List Dat → Option (Nat × List Dat), ∀ env, f env = (ev_20 env).sel := ⟨fun env => (ev_20 env).sel, fun _ => rfl⟩
noncomputable def op_20 : List Dat → Option (Nat × List Dat) := Classical.choose op_20_ex
theorem op_20_eq (env : List Dat) : op_20 env = (ev_20 env).sel := Classical.choose_spec op_20_ex env
noncomputable def B20 : FBox := mkF [laV 0] [] [] [(.agg [.own 0, .own 1, .own 2, .own 3], [.arr TS 0, .arr TPt 1, .arr TPt 2, .arr TRt 3])] op_20
theorem B20_ok : RunOk Try.prog 20 (boxRun B20) := mkF_ok (op := op_20) cs_21_ok hmix false (ls_20_ok) (fun env x h => by rw [op_20_eq] at h; rw [← boxC_lk]; exact h)
theorem op_20_good {p : Nat × List Dat → Prop} {T : Tree (Nat × List Dat)} {env : List Dat} (h : Imp T (ev_20 env)) (g : Good p T.sel) : Good p (op_20 env) := by
  rw [op_20_eq]
  exact h.good g

noncomputable def fn_20_t : List Dat → Tree (Nat × List Dat)
  | [.l (Ty.str) l0, .l (Ty.pair Ty.str (Ty.int IntKind.i64)) l1, .l (Ty.pair Ty.str (Ty.int IntKind.i64)) l2, .l (Ty.pair Ty.str (Ty.pair (Ty.int IntKind.i64) (Ty.pair (Ty.sl (Ty.int IntKind.i64)) (Ty.pair (Ty.sl (Ty.pair (Ty.int IntKind.i64) Ty.bool)) (Ty.pair (Ty.sl (Ty.int IntKind.i64)) (Ty.sl (Ty.pair (Ty.int IntKind.i64) Ty.bool))))))) l3] =>
    (.node (decide (List.length l0 * 16 ≤ 140737488355328))
     (.node (decide (List.length l1 * 24 ≤ 140737488355328))
      (.node (decide (List.length l2 * 24 ≤ 140737488355328))
       (let r1 : Option (Nat × List Dat) := (op_L20_6 [.k 0, .n (0 : Int), .l Ty.str l0, .l TPt l1, .l TPt l2, .l TRt l3, .l Ty.str l0, .l TPt l1, .l TPt l2, .l TRt []]);
        (.node (isK 0 [HK.l Ty.str, HK.l TPt, HK.l TPt, HK.l TRt] r1)
         (.leaf ((0, [.l Ty.str (gl Ty.str (dOf r1) 0), .l TPt (gl TPt (dOf r1) 1), .l TPt (gl TPt (dOf r1) 2), .l TRt (gl TRt (dOf r1) 3)])))
         (.bad 351)))
       (.bad 60))
      (.bad 60))
     (.bad 60))
  | _ => .bad 0
theorem fn_20_t_im (l0 : List (Ty.den TS)) (l1 : List (Ty.den TPt)) (l2 : List (Ty.den TPt)) (l3 : List (Ty.den TRt)) : Imp (fn_20_t [.l TS l0, .l TPt l1, .l TPt l2, .l TRt l3]) (ev_20 [.l TS l0, .l TPt l1, .l TPt l2, .l TRt l3]) :=
(.nd (fun h0 =>
(.nd (fun h1 =>
(.nd (fun h2 =>
(.nd (fun h3 =>
(.pa [1]
.lf)) (fun h3 =>
.none))) (fun h2 =>
.none))) (fun h1 =>
.none))) (fun h0 =>
.none))

noncomputable def cs_20 : FuncId → Option CSpec := csAdd 20 [B20] cs_21
theorem cs_20_ok : CsOk Try.prog cs_20 := csAdd_ok cs_21_ok fun B hB => by
  cases List.mem_singleton.1 hB
  exact B20_ok

noncomputable def st_L6_6 (env : List Dat) : Tree Step := Lk.stepMC false LK cs_20 6 6 ls0 (mkM 0 [] [(sh 136 [(1, .int .i64 0), (2, .ptr 0 0), (5, .int .i64 1), (7, .bool 2), (8, .int .i64 3)], [laB 4])] [] [(.exit 0, sh 136 [(1, .int .i64 0), (2, .ptr 0 0), (5, .int .i64 1), (7, .bool 2)], [laB 3])] fun _ => none) env
theorem op_L6_6_ex : ∃ f : List Dat → Option (Nat × List Dat), ∀ env, f env = iterS st_L6_6 FU env := ⟨iterS st_L6_6 FU, fun _ => rfl⟩
noncomputable def op_L6_6 : List Dat → Option (Nat × List Dat) := Classical.choose op_L6_6_ex
theorem op_L6_6_eq (env : List Dat) : op_L6_6 env = iterS st_L6_6 FU env := Classical.choose_spec op_L6_6_ex env
noncomputable def L6_6 : MBox := mkM 0 [] [(sh 136 [(1, .int .i64 0), (2, .ptr 0 0), (5, .int .i64 1), (7, .bool 2), (8, .int .i64 3)], [laB 4])] [] [(.exit 0, sh 136 [(1, .int .i64 0), (2, .ptr 0 0), (5, .int .i64 1), (7, .bool 2)], [laB 3])] op_L6_6
theorem L6_6_eqs : L6_6 = mkM 0 [] [(sh 136 [(1, .int .i64 0), (2, .ptr 0 0), (5, .int .i64 1), (7, .bool 2), (8, .int .i64 3)], [laB 4])] [] [(.exit 0, sh 136 [(1, .int .i64 0), (2, .ptr 0 0), (5, .int .i64 1), (7, .bool 2)], [laB 3])] (iterS st_L6_6 FU) := congrArg (fun f => mkM 0 [] [(sh 136 [(1, .int .i64 0), (2, .ptr 0 0), (5, .int .i64 1), (7, .bool 2), (8, .int .i64 3)], [laB 4])] [] [(.exit 0, sh 136 [(1, .int .i64 0), (2, .ptr 0 0), (5, .int .i64 1), (7, .bool 2)], [laB 3])] f) (funext op_L6_6_eq)
theorem L6_6_run : ∀ t s x, (manyRun L6_6 t s).sel = some x → CodeOk Try.prog 0 (.loop (cAt Try.prog 6 6)) t s x := by
  rw [L6_6_eqs]
  exact mkM_ok (st := st_L6_6) (m := FU) cs_20_ok hmix false (LsOk.none _ _ _) (by kernel_rfl) (fun env y h => by rw [← stepMC_lk]; exact h)
theorem op_L6_6_good {p : Nat × List Dat → Prop} (Inv : List Dat → Prop) (μ : List Dat → Nat) (h : ∀ env, Inv env → Good (fun y => match y with | .go e => Inv e ∧ μ e < μ env | .stop k d => p (k, d)) (st_L6_6 env).sel) (env : List Dat) (hi : Inv env) (hm : μ env < FU) : Good p (op_L6_6 env) := by
  rw [op_L6_6_eq]
  exact iterS_good Inv μ p h FU env hi hm

noncomputable def fn_L6_6_t : List Dat → Tree Step
  | [.n n0, .n n1, .b b2, .n n3, .l (Ty.str) l4, .l (Ty.pair Ty.str (Ty.int IntKind.i64)) l5, .l (Ty.pair Ty.str (Ty.int IntKind.i64)) l6, .l (Ty.pair Ty.str (Ty.pair (Ty.int IntKind.i64) (Ty.pair (Ty.sl (Ty.int IntKind.i64)) (Ty.pair (Ty.sl (Ty.pair (Ty.int IntKind.i64) Ty.bool)) (Ty.pair (Ty.sl (Ty.int IntKind.i64)) (Ty.sl (Ty.pair (Ty.int IntKind.i64) Ty.bool))))))) l7] =>
    (.node (decide (n3 < (↑(List.length l7) : Int)))
     (.node (b2)
      (let r1 : Option (Nat × List Dat) := (op_16 [.l Ty.str l4, .l TPt l5, .l TPt l6, .l TRt l7, .n n3]);
       (.node (isK 0 [HK.n] r1)
        (.leaf (Step.go [.k 0, .n n0, .n n1, .b (gn (dOf r1) 0 == (0 : Int)), .n (IntKind.wrap .i64 (n3 + (1 : Int))), .l Ty.str l4, .l TPt l5, .l TPt l6, .l TRt l7]))
        (.bad 351)))
      (.leaf (Step.stop 0 [.n n0, .n n1, .b b2, .l Ty.str l4, .l TPt l5, .l TPt l6, .l TRt l7])))
     (.leaf (Step.stop 0 [.n n0, .n n1, .b b2, .l Ty.str l4, .l TPt l5, .l TPt l6, .l TRt l7])))
  | _ => .bad 0
theorem fn_L6_6_t_im (n0 : Int) (n1 : Int) (b2 : Bool) (n3 : Int) (l4 : List (Ty.den TS)) (l5 : List (Ty.den TPt)) (l6 : List (Ty.den TPt)) (l7 : List (Ty.den TRt)) (g0 : 0 ≤ n3) : Imp (fn_L6_6_t [.n n0, .n n1, .b b2, .n n3, .l TS l4, .l TPt l5, .l TPt l6, .l TRt l7]) (st_L6_6 [.k 0, .n n0, .n n1, .b b2, .n n3, .l TS l4, .l TPt l5, .l TPt l6, .l TRt l7]) :=
(.pa [1]
(.nd (fun h0 =>
(.nd (fun h1 =>
(.nd (fun h2 =>
(.pa [1,1]
.lf)) (fun h2 =>
.none))) (fun h1 =>
(.pa [1]
.lf)))) (fun h0 =>
(.pa [0,0,1]
.lf))))

noncomputable def st_L6_25 (env : List Dat) : Tree Step := Lk.stepMC false LK cs_20 6 25 ls0 (mkM 0 [] [(sh 136 [(2, .ptr 0 0), (9, .ptr 1 0), (10, .ptr 2 0), (11, .int .i64 0), (12, .int .i64 1), (13, .ptr 3 0), (14, .own 4), (15, .int .i64 2)], [laB 3, oC 5, oC 9, rtB 7, .arr TI 13, .arr TS 14, .arr TPt 15, .arr TPt 16, .arr TRt 17, .arr TS 18, .arr TPt 19, .arr TPt 20, .arr TRt 21])] [(14, TI)] [(.exit 4, sh 136 [(2, .ptr 0 0), (9, .ptr 1 0), (10, .ptr 2 0), (11, .int .i64 0), (12, .int .i64 1), (13, .ptr 3 0), (14, .own 4)], [laB 2, oC 5, oC 9, rtB 6, .arr TI 12, .arr TS 13, .arr TPt 14, .arr TPt 15, .arr TRt 16, .arr TS 17, .arr TPt 18, .arr TPt 19, .arr TRt 20])] fun _ => none) env
theorem op_L6_25_ex : ∃ f : List Dat → Option (Nat × List Dat), ∀ env, f env = iterS st_L6_25 FU env := ⟨iterS st_L6_25 FU, fun _ => rfl⟩
noncomputable def op_L6_25 : List Dat → Option (Nat × List Dat) := Classical.choose op_L6_25_ex
theorem op_L6_25_eq (env : List Dat) : op_L6_25 env = iterS st_L6_25 FU env := Classical.choose_spec op_L6_25_ex env
noncomputable def L6_25 : MBox := mkM 0 [] [(sh 136 [(2, .ptr 0 0), (9, .ptr 1 0), (10, .ptr 2 0), (11, .int .i64 0), (12, .int .i64 1), (13, .ptr 3 0), (14, .own 4), (15, .int .i64 2)], [laB 3, oC 5, oC 9, rtB 7, .arr TI 13, .arr TS 14, .arr TPt 15, .arr TPt 16, .arr TRt 17, .arr TS 18, .arr TPt 19, .arr TPt 20, .arr TRt 21])] [(14, TI)] [(.exit 4, sh 136 [(2, .ptr 0 0), (9, .ptr 1 0), (10, .ptr 2 0), (11, .int .i64 0), (12, .int .i64 1), (13, .ptr 3 0), (14, .own 4)], [laB 2, oC 5, oC 9, rtB 6, .arr TI 12, .arr TS 13, .arr TPt 14, .arr TPt 15, .arr TRt 16, .arr TS 17, .arr TPt 18, .arr TPt 19, .arr TRt 20])] op_L6_25
theorem L6_25_eqs : L6_25 = mkM 0 [] [(sh 136 [(2, .ptr 0 0), (9, .ptr 1 0), (10, .ptr 2 0), (11, .int .i64 0), (12, .int .i64 1), (13, .ptr 3 0), (14, .own 4), (15, .int .i64 2)], [laB 3, oC 5, oC 9, rtB 7, .arr TI 13, .arr TS 14, .arr TPt 15, .arr TPt 16, .arr TRt 17, .arr TS 18, .arr TPt 19, .arr TPt 20, .arr TRt 21])] [(14, TI)] [(.exit 4, sh 136 [(2, .ptr 0 0), (9, .ptr 1 0), (10, .ptr 2 0), (11, .int .i64 0), (12, .int .i64 1), (13, .ptr 3 0), (14, .own 4)], [laB 2, oC 5, oC 9, rtB 6, .arr TI 12, .arr TS 13, .arr TPt 14, .arr TPt 15, .arr TRt 16, .arr TS 17, .arr TPt 18, .arr TPt 19, .arr TRt 20])] (iterS st_L6_25 FU) := congrArg (fun f => mkM 0 [] [(sh 136 [(2, .ptr 0 0), (9, .ptr 1 0), (10, .ptr 2 0), (11, .int .i64 0), (12, .int .i64 1), (13, .ptr 3 0), (14, .own 4), (15, .int .i64 2)], [laB 3, oC 5, oC 9, rtB 7, .arr TI 13, .arr TS 14, .arr TPt 15, .arr TPt 16, .arr TRt 17, .arr TS 18, .arr TPt 19, .arr TPt 20, .arr TRt 21])] [(14, TI)] [(.exit 4, sh 136 [(2, .ptr 0 0), (9, .ptr 1 0), (10, .ptr 2 0), (11, .int .i64 0), (12, .int .i64 1), (13, .ptr 3 0), (14, .own 4)], [laB 2, oC 5, oC 9, rtB 6, .arr TI 12, .arr TS 13, .arr TPt 14, .arr TPt 15, .arr TRt 16, .arr TS 17, .arr TPt 18, .arr TPt 19, .arr TRt 20])] f) (funext op_L6_25_eq)
theorem L6_25_run : ∀ t s x, (manyRun L6_25 t s).sel = some x → CodeOk Try.prog 0 (.loop (cAt Try.prog 6 25)) t s x := by
  rw [L6_25_eqs]
  exact mkM_ok (st := st_L6_25) (m := FU) cs_20_ok hmix false (LsOk.none _ _ _) (by kernel_rfl) (fun env y h => by rw [← stepMC_lk]; exact h)
theorem op_L6_25_good {p : Nat × List Dat → Prop} (Inv : List Dat → Prop) (μ : List Dat → Nat) (h : ∀ env, Inv env → Good (fun y => match y with | .go e => Inv e ∧ μ e < μ env | .stop k d => p (k, d)) (st_L6_25 env).sel) (env : List Dat) (hi : Inv env) (hm : μ env < FU) : Good p (op_L6_25 env) := by
  rw [op_L6_25_eq]
  exact iterS_good Inv μ p h FU env hi hm

noncomputable def fn_L6_25_t : List Dat → Tree Step
  | [.n n0, .n n1, .n n2, .l (Ty.str) l3, .l (Ty.pair Ty.str (Ty.int IntKind.i64)) l4, .l (Ty.pair Ty.str (Ty.int IntKind.i64)) l5, .l (Ty.pair Ty.str (Ty.pair (Ty.int IntKind.i64) (Ty.pair (Ty.sl (Ty.int IntKind.i64)) (Ty.pair (Ty.sl (Ty.pair (Ty.int IntKind.i64) Ty.bool)) (Ty.pair (Ty.sl (Ty.int IntKind.i64)) (Ty.sl (Ty.pair (Ty.int IntKind.i64) Ty.bool))))))) l6, .s s7, .n n8, .l (Ty.int IntKind.i64) l9, .l (Ty.pair (Ty.int IntKind.i64) Ty.bool) l10, .l (Ty.int IntKind.i64) l11, .l (Ty.pair (Ty.int IntKind.i64) Ty.bool) l12, .l (Ty.int IntKind.i64) l13, .l (Ty.pair Ty.str (Ty.pair (Ty.int IntKind.i64) (Ty.pair (Ty.sl (Ty.int IntKind.i64)) (Ty.pair (Ty.sl (Ty.pair (Ty.int IntKind.i64) Ty.bool)) (Ty.pair (Ty.sl (Ty.int IntKind.i64)) (Ty.sl (Ty.pair (Ty.int IntKind.i64) Ty.bool))))))) l14, .l (Ty.pair Ty.str (Ty.pair (Ty.int IntKind.i64) (Ty.pair (Ty.sl (Ty.int IntKind.i64)) (Ty.pair (Ty.sl (Ty.pair (Ty.int IntKind.i64) Ty.bool)) (Ty.pair (Ty.sl (Ty.int IntKind.i64)) (Ty.sl (Ty.pair (Ty.int IntKind.i64) Ty.bool))))))) l15] =>
    (.node (decide (n2 ≥ (0 : Int)))
     (.node (decide ((List.length l13 + 1) * 8 ≤ 140737488355328))
      (.leaf (Step.go [.k 0, .n n0, .n n1, .n (IntKind.wrap .i64 (n2 - (1 : Int))), .l Ty.str l3, .l TPt l4, .l TPt l5, .l TRt l6, .s s7, .n n8, .l TI l9, .l TNd l10, .l TI l11, .l TNd l12, .l TI (l13 ++ [List.getD l9 (Int.toNat n2) (0 : Int)]), .l Ty.str l3, .l TPt l4, .l TPt l5, .l TRt l14, .l Ty.str l3, .l TPt l4, .l TPt l5, .l TRt l15]))
      (.bad 62))
     (.leaf (Step.stop 0 [.n n0, .n n1, .l Ty.str l3, .l TPt l4, .l TPt l5, .l TRt l6, .s s7, .n n8, .l TI l9, .l TNd l10, .l TI l11, .l TNd l12, .l TI l13, .l Ty.str l3, .l TPt l4, .l TPt l5, .l TRt l14, .l Ty.str l3, .l TPt l4, .l TPt l5, .l TRt l15])))
  | _ => .bad 0
theorem fn_L6_25_t_im (n0 : Int) (n1 : Int) (n2 : Int) (l3 : List (Ty.den TS)) (l4 : List (Ty.den TPt)) (l5 : List (Ty.den TPt)) (l6 : List (Ty.den TRt)) (s7 : ByteArray) (n8 : Int) (l9 : List (Ty.den TI)) (l10 : List (Ty.den TNd)) (l11 : List (Ty.den TI)) (l12 : List (Ty.den TNd)) (l13 : List (Ty.den TI)) (l14 : List (Ty.den TRt)) (l15 : List (Ty.den TRt)) (g0 : n2 < (l9.length : Int)) : Imp (fn_L6_25_t [.n n0, .n n1, .n n2, .l TS l3, .l TPt l4, .l TPt l5, .l TRt l6, .s s7, .n n8, .l TI l9, .l TNd l10, .l TI l11, .l TNd l12, .l TI l13, .l TRt l14, .l TRt l15]) (st_L6_25 [.k 0, .n n0, .n n1, .n n2, .l TS l3, .l TPt l4, .l TPt l5, .l TRt l6, .s s7, .n n8, .l TI l9, .l TNd l10, .l TI l11, .l TNd l12, .l TI l13, .l TS l3, .l TPt l4, .l TPt l5, .l TRt l14, .l TS l3, .l TPt l4, .l TPt l5, .l TRt l15]) :=
(.pa [1]
(.nd (fun h0 =>
(.pt (c := (inR n2 (List.length l9))) (by kernel_rfl) (by kernel_rfl) (by (simp only [w64d, decide_eq_true_eq, decide_eq_false_iff_not, beq_iff_eq, beq_eq_false_iff_ne, bne_iff_ne, ne_eq, inR, Bool.and_eq_true, Bool.and_eq_false_iff, Bool.not_eq_true', Bool.not_eq_false', Bool.not_eq_eq_eq_not, Bool.not_true, Bool.not_false] at *; omega))
(.nd (fun h1 =>
(.pa [1]
.lf)) (fun h1 =>
.none)))) (fun h0 =>
(.pa [1]
.lf))))

noncomputable def st_L6_18 (env : List Dat) : Tree Step := Lk.stepMC false LK cs_20 6 18 (lsM [(25, L6_25)] 0) (mkM (cv := [(9, [], 3, .own TRt), (10, [], 3, .own TRt)]) 0 [] [(sh 136 [(2, .ptr 0 0), (9, .ptr 1 0), (10, .ptr 2 0), (11, .int .i64 0), (12, .int .i64 1)], [laB 2, oC 3, oC 7, .arr TS 6, .arr TPt 7, .arr TPt 8, .arr TRt 9, .arr TS 10, .arr TPt 11, .arr TPt 12, .arr TRt 13])] [] [(.exit 2, sh 136 [(9, .ptr 0 0), (10, .ptr 1 0)], [oC 2, oC 6, .arr TS 0, .arr TPt 1, .arr TPt 2, .arr TRt 3, .arr TS 4, .arr TPt 5, .arr TPt 6, .arr TRt 7])] fun _ => none) env
theorem op_L6_18_ex : ∃ f : List Dat → Option (Nat × List Dat), ∀ env, f env = iterS st_L6_18 FU env := ⟨iterS st_L6_18 FU, fun _ => rfl⟩
noncomputable def op_L6_18 : List Dat → Option (Nat × List Dat) := Classical.choose op_L6_18_ex
theorem op_L6_18_eq (env : List Dat) : op_L6_18 env = iterS st_L6_18 FU env := Classical.choose_spec op_L6_18_ex env
noncomputable def L6_18 : MBox := mkM (cv := [(9, [], 3, .own TRt), (10, [], 3, .own TRt)]) 0 [] [(sh 136 [(2, .ptr 0 0), (9, .ptr 1 0), (10, .ptr 2 0), (11, .int .i64 0), (12, .int .i64 1)], [laB 2, oC 3, oC 7, .arr TS 6, .arr TPt 7, .arr TPt 8, .arr TRt 9, .arr TS 10, .arr TPt 11, .arr TPt 12, .arr TRt 13])] [] [(.exit 2, sh 136 [(9, .ptr 0 0), (10, .ptr 1 0)], [oC 2, oC 6, .arr TS 0, .arr TPt 1, .arr TPt 2, .arr TRt 3, .arr TS 4, .arr TPt 5, .arr TPt 6, .arr TRt 7])] op_L6_18
theorem L6_18_eqs : L6_18 = mkM (cv := [(9, [], 3, .own TRt), (10, [], 3, .own TRt)]) 0 [] [(sh 136 [(2, .ptr 0 0), (9, .ptr 1 0), (10, .ptr 2 0), (11, .int .i64 0), (12, .int .i64 1)], [laB 2, oC 3, oC 7, .arr TS 6, .arr TPt 7, .arr TPt 8, .arr TRt 9, .arr TS 10, .arr TPt 11, .arr TPt 12, .arr TRt 13])] [] [(.exit 2, sh 136 [(9, .ptr 0 0), (10, .ptr 1 0)], [oC 2, oC 6, .arr TS 0, .arr TPt 1, .arr TPt 2, .arr TRt 3, .arr TS 4, .arr TPt 5, .arr TPt 6, .arr TRt 7])] (iterS st_L6_18 FU) := congrArg (fun f => mkM (cv := [(9, [], 3, .own TRt), (10, [], 3, .own TRt)]) 0 [] [(sh 136 [(2, .ptr 0 0), (9, .ptr 1 0), (10, .ptr 2 0), (11, .int .i64 0), (12, .int .i64 1)], [laB 2, oC 3, oC 7, .arr TS 6, .arr TPt 7, .arr TPt 8, .arr TRt 9, .arr TS 10, .arr TPt 11, .arr TPt 12, .arr TRt 13])] [] [(.exit 2, sh 136 [(9, .ptr 0 0), (10, .ptr 1 0)], [oC 2, oC 6, .arr TS 0, .arr TPt 1, .arr TPt 2, .arr TRt 3, .arr TS 4, .arr TPt 5, .arr TPt 6, .arr TRt 7])] f) (funext op_L6_18_eq)
theorem L6_18_in : LsOk Try.prog 0 (lsM [(25, L6_25)] 0) (cAt Try.prog 6 18) := LsOk.many fun j B hB hk c hc hi => by
  simp only [lookM] at hB
  split at hB
  · rename_i e; have := Nat.eq_of_beq_eq_true e; subst this; cases hB
    have e1 : loopsAt (cAt Try.prog 6 18) 25 = [cAt Try.prog 6 25] := by kernel_rfl
    have e2 := loopsAt_mem hc hi
    rw [e1] at e2; cases List.mem_singleton.1 e2; exact L6_25_run
  cases hB
theorem L6_18_run : ∀ t s x, (manyRun L6_18 t s).sel = some x → CodeOk Try.prog 0 (.loop (cAt Try.prog 6 18)) t s x := by
  rw [L6_18_eqs]
  exact mkM_ok (st := st_L6_18) (m := FU) cs_20_ok hmix false (L6_18_in) (by kernel_rfl) (fun env y h => by rw [← stepMC_lk]; exact h)
theorem op_L6_18_good {p : Nat × List Dat → Prop} (Inv : List Dat → Prop) (μ : List Dat → Nat) (h : ∀ env, Inv env → Good (fun y => match y with | .go e => Inv e ∧ μ e < μ env | .stop k d => p (k, d)) (st_L6_18 env).sel) (env : List Dat) (hi : Inv env) (hm : μ env < FU) : Good p (op_L6_18 env) := by
  rw [op_L6_18_eq]
  exact iterS_good Inv μ p h FU env hi hm

noncomputable def fn_L6_18_t : List Dat → Tree Step
  | [.n n0, .n n1, .l (Ty.str) l2, .l (Ty.pair Ty.str (Ty.int IntKind.i64)) l3, .l (Ty.pair Ty.str (Ty.int IntKind.i64)) l4, .l (Ty.pair Ty.str (Ty.pair (Ty.int IntKind.i64) (Ty.pair (Ty.sl (Ty.int IntKind.i64)) (Ty.pair (Ty.sl (Ty.pair (Ty.int IntKind.i64) Ty.bool)) (Ty.pair (Ty.sl (Ty.int IntKind.i64)) (Ty.sl (Ty.pair (Ty.int IntKind.i64) Ty.bool))))))) l5, .l (Ty.pair Ty.str (Ty.pair (Ty.int IntKind.i64) (Ty.pair (Ty.sl (Ty.int IntKind.i64)) (Ty.pair (Ty.sl (Ty.pair (Ty.int IntKind.i64) Ty.bool)) (Ty.pair (Ty.sl (Ty.int IntKind.i64)) (Ty.sl (Ty.pair (Ty.int IntKind.i64) Ty.bool))))))) l6, .l (Ty.pair Ty.str (Ty.pair (Ty.int IntKind.i64) (Ty.pair (Ty.sl (Ty.int IntKind.i64)) (Ty.pair (Ty.sl (Ty.pair (Ty.int IntKind.i64) Ty.bool)) (Ty.pair (Ty.sl (Ty.int IntKind.i64)) (Ty.sl (Ty.pair (Ty.int IntKind.i64) Ty.bool))))))) l7] =>
    (.node (decide (n1 < (↑(List.length l5) : Int)))
     (.node (n1 != n0)
      (.node (decide ((List.length l6 + 1) * 120 ≤ 140737488355328))
       (let r1 : Option (Nat × List Dat) := (op_L6_25 [.k 0, .n n0, .n n1, .n (IntKind.wrap .i64 ((↑(List.length (Prod.fst (Prod.snd (Prod.snd (List.getD l5 (Int.toNat (IntKind.wrap .i64 (IntKind.wrap .i64 ((↑(List.length l5) : Int) - (1 : Int)) - n1))) (Ty.dflt TRt)))))) : Int) - (1 : Int))), .l Ty.str l2, .l TPt l3, .l TPt l4, .l TRt l5, .s (Prod.fst (List.getD l5 (Int.toNat (IntKind.wrap .i64 (IntKind.wrap .i64 ((↑(List.length l5) : Int) - (1 : Int)) - n1))) (Ty.dflt TRt))), .n (Prod.fst (Prod.snd (List.getD l5 (Int.toNat (IntKind.wrap .i64 (IntKind.wrap .i64 ((↑(List.length l5) : Int) - (1 : Int)) - n1))) (Ty.dflt TRt)))), .l TI (Prod.fst (Prod.snd (Prod.snd (List.getD l5 (Int.toNat (IntKind.wrap .i64 (IntKind.wrap .i64 ((↑(List.length l5) : Int) - (1 : Int)) - n1))) (Ty.dflt TRt))))), .l TNd (Prod.fst (Prod.snd (Prod.snd (Prod.snd (List.getD l5 (Int.toNat (IntKind.wrap .i64 (IntKind.wrap .i64 ((↑(List.length l5) : Int) - (1 : Int)) - n1))) (Ty.dflt TRt)))))), .l TI (Prod.fst (Prod.snd (Prod.snd (Prod.snd (Prod.snd (List.getD l5 (Int.toNat (IntKind.wrap .i64 (IntKind.wrap .i64 ((↑(List.length l5) : Int) - (1 : Int)) - n1))) (Ty.dflt TRt))))))), .l TNd (Prod.snd (Prod.snd (Prod.snd (Prod.snd (Prod.snd (List.getD l5 (Int.toNat (IntKind.wrap .i64 (IntKind.wrap .i64 ((↑(List.length l5) : Int) - (1 : Int)) - n1))) (Ty.dflt TRt))))))), .l TI [], .l Ty.str l2, .l TPt l3, .l TPt l4, .l TRt (apR (l6) (Prod.fst (List.getD l5 (Int.toNat n1) (Ty.dflt TRt)), Prod.fst (Prod.snd (List.getD l5 (Int.toNat n1) (Ty.dflt TRt))), Prod.fst (Prod.snd (Prod.snd (List.getD l5 (Int.toNat n1) (Ty.dflt TRt)))), Prod.fst (Prod.snd (Prod.snd (Prod.snd (List.getD l5 (Int.toNat n1) (Ty.dflt TRt))))), Prod.fst (Prod.snd (Prod.snd (Prod.snd (Prod.snd (List.getD l5 (Int.toNat n1) (Ty.dflt TRt)))))), Prod.snd (Prod.snd (Prod.snd (Prod.snd (Prod.snd (List.getD l5 (Int.toNat n1) (Ty.dflt TRt)))))))), .l Ty.str l2, .l TPt l3, .l TPt l4, .l TRt l7]);
        (.node (isK 0 [HK.n, HK.n, HK.l Ty.str, HK.l TPt, HK.l TPt, HK.l TRt, HK.s, HK.n, HK.l TI, HK.l TNd, HK.l TI, HK.l TNd, HK.l TI, HK.l Ty.str, HK.l TPt, HK.l TPt, HK.l TRt, HK.l Ty.str, HK.l TPt, HK.l TPt, HK.l TRt] r1)
         (.node (decide ((List.length (gl TRt (dOf r1) 20) + 1) * 120 ≤ 140737488355328))
          (.leaf (Step.go [.k 0, .n (gn (dOf r1) 0), .n (IntKind.wrap .i64 (gn (dOf r1) 1 + (1 : Int))), .l Ty.str (gl Ty.str (dOf r1) 2), .l TPt (gl TPt (dOf r1) 3), .l TPt (gl TPt (dOf r1) 4), .l TRt (gl TRt (dOf r1) 5), .l Ty.str (gl Ty.str (dOf r1) 13), .l TPt (gl TPt (dOf r1) 14), .l TPt (gl TPt (dOf r1) 15), .l TRt (gl TRt (dOf r1) 16), .l Ty.str (gl Ty.str (dOf r1) 17), .l TPt (gl TPt (dOf r1) 18), .l TPt (gl TPt (dOf r1) 19), .l TRt (apR (gl TRt (dOf r1) 20) (gs (dOf r1) 6, gn (dOf r1) 7, gl TI (dOf r1) 12, gl TNd (dOf r1) 9, gl TI (dOf r1) 10, gl TNd (dOf r1) 11))]))
          (.bad 62))
         (.bad 351)))
       (.bad 62))
      (let r1 : Option (Nat × List Dat) := (op_L6_25 [.k 0, .n n0, .n n1, .n (IntKind.wrap .i64 ((↑(List.length (Prod.fst (Prod.snd (Prod.snd (List.getD l5 (Int.toNat (IntKind.wrap .i64 (IntKind.wrap .i64 ((↑(List.length l5) : Int) - (1 : Int)) - n1))) (Ty.dflt TRt)))))) : Int) - (1 : Int))), .l Ty.str l2, .l TPt l3, .l TPt l4, .l TRt l5, .s (Prod.fst (List.getD l5 (Int.toNat (IntKind.wrap .i64 (IntKind.wrap .i64 ((↑(List.length l5) : Int) - (1 : Int)) - n1))) (Ty.dflt TRt))), .n (Prod.fst (Prod.snd (List.getD l5 (Int.toNat (IntKind.wrap .i64 (IntKind.wrap .i64 ((↑(List.length l5) : Int) - (1 : Int)) - n1))) (Ty.dflt TRt)))), .l TI (Prod.fst (Prod.snd (Prod.snd (List.getD l5 (Int.toNat (IntKind.wrap .i64 (IntKind.wrap .i64 ((↑(List.length l5) : Int) - (1 : Int)) - n1))) (Ty.dflt TRt))))), .l TNd (Prod.fst (Prod.snd (Prod.snd (Prod.snd (List.getD l5 (Int.toNat (IntKind.wrap .i64 (IntKind.wrap .i64 ((↑(List.length l5) : Int) - (1 : Int)) - n1))) (Ty.dflt TRt)))))), .l TI (Prod.fst (Prod.snd (Prod.snd (Prod.snd (Prod.snd (List.getD l5 (Int.toNat (IntKind.wrap .i64 (IntKind.wrap .i64 ((↑(List.length l5) : Int) - (1 : Int)) - n1))) (Ty.dflt TRt))))))), .l TNd (Prod.snd (Prod.snd (Prod.snd (Prod.snd (Prod.snd (List.getD l5 (Int.toNat (IntKind.wrap .i64 (IntKind.wrap .i64 ((↑(List.length l5) : Int) - (1 : Int)) - n1))) (Ty.dflt TRt))))))), .l TI [], .l Ty.str l2, .l TPt l3, .l TPt l4, .l TRt l6, .l Ty.str l2, .l TPt l3, .l TPt l4, .l TRt l7]);
       (.node (isK 0 [HK.n, HK.n, HK.l Ty.str, HK.l TPt, HK.l TPt, HK.l TRt, HK.s, HK.n, HK.l TI, HK.l TNd, HK.l TI, HK.l TNd, HK.l TI, HK.l Ty.str, HK.l TPt, HK.l TPt, HK.l TRt, HK.l Ty.str, HK.l TPt, HK.l TPt, HK.l TRt] r1)
        (.node (decide ((List.length (gl TRt (dOf r1) 20) + 1) * 120 ≤ 140737488355328))
         (.leaf (Step.go [.k 0, .n (gn (dOf r1) 0), .n (IntKind.wrap .i64 (gn (dOf r1) 1 + (1 : Int))), .l Ty.str (gl Ty.str (dOf r1) 2), .l TPt (gl TPt (dOf r1) 3), .l TPt (gl TPt (dOf r1) 4), .l TRt (gl TRt (dOf r1) 5), .l Ty.str (gl Ty.str (dOf r1) 13), .l TPt (gl TPt (dOf r1) 14), .l TPt (gl TPt (dOf r1) 15), .l TRt (gl TRt (dOf r1) 16), .l Ty.str (gl Ty.str (dOf r1) 17), .l TPt (gl TPt (dOf r1) 18), .l TPt (gl TPt (dOf r1) 19), .l TRt (apR (gl TRt (dOf r1) 20) (gs (dOf r1) 6, gn (dOf r1) 7, gl TI (dOf r1) 12, gl TNd (dOf r1) 9, gl TI (dOf r1) 10, gl TNd (dOf r1) 11))]))
         (.bad 62))
        (.bad 351))))
     (.leaf (Step.stop 0 [.l Ty.str l2, .l TPt l3, .l TPt l4, .l TRt l6, .l Ty.str l2, .l TPt l3, .l TPt l4, .l TRt l7])))
  | _ => .bad 0
theorem fn_L6_18_t_im (n0 : Int) (n1 : Int) (l2 : List (Ty.den TS)) (l3 : List (Ty.den TPt)) (l4 : List (Ty.den TPt)) (l5 : List (Ty.den TRt)) (l6 : List (Ty.den TRt)) (l7 : List (Ty.den TRt)) (g0 : 0 ≤ n1) (g1 :  (l5.length : Int) ≤ 64) : Imp (fn_L6_18_t [.n n0, .n n1, .l TS l2, .l TPt l3, .l TPt l4, .l TRt l5, .l TRt l6, .l TRt l7]) (st_L6_18 [.k 0, .n n0, .n n1, .l TS l2, .l TPt l3, .l TPt l4, .l TRt l5, .l TS l2, .l TPt l3, .l TPt l4, .l TRt l6, .l TS l2, .l TPt l3, .l TPt l4, .l TRt l7]) :=
(.pa [1]
(.nd (fun h0 =>
(.nd (fun h1 =>
(.pt (c := (inR n1 (List.length l5))) (by kernel_rfl) (by kernel_rfl) (by (simp only [w64d, decide_eq_true_eq, decide_eq_false_iff_not, beq_iff_eq, beq_eq_false_iff_ne, bne_iff_ne, ne_eq, inR, Bool.and_eq_true, Bool.and_eq_false_iff, Bool.not_eq_true', Bool.not_eq_false', Bool.not_eq_eq_eq_not, Bool.not_true, Bool.not_false] at *; omega))
(.nd (fun h2 =>
(.pa [1]
(.pt (c := (inR (IntKind.wrap .i64 (IntKind.wrap .i64 ((↑(List.length l5) : Int) - (1 : Int)) - n1)) (List.length l5))) (by kernel_rfl) (by kernel_rfl) (by (simp only [w64d, decide_eq_true_eq, decide_eq_false_iff_not, beq_iff_eq, beq_eq_false_iff_ne, bne_iff_ne, ne_eq, inR, Bool.and_eq_true, Bool.and_eq_false_iff, Bool.not_eq_true', Bool.not_eq_false', Bool.not_eq_eq_eq_not, Bool.not_true, Bool.not_false] at *; omega))
(.nd (fun h3 =>
(.nd (fun h4 =>
(.pa [1]
.lf)) (fun h4 =>
.none))) (fun h3 =>
.none))))) (fun h2 =>
.none)))) (fun h1 =>
(.pt (c := (inR (IntKind.wrap .i64 (IntKind.wrap .i64 ((↑(List.length l5) : Int) - (1 : Int)) - n1)) (List.length l5))) (by kernel_rfl) (by kernel_rfl) (by (simp only [w64d, decide_eq_true_eq, decide_eq_false_iff_not, beq_iff_eq, beq_eq_false_iff_ne, bne_iff_ne, ne_eq, inR, Bool.and_eq_true, Bool.and_eq_false_iff, Bool.not_eq_true', Bool.not_eq_false', Bool.not_eq_eq_eq_not, Bool.not_true, Bool.not_false] at *; omega))
(.nd (fun h2 =>
(.nd (fun h3 =>
(.pa [1]
.lf)) (fun h3 =>
.none))) (fun h2 =>
.none)))))) (fun h0 =>
(.pa [1]
.lf))))

theorem ls_6_ok : LsOk Try.prog (0) (lsM [(6, L6_6), (18, L6_18)] (0)) (bodyOf Try.prog 6) := LsOk.many fun j B hB hk c hc hi => by
  simp only [lookM] at hB
  split at hB
  · rename_i e; have := Nat.eq_of_beq_eq_true e; subst this; cases hB
    have e1 : loopAt Try.prog 6 6 = [cAt Try.prog 6 6] := loopAt_one (by kernel_rfl)
    have e2 : c ∈ loopAt Try.prog 6 6 := loopsAt_mem hc hi
    rw [e1] at e2; cases List.mem_singleton.1 e2; exact L6_6_run
  split at hB
  · rename_i e; have := Nat.eq_of_beq_eq_true e; subst this; cases hB
    have e1 : loopAt Try.prog 6 18 = [cAt Try.prog 6 18] := loopAt_one (by kernel_rfl)
    have e2 : c ∈ loopAt Try.prog 6 18 := loopsAt_mem hc hi
    rw [e1] at e2; cases List.mem_singleton.1 e2; exact L6_18_run
  cases hB

noncomputable def ev_W6 (env : List Dat) : Tree Bool := Lk.lawB false LK cs_20 6 (lsM [(6, L6_6), (18, L6_18)] (0)) (instL [laV 0, .int .i64 4] env)

theorem W6_law (env : List Dat) (h : (ev_W6 env).sel = some true) {w : World} {args : Array Value} (ha : LRel R0 (snapOf w) (instL [laV 0, .int .i64 4] env) args) :
    Calls Try.prog 6 args w fun e w' => e = .returned (.bool true) ∧ Below w.heap.size w w' :=
  lawB_ok cs_20_ok hmix false (ls := (lsM [(6, L6_6), (18, L6_18)] (0))) (ls_6_ok) (by rw [← lawB_lk]; exact h) ha

noncomputable def fn_W6_t : List Dat → Tree Bool
  | [.l (Ty.str) l0, .l (Ty.pair Ty.str (Ty.int IntKind.i64)) l1, .l (Ty.pair Ty.str (Ty.int IntKind.i64)) l2, .l (Ty.pair Ty.str (Ty.pair (Ty.int IntKind.i64) (Ty.pair (Ty.sl (Ty.int IntKind.i64)) (Ty.pair (Ty.sl (Ty.pair (Ty.int IntKind.i64) Ty.bool)) (Ty.pair (Ty.sl (Ty.int IntKind.i64)) (Ty.sl (Ty.pair (Ty.int IntKind.i64) Ty.bool))))))) l3, .n n4] =>
    (let r1 : Option (Nat × List Dat) := (op_15 [.l Ty.str l0, .l TPt l1, .l TPt l2, .l TRt l3, .n (1500 : Int)]);
     (.node (isK 0 [HK.n] r1)
      (.node (decide (gn (dOf r1) 0 > (1500 : Int)))
       (.leaf (true))
       (let r2 : Option (Nat × List Dat) := (op_18 [.l Ty.str l0, .l TPt l1, .l TPt l2, .l TRt l3]);
        (.node (isK 0 [HK.n, HK.n] r2)
         (let r3 : Option (Nat × List Dat) := (op_L6_6 [.k 0, .n n4, .n (gn (dOf r2) 0), .b (gn (dOf r2) 0 != (2 : Int)), .n (0 : Int), .l Ty.str l0, .l TPt l1, .l TPt l2, .l TRt l3]);
          (.node (isK 0 [HK.n, HK.n, HK.b, HK.l Ty.str, HK.l TPt, HK.l TPt, HK.l TRt] r3)
           (.node (!gb (dOf r3) 2 == (gn (dOf r3) 1 == (0 : Int)))
            (.leaf (false))
            (.node (gn (dOf r3) 1 != (0 : Int))
             (.leaf (true))
             (let r4 : Option (Nat × List Dat) := (op_20 [.l Ty.str (gl Ty.str (dOf r3) 3), .l TPt (gl TPt (dOf r3) 4), .l TPt (gl TPt (dOf r3) 5), .l TRt (gl TRt (dOf r3) 6)]);
              (.node (isK 0 [HK.l Ty.str, HK.l TPt, HK.l TPt, HK.l TRt] r4)
               (let r5 : Option (Nat × List Dat) := (op_21 [.n (gn (dOf r3) 0), .n (↑(List.length (gl TRt (dOf r3) 6)) : Int)]);
                (.node (isK 0 [HK.n] r5)
                 (let r6 : Option (Nat × List Dat) := (op_L6_18 [.k 0, .n (gn (dOf r5) 0), .n (0 : Int), .l Ty.str (gl Ty.str (dOf r3) 3), .l TPt (gl TPt (dOf r3) 4), .l TPt (gl TPt (dOf r3) 5), .l TRt (gl TRt (dOf r3) 6), .l Ty.str (gl Ty.str (dOf r4) 0), .l TPt (gl TPt (dOf r4) 1), .l TPt (gl TPt (dOf r4) 2), .l TRt [], .l Ty.str (gl Ty.str (dOf r4) 0), .l TPt (gl TPt (dOf r4) 1), .l TPt (gl TPt (dOf r4) 2), .l TRt []]);
                  (.node (isK 0 [HK.l Ty.str, HK.l TPt, HK.l TPt, HK.l TRt, HK.l Ty.str, HK.l TPt, HK.l TPt, HK.l TRt] r6)
                   (let r7 : Option (Nat × List Dat) := (op_18 [.l Ty.str (gl Ty.str (dOf r6) 0), .l TPt (gl TPt (dOf r6) 1), .l TPt (gl TPt (dOf r6) 2), .l TRt (gl TRt (dOf r6) 3)]);
                    (.node (isK 0 [HK.n, HK.n] r7)
                     (let r8 : Option (Nat × List Dat) := (op_18 [.l Ty.str (gl Ty.str (dOf r6) 4), .l TPt (gl TPt (dOf r6) 5), .l TPt (gl TPt (dOf r6) 6), .l TRt (gl TRt (dOf r6) 7)]);
                      (.node (isK 0 [HK.n, HK.n] r8)
                       (.node (gn (dOf r7) 0 == (0 : Int))
                        (.node (gn (dOf r8) 0 == (0 : Int))
                         (.leaf (true))
                         (.leaf (false)))
                        (.leaf (false)))
                       (.bad 351)))
                     (.bad 351)))
                   (.bad 351)))
                 (.bad 351)))
               (.bad 351)))))
           (.bad 351)))
         (.bad 351))))
      (.bad 351)))
  | _ => .bad 0
theorem fn_W6_t_im (l0 : List (Ty.den TS)) (l1 : List (Ty.den TPt)) (l2 : List (Ty.den TPt)) (l3 : List (Ty.den TRt)) (n4 : Int) : Imp (fn_W6_t [.l TS l0, .l TPt l1, .l TPt l2, .l TRt l3, .n n4]) (ev_W6 [.l TS l0, .l TPt l1, .l TPt l2, .l TRt l3, .n n4]) :=
(.nd (fun h0 =>
(.pa [1]
(.nd (fun h1 =>
(.pa [1,1,1]
.lf)) (fun h1 =>
(.nd (fun h2 =>
(.pa [1]
(.nd (fun h3 =>
(.nd (fun h4 =>
.lf) (fun h4 =>
(.nd (fun h5 =>
(.pa [1,1,1]
.lf)) (fun h5 =>
(.pa [1]
(.nd (fun h6 =>
(.pa [1,1]
(.pt (by kernel_rfl) (by kernel_rfl) h6
(.pa [1,1]
(.nd (fun h7 =>
(.pa [1]
(.nd (fun h8 =>
(.nd (fun h9 =>
(.pa [1]
(.nd (fun h10 =>
(.pa [1]
(.nd (fun h11 =>
(.nd (fun h12 =>
(.pa [1,1,1]
.lf)) (fun h12 =>
(.pa [0]
.lf)))) (fun h11 =>
(.pa [0,0,0]
.lf))))) (fun h10 =>
.none)))) (fun h9 =>
.none))) (fun h8 =>
.none)))) (fun h7 =>
.none)))))) (fun h6 =>
.none)))))))) (fun h3 =>
.none)))) (fun h2 =>
.none)))))) (fun h0 =>
.none))
end Go.Proofs.Ytlocflgfoodiiaa.Vx
namespace Go.Proofs.Ytlocflgfoodiiaa.Vx
open Go Go.RowKit
set_option linter.unusedVariables false
set_option linter.unusedSimpArgs false
set_option maxRecDepth 100000
set_option maxHeartbeats 0
noncomputable def st_L13_4 (env : List Dat) : Tree Step := Lk.stepMC false LK cs_20 13 4 ls0 (mkM 0 [] [(sh 26 [(0, .imm TI 0), (1, .imm TI 1), (5, .int .i64 2)], [])] [] [(.exit 0, sh 26 [], []), (.ret, sh 26 [(4, .bool 0)], [])] fun _ => none) env
theorem op_L13_4_ex : ∃ f : List Dat → Option (Nat × List Dat), ∀ env, f env = iterS st_L13_4 FU env := ⟨iterS st_L13_4 FU, fun _ => rfl⟩
noncomputable def op_L13_4 : List Dat → Option (Nat × List Dat) := Classical.choose op_L13_4_ex
theorem op_L13_4_eq (env : List Dat) : op_L13_4 env = iterS st_L13_4 FU env := Classical.choose_spec op_L13_4_ex env
noncomputable def L13_4 : MBox := mkM 0 [] [(sh 26 [(0, .imm TI 0), (1, .imm TI 1), (5, .int .i64 2)], [])] [] [(.exit 0, sh 26 [], []), (.ret, sh 26 [(4, .bool 0)], [])] op_L13_4
theorem L13_4_eqs : L13_4 = mkM 0 [] [(sh 26 [(0, .imm TI 0), (1, .imm TI 1), (5, .int .i64 2)], [])] [] [(.exit 0, sh 26 [], []), (.ret, sh 26 [(4, .bool 0)], [])] (iterS st_L13_4 FU) := congrArg (fun f => mkM 0 [] [(sh 26 [(0, .imm TI 0), (1, .imm TI 1), (5, .int .i64 2)], [])] [] [(.exit 0, sh 26 [], []), (.ret, sh 26 [(4, .bool 0)], [])] f) (funext op_L13_4_eq)
theorem L13_4_run : ∀ t s x, (manyRun L13_4 t s).sel = some x → CodeOk Try.prog 0 (.loop (cAt Try.prog 13 4)) t s x := by
  rw [L13_4_eqs]
  exact mkM_ok (st := st_L13_4) (m := FU) cs_20_ok hmix false (LsOk.none _ _ _) (by kernel_rfl) (fun env y h => by rw [← stepMC_lk]; exact h)
theorem op_L13_4_good {p : Nat × List Dat → Prop} (Inv : List Dat → Prop) (μ : List Dat → Nat) (h : ∀ env, Inv env → Good (fun y => match y with | .go e => Inv e ∧ μ e < μ env | .stop k d => p (k, d)) (st_L13_4 env).sel) (env : List Dat) (hi : Inv env) (hm : μ env < FU) : Good p (op_L13_4 env) := by
  rw [op_L13_4_eq]
  exact iterS_good Inv μ p h FU env hi hm

noncomputable def fn_L13_4_t : List Dat → Tree Step
  | [.l (Ty.int IntKind.i64) l0, .l (Ty.int IntKind.i64) l1, .n n2] =>
    (.node (decide (n2 < (↑(List.length l0) : Int)))
     (.node ((List.getD l0 (Int.toNat n2) (0 : Int) : Int) != (List.getD l1 (Int.toNat n2) (0 : Int) : Int))
      (.leaf (Step.stop 1 [.b false]))
      (.leaf (Step.go [.k 0, .l TI l0, .l TI l1, .n (IntKind.wrap .i64 (n2 + (1 : Int)))])))
     (.leaf (Step.stop 0 [])))
  | _ => .bad 0
theorem fn_L13_4_t_im (l0 : List (Ty.den TI)) (l1 : List (Ty.den TI)) (n2 : Int) (g0 : 0 ≤ n2) (g1 :  (l0.length : Int) = (l1.length : Int)) : Imp (fn_L13_4_t [.l TI l0, .l TI l1, .n n2]) (st_L13_4 [.k 0, .l TI l0, .l TI l1, .n n2]) :=
(.pa [1]
(.nd (fun h0 =>
(.pt (c := (inR n2 (List.length l0))) (by kernel_rfl) (by kernel_rfl) (by (simp only [w64d, decide_eq_true_eq, decide_eq_false_iff_not, beq_iff_eq, beq_eq_false_iff_ne, bne_iff_ne, ne_eq, inR, Bool.and_eq_true, Bool.and_eq_false_iff, Bool.not_eq_true', Bool.not_eq_false', Bool.not_eq_eq_eq_not, Bool.not_true, Bool.not_false] at *; omega))
(.pt (c := (inR n2 (List.length l1))) (by kernel_rfl) (by kernel_rfl) (by (simp only [w64d, decide_eq_true_eq, decide_eq_false_iff_not, beq_iff_eq, beq_eq_false_iff_ne, bne_iff_ne, ne_eq, inR, Bool.and_eq_true, Bool.and_eq_false_iff, Bool.not_eq_true', Bool.not_eq_false', Bool.not_eq_eq_eq_not, Bool.not_true, Bool.not_false] at *; omega))
(.pa [1]
(.nd (fun h1 =>
(.pa [1]
.lf)) (fun h1 =>
(.pa [1]
.lf))))))) (fun h0 =>
(.pa [1]
.lf))))

theorem ls_13_ok : LsOk Try.prog (List.length ([] : List PB)) (lsM [(4, L13_4)] (List.length ([] : List PB))) (bodyOf Try.prog 13) := LsOk.many fun j B hB hk c hc hi => by
  simp only [lookM] at hB
  split at hB
  · rename_i e; have := Nat.eq_of_beq_eq_true e; subst this; cases hB
    have e1 : loopAt Try.prog 13 4 = [cAt Try.prog 13 4] := loopAt_one (by kernel_rfl)
    have e2 : c ∈ loopAt Try.prog 13 4 := loopsAt_mem hc hi
    rw [e1] at e2; cases List.mem_singleton.1 e2; exact L13_4_run
  cases hB

noncomputable def ev_13 (env : List Dat) : Tree (Nat × List Dat) := Lk.boxC false LK cs_20 13 (lsM [(4, L13_4)] (List.length ([] : List PB))) (mkF [.imm TI 0, .imm TI 1] [] [] [(.bool 0, [])] fun _ => none) env
theorem op_13_ex : ∃ f : List Dat → Option (Nat × List Dat), ∀ env, f env = (ev_13 env).sel := ⟨fun env => (ev_13 env).sel, fun _ => rfl⟩
noncomputable def op_13 : List Dat → Option (Nat × List Dat) := Classical.choose op_13_ex
theorem op_13_eq (env : List Dat) : op_13 env = (ev_13 env).sel := Classical.choose_spec op_13_ex env
noncomputable def B13 : FBox := mkF [.imm TI 0, .imm TI 1] [] [] [(.bool 0, [])] op_13
theorem B13_ok : RunOk Try.prog 13 (boxRun B13) := mkF_ok (op := op_13) cs_20_ok hmix false (ls_13_ok) (fun env x h => by rw [op_13_eq] at h; rw [← boxC_lk]; exact h)
theorem op_13_good {p : Nat × List Dat → Prop} {T : Tree (Nat × List Dat)} {env : List Dat} (h : Imp T (ev_13 env)) (g : Good p T.sel) : Good p (op_13 env) := by
  rw [op_13_eq]
  exact h.good g

noncomputable def fn_13_t : List Dat → Tree (Nat × List Dat)
  | [.l (Ty.int IntKind.i64) l0, .l (Ty.int IntKind.i64) l1] =>
    (.node ((↑(List.length l0) : Int) != (↑(List.length l1) : Int))
     (.leaf ((0, [.b false])))
     (let r1 : Option (Nat × List Dat) := (op_L13_4 [.k 0, .l TI l0, .l TI l1, .n (0 : Int)]);
      (.node (isK 0 [] r1)
       (.leaf ((0, [.b true])))
       (.node (isK 1 [HK.b] r1)
        (.leaf ((0, [.b (gb (dOf r1) 0)])))
        (.bad 351)))))
  | _ => .bad 0
theorem fn_13_t_im (l0 : List (Ty.den TI)) (l1 : List (Ty.den TI)) : Imp (fn_13_t [.l TI l0, .l TI l1]) (ev_13 [.l TI l0, .l TI l1]) :=
(.nd (fun h0 =>
(.pa [1]
.lf)) (fun h0 =>
(.nd (fun h1 =>
(.pa [1]
.lf)) (fun h1 =>
(.nd (fun h2 =>
(.pa [1]
.lf)) (fun h2 =>
.none))))))

noncomputable def cs_13 : FuncId → Option CSpec := csLend 13 B13 cs_20
theorem cs_13_ok : CsOk Try.prog cs_13 := csLend_ok cs_20_ok B13_ok

noncomputable def st_L14_4 (env : List Dat) : Tree Step := Lk.stepMC false LK cs_13 14 4 ls0 (mkM 0 [] [(sh 26 [(0, .imm TNd 0), (1, .imm TNd 1), (5, .int .i64 2)], [])] [] [(.exit 0, sh 26 [], []), (.ret, sh 26 [(4, .bool 0)], [])] fun _ => none) env
theorem op_L14_4_ex : ∃ f : List Dat → Option (Nat × List Dat), ∀ env, f env = iterS st_L14_4 FU env := ⟨iterS st_L14_4 FU, fun _ => rfl⟩
noncomputable def op_L14_4 : List Dat → Option (Nat × List Dat) := Classical.choose op_L14_4_ex
theorem op_L14_4_eq (env : List Dat) : op_L14_4 env = iterS st_L14_4 FU env := Classical.choose_spec op_L14_4_ex env
noncomputable def L14_4 : MBox := mkM 0 [] [(sh 26 [(0, .imm TNd 0), (1, .imm TNd 1), (5, .int .i64 2)], [])] [] [(.exit 0, sh 26 [], []), (.ret, sh 26 [(4, .bool 0)], [])] op_L14_4
theorem L14_4_eqs : L14_4 = mkM 0 [] [(sh 26 [(0, .imm TNd 0), (1, .imm TNd 1), (5, .int .i64 2)], [])] [] [(.exit 0, sh 26 [], []), (.ret, sh 26 [(4, .bool 0)], [])] (iterS st_L14_4 FU) := congrArg (fun f => mkM 0 [] [(sh 26 [(0, .imm TNd 0), (1, .imm TNd 1), (5, .int .i64 2)], [])] [] [(.exit 0, sh 26 [], []), (.ret, sh 26 [(4, .bool 0)], [])] f) (funext op_L14_4_eq)
theorem L14_4_run : ∀ t s x, (manyRun L14_4 t s).sel = some x → CodeOk Try.prog 0 (.loop (cAt Try.prog 14 4)) t s x := by
  rw [L14_4_eqs]
  exact mkM_ok (st := st_L14_4) (m := FU) cs_13_ok hmix false (LsOk.none _ _ _) (by kernel_rfl) (fun env y h => by rw [← stepMC_lk]; exact h)
theorem op_L14_4_good {p : Nat × List Dat → Prop} (Inv : List Dat → Prop) (μ : List Dat → Nat) (h : ∀ env, Inv env → Good (fun y => match y with | .go e => Inv e ∧ μ e < μ env | .stop k d => p (k, d)) (st_L14_4 env).sel) (env : List Dat) (hi : Inv env) (hm : μ env < FU) : Good p (op_L14_4 env) := by
  rw [op_L14_4_eq]
  exact iterS_good Inv μ p h FU env hi hm

noncomputable def fn_L14_4_t : List Dat → Tree Step
  | [.l (Ty.pair (Ty.int IntKind.i64) Ty.bool) l0, .l (Ty.pair (Ty.int IntKind.i64) Ty.bool) l1, .n n2] =>
    (.node (decide (n2 < (↑(List.length l0) : Int)))
     (.node (!(Prod.fst (List.getD l0 (Int.toNat n2) (Ty.dflt TNd)) == Prod.fst (List.getD l1 (Int.toNat n2) (Ty.dflt TNd)) && (Prod.snd (List.getD l0 (Int.toNat n2) (Ty.dflt TNd)) == Prod.snd (List.getD l1 (Int.toNat n2) (Ty.dflt TNd)) && true)))
      (.leaf (Step.stop 1 [.b false]))
      (.leaf (Step.go [.k 0, .l TNd l0, .l TNd l1, .n (IntKind.wrap .i64 (n2 + (1 : Int)))])))
     (.leaf (Step.stop 0 [])))
  | _ => .bad 0
theorem fn_L14_4_t_im (l0 : List (Ty.den TNd)) (l1 : List (Ty.den TNd)) (n2 : Int) (g0 : 0 ≤ n2) (g1 :  (l0.length : Int) = (l1.length : Int)) : Imp (fn_L14_4_t [.l TNd l0, .l TNd l1, .n n2]) (st_L14_4 [.k 0, .l TNd l0, .l TNd l1, .n n2]) :=
(.pa [1]
(.nd (fun h0 =>
(.pt (c := (inR n2 (List.length l0))) (by kernel_rfl) (by kernel_rfl) (by (simp only [w64d, decide_eq_true_eq, decide_eq_false_iff_not, beq_iff_eq, beq_eq_false_iff_ne, bne_iff_ne, ne_eq, inR, Bool.and_eq_true, Bool.and_eq_false_iff, Bool.not_eq_true', Bool.not_eq_false', Bool.not_eq_eq_eq_not, Bool.not_true, Bool.not_false] at *; omega))
(.pt (c := (inR n2 (List.length l1))) (by kernel_rfl) (by kernel_rfl) (by (simp only [w64d, decide_eq_true_eq, decide_eq_false_iff_not, beq_iff_eq, beq_eq_false_iff_ne, bne_iff_ne, ne_eq, inR, Bool.and_eq_true, Bool.and_eq_false_iff, Bool.not_eq_true', Bool.not_eq_false', Bool.not_eq_eq_eq_not, Bool.not_true, Bool.not_false] at *; omega))
(.pa [1]
(.nd (fun h1 =>
(.pa [1]
.lf)) (fun h1 =>
(.pa [1]
.lf))))))) (fun h0 =>
(.pa [1]
.lf))))

theorem ls_14_ok : LsOk Try.prog (List.length ([] : List PB)) (lsM [(4, L14_4)] (List.length ([] : List PB))) (bodyOf Try.prog 14) := LsOk.many fun j B hB hk c hc hi => by
  simp only [lookM] at hB
  split at hB
  · rename_i e; have := Nat.eq_of_beq_eq_true e; subst this; cases hB
    have e1 : loopAt Try.prog 14 4 = [cAt Try.prog 14 4] := loopAt_one (by kernel_rfl)
    have e2 : c ∈ loopAt Try.prog 14 4 := loopsAt_mem hc hi
    rw [e1] at e2; cases List.mem_singleton.1 e2; exact L14_4_run
  cases hB

noncomputable def ev_14 (env : List Dat) : Tree (Nat × List Dat) := Lk.boxC false LK cs_13 14 (lsM [(4, L14_4)] (List.length ([] : List PB))) (mkF [.imm TNd 0, .imm TNd 1] [] [] [(.bool 0, [])] fun _ => none) env
theorem op_14_ex : ∃ f : List Dat → Option (Nat × List Dat), ∀ env, f env = (ev_14 env).sel := ⟨fun env => (ev_14 env).sel, fun _ => rfl⟩
noncomputable def op_14 : List Dat → Option (Nat × List Dat) := Classical.choose op_14_ex
theorem op_14_eq (env : List Dat) : op_14 env = (ev_14 env).sel := Classical.choose_spec op_14_ex env
noncomputable def B14 : FBox := mkF [.imm TNd 0, .imm TNd 1] [] [] [(.bool 0, [])] op_14
theorem B14_ok : RunOk Try.prog 14 (boxRun B14) := mkF_ok (op := op_14) cs_13_ok hmix false (ls_14_ok) (fun env x h => by rw [op_14_eq] at h; rw [← boxC_lk]; exact h)
theorem op_14_good {p : Nat × List Dat → Prop} {T : Tree (Nat × List Dat)} {env : List Dat} (h : Imp T (ev_14 env)) (g : Good p T.sel) : Good p (op_14 env) := by
  rw [op_14_eq]
  exact h.good g

noncomputable def fn_14_t : List Dat → Tree (Nat × List Dat)
  | [.l (Ty.pair (Ty.int IntKind.i64) Ty.bool) l0, .l (Ty.pair (Ty.int IntKind.i64) Ty.bool) l1] =>
    (.node ((↑(List.length l0) : Int) != (↑(List.length l1) : Int))
     (.leaf ((0, [.b false])))
     (let r1 : Option (Nat × List Dat) := (op_L14_4 [.k 0, .l TNd l0, .l TNd l1, .n (0 : Int)]);
      (.node (isK 0 [] r1)
       (.leaf ((0, [.b true])))
       (.node (isK 1 [HK.b] r1)
        (.leaf ((0, [.b (gb (dOf r1) 0)])))
        (.bad 351)))))
  | _ => .bad 0
theorem fn_14_t_im (l0 : List (Ty.den TNd)) (l1 : List (Ty.den TNd)) : Imp (fn_14_t [.l TNd l0, .l TNd l1]) (ev_14 [.l TNd l0, .l TNd l1]) :=
(.nd (fun h0 =>
(.pa [1]
.lf)) (fun h0 =>
(.nd (fun h1 =>
(.pa [1]
.lf)) (fun h1 =>
(.nd (fun h2 =>
(.pa [1]
.lf)) (fun h2 =>
.none))))))

noncomputable def cs_14 : FuncId → Option CSpec := csLend 14 B14 cs_13
theorem cs_14_ok : CsOk Try.prog cs_14 := csLend_ok cs_13_ok B14_ok

noncomputable def st_L3_8 (env : List Dat) : Tree Step := Lk.stepMC false LK cs_14 3 8 ls0 (mkM 0 [] [(sh 82 [(1, .ptr 0 0), (3, .own 1), (4, .own 2), (5, .own 3), (6, .own 4), (7, .int .i64 0)], [rtB 1, .arr TI 7, .arr TNd 8, .arr TI 9, .arr TNd 10])] [] [(.exit 0, sh 82 [(1, .ptr 0 0), (4, .own 1), (5, .own 2), (6, .own 3)], [rtB 0, .arr TNd 6, .arr TI 7, .arr TNd 8])] fun _ => none) env
theorem op_L3_8_ex : ∃ f : List Dat → Option (Nat × List Dat), ∀ env, f env = iterS st_L3_8 FU env := ⟨iterS st_L3_8 FU, fun _ => rfl⟩
noncomputable def op_L3_8 : List Dat → Option (Nat × List Dat) := Classical.choose op_L3_8_ex
theorem op_L3_8_eq (env : List Dat) : op_L3_8 env = iterS st_L3_8 FU env := Classical.choose_spec op_L3_8_ex env
noncomputable def L3_8 : MBox := mkM 0 [] [(sh 82 [(1, .ptr 0 0), (3, .own 1), (4, .own 2), (5, .own 3), (6, .own 4), (7, .int .i64 0)], [rtB 1, .arr TI 7, .arr TNd 8, .arr TI 9, .arr TNd 10])] [] [(.exit 0, sh 82 [(1, .ptr 0 0), (4, .own 1), (5, .own 2), (6, .own 3)], [rtB 0, .arr TNd 6, .arr TI 7, .arr TNd 8])] op_L3_8
theorem L3_8_eqs : L3_8 = mkM 0 [] [(sh 82 [(1, .ptr 0 0), (3, .own 1), (4, .own 2), (5, .own 3), (6, .own 4), (7, .int .i64 0)], [rtB 1, .arr TI 7, .arr TNd 8, .arr TI 9, .arr TNd 10])] [] [(.exit 0, sh 82 [(1, .ptr 0 0), (4, .own 1), (5, .own 2), (6, .own 3)], [rtB 0, .arr TNd 6, .arr TI 7, .arr TNd 8])] (iterS st_L3_8 FU) := congrArg (fun f => mkM 0 [] [(sh 82 [(1, .ptr 0 0), (3, .own 1), (4, .own 2), (5, .own 3), (6, .own 4), (7, .int .i64 0)], [rtB 1, .arr TI 7, .arr TNd 8, .arr TI 9, .arr TNd 10])] [] [(.exit 0, sh 82 [(1, .ptr 0 0), (4, .own 1), (5, .own 2), (6, .own 3)], [rtB 0, .arr TNd 6, .arr TI 7, .arr TNd 8])] f) (funext op_L3_8_eq)
theorem L3_8_run : ∀ t s x, (manyRun L3_8 t s).sel = some x → CodeOk Try.prog 0 (.loop (cAt Try.prog 3 8)) t s x := by
  rw [L3_8_eqs]
  exact mkM_ok (st := st_L3_8) (m := FU) cs_14_ok hmix false (LsOk.none _ _ _) (by kernel_rfl) (fun env y h => by rw [← stepMC_lk]; exact h)
theorem op_L3_8_good {p : Nat × List Dat → Prop} (Inv : List Dat → Prop) (μ : List Dat → Nat) (h : ∀ env, Inv env → Good (fun y => match y with | .go e => Inv e ∧ μ e < μ env | .stop k d => p (k, d)) (st_L3_8 env).sel) (env : List Dat) (hi : Inv env) (hm : μ env < FU) : Good p (op_L3_8 env) := by
  rw [op_L3_8_eq]
  exact iterS_good Inv μ p h FU env hi hm

noncomputable def fn_L3_8_t : List Dat → Tree Step
  | [.n n0, .s s1, .n n2, .l (Ty.int IntKind.i64) l3, .l (Ty.pair (Ty.int IntKind.i64) Ty.bool) l4, .l (Ty.int IntKind.i64) l5, .l (Ty.pair (Ty.int IntKind.i64) Ty.bool) l6, .l (Ty.int IntKind.i64) l7, .l (Ty.pair (Ty.int IntKind.i64) Ty.bool) l8, .l (Ty.int IntKind.i64) l9, .l (Ty.pair (Ty.int IntKind.i64) Ty.bool) l10] =>
    (.node (decide (n0 < (↑(List.length l7) : Int)))
     (.leaf (Step.go [.k 0, .n (IntKind.wrap .i64 (n0 + (1 : Int))), .s s1, .n n2, .l TI l3, .l TNd l4, .l TI l5, .l TNd l6, .l TI (List.set l7 (Int.toNat n0) (-5 : Int)), .l TNd l8, .l TI l9, .l TNd l10]))
     (.leaf (Step.stop 0 [.s s1, .n n2, .l TI l3, .l TNd l4, .l TI l5, .l TNd l6, .l TNd l8, .l TI l9, .l TNd l10])))
  | _ => .bad 0
theorem fn_L3_8_t_im (n0 : Int) (s1 : ByteArray) (n2 : Int) (l3 : List (Ty.den TI)) (l4 : List (Ty.den TNd)) (l5 : List (Ty.den TI)) (l6 : List (Ty.den TNd)) (l7 : List (Ty.den TI)) (l8 : List (Ty.den TNd)) (l9 : List (Ty.den TI)) (l10 : List (Ty.den TNd)) (g0 : 0 ≤ n0) : Imp (fn_L3_8_t [.n n0, .s s1, .n n2, .l TI l3, .l TNd l4, .l TI l5, .l TNd l6, .l TI l7, .l TNd l8, .l TI l9, .l TNd l10]) (st_L3_8 [.k 0, .n n0, .s s1, .n n2, .l TI l3, .l TNd l4, .l TI l5, .l TNd l6, .l TI l7, .l TNd l8, .l TI l9, .l TNd l10]) :=
(.pa [1]
(.nd (fun h0 =>
(.pt (c := (inR n0 (List.length l7))) (by kernel_rfl) (by kernel_rfl) (by (simp only [w64d, decide_eq_true_eq, decide_eq_false_iff_not, beq_iff_eq, beq_eq_false_iff_ne, bne_iff_ne, ne_eq, inR, Bool.and_eq_true, Bool.and_eq_false_iff, Bool.not_eq_true', Bool.not_eq_false', Bool.not_eq_eq_eq_not, Bool.not_true, Bool.not_false] at *; omega))
(.pa [1]
.lf))) (fun h0 =>
(.pa [1]
.lf))))

noncomputable def st_L3_12 (env : List Dat) : Tree Step := Lk.stepMC false LK cs_14 3 12 ls0 (mkM 0 [] [(sh 82 [(1, .ptr 0 0), (4, .own 1), (5, .own 2), (6, .own 3), (8, .int .i64 0)], [rtB 1, .arr TNd 7, .arr TI 8, .arr TNd 9])] [] [(.exit 2, sh 82 [(1, .ptr 0 0), (5, .own 1), (6, .own 2)], [rtB 0, .arr TI 6, .arr TNd 7])] fun _ => none) env
theorem op_L3_12_ex : ∃ f : List Dat → Option (Nat × List Dat), ∀ env, f env = iterS st_L3_12 FU env := ⟨iterS st_L3_12 FU, fun _ => rfl⟩
noncomputable def op_L3_12 : List Dat → Option (Nat × List Dat) := Classical.choose op_L3_12_ex
theorem op_L3_12_eq (env : List Dat) : op_L3_12 env = iterS st_L3_12 FU env := Classical.choose_spec op_L3_12_ex env
noncomputable def L3_12 : MBox := mkM 0 [] [(sh 82 [(1, .ptr 0 0), (4, .own 1), (5, .own 2), (6, .own 3), (8, .int .i64 0)], [rtB 1, .arr TNd 7, .arr TI 8, .arr TNd 9])] [] [(.exit 2, sh 82 [(1, .ptr 0 0), (5, .own 1), (6, .own 2)], [rtB 0, .arr TI 6, .arr TNd 7])] op_L3_12
theorem L3_12_eqs : L3_12 = mkM 0 [] [(sh 82 [(1, .ptr 0 0), (4, .own 1), (5, .own 2), (6, .own 3), (8, .int .i64 0)], [rtB 1, .arr TNd 7, .arr TI 8, .arr TNd 9])] [] [(.exit 2, sh 82 [(1, .ptr 0 0), (5, .own 1), (6, .own 2)], [rtB 0, .arr TI 6, .arr TNd 7])] (iterS st_L3_12 FU) := congrArg (fun f => mkM 0 [] [(sh 82 [(1, .ptr 0 0), (4, .own 1), (5, .own 2), (6, .own 3), (8, .int .i64 0)], [rtB 1, .arr TNd 7, .arr TI 8, .arr TNd 9])] [] [(.exit 2, sh 82 [(1, .ptr 0 0), (5, .own 1), (6, .own 2)], [rtB 0, .arr TI 6, .arr TNd 7])] f) (funext op_L3_12_eq)
theorem L3_12_run : ∀ t s x, (manyRun L3_12 t s).sel = some x → CodeOk Try.prog 0 (.loop (cAt Try.prog 3 12)) t s x := by
  rw [L3_12_eqs]
  exact mkM_ok (st := st_L3_12) (m := FU) cs_14_ok hmix false (LsOk.none _ _ _) (by kernel_rfl) (fun env y h => by rw [← stepMC_lk]; exact h)
theorem op_L3_12_good {p : Nat × List Dat → Prop} (Inv : List Dat → Prop) (μ : List Dat → Nat) (h : ∀ env, Inv env → Good (fun y => match y with | .go e => Inv e ∧ μ e < μ env | .stop k d => p (k, d)) (st_L3_12 env).sel) (env : List Dat) (hi : Inv env) (hm : μ env < FU) : Good p (op_L3_12 env) := by
  rw [op_L3_12_eq]
  exact iterS_good Inv μ p h FU env hi hm

noncomputable def fn_L3_12_t : List Dat → Tree Step
  | [.n n0, .s s1, .n n2, .l (Ty.int IntKind.i64) l3, .l (Ty.pair (Ty.int IntKind.i64) Ty.bool) l4, .l (Ty.int IntKind.i64) l5, .l (Ty.pair (Ty.int IntKind.i64) Ty.bool) l6, .l (Ty.pair (Ty.int IntKind.i64) Ty.bool) l7, .l (Ty.int IntKind.i64) l8, .l (Ty.pair (Ty.int IntKind.i64) Ty.bool) l9] =>
    (.node (decide (n0 < (↑(List.length l7) : Int)))
     (.leaf (Step.go [.k 0, .n (IntKind.wrap .i64 (n0 + (1 : Int))), .s s1, .n n2, .l TI l3, .l TNd l4, .l TI l5, .l TNd l6, .l TNd (List.set l7 (Int.toNat n0) ((-5 : Int), false)), .l TI l8, .l TNd l9]))
     (.leaf (Step.stop 0 [.s s1, .n n2, .l TI l3, .l TNd l4, .l TI l5, .l TNd l6, .l TI l8, .l TNd l9])))
  | _ => .bad 0
theorem fn_L3_12_t_im (n0 : Int) (s1 : ByteArray) (n2 : Int) (l3 : List (Ty.den TI)) (l4 : List (Ty.den TNd)) (l5 : List (Ty.den TI)) (l6 : List (Ty.den TNd)) (l7 : List (Ty.den TNd)) (l8 : List (Ty.den TI)) (l9 : List (Ty.den TNd)) (g0 : 0 ≤ n0) : Imp (fn_L3_12_t [.n n0, .s s1, .n n2, .l TI l3, .l TNd l4, .l TI l5, .l TNd l6, .l TNd l7, .l TI l8, .l TNd l9]) (st_L3_12 [.k 0, .n n0, .s s1, .n n2, .l TI l3, .l TNd l4, .l TI l5, .l TNd l6, .l TNd l7, .l TI l8, .l TNd l9]) :=
(.pa [1]
(.nd (fun h0 =>
(.pt (c := (inR n0 (List.length l7))) (by kernel_rfl) (by kernel_rfl) (by (simp only [w64d, decide_eq_true_eq, decide_eq_false_iff_not, beq_iff_eq, beq_eq_false_iff_ne, bne_iff_ne, ne_eq, inR, Bool.and_eq_true, Bool.and_eq_false_iff, Bool.not_eq_true', Bool.not_eq_false', Bool.not_eq_eq_eq_not, Bool.not_true, Bool.not_false] at *; omega))
(.pa [1]
.lf))) (fun h0 =>
(.pa [1]
.lf))))

theorem ls_3_ok : LsOk Try.prog (0) (lsM [(8, L3_8), (12, L3_12)] (0)) (bodyOf Try.prog 3) := LsOk.many fun j B hB hk c hc hi => by
  simp only [lookM] at hB
  split at hB
  · rename_i e; have := Nat.eq_of_beq_eq_true e; subst this; cases hB
    have e1 : loopAt Try.prog 3 8 = [cAt Try.prog 3 8] := loopAt_one (by kernel_rfl)
    have e2 : c ∈ loopAt Try.prog 3 8 := loopsAt_mem hc hi
    rw [e1] at e2; cases List.mem_singleton.1 e2; exact L3_8_run
  split at hB
  · rename_i e; have := Nat.eq_of_beq_eq_true e; subst this; cases hB
    have e1 : loopAt Try.prog 3 12 = [cAt Try.prog 3 12] := loopAt_one (by kernel_rfl)
    have e2 : c ∈ loopAt Try.prog 3 12 := loopsAt_mem hc hi
    rw [e1] at e2; cases List.mem_singleton.1 e2; exact L3_12_run
  cases hB

noncomputable def ev_W3 (env : List Dat) : Tree Bool := Lk.lawB false LK cs_14 3 (lsM [(8, L3_8), (12, L3_12)] (0)) (instL [rtV 0] env)

theorem W3_law (env : List Dat) (h : (ev_W3 env).sel = some true) {w : World} {args : Array Value} (ha : LRel R0 (snapOf w) (instL [rtV 0] env) args) :
    Calls Try.prog 3 args w fun e w' => e = .returned (.bool true) ∧ Below w.heap.size w w' :=
  lawB_ok cs_14_ok hmix false (ls := (lsM [(8, L3_8), (12, L3_12)] (0))) (ls_3_ok) (by rw [← lawB_lk]; exact h) ha

noncomputable def fn_W3_t : List Dat → Tree Bool
  | [.s s0, .n n1, .l (Ty.int IntKind.i64) l2, .l (Ty.pair (Ty.int IntKind.i64) Ty.bool) l3, .l (Ty.int IntKind.i64) l4, .l (Ty.pair (Ty.int IntKind.i64) Ty.bool) l5] =>
    (.node (decide ((↑(List.length l2) : Int) > (200 : Int)))
     (.leaf (true))
     (.node (decide ((↑(List.length l4) : Int) > (200 : Int)))
      (.leaf (true))
      (.node (decide ((↑(List.length l3) : Int) > (200 : Int)))
       (.leaf (true))
       (.node (decide ((↑(List.length l5) : Int) > (200 : Int)))
        (.leaf (true))
        (let r1 : Option (Nat × List Dat) := (op_9 [.s s0, .n n1, .l TI l2, .l TNd l3, .l TI l4, .l TNd l5]);
         (.node (isK 0 [HK.l TI] r1)
          (let r2 : Option (Nat × List Dat) := (op_10 [.s s0, .n n1, .l TI l2, .l TNd l3, .l TI l4, .l TNd l5]);
           (.node (isK 0 [HK.l TNd] r2)
            (let r3 : Option (Nat × List Dat) := (op_11 [.s s0, .n n1, .l TI l2, .l TNd l3, .l TI l4, .l TNd l5]);
             (.node (isK 0 [HK.l TI] r3)
              (let r4 : Option (Nat × List Dat) := (op_12 [.s s0, .n n1, .l TI l2, .l TNd l3, .l TI l4, .l TNd l5]);
               (.node (isK 0 [HK.l TNd] r4)
                (let r5 : Option (Nat × List Dat) := (op_13 [.l TI (gl TI (dOf r1) 0), .l TI (gl TI (dOf r3) 0)]);
                 (.node (isK 0 [HK.b] r5)
                  (.node (!gb (dOf r5) 0)
                   (.leaf (false))
                   (let r6 : Option (Nat × List Dat) := (op_14 [.l TNd (gl TNd (dOf r2) 0), .l TNd (gl TNd (dOf r4) 0)]);
                    (.node (isK 0 [HK.b] r6)
                     (.node (!gb (dOf r6) 0)
                      (.leaf (false))
                      (let r7 : Option (Nat × List Dat) := (op_L3_8 [.k 0, .n (0 : Int), .s s0, .n n1, .l TI l2, .l TNd l3, .l TI l4, .l TNd l5, .l TI (gl TI (dOf r1) 0), .l TNd (gl TNd (dOf r2) 0), .l TI (gl TI (dOf r3) 0), .l TNd (gl TNd (dOf r4) 0)]);
                       (.node (isK 0 [HK.s, HK.n, HK.l TI, HK.l TNd, HK.l TI, HK.l TNd, HK.l TNd, HK.l TI, HK.l TNd] r7)
                        (let r8 : Option (Nat × List Dat) := (op_L3_12 [.k 0, .n (0 : Int), .s (gs (dOf r7) 0), .n (gn (dOf r7) 1), .l TI (gl TI (dOf r7) 2), .l TNd (gl TNd (dOf r7) 3), .l TI (gl TI (dOf r7) 4), .l TNd (gl TNd (dOf r7) 5), .l TNd (gl TNd (dOf r7) 6), .l TI (gl TI (dOf r7) 7), .l TNd (gl TNd (dOf r7) 8)]);
                         (.node (isK 0 [HK.s, HK.n, HK.l TI, HK.l TNd, HK.l TI, HK.l TNd, HK.l TI, HK.l TNd] r8)
                          (let r9 : Option (Nat × List Dat) := (op_9 [.s (gs (dOf r8) 0), .n (gn (dOf r8) 1), .l TI (gl TI (dOf r8) 2), .l TNd (gl TNd (dOf r8) 3), .l TI (gl TI (dOf r8) 4), .l TNd (gl TNd (dOf r8) 5)]);
                           (.node (isK 0 [HK.l TI] r9)
                            (let r10 : Option (Nat × List Dat) := (op_13 [.l TI (gl TI (dOf r9) 0), .l TI (gl TI (dOf r8) 6)]);
                             (.node (isK 0 [HK.b] r10)
                              (.node (gb (dOf r10) 0)
                               (let r11 : Option (Nat × List Dat) := (op_10 [.s (gs (dOf r8) 0), .n (gn (dOf r8) 1), .l TI (gl TI (dOf r8) 2), .l TNd (gl TNd (dOf r8) 3), .l TI (gl TI (dOf r8) 4), .l TNd (gl TNd (dOf r8) 5)]);
                                (.node (isK 0 [HK.l TNd] r11)
                                 (let r12 : Option (Nat × List Dat) := (op_14 [.l TNd (gl TNd (dOf r11) 0), .l TNd (gl TNd (dOf r8) 7)]);
                                  (.node (isK 0 [HK.b] r12)
                                   (.node (gb (dOf r12) 0)
                                    (.leaf (true))
                                    (.leaf (false)))
                                   (.bad 351)))
                                 (.bad 351)))
                               (.leaf (false)))
                              (.bad 351)))
                            (.bad 351)))
                          (.bad 351)))
                        (.bad 351))))
                     (.bad 351))))
                  (.bad 351)))
                (.bad 351)))
              (.bad 351)))
            (.bad 351)))
          (.bad 351)))))))
  | _ => .bad 0
theorem fn_W3_t_im (s0 : ByteArray) (n1 : Int) (l2 : List (Ty.den TI)) (l3 : List (Ty.den TNd)) (l4 : List (Ty.den TI)) (l5 : List (Ty.den TNd)) : Imp (fn_W3_t [.s s0, .n n1, .l TI l2, .l TNd l3, .l TI l4, .l TNd l5]) (ev_W3 [.s s0, .n n1, .l TI l2, .l TNd l3, .l TI l4, .l TNd l5]) :=
(.nd (fun h0 =>
(.pa [1,1,1,1,1,1,1,1,1]
.lf)) (fun h0 =>
(.nd (fun h1 =>
(.pa [1,1,1,1,1,1,1]
.lf)) (fun h1 =>
(.nd (fun h2 =>
(.pa [1,1,1,1,1]
.lf)) (fun h2 =>
(.nd (fun h3 =>
(.pa [1,1,1]
.lf)) (fun h3 =>
(.nd (fun h4 =>
(.pa [1]
(.nd (fun h5 =>
(.pa [1,1]
(.nd (fun h6 =>
(.pa [1]
(.nd (fun h7 =>
(.pa [1,1]
(.nd (fun h8 =>
(.pa [1]
(.nd (fun h9 =>
(.pa [1,1]
.lf)) (fun h9 =>
(.nd (fun h10 =>
(.pa [1]
(.nd (fun h11 =>
.lf) (fun h11 =>
(.nd (fun h12 =>
(.nd (fun h13 =>
(.nd (fun h14 =>
(.pa [1]
(.nd (fun h15 =>
(.pa [1]
(.nd (fun h16 =>
(.nd (fun h17 =>
(.pa [1]
(.nd (fun h18 =>
(.pa [1]
(.nd (fun h19 =>
(.pa [1,1,1]
.lf)) (fun h19 =>
(.pa [0]
.lf))))) (fun h18 =>
.none)))) (fun h17 =>
.none))) (fun h16 =>
(.pa [0,0,0]
.lf))))) (fun h15 =>
.none)))) (fun h14 =>
.none))) (fun h13 =>
.none))) (fun h12 =>
.none)))))) (fun h10 =>
.none)))))) (fun h8 =>
.none)))) (fun h7 =>
.none)))) (fun h6 =>
.none)))) (fun h5 =>
.none)))) (fun h4 =>
.none))))))))))
end Go.Proofs.Ytlocflgfoodiiaa.Vx
