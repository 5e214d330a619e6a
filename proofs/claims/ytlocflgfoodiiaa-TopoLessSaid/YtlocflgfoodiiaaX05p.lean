import Derived.Test.YtlocflgfoodiiaaVxIm
import Derived.Test.YtlocflgfoodiiaaVxLk
import Derived.Test.YtlocflgfoodiiaaVxLaw
import Derived.Test.YtlocflgfoodiiaaX05n
import Derived.KernelRfl
namespace Go.Proofs.Ytlocflgfoodiiaa.Vx
open Go Go.RowKit
set_option linter.unusedVariables false
set_option linter.unusedSimpArgs false
set_option maxRecDepth 100000
set_option maxHeartbeats 0

def apR (l : List (Ty.den TRt)) (e : Ty.den TRt) : List (Ty.den TRt) := l ++ [e]
def oC (b : Nat) : PB := .cells [.own b, .own (b+1), .own (b+2), .own (b+3)]
def nC : PB := .cells [.nilsl, .nilsl, .nilsl, .nilsl]
noncomputable def ev_21 (env : List Dat) : Tree (Nat × List Dat) := Lk.boxC false LK cs_15 21 ls0 (mkF [.int .i64 0, .int .i64 1] [] [] [(.int .i64 0, [])] fun _ => none) env
theorem op_21_ex : ∃ f : List Dat → Option (Nat × List Dat), ∀ env, f env = (ev_21 env).sel := ⟨fun env => (ev_21 env).sel, fun _ => rfl⟩
noncomputable def op_21 : List Dat → Option (Nat × List Dat) := Classical.choose op_21_ex
theorem op_21_eq (env : List Dat) : op_21 env = (ev_21 env).sel := Classical.choose_spec op_21_ex env
noncomputable def B21 : FBox := mkF [.int .i64 0, .int .i64 1] [] [] [(.int .i64 0, [])] op_21
theorem B21_ok : RunOk Try.prog 21 (boxRun B21) := mkF_ok (op := op_21) cs_15_ok hmix false (LsOk.none _ _ _) (fun env x h => by rw [op_21_eq] at h; rw [← boxC_lk]; exact h)
theorem op_21_good {p : Nat × List Dat → Prop} {T : Tree (Nat × List Dat)} {env : List Dat} (h : Imp T (ev_21 env)) (g : Good p T.sel) : Good p (op_21 env) := by
  rw [op_21_eq]
  exact h.good g

noncomputable def fn_21_t : List Dat → Tree (Nat × List Dat)
  | [.n n0, .n n1] =>
    (.node (decide (n1 ≤ (0 : Int)))
     (.leaf ((0, [.n (0 : Int)])))
     (.leaf ((0, [.n (Int.tmod (IntKind.wrap .i64 (Int.tmod n0 n1 + n1)) n1)]))))
  | _ => .bad 0
theorem fn_21_t_im (n0 : Int) (n1 : Int) : Imp (fn_21_t [.n n0, .n n1]) (ev_21 [.n n0, .n n1]) :=
(.nd (fun h0 =>
(.pa [1]
.lf)) (fun h0 =>
(.pt (c := (!decide (n1 = (0 : Int)))) (by kernel_rfl) (by kernel_rfl) (by (simp only [w64d, decide_eq_true_eq, decide_eq_false_iff_not, beq_iff_eq, beq_eq_false_iff_ne, bne_iff_ne, ne_eq, inR, Bool.and_eq_true, Bool.and_eq_false_iff, Bool.not_eq_true', Bool.not_eq_false', Bool.not_eq_eq_eq_not, Bool.not_true, Bool.not_false] at *; omega))
(.pt (c := (!decide (n1 = (0 : Int)))) (by kernel_rfl) (by kernel_rfl) (by (simp only [w64d, decide_eq_true_eq, decide_eq_false_iff_not, beq_iff_eq, beq_eq_false_iff_ne, bne_iff_ne, ne_eq, inR, Bool.and_eq_true, Bool.and_eq_false_iff, Bool.not_eq_true', Bool.not_eq_false', Bool.not_eq_eq_eq_not, Bool.not_true, Bool.not_false] at *; omega))
(.pa [1]
.lf)))))

noncomputable def cs_21 : FuncId → Option CSpec := csLend 21 B21 cs_15
theorem cs_21_ok : CsOk Try.prog cs_21 := csLend_ok cs_15_ok B21_ok

noncomputable def st_L20_6 (env : List Dat) : Tree Step := Lk.stepMC false LK cs_21 20 6 ls0 (mkM (cv := [(3, [], 3, .own TRt)]) 0 [] [(sh 73 [(1, .ptr 0 0), (2, .ptr 1 0), (3, .ptr 2 0), (4, .int .i64 0)], [laB 1, nC, oC 3, .arr TS 5, .arr TPt 6, .arr TPt 7, .arr TRt 8])] [] [(.exit 0, sh 73 [(2, .ptr 0 0), (3, .ptr 1 0)], [nC, oC 2, .arr TS 0, .arr TPt 1, .arr TPt 2, .arr TRt 3])] fun _ => none) env
theorem op_L20_6_ex : ∃ f : List Dat → Option (Nat × List Dat), ∀ env, f env = iterS st_L20_6 FU env := ⟨iterS st_L20_6 FU, fun _ => rfl⟩
noncomputable def op_L20_6 : List Dat → Option (Nat × List Dat) := Classical.choose op_L20_6_ex
theorem op_L20_6_eq (env : List Dat) : op_L20_6 env = iterS st_L20_6 FU env := Classical.choose_spec op_L20_6_ex env
noncomputable def L20_6 : MBox := mkM (cv := [(3, [], 3, .own TRt)]) 0 [] [(sh 73 [(1, .ptr 0 0), (2, .ptr 1 0), (3, .ptr 2 0), (4, .int .i64 0)], [laB 1, nC, oC 3, .arr TS 5, .arr TPt 6, .arr TPt 7, .arr TRt 8])] [] [(.exit 0, sh 73 [(2, .ptr 0 0), (3, .ptr 1 0)], [nC, oC 2, .arr TS 0, .arr TPt 1, .arr TPt 2, .arr TRt 3])] op_L20_6
theorem L20_6_eqs : L20_6 = mkM (cv := [(3, [], 3, .own TRt)]) 0 [] [(sh 73 [(1, .ptr 0 0), (2, .ptr 1 0), (3, .ptr 2 0), (4, .int .i64 0)], [laB 1, nC, oC 3, .arr TS 5, .arr TPt 6, .arr TPt 7, .arr TRt 8])] [] [(.exit 0, sh 73 [(2, .ptr 0 0), (3, .ptr 1 0)], [nC, oC 2, .arr TS 0, .arr TPt 1, .arr TPt 2, .arr TRt 3])] (iterS st_L20_6 FU) := congrArg (fun f => mkM (cv := [(3, [], 3, .own TRt)]) 0 [] [(sh 73 [(1, .ptr 0 0), (2, .ptr 1 0), (3, .ptr 2 0), (4, .int .i64 0)], [laB 1, nC, oC 3, .arr TS 5, .arr TPt 6, .arr TPt 7, .arr TRt 8])] [] [(.exit 0, sh 73 [(2, .ptr 0 0), (3, .ptr 1 0)], [nC, oC 2, .arr TS 0, .arr TPt 1, .arr TPt 2, .arr TRt 3])] f) (funext op_L20_6_eq)
theorem L20_6_run : ∀ t s x, (manyRun L20_6 t s).sel = some x → CodeOk Try.prog 0 (.loop (cAt Try.prog 20 6)) t s x := by
  rw [L20_6_eqs]
  exact mkM_ok (st := st_L20_6) (m := FU) cs_21_ok hmix false (LsOk.none _ _ _) (by kernel_rfl) (fun env y h => by rw [← stepMC_lk]; exact h)
theorem op_L20_6_good {p : Nat × List Dat → Prop} (Inv : List Dat → Prop) (μ : List Dat → Nat) (h : ∀ env, Inv env → Good (fun y => match y with | .go e => Inv e ∧ μ e < μ env | .stop k d => p (k, d)) (st_L20_6 env).sel) (env : List Dat) (hi : Inv env) (hm : μ env < FU) : Good p (op_L20_6 env) := by
  rw [op_L20_6_eq]
  exact iterS_good Inv μ p h FU env hi hm

noncomputable def fn_L20_6_t : List Dat → Tree Step
  | [.n n0, .l (Ty.str) l1, .l (Ty.pair Ty.str (Ty.int IntKind.i64)) l2, .l (Ty.pair Ty.str (Ty.int IntKind.i64)) l3, .l (Ty.pair Ty.str (Ty.pair (Ty.int IntKind.i64) (Ty.pair (Ty.sl (Ty.int IntKind.i64)) (Ty.pair (Ty.sl (Ty.pair (Ty.int IntKind.i64) Ty.bool)) (Ty.pair (Ty.sl (Ty.int IntKind.i64)) (Ty.sl (Ty.pair (Ty.int IntKind.i64) Ty.bool))))))) l4, .l (Ty.str) l5, .l (Ty.pair Ty.str (Ty.int IntKind.i64)) l6, .l (Ty.pair Ty.str (Ty.int IntKind.i64)) l7, .l (Ty.pair Ty.str (Ty.pair (Ty.int IntKind.i64) (Ty.pair (Ty.sl (Ty.int IntKind.i64)) (Ty.pair (Ty.sl (Ty.pair (Ty.int IntKind.i64) Ty.bool)) (Ty.pair (Ty.sl (Ty.int IntKind.i64)) (Ty.sl (Ty.pair (Ty.int IntKind.i64) Ty.bool))))))) l8] =>
    (.node (decide (n0 < (↑(List.length l4) : Int)))
     (.node (decide (List.length (Prod.fst (Prod.snd (Prod.snd (List.getD l4 (Int.toNat n0) (Ty.dflt TRt))))) * 8 ≤ 140737488355328))
      (.node (decide (List.length (Prod.fst (Prod.snd (Prod.snd (Prod.snd (List.getD l4 (Int.toNat n0) (Ty.dflt TRt)))))) * 16 ≤ 140737488355328))
       (.node (decide (List.length (Prod.fst (Prod.snd (Prod.snd (Prod.snd (Prod.snd (List.getD l4 (Int.toNat n0) (Ty.dflt TRt))))))) * 8 ≤ 140737488355328))
        (.node (decide (List.length (Prod.snd (Prod.snd (Prod.snd (Prod.snd (Prod.snd (List.getD l4 (Int.toNat n0) (Ty.dflt TRt))))))) * 16 ≤ 140737488355328))
         (.node (decide ((List.length l8 + 1) * 120 ≤ 140737488355328))
          (.leaf (Step.go [.k 0, .n (IntKind.wrap .i64 (n0 + (1 : Int))), .l Ty.str l1, .l TPt l2, .l TPt l3, .l TRt l4, .l Ty.str l5, .l TPt l6, .l TPt l7, .l TRt (apR (l8) (Prod.fst (List.getD l4 (Int.toNat n0) (Ty.dflt TRt)), Prod.fst (Prod.snd (List.getD l4 (Int.toNat n0) (Ty.dflt TRt))), Prod.fst (Prod.snd (Prod.snd (List.getD l4 (Int.toNat n0) (Ty.dflt TRt)))), Prod.fst (Prod.snd (Prod.snd (Prod.snd (List.getD l4 (Int.toNat n0) (Ty.dflt TRt))))), Prod.fst (Prod.snd (Prod.snd (Prod.snd (Prod.snd (List.getD l4 (Int.toNat n0) (Ty.dflt TRt)))))), Prod.snd (Prod.snd (Prod.snd (Prod.snd (Prod.snd (List.getD l4 (Int.toNat n0) (Ty.dflt TRt))))))))]))
          (.bad 62))
         (.bad 60))
        (.bad 60))
       (.bad 60))
      (.bad 60))
     (.leaf (Step.stop 0 [.l Ty.str l5, .l TPt l6, .l TPt l7, .l TRt l8])))
  | _ => .bad 0
theorem fn_L20_6_t_im (n0 : Int) (l1 : List (Ty.den TS)) (l2 : List (Ty.den TPt)) (l3 : List (Ty.den TPt)) (l4 : List (Ty.den TRt)) (l5 : List (Ty.den TS)) (l6 : List (Ty.den TPt)) (l7 : List (Ty.den TPt)) (l8 : List (Ty.den TRt)) (g0 : 0 ≤ n0) : Imp (fn_L20_6_t [.n n0, .l TS l1, .l TPt l2, .l TPt l3, .l TRt l4, .l TS l5, .l TPt l6, .l TPt l7, .l TRt l8]) (st_L20_6 [.k 0, .n n0, .l TS l1, .l TPt l2, .l TPt l3, .l TRt l4, .l TS l5, .l TPt l6, .l TPt l7, .l TRt l8]) :=
(.pa [1]
(.nd (fun h0 =>
(.pt (c := (inR n0 (List.length l4))) (by kernel_rfl) (by kernel_rfl) (by (simp only [w64d, decide_eq_true_eq, decide_eq_false_iff_not, beq_iff_eq, beq_eq_false_iff_ne, bne_iff_ne, ne_eq, inR, Bool.and_eq_true, Bool.and_eq_false_iff, Bool.not_eq_true', Bool.not_eq_false', Bool.not_eq_eq_eq_not, Bool.not_true, Bool.not_false] at *; omega))
(.nd (fun h1 =>
(.nd (fun h2 =>
(.nd (fun h3 =>
(.nd (fun h4 =>
(.nd (fun h5 =>
(.pa [1]
.lf)) (fun h5 =>
.none))) (fun h4 =>
.none))) (fun h3 =>
.none))) (fun h2 =>
.none))) (fun h1 =>
.none)))) (fun h0 =>
(.pa [1]
.lf))))

theorem ls_20_ok : LsOk Try.prog (List.length ([] : List PB)) (lsM [(6, L20_6)] (List.length ([] : List PB))) (bodyOf Try.prog 20) := LsOk.many fun j B hB hk c hc hi => by
  simp only [lookM] at hB
  split at hB
  · rename_i e; have := Nat.eq_of_beq_eq_true e; subst this; cases hB
    have e1 : loopAt Try.prog 20 6 = [cAt Try.prog 20 6] := loopAt_one (by kernel_rfl)
    have e2 : c ∈ loopAt Try.prog 20 6 := loopsAt_mem hc hi
    rw [e1] at e2; cases List.mem_singleton.1 e2; exact L20_6_run
  cases hB

noncomputable def ev_20 (env : List Dat) : Tree (Nat × List Dat) := Lk.boxC false LK cs_21 20 (lsM [(6, L20_6)] (List.length ([] : List PB))) (mkF [laV 0] [] [] [(.agg [.own 0, .own 1, .own 2, .own 3], [.arr TS 0, .arr TPt 1, .arr TPt 2, .arr TRt 3])] fun _ => none) env
theorem op_20_ex : ∃ f : List Dat → Option (Nat × List Dat), ∀ env, f env = (ev_20 env).sel := ⟨fun env => (ev_20 env).sel, fun _ => rfl⟩
noncomputable def op_20 : List Dat → Option (Nat × List Dat) := Classical.choose op_20_ex
theorem op_20_eq (env : List Dat) : op_20 env = (ev_20 env).sel := Classical.choose_spec op_20_ex env
noncomputable def B20 : FBox := mkF [laV 0] [] [] [(.agg [.own 0, .own 1, .own 2, .own 3], [.arr TS 0, .arr TPt 1, .arr TPt 2, .arr TRt 3])] op_20
theorem B20_ok : RunOk Try.prog 20 (boxRun B20) := mkF_ok (op := op_20) cs_21_ok hmix false (ls_20_ok) (fun env x h => by rw [op_20_eq] at h; rw [← boxC_lk]; exact h)
theorem op_20_good {p : Nat × List Dat → Prop} {T : Tree (Nat × List Dat)} {env : List Dat} (h : Imp T (ev_20 env)) (g : Good p T.sel) : Good p (op_20 env) := by
  rw [op_20_eq]
  exact h.good g

noncomputable def fn_20_t : List Dat → Tree (Nat × List Dat)
  | [.l (Ty.str) l0, .l (Ty.pair Ty.str (Ty.int IntKind.i64)) l1, .l (Ty.pair Ty.str (Ty.int IntKind.i64)) l2, .l (Ty.pair Ty.str (Ty.pair (Ty.int IntKind.i64) (Ty.pair (Ty.sl (Ty.int IntKind.i64)) (Ty.pair (Ty.sl (Ty.pair (Ty.int IntKind.i64) Ty.bool)) (Ty.pair (Ty.sl (Ty.int IntKind.i64)) (Ty.sl (Ty.pair (Ty.int IntKind.i64) Ty.bool))))))) l3] =>
    (.node (decide (List.length l0 * 16 ≤ 140737488355328))
     (.node (decide (List.length l1 * 24 ≤ 140737488355328))
      (.node (decide (List.length l2 * 24 ≤ 140737488355328))
       (let r1 : Option (Nat × List Dat) := (op_L20_6 [.k 0, .n (0 : Int), .l Ty.str l0, .l TPt l1, .l TPt l2, .l TRt l3, .l Ty.str l0, .l TPt l1, .l TPt l2, .l TRt []]);
        (.node (isK 0 [HK.l Ty.str, HK.l TPt, HK.l TPt, HK.l TRt] r1)
         (.leaf ((0, [.l Ty.str (gl Ty.str (dOf r1) 0), .l TPt (gl TPt (dOf r1) 1), .l TPt (gl TPt (dOf r1) 2), .l TRt (gl TRt (dOf r1) 3)])))
         (.bad 351)))
       (.bad 60))
      (.bad 60))
     (.bad 60))
  | _ => .bad 0
theorem fn_20_t_im (l0 : List (Ty.den TS)) (l1 : List (Ty.den TPt)) (l2 : List (Ty.den TPt)) (l3 : List (Ty.den TRt)) : Imp (fn_20_t [.l TS l0, .l TPt l1, .l TPt l2, .l TRt l3]) (ev_20 [.l TS l0, .l TPt l1, .l TPt l2, .l TRt l3]) :=
(.nd (fun h0 =>
(.nd (fun h1 =>
(.nd (fun h2 =>
(.nd (fun h3 =>
(.pa [1]
.lf)) (fun h3 =>
.none))) (fun h2 =>
.none))) (fun h1 =>
.none))) (fun h0 =>
.none))

noncomputable def cs_20 : FuncId → Option CSpec := csAdd 20 [B20] cs_21
theorem cs_20_ok : CsOk Try.prog cs_20 := csAdd_ok cs_21_ok fun B hB => by
  cases List.mem_singleton.1 hB
  exact B20_ok

noncomputable def st_L6_6 (env : List Dat) : Tree Step := Lk.stepMC false LK cs_20 6 6 ls0 (mkM 0 [] [(sh 136 [(1, .int .i64 0), (2, .ptr 0 0), (5, .int .i64 1), (7, .bool 2), (8, .int .i64 3)], [laB 4])] [] [(.exit 0, sh 136 [(1, .int .i64 0), (2, .ptr 0 0), (5, .int .i64 1), (7, .bool 2)], [laB 3])] fun _ => none) env
theorem op_L6_6_ex : ∃ f : List Dat → Option (Nat × List Dat), ∀ env, f env = iterS st_L6_6 FU env := ⟨iterS st_L6_6 FU, fun _ => rfl⟩
noncomputable def op_L6_6 : List Dat → Option (Nat × List Dat) := Classical.choose op_L6_6_ex
theorem op_L6_6_eq (env : List Dat) : op_L6_6 env = iterS st_L6_6 FU env := Classical.choose_spec op_L6_6_ex env
noncomputable def L6_6 : MBox := mkM 0 [] [(sh 136 [(1, .int .i64 0), (2, .ptr 0 0), (5, .int .i64 1), (7, .bool 2), (8, .int .i64 3)], [laB 4])] [] [(.exit 0, sh 136 [(1, .int .i64 0), (2, .ptr 0 0), (5, .int .i64 1), (7, .bool 2)], [laB 3])] op_L6_6
theorem L6_6_eqs : L6_6 = mkM 0 [] [(sh 136 [(1, .int .i64 0), (2, .ptr 0 0), (5, .int .i64 1), (7, .bool 2), (8, .int .i64 3)], [laB 4])] [] [(.exit 0, sh 136 [(1, .int .i64 0), (2, .ptr 0 0), (5, .int .i64 1), (7, .bool 2)], [laB 3])] (iterS st_L6_6 FU) := congrArg (fun f => mkM 0 [] [(sh 136 [(1, .int .i64 0), (2, .ptr 0 0), (5, .int .i64 1), (7, .bool 2), (8, .int .i64 3)], [laB 4])] [] [(.exit 0, sh 136 [(1, .int .i64 0), (2, .ptr 0 0), (5, .int .i64 1), (7, .bool 2)], [laB 3])] f) (funext op_L6_6_eq)
theorem L6_6_run : ∀ t s x, (manyRun L6_6 t s).sel = some x → CodeOk Try.prog 0 (.loop (cAt Try.prog 6 6)) t s x := by
  rw [L6_6_eqs]
  exact mkM_ok (st := st_L6_6) (m := FU) cs_20_ok hmix false (LsOk.none _ _ _) (by kernel_rfl) (fun env y h => by rw [← stepMC_lk]; exact h)
theorem op_L6_6_good {p : Nat × List Dat → Prop} (Inv : List Dat → Prop) (μ : List Dat → Nat) (h : ∀ env, Inv env → Good (fun y => match y with | .go e => Inv e ∧ μ e < μ env | .stop k d => p (k, d)) (st_L6_6 env).sel) (env : List Dat) (hi : Inv env) (hm : μ env < FU) : Good p (op_L6_6 env) := by
  rw [op_L6_6_eq]
  exact iterS_good Inv μ p h FU env hi hm

noncomputable def fn_L6_6_t : List Dat → Tree Step
  | [.n n0, .n n1, .b b2, .n n3, .l (Ty.str) l4, .l (Ty.pair Ty.str (Ty.int IntKind.i64)) l5, .l (Ty.pair Ty.str (Ty.int IntKind.i64)) l6, .l (Ty.pair Ty.str (Ty.pair (Ty.int IntKind.i64) (Ty.pair (Ty.sl (Ty.int IntKind.i64)) (Ty.pair (Ty.sl (Ty.pair (Ty.int IntKind.i64) Ty.bool)) (Ty.pair (Ty.sl (Ty.int IntKind.i64)) (Ty.sl (Ty.pair (Ty.int IntKind.i64) Ty.bool))))))) l7] =>
    (.node (decide (n3 < (↑(List.length l7) : Int)))
     (.node (b2)
      (let r1 : Option (Nat × List Dat) := (op_16 [.l Ty.str l4, .l TPt l5, .l TPt l6, .l TRt l7, .n n3]);
       (.node (isK 0 [HK.n] r1)
        (.leaf (Step.go [.k 0, .n n0, .n n1, .b (gn (dOf r1) 0 == (0 : Int)), .n (IntKind.wrap .i64 (n3 + (1 : Int))), .l Ty.str l4, .l TPt l5, .l TPt l6, .l TRt l7]))
        (.bad 351)))
      (.leaf (Step.stop 0 [.n n0, .n n1, .b b2, .l Ty.str l4, .l TPt l5, .l TPt l6, .l TRt l7])))
     (.leaf (Step.stop 0 [.n n0, .n n1, .b b2, .l Ty.str l4, .l TPt l5, .l TPt l6, .l TRt l7])))
  | _ => .bad 0
theorem fn_L6_6_t_im (n0 : Int) (n1 : Int) (b2 : Bool) (n3 : Int) (l4 : List (Ty.den TS)) (l5 : List (Ty.den TPt)) (l6 : List (Ty.den TPt)) (l7 : List (Ty.den TRt)) (g0 : 0 ≤ n3) : Imp (fn_L6_6_t [.n n0, .n n1, .b b2, .n n3, .l TS l4, .l TPt l5, .l TPt l6, .l TRt l7]) (st_L6_6 [.k 0, .n n0, .n n1, .b b2, .n n3, .l TS l4, .l TPt l5, .l TPt l6, .l TRt l7]) :=
(.pa [1]
(.nd (fun h0 =>
(.nd (fun h1 =>
(.nd (fun h2 =>
(.pa [1,1]
.lf)) (fun h2 =>
.none))) (fun h1 =>
(.pa [1]
.lf)))) (fun h0 =>
(.pa [0,0,1]
.lf))))

noncomputable def st_L6_25 (env : List Dat) : Tree Step := Lk.stepMC false LK cs_20 6 25 ls0 (mkM 0 [] [(sh 136 [(2, .ptr 0 0), (9, .ptr 1 0), (10, .ptr 2 0), (11, .int .i64 0), (12, .int .i64 1), (13, .ptr 3 0), (14, .own 4), (15, .int .i64 2)], [laB 3, oC 5, oC 9, rtB 7, .arr TI 13, .arr TS 14, .arr TPt 15, .arr TPt 16, .arr TRt 17, .arr TS 18, .arr TPt 19, .arr TPt 20, .arr TRt 21])] [(14, TI)] [(.exit 4, sh 136 [(2, .ptr 0 0), (9, .ptr 1 0), (10, .ptr 2 0), (11, .int .i64 0), (12, .int .i64 1), (13, .ptr 3 0), (14, .own 4)], [laB 2, oC 5, oC 9, rtB 6, .arr TI 12, .arr TS 13, .arr TPt 14, .arr TPt 15, .arr TRt 16, .arr TS 17, .arr TPt 18, .arr TPt 19, .arr TRt 20])] fun _ => none) env
theorem op_L6_25_ex : ∃ f : List Dat → Option (Nat × List Dat), ∀ env, f env = iterS st_L6_25 FU env := ⟨iterS st_L6_25 FU, fun _ => rfl⟩
noncomputable def op_L6_25 : List Dat → Option (Nat × List Dat) := Classical.choose op_L6_25_ex
theorem op_L6_25_eq (env : List Dat) : op_L6_25 env = iterS st_L6_25 FU env := Classical.choose_spec op_L6_25_ex env
noncomputable def L6_25 : MBox := mkM 0 [] [(sh 136 [(2, .ptr 0 0), (9, .ptr 1 0), (10, .ptr 2 0), (11, .int .i64 0), (12, .int .i64 1), (13, .ptr 3 0), (14, .own 4), (15, .int .i64 2)], [laB 3, oC 5, oC 9, rtB 7, .arr TI 13, .arr TS 14, .arr TPt 15, .arr TPt 16, .arr TRt 17, .arr TS 18, .arr TPt 19, .arr TPt 20, .arr TRt 21])] [(14, TI)] [(.exit 4, sh 136 [(2, .ptr 0 0), (9, .ptr 1 0), (10, .ptr 2 0), (11, .int .i64 0), (12, .int .i64 1), (13, .ptr 3 0), (14, .own 4)], [laB 2, oC 5, oC 9, rtB 6, .arr TI 12, .arr TS 13, .arr TPt 14, .arr TPt 15, .arr TRt 16, .arr TS 17, .arr TPt 18, .arr TPt 19, .arr TRt 20])] op_L6_25
theorem L6_25_eqs : L6_25 = mkM 0 [] [(sh 136 [(2, .ptr 0 0), (9, .ptr 1 0), (10, .ptr 2 0), (11, .int .i64 0), (12, .int .i64 1), (13, .ptr 3 0), (14, .own 4), (15, .int .i64 2)], [laB 3, oC 5, oC 9, rtB 7, .arr TI 13, .arr TS 14, .arr TPt 15, .arr TPt 16, .arr TRt 17, .arr TS 18, .arr TPt 19, .arr TPt 20, .arr TRt 21])] [(14, TI)] [(.exit 4, sh 136 [(2, .ptr 0 0), (9, .ptr 1 0), (10, .ptr 2 0), (11, .int .i64 0), (12, .int .i64 1), (13, .ptr 3 0), (14, .own 4)], [laB 2, oC 5, oC 9, rtB 6, .arr TI 12, .arr TS 13, .arr TPt 14, .arr TPt 15, .arr TRt 16, .arr TS 17, .arr TPt 18, .arr TPt 19, .arr TRt 20])] (iterS st_L6_25 FU) := congrArg (fun f => mkM 0 [] [(sh 136 [(2, .ptr 0 0), (9, .ptr 1 0), (10, .ptr 2 0), (11, .int .i64 0), (12, .int .i64 1), (13, .ptr 3 0), (14, .own 4), (15, .int .i64 2)], [laB 3, oC 5, oC 9, rtB 7, .arr TI 13, .arr TS 14, .arr TPt 15, .arr TPt 16, .arr TRt 17, .arr TS 18, .arr TPt 19, .arr TPt 20, .arr TRt 21])] [(14, TI)] [(.exit 4, sh 136 [(2, .ptr 0 0), (9, .ptr 1 0), (10, .ptr 2 0), (11, .int .i64 0), (12, .int .i64 1), (13, .ptr 3 0), (14, .own 4)], [laB 2, oC 5, oC 9, rtB 6, .arr TI 12, .arr TS 13, .arr TPt 14, .arr TPt 15, .arr TRt 16, .arr TS 17, .arr TPt 18, .arr TPt 19, .arr TRt 20])] f) (funext op_L6_25_eq)
theorem L6_25_run : ∀ t s x, (manyRun L6_25 t s).sel = some x → CodeOk Try.prog 0 (.loop (cAt Try.prog 6 25)) t s x := by
  rw [L6_25_eqs]
  exact mkM_ok (st := st_L6_25) (m := FU) cs_20_ok hmix false (LsOk.none _ _ _) (by kernel_rfl) (fun env y h => by rw [← stepMC_lk]; exact h)
theorem op_L6_25_good {p : Nat × List Dat → Prop} (Inv : List Dat → Prop) (μ : List Dat → Nat) (h : ∀ env, Inv env → Good (fun y => match y with | .go e => Inv e ∧ μ e < μ env | .stop k d => p (k, d)) (st_L6_25 env).sel) (env : List Dat) (hi : Inv env) (hm : μ env < FU) : Good p (op_L6_25 env) := by
  rw [op_L6_25_eq]
  exact iterS_good Inv μ p h FU env hi hm

noncomputable def fn_L6_25_t : List Dat → Tree Step
  | [.n n0, .n n1, .n n2, .l (Ty.str) l3, .l (Ty.pair Ty.str (Ty.int IntKind.i64)) l4, .l (Ty.pair Ty.str (Ty.int IntKind.i64)) l5, .l (Ty.pair Ty.str (Ty.pair (Ty.int IntKind.i64) (Ty.pair (Ty.sl (Ty.int IntKind.i64)) (Ty.pair (Ty.sl (Ty.pair (Ty.int IntKind.i64) Ty.bool)) (Ty.pair (Ty.sl (Ty.int IntKind.i64)) (Ty.sl (Ty.pair (Ty.int IntKind.i64) Ty.bool))))))) l6, .s s7, .n n8, .l (Ty.int IntKind.i64) l9, .l (Ty.pair (Ty.int IntKind.i64) Ty.bool) l10, .l (Ty.int IntKind.i64) l11, .l (Ty.pair (Ty.int IntKind.i64) Ty.bool) l12, .l (Ty.int IntKind.i64) l13, .l (Ty.pair Ty.str (Ty.pair (Ty.int IntKind.i64) (Ty.pair (Ty.sl (Ty.int IntKind.i64)) (Ty.pair (Ty.sl (Ty.pair (Ty.int IntKind.i64) Ty.bool)) (Ty.pair (Ty.sl (Ty.int IntKind.i64)) (Ty.sl (Ty.pair (Ty.int IntKind.i64) Ty.bool))))))) l14, .l (Ty.pair Ty.str (Ty.pair (Ty.int IntKind.i64) (Ty.pair (Ty.sl (Ty.int IntKind.i64)) (Ty.pair (Ty.sl (Ty.pair (Ty.int IntKind.i64) Ty.bool)) (Ty.pair (Ty.sl (Ty.int IntKind.i64)) (Ty.sl (Ty.pair (Ty.int IntKind.i64) Ty.bool))))))) l15] =>
    (.node (decide (n2 ≥ (0 : Int)))
     (.node (decide ((List.length l13 + 1) * 8 ≤ 140737488355328))
      (.leaf (Step.go [.k 0, .n n0, .n n1, .n (IntKind.wrap .i64 (n2 - (1 : Int))), .l Ty.str l3, .l TPt l4, .l TPt l5, .l TRt l6, .s s7, .n n8, .l TI l9, .l TNd l10, .l TI l11, .l TNd l12, .l TI (l13 ++ [List.getD l9 (Int.toNat n2) (0 : Int)]), .l Ty.str l3, .l TPt l4, .l TPt l5, .l TRt l14, .l Ty.str l3, .l TPt l4, .l TPt l5, .l TRt l15]))
      (.bad 62))
     (.leaf (Step.stop 0 [.n n0, .n n1, .l Ty.str l3, .l TPt l4, .l TPt l5, .l TRt l6, .s s7, .n n8, .l TI l9, .l TNd l10, .l TI l11, .l TNd l12, .l TI l13, .l Ty.str l3, .l TPt l4, .l TPt l5, .l TRt l14, .l Ty.str l3, .l TPt l4, .l TPt l5, .l TRt l15])))
  | _ => .bad 0
theorem fn_L6_25_t_im (n0 : Int) (n1 : Int) (n2 : Int) (l3 : List (Ty.den TS)) (l4 : List (Ty.den TPt)) (l5 : List (Ty.den TPt)) (l6 : List (Ty.den TRt)) (s7 : ByteArray) (n8 : Int) (l9 : List (Ty.den TI)) (l10 : List (Ty.den TNd)) (l11 : List (Ty.den TI)) (l12 : List (Ty.den TNd)) (l13 : List (Ty.den TI)) (l14 : List (Ty.den TRt)) (l15 : List (Ty.den TRt)) (g0 : n2 < (l9.length : Int)) : Imp (fn_L6_25_t [.n n0, .n n1, .n n2, .l TS l3, .l TPt l4, .l TPt l5, .l TRt l6, .s s7, .n n8, .l TI l9, .l TNd l10, .l TI l11, .l TNd l12, .l TI l13, .l TRt l14, .l TRt l15]) (st_L6_25 [.k 0, .n n0, .n n1, .n n2, .l TS l3, .l TPt l4, .l TPt l5, .l TRt l6, .s s7, .n n8, .l TI l9, .l TNd l10, .l TI l11, .l TNd l12, .l TI l13, .l TS l3, .l TPt l4, .l TPt l5, .l TRt l14, .l TS l3, .l TPt l4, .l TPt l5, .l TRt l15]) :=
(.pa [1]
(.nd (fun h0 =>
(.pt (c := (inR n2 (List.length l9))) (by kernel_rfl) (by kernel_rfl) (by (simp only [w64d, decide_eq_true_eq, decide_eq_false_iff_not, beq_iff_eq, beq_eq_false_iff_ne, bne_iff_ne, ne_eq, inR, Bool.and_eq_true, Bool.and_eq_false_iff, Bool.not_eq_true', Bool.not_eq_false', Bool.not_eq_eq_eq_not, Bool.not_true, Bool.not_false] at *; omega))
(.nd (fun h1 =>
(.pa [1]
.lf)) (fun h1 =>
.none)))) (fun h0 =>
(.pa [1]
.lf))))

noncomputable def st_L6_18 (env : List Dat) : Tree Step := Lk.stepMC false LK cs_20 6 18 (lsM [(25, L6_25)] 0) (mkM (cv := [(9, [], 3, .own TRt), (10, [], 3, .own TRt)]) 0 [] [(sh 136 [(2, .ptr 0 0), (9, .ptr 1 0), (10, .ptr 2 0), (11, .int .i64 0), (12, .int .i64 1)], [laB 2, oC 3, oC 7, .arr TS 6, .arr TPt 7, .arr TPt 8, .arr TRt 9, .arr TS 10, .arr TPt 11, .arr TPt 12, .arr TRt 13])] [] [(.exit 2, sh 136 [(9, .ptr 0 0), (10, .ptr 1 0)], [oC 2, oC 6, .arr TS 0, .arr TPt 1, .arr TPt 2, .arr TRt 3, .arr TS 4, .arr TPt 5, .arr TPt 6, .arr TRt 7])] fun _ => none) env
theorem op_L6_18_ex : ∃ f : List Dat → Option (Nat × List Dat), ∀ env, f env = iterS st_L6_18 FU env := ⟨iterS st_L6_18 FU, fun _ => rfl⟩
noncomputable def op_L6_18 : List Dat → Option (Nat × List Dat) := Classical.choose op_L6_18_ex
theorem op_L6_18_eq (env : List Dat) : op_L6_18 env = iterS st_L6_18 FU env := Classical.choose_spec op_L6_18_ex env
noncomputable def L6_18 : MBox := mkM (cv := [(9, [], 3, .own TRt), (10, [], 3, .own TRt)]) 0 [] [(sh 136 [(2, .ptr 0 0), (9, .ptr 1 0), (10, .ptr 2 0), (11, .int .i64 0), (12, .int .i64 1)], [laB 2, oC 3, oC 7, .arr TS 6, .arr TPt 7, .arr TPt 8, .arr TRt 9, .arr TS 10, .arr TPt 11, .arr TPt 12, .arr TRt 13])] [] [(.exit 2, sh 136 [(9, .ptr 0 0), (10, .ptr 1 0)], [oC 2, oC 6, .arr TS 0, .arr TPt 1, .arr TPt 2, .arr TRt 3, .arr TS 4, .arr TPt 5, .arr TPt 6, .arr TRt 7])] op_L6_18
theorem L6_18_eqs : L6_18 = mkM (cv := [(9, [], 3, .own TRt), (10, [], 3, .own TRt)]) 0 [] [(sh 136 [(2, .ptr 0 0), (9, .ptr 1 0), (10, .ptr 2 0), (11, .int .i64 0), (12, .int .i64 1)], [laB 2, oC 3, oC 7, .arr TS 6, .arr TPt 7, .arr TPt 8, .arr TRt 9, .arr TS 10, .arr TPt 11, .arr TPt 12, .arr TRt 13])] [] [(.exit 2, sh 136 [(9, .ptr 0 0), (10, .ptr 1 0)], [oC 2, oC 6, .arr TS 0, .arr TPt 1, .arr TPt 2, .arr TRt 3, .arr TS 4, .arr TPt 5, .arr TPt 6, .arr TRt 7])] (iterS st_L6_18 FU) := congrArg (fun f => mkM (cv := [(9, [], 3, .own TRt), (10, [], 3, .own TRt)]) 0 [] [(sh 136 [(2, .ptr 0 0), (9, .ptr 1 0), (10, .ptr 2 0), (11, .int .i64 0), (12, .int .i64 1)], [laB 2, oC 3, oC 7, .arr TS 6, .arr TPt 7, .arr TPt 8, .arr TRt 9, .arr TS 10, .arr TPt 11, .arr TPt 12, .arr TRt 13])] [] [(.exit 2, sh 136 [(9, .ptr 0 0), (10, .ptr 1 0)], [oC 2, oC 6, .arr TS 0, .arr TPt 1, .arr TPt 2, .arr TRt 3, .arr TS 4, .arr TPt 5, .arr TPt 6, .arr TRt 7])] f) (funext op_L6_18_eq)
theorem L6_18_in : LsOk Try.prog 0 (lsM [(25, L6_25)] 0) (cAt Try.prog 6 18) := LsOk.many fun j B hB hk c hc hi => by
  simp only [lookM] at hB
  split at hB
  · rename_i e; have := Nat.eq_of_beq_eq_true e; subst this; cases hB
    have e1 : loopsAt (cAt Try.prog 6 18) 25 = [cAt Try.prog 6 25] := by kernel_rfl
    have e2 := loopsAt_mem hc hi
    rw [e1] at e2; cases List.mem_singleton.1 e2; exact L6_25_run
  cases hB
theorem L6_18_run : ∀ t s x, (manyRun L6_18 t s).sel = some x → CodeOk Try.prog 0 (.loop (cAt Try.prog 6 18)) t s x := by
  rw [L6_18_eqs]
  exact mkM_ok (st := st_L6_18) (m := FU) cs_20_ok hmix false (L6_18_in) (by kernel_rfl) (fun env y h => by rw [← stepMC_lk]; exact h)
theorem op_L6_18_good {p : Nat × List Dat → Prop} (Inv : List Dat → Prop) (μ : List Dat → Nat) (h : ∀ env, Inv env → Good (fun y => match y with | .go e => Inv e ∧ μ e < μ env | .stop k d => p (k, d)) (st_L6_18 env).sel) (env : List Dat) (hi : Inv env) (hm : μ env < FU) : Good p (op_L6_18 env) := by
  rw [op_L6_18_eq]
  exact iterS_good Inv μ p h FU env hi hm

noncomputable def fn_L6_18_t : List Dat → Tree Step
  | [.n n0, .n n1, .l (Ty.str) l2, .l (Ty.pair Ty.str (Ty.int IntKind.i64)) l3, .l (Ty.pair Ty.str (Ty.int IntKind.i64)) l4, .l (Ty.pair Ty.str (Ty.pair (Ty.int IntKind.i64) (Ty.pair (Ty.sl (Ty.int IntKind.i64)) (Ty.pair (Ty.sl (Ty.pair (Ty.int IntKind.i64) Ty.bool)) (Ty.pair (Ty.sl (Ty.int IntKind.i64)) (Ty.sl (Ty.pair (Ty.int IntKind.i64) Ty.bool))))))) l5, .l (Ty.pair Ty.str (Ty.pair (Ty.int IntKind.i64) (Ty.pair (Ty.sl (Ty.int IntKind.i64)) (Ty.pair (Ty.sl (Ty.pair (Ty.int IntKind.i64) Ty.bool)) (Ty.pair (Ty.sl (Ty.int IntKind.i64)) (Ty.sl (Ty.pair (Ty.int IntKind.i64) Ty.bool))))))) l6, .l (Ty.pair Ty.str (Ty.pair (Ty.int IntKind.i64) (Ty.pair (Ty.sl (Ty.int IntKind.i64)) (Ty.pair (Ty.sl (Ty.pair (Ty.int IntKind.i64) Ty.bool)) (Ty.pair (Ty.sl (Ty.int IntKind.i64)) (Ty.sl (Ty.pair (Ty.int IntKind.i64) Ty.bool))))))) l7] =>
    (.node (decide (n1 < (↑(List.length l5) : Int)))
     (.node (n1 != n0)
      (.node (decide ((List.length l6 + 1) * 120 ≤ 140737488355328))
       (let r1 : Option (Nat × List Dat) := (op_L6_25 [.k 0, .n n0, .n n1, .n (IntKind.wrap .i64 ((↑(List.length (Prod.fst (Prod.snd (Prod.snd (List.getD l5 (Int.toNat (IntKind.wrap .i64 (IntKind.wrap .i64 ((↑(List.length l5) : Int) - (1 : Int)) - n1))) (Ty.dflt TRt)))))) : Int) - (1 : Int))), .l Ty.str l2, .l TPt l3, .l TPt l4, .l TRt l5, .s (Prod.fst (List.getD l5 (Int.toNat (IntKind.wrap .i64 (IntKind.wrap .i64 ((↑(List.length l5) : Int) - (1 : Int)) - n1))) (Ty.dflt TRt))), .n (Prod.fst (Prod.snd (List.getD l5 (Int.toNat (IntKind.wrap .i64 (IntKind.wrap .i64 ((↑(List.length l5) : Int) - (1 : Int)) - n1))) (Ty.dflt TRt)))), .l TI (Prod.fst (Prod.snd (Prod.snd (List.getD l5 (Int.toNat (IntKind.wrap .i64 (IntKind.wrap .i64 ((↑(List.length l5) : Int) - (1 : Int)) - n1))) (Ty.dflt TRt))))), .l TNd (Prod.fst (Prod.snd (Prod.snd (Prod.snd (List.getD l5 (Int.toNat (IntKind.wrap .i64 (IntKind.wrap .i64 ((↑(List.length l5) : Int) - (1 : Int)) - n1))) (Ty.dflt TRt)))))), .l TI (Prod.fst (Prod.snd (Prod.snd (Prod.snd (Prod.snd (List.getD l5 (Int.toNat (IntKind.wrap .i64 (IntKind.wrap .i64 ((↑(List.length l5) : Int) - (1 : Int)) - n1))) (Ty.dflt TRt))))))), .l TNd (Prod.snd (Prod.snd (Prod.snd (Prod.snd (Prod.snd (List.getD l5 (Int.toNat (IntKind.wrap .i64 (IntKind.wrap .i64 ((↑(List.length l5) : Int) - (1 : Int)) - n1))) (Ty.dflt TRt))))))), .l TI [], .l Ty.str l2, .l TPt l3, .l TPt l4, .l TRt (apR (l6) (Prod.fst (List.getD l5 (Int.toNat n1) (Ty.dflt TRt)), Prod.fst (Prod.snd (List.getD l5 (Int.toNat n1) (Ty.dflt TRt))), Prod.fst (Prod.snd (Prod.snd (List.getD l5 (Int.toNat n1) (Ty.dflt TRt)))), Prod.fst (Prod.snd (Prod.snd (Prod.snd (List.getD l5 (Int.toNat n1) (Ty.dflt TRt))))), Prod.fst (Prod.snd (Prod.snd (Prod.snd (Prod.snd (List.getD l5 (Int.toNat n1) (Ty.dflt TRt)))))), Prod.snd (Prod.snd (Prod.snd (Prod.snd (Prod.snd (List.getD l5 (Int.toNat n1) (Ty.dflt TRt)))))))), .l Ty.str l2, .l TPt l3, .l TPt l4, .l TRt l7]);
        (.node (isK 0 [HK.n, HK.n, HK.l Ty.str, HK.l TPt, HK.l TPt, HK.l TRt, HK.s, HK.n, HK.l TI, HK.l TNd, HK.l TI, HK.l TNd, HK.l TI, HK.l Ty.str, HK.l TPt, HK.l TPt, HK.l TRt, HK.l Ty.str, HK.l TPt, HK.l TPt, HK.l TRt] r1)
         (.node (decide ((List.length (gl TRt (dOf r1) 20) + 1) * 120 ≤ 140737488355328))
          (.leaf (Step.go [.k 0, .n (gn (dOf r1) 0), .n (IntKind.wrap .i64 (gn (dOf r1) 1 + (1 : Int))), .l Ty.str (gl Ty.str (dOf r1) 2), .l TPt (gl TPt (dOf r1) 3), .l TPt (gl TPt (dOf r1) 4), .l TRt (gl TRt (dOf r1) 5), .l Ty.str (gl Ty.str (dOf r1) 13), .l TPt (gl TPt (dOf r1) 14), .l TPt (gl TPt (dOf r1) 15), .l TRt (gl TRt (dOf r1) 16), .l Ty.str (gl Ty.str (dOf r1) 17), .l TPt (gl TPt (dOf r1) 18), .l TPt (gl TPt (dOf r1) 19), .l TRt (apR (gl TRt (dOf r1) 20) (gs (dOf r1) 6, gn (dOf r1) 7, gl TI (dOf r1) 12, gl TNd (dOf r1) 9, gl TI (dOf r1) 10, gl TNd (dOf r1) 11))]))
          (.bad 62))
         (.bad 351)))
       (.bad 62))
      (let r1 : Option (Nat × List Dat) := (op_L6_25 [.k 0, .n n0, .n n1, .n (IntKind.wrap .i64 ((↑(List.length (Prod.fst (Prod.snd (Prod.snd (List.getD l5 (Int.toNat (IntKind.wrap .i64 (IntKind.wrap .i64 ((↑(List.length l5) : Int) - (1 : Int)) - n1))) (Ty.dflt TRt)))))) : Int) - (1 : Int))), .l Ty.str l2, .l TPt l3, .l TPt l4, .l TRt l5, .s (Prod.fst (List.getD l5 (Int.toNat (IntKind.wrap .i64 (IntKind.wrap .i64 ((↑(List.length l5) : Int) - (1 : Int)) - n1))) (Ty.dflt TRt))), .n (Prod.fst (Prod.snd (List.getD l5 (Int.toNat (IntKind.wrap .i64 (IntKind.wrap .i64 ((↑(List.length l5) : Int) - (1 : Int)) - n1))) (Ty.dflt TRt)))), .l TI (Prod.fst (Prod.snd (Prod.snd (List.getD l5 (Int.toNat (IntKind.wrap .i64 (IntKind.wrap .i64 ((↑(List.length l5) : Int) - (1 : Int)) - n1))) (Ty.dflt TRt))))), .l TNd (Prod.fst (Prod.snd (Prod.snd (Prod.snd (List.getD l5 (Int.toNat (IntKind.wrap .i64 (IntKind.wrap .i64 ((↑(List.length l5) : Int) - (1 : Int)) - n1))) (Ty.dflt TRt)))))), .l TI (Prod.fst (Prod.snd (Prod.snd (Prod.snd (Prod.snd (List.getD l5 (Int.toNat (IntKind.wrap .i64 (IntKind.wrap .i64 ((↑(List.length l5) : Int) - (1 : Int)) - n1))) (Ty.dflt TRt))))))), .l TNd (Prod.snd (Prod.snd (Prod.snd (Prod.snd (Prod.snd (List.getD l5 (Int.toNat (IntKind.wrap .i64 (IntKind.wrap .i64 ((↑(List.length l5) : Int) - (1 : Int)) - n1))) (Ty.dflt TRt))))))), .l TI [], .l Ty.str l2, .l TPt l3, .l TPt l4, .l TRt l6, .l Ty.str l2, .l TPt l3, .l TPt l4, .l TRt l7]);
       (.node (isK 0 [HK.n, HK.n, HK.l Ty.str, HK.l TPt, HK.l TPt, HK.l TRt, HK.s, HK.n, HK.l TI, HK.l TNd, HK.l TI, HK.l TNd, HK.l TI, HK.l Ty.str, HK.l TPt, HK.l TPt, HK.l TRt, HK.l Ty.str, HK.l TPt, HK.l TPt, HK.l TRt] r1)
        (.node (decide ((List.length (gl TRt (dOf r1) 20) + 1) * 120 ≤ 140737488355328))
         (.leaf (Step.go [.k 0, .n (gn (dOf r1) 0), .n (IntKind.wrap .i64 (gn (dOf r1) 1 + (1 : Int))), .l Ty.str (gl Ty.str (dOf r1) 2), .l TPt (gl TPt (dOf r1) 3), .l TPt (gl TPt (dOf r1) 4), .l TRt (gl TRt (dOf r1) 5), .l Ty.str (gl Ty.str (dOf r1) 13), .l TPt (gl TPt (dOf r1) 14), .l TPt (gl TPt (dOf r1) 15), .l TRt (gl TRt (dOf r1) 16), .l Ty.str (gl Ty.str (dOf r1) 17), .l TPt (gl TPt (dOf r1) 18), .l TPt (gl TPt (dOf r1) 19), .l TRt (apR (gl TRt (dOf r1) 20) (gs (dOf r1) 6, gn (dOf r1) 7, gl TI (dOf r1) 12, gl TNd (dOf r1) 9, gl TI (dOf r1) 10, gl TNd (dOf r1) 11))]))
         (.bad 62))
        (.bad 351))))
     (.leaf (Step.stop 0 [.l Ty.str l2, .l TPt l3, .l TPt l4, .l TRt l6, .l Ty.str l2, .l TPt l3, .l TPt l4, .l TRt l7])))
  | _ => .bad 0
theorem fn_L6_18_t_im (n0 : Int) (n1 : Int) (l2 : List (Ty.den TS)) (l3 : List (Ty.den TPt)) (l4 : List (Ty.den TPt)) (l5 : List (Ty.den TRt)) (l6 : List (Ty.den TRt)) (l7 : List (Ty.den TRt)) (g0 : 0 ≤ n1) (g1 :  (l5.length : Int) ≤ 64) : Imp (fn_L6_18_t [.n n0, .n n1, .l TS l2, .l TPt l3, .l TPt l4, .l TRt l5, .l TRt l6, .l TRt l7]) (st_L6_18 [.k 0, .n n0, .n n1, .l TS l2, .l TPt l3, .l TPt l4, .l TRt l5, .l TS l2, .l TPt l3, .l TPt l4, .l TRt l6, .l TS l2, .l TPt l3, .l TPt l4, .l TRt l7]) :=
(.pa [1]
(.nd (fun h0 =>
(.nd (fun h1 =>
(.pt (c := (inR n1 (List.length l5))) (by kernel_rfl) (by kernel_rfl) (by (simp only [w64d, decide_eq_true_eq, decide_eq_false_iff_not, beq_iff_eq, beq_eq_false_iff_ne, bne_iff_ne, ne_eq, inR, Bool.and_eq_true, Bool.and_eq_false_iff, Bool.not_eq_true', Bool.not_eq_false', Bool.not_eq_eq_eq_not, Bool.not_true, Bool.not_false] at *; omega))
(.nd (fun h2 =>
(.pa [1]
(.pt (c := (inR (IntKind.wrap .i64 (IntKind.wrap .i64 ((↑(List.length l5) : Int) - (1 : Int)) - n1)) (List.length l5))) (by kernel_rfl) (by kernel_rfl) (by (simp only [w64d, decide_eq_true_eq, decide_eq_false_iff_not, beq_iff_eq, beq_eq_false_iff_ne, bne_iff_ne, ne_eq, inR, Bool.and_eq_true, Bool.and_eq_false_iff, Bool.not_eq_true', Bool.not_eq_false', Bool.not_eq_eq_eq_not, Bool.not_true, Bool.not_false] at *; omega))
(.nd (fun h3 =>
(.nd (fun h4 =>
(.pa [1]
.lf)) (fun h4 =>
.none))) (fun h3 =>
.none))))) (fun h2 =>
.none)))) (fun h1 =>
(.pt (c := (inR (IntKind.wrap .i64 (IntKind.wrap .i64 ((↑(List.length l5) : Int) - (1 : Int)) - n1)) (List.length l5))) (by kernel_rfl) (by kernel_rfl) (by (simp only [w64d, decide_eq_true_eq, decide_eq_false_iff_not, beq_iff_eq, beq_eq_false_iff_ne, bne_iff_ne, ne_eq, inR, Bool.and_eq_true, Bool.and_eq_false_iff, Bool.not_eq_true', Bool.not_eq_false', Bool.not_eq_eq_eq_not, Bool.not_true, Bool.not_false] at *; omega))
(.nd (fun h2 =>
(.nd (fun h3 =>
(.pa [1]
.lf)) (fun h3 =>
.none))) (fun h2 =>
.none)))))) (fun h0 =>
(.pa [1]
.lf))))

theorem ls_6_ok : LsOk Try.prog (0) (lsM [(6, L6_6), (18, L6_18)] (0)) (bodyOf Try.prog 6) := LsOk.many fun j B hB hk c hc hi => by
  simp only [lookM] at hB
  split at hB
  · rename_i e; have := Nat.eq_of_beq_eq_true e; subst this; cases hB
    have e1 : loopAt Try.prog 6 6 = [cAt Try.prog 6 6] := loopAt_one (by kernel_rfl)
    have e2 : c ∈ loopAt Try.prog 6 6 := loopsAt_mem hc hi
    rw [e1] at e2; cases List.mem_singleton.1 e2; exact L6_6_run
  split at hB
  · rename_i e; have := Nat.eq_of_beq_eq_true e; subst this; cases hB
    have e1 : loopAt Try.prog 6 18 = [cAt Try.prog 6 18] := loopAt_one (by kernel_rfl)
    have e2 : c ∈ loopAt Try.prog 6 18 := loopsAt_mem hc hi
    rw [e1] at e2; cases List.mem_singleton.1 e2; exact L6_18_run
  cases hB

noncomputable def ev_W6 (env : List Dat) : Tree Bool := Lk.lawB false LK cs_20 6 (lsM [(6, L6_6), (18, L6_18)] (0)) (instL [laV 0, .int .i64 4] env)

theorem W6_law (env : List Dat) (h : (ev_W6 env).sel = some true) {w : World} {args : Array Value} (ha : LRel R0 (snapOf w) (instL [laV 0, .int .i64 4] env) args) :
    Calls Try.prog 6 args w fun e w' => e = .returned (.bool true) ∧ Below w.heap.size w w' :=
  lawB_ok cs_20_ok hmix false (ls := (lsM [(6, L6_6), (18, L6_18)] (0))) (ls_6_ok) (by rw [← lawB_lk]; exact h) ha

noncomputable def fn_W6_t : List Dat → Tree Bool
  | [.l (Ty.str) l0, .l (Ty.pair Ty.str (Ty.int IntKind.i64)) l1, .l (Ty.pair Ty.str (Ty.int IntKind.i64)) l2, .l (Ty.pair Ty.str (Ty.pair (Ty.int IntKind.i64) (Ty.pair (Ty.sl (Ty.int IntKind.i64)) (Ty.pair (Ty.sl (Ty.pair (Ty.int IntKind.i64) Ty.bool)) (Ty.pair (Ty.sl (Ty.int IntKind.i64)) (Ty.sl (Ty.pair (Ty.int IntKind.i64) Ty.bool))))))) l3, .n n4] =>
    (let r1 : Option (Nat × List Dat) := (op_15 [.l Ty.str l0, .l TPt l1, .l TPt l2, .l TRt l3, .n (1500 : Int)]);
     (.node (isK 0 [HK.n] r1)
      (.node (decide (gn (dOf r1) 0 > (1500 : Int)))
       (.leaf (true))
       (let r2 : Option (Nat × List Dat) := (op_18 [.l Ty.str l0, .l TPt l1, .l TPt l2, .l TRt l3]);
        (.node (isK 0 [HK.n, HK.n] r2)
         (let r3 : Option (Nat × List Dat) := (op_L6_6 [.k 0, .n n4, .n (gn (dOf r2) 0), .b (gn (dOf r2) 0 != (2 : Int)), .n (0 : Int), .l Ty.str l0, .l TPt l1, .l TPt l2, .l TRt l3]);
          (.node (isK 0 [HK.n, HK.n, HK.b, HK.l Ty.str, HK.l TPt, HK.l TPt, HK.l TRt] r3)
           (.node (!gb (dOf r3) 2 == (gn (dOf r3) 1 == (0 : Int)))
            (.leaf (false))
            (.node (gn (dOf r3) 1 != (0 : Int))
             (.leaf (true))
             (let r4 : Option (Nat × List Dat) := (op_20 [.l Ty.str (gl Ty.str (dOf r3) 3), .l TPt (gl TPt (dOf r3) 4), .l TPt (gl TPt (dOf r3) 5), .l TRt (gl TRt (dOf r3) 6)]);
              (.node (isK 0 [HK.l Ty.str, HK.l TPt, HK.l TPt, HK.l TRt] r4)
               (let r5 : Option (Nat × List Dat) := (op_21 [.n (gn (dOf r3) 0), .n (↑(List.length (gl TRt (dOf r3) 6)) : Int)]);
                (.node (isK 0 [HK.n] r5)
                 (let r6 : Option (Nat × List Dat) := (op_L6_18 [.k 0, .n (gn (dOf r5) 0), .n (0 : Int), .l Ty.str (gl Ty.str (dOf r3) 3), .l TPt (gl TPt (dOf r3) 4), .l TPt (gl TPt (dOf r3) 5), .l TRt (gl TRt (dOf r3) 6), .l Ty.str (gl Ty.str (dOf r4) 0), .l TPt (gl TPt (dOf r4) 1), .l TPt (gl TPt (dOf r4) 2), .l TRt [], .l Ty.str (gl Ty.str (dOf r4) 0), .l TPt (gl TPt (dOf r4) 1), .l TPt (gl TPt (dOf r4) 2), .l TRt []]);
                  (.node (isK 0 [HK.l Ty.str, HK.l TPt, HK.l TPt, HK.l TRt, HK.l Ty.str, HK.l TPt, HK.l TPt, HK.l TRt] r6)
                   (let r7 : Option (Nat × List Dat) := (op_18 [.l Ty.str (gl Ty.str (dOf r6) 0), .l TPt (gl TPt (dOf r6) 1), .l TPt (gl TPt (dOf r6) 2), .l TRt (gl TRt (dOf r6) 3)]);
                    (.node (isK 0 [HK.n, HK.n] r7)
                     (let r8 : Option (Nat × List Dat) := (op_18 [.l Ty.str (gl Ty.str (dOf r6) 4), .l TPt (gl TPt (dOf r6) 5), .l TPt (gl TPt (dOf r6) 6), .l TRt (gl TRt (dOf r6) 7)]);
                      (.node (isK 0 [HK.n, HK.n] r8)
                       (.node (gn (dOf r7) 0 == (0 : Int))
                        (.node (gn (dOf r8) 0 == (0 : Int))
                         (.leaf (true))
                         (.leaf (false)))
                        (.leaf (false)))
                       (.bad 351)))
                     (.bad 351)))
                   (.bad 351)))
                 (.bad 351)))
               (.bad 351)))))
           (.bad 351)))
         (.bad 351))))
      (.bad 351)))
  | _ => .bad 0
theorem fn_W6_t_im (l0 : List (Ty.den TS)) (l1 : List (Ty.den TPt)) (l2 : List (Ty.den TPt)) (l3 : List (Ty.den TRt)) (n4 : Int) : Imp (fn_W6_t [.l TS l0, .l TPt l1, .l TPt l2, .l TRt l3, .n n4]) (ev_W6 [.l TS l0, .l TPt l1, .l TPt l2, .l TRt l3, .n n4]) :=
(.nd (fun h0 =>
(.pa [1]
(.nd (fun h1 =>
(.pa [1,1,1]
.lf)) (fun h1 =>
(.nd (fun h2 =>
(.pa [1]
(.nd (fun h3 =>
(.nd (fun h4 =>
.lf) (fun h4 =>
(.nd (fun h5 =>
(.pa [1,1,1]
.lf)) (fun h5 =>
(.pa [1]
(.nd (fun h6 =>
(.pa [1,1]
(.pt (by kernel_rfl) (by kernel_rfl) h6
(.pa [1,1]
(.nd (fun h7 =>
(.pa [1]
(.nd (fun h8 =>
(.nd (fun h9 =>
(.pa [1]
(.nd (fun h10 =>
(.pa [1]
(.nd (fun h11 =>
(.nd (fun h12 =>
(.pa [1,1,1]
.lf)) (fun h12 =>
(.pa [0]
.lf)))) (fun h11 =>
(.pa [0,0,0]
.lf))))) (fun h10 =>
.none)))) (fun h9 =>
.none))) (fun h8 =>
.none)))) (fun h7 =>
.none)))))) (fun h6 =>
.none)))))))) (fun h3 =>
.none)))) (fun h2 =>
.none)))))) (fun h0 =>
.none))
end Go.Proofs.Ytlocflgfoodiiaa.Vx
