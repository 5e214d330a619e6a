import Derived.Test.YtcoamiaifbjofaaVxIm
import Derived.Test.YtcoamiaifbjofaaVxLk
import Derived.Test.YtcoamiaifbjofaaVxLaw
import Derived.Test.YtcoamiaifbjofaaX20a
import Derived.KernelRfl
namespace Go.Proofs.Ytcoamiaifbjofaa.Vx
open Go Go.RowKit
set_option linter.unusedVariables false
set_option linter.unusedSimpArgs false
set_option maxRecDepth 100000
set_option maxHeartbeats 0

abbrev TCall : Ty := .pair (.int .i64) (.pair (.int .i64) (.pair (.int .i64) (.pair (.int .u64) (.pair (.int .u32) (.pair (.int .u32) (.sl TCmd))))))
def rV (h : Nat) : PV := .agg [.int .i64 h, .int .i64 (h+1), .int .u64 (h+2), .int .u32 (h+3), .int .u32 (h+4), .imm TCmd (h+5)]
def rO (h b : Nat) : PV := .agg [.int .i64 h, .int .i64 (h+1), .int .u64 (h+2), .int .u32 (h+3), .int .u32 (h+4), .own b]
def rB (h : Nat) : PB := .cells [.int .i64 h, .int .i64 (h+1), .int .u64 (h+2), .int .u32 (h+3), .int .u32 (h+4), .imm TCmd (h+5)]
def rC (h b : Nat) : PB := .cells [.int .i64 h, .int .i64 (h+1), .int .u64 (h+2), .int .u32 (h+3), .int .u32 (h+4), .own b]
def rN (h : Nat) : PV := .agg [.int .i64 h, .int .i64 (h+1), .int .u64 (h+2), .int .u32 (h+3), .int .u32 (h+4), .nilsl]
def rNB (h : Nat) : PB := .cells [.int .i64 h, .int .i64 (h+1), .int .u64 (h+2), .int .u32 (h+3), .int .u32 (h+4), .nilsl]
def aB (h : Nat) (o t l : PV) : PB := .cells [.int .i64 h, .int .i64 (h+1), o, t, l, .bool (h+2)]
def bB (h : Nat) : PB := .cells [.int .i64 h, .int .i64 (h+1), .bool (h+2), .int .u64 (h+3), .int .u32 (h+4), .int .u32 (h+5), .imm TCmd (h+6), .bool (h+7), .int .u64 (h+8), .int .u32 (h+9), .int .u32 (h+10), .imm TCmd (h+11), .bool (h+12), .int .i64 (h+13), .int .i64 (h+14), .int .u64 (h+15), .int .u32 (h+16), .int .u32 (h+17), .imm TCmd (h+18), .bool (h+19)]
def cl_1 (l : List (Ty.den TCall)) (i : Int) : Int := Prod.fst (List.getD l (Int.toNat i) (Ty.dflt TCall))
def cl_2 (l : List (Ty.den TCall)) (i : Int) : Int := Prod.fst (Prod.snd (List.getD l (Int.toNat i) (Ty.dflt TCall)))
def cl_3 (l : List (Ty.den TCall)) (i : Int) : Int := Prod.fst (Prod.snd (Prod.snd (List.getD l (Int.toNat i) (Ty.dflt TCall))))
def cl_4 (l : List (Ty.den TCall)) (i : Int) : Int := Prod.fst (Prod.snd (Prod.snd (Prod.snd (List.getD l (Int.toNat i) (Ty.dflt TCall)))))
def cl_5 (l : List (Ty.den TCall)) (i : Int) : Int := Prod.fst (Prod.snd (Prod.snd (Prod.snd (Prod.snd (List.getD l (Int.toNat i) (Ty.dflt TCall))))))
def cl_6 (l : List (Ty.den TCall)) (i : Int) : Int := Prod.fst (Prod.snd (Prod.snd (Prod.snd (Prod.snd (Prod.snd (List.getD l (Int.toNat i) (Ty.dflt TCall)))))))
def cl_7 (l : List (Ty.den TCall)) (i : Int) : List (Ty.den TCmd) := Prod.snd (Prod.snd (Prod.snd (Prod.snd (Prod.snd (Prod.snd (List.getD l (Int.toNat i) (Ty.dflt TCall)))))))
noncomputable def ev_12 (env : List Dat) : Tree (Nat × List Dat) := Lk.boxC false LK cs_32 12 ls0 (mkF [.int .i64 0, .int .i64 1] [] [] [(.int .i64 0, [])] fun _ => none) env
theorem op_12_ex : ∃ f : List Dat → Option (Nat × List Dat), ∀ env, f env = (ev_12 env).sel := ⟨fun env => (ev_12 env).sel, fun _ => rfl⟩
noncomputable def op_12 : List Dat → Option (Nat × List Dat) := Classical.choose op_12_ex
theorem op_12_eq (env : List Dat) : op_12 env = (ev_12 env).sel := Classical.choose_spec op_12_ex env
noncomputable def B12 : FBox := mkF [.int .i64 0, .int .i64 1] [] [] [(.int .i64 0, [])] op_12
theorem B12_ok : RunOk Try.prog 12 (boxRun B12) := mkF_ok (op := op_12) cs_32_ok hmix false (LsOk.none _ _ _) (fun env x h => by rw [op_12_eq] at h; rw [← boxC_lk]; exact h)
theorem op_12_good {p : Nat × List Dat → Prop} {T : Tree (Nat × List Dat)} {env : List Dat} (h : Imp T (ev_12 env)) (g : Good p T.sel) : Good p (op_12 env) := by
  rw [op_12_eq]
  exact h.good g

noncomputable def fn_12_t : List Dat → Tree (Nat × List Dat)
  | [.n n0, .n n1] =>
    (.node (decide (n1 ≤ (0 : Int)))
     (.leaf ((0, [.n (0 : Int)])))
     (.leaf ((0, [.n (Int.tmod (IntKind.wrap .i64 (Int.tmod n0 n1 + n1)) n1)]))))
  | _ => .bad 0
theorem fn_12_t_im (n0 : Int) (n1 : Int) : Imp (fn_12_t [.n n0, .n n1]) (ev_12 [.n n0, .n n1]) :=
(.node (by kernel_rfl) (by kernel_rfl) (fun h0 =>
(.path [1] (by kernel_rfl)
(.leaf (by kernel_rfl)))) (fun h0 =>
(.pt (c := (!decide (n1 = (0 : Int)))) (by kernel_rfl) (by kernel_rfl) (by (simp only [w64d, decide_eq_true_eq, decide_eq_false_iff_not, beq_iff_eq, beq_eq_false_iff_ne, bne_iff_ne, ne_eq, inR, Bool.and_eq_true, Bool.and_eq_false_iff, Bool.not_eq_true', Bool.not_eq_false', Bool.not_eq_eq_eq_not, Bool.not_true, Bool.not_false] at *; omega))
(.pt (c := (!decide (n1 = (0 : Int)))) (by kernel_rfl) (by kernel_rfl) (by (simp only [w64d, decide_eq_true_eq, decide_eq_false_iff_not, beq_iff_eq, beq_eq_false_iff_ne, bne_iff_ne, ne_eq, inR, Bool.and_eq_true, Bool.and_eq_false_iff, Bool.not_eq_true', Bool.not_eq_false', Bool.not_eq_eq_eq_not, Bool.not_true, Bool.not_false] at *; omega))
(.path [1] (by kernel_rfl)
(.leaf (by kernel_rfl)))))))

noncomputable def cs_12 : FuncId → Option CSpec := csLend 12 B12 cs_32
theorem cs_12_ok : CsOk Try.prog cs_12 := csLend_ok cs_32_ok B12_ok

noncomputable def st_L7_4 (env : List Dat) : Tree Step := Lk.stepMC false LK cs_12 7 4 ls0 (mkM 0 [] [(sh 22 [(0, .imm TCall 0), (3, .int .i64 1)], [])] [] [(.exit 0, sh 22 [], []), (.ret, sh 22 [(2, .bool 0)], [])] fun _ => none) env
theorem op_L7_4_ex : ∃ f : List Dat → Option (Nat × List Dat), ∀ env, f env = iterS st_L7_4 FU env := ⟨iterS st_L7_4 FU, fun _ => rfl⟩
noncomputable def op_L7_4 : List Dat → Option (Nat × List Dat) := Classical.choose op_L7_4_ex
theorem op_L7_4_eq (env : List Dat) : op_L7_4 env = iterS st_L7_4 FU env := Classical.choose_spec op_L7_4_ex env
noncomputable def L7_4 : MBox := mkM 0 [] [(sh 22 [(0, .imm TCall 0), (3, .int .i64 1)], [])] [] [(.exit 0, sh 22 [], []), (.ret, sh 22 [(2, .bool 0)], [])] op_L7_4
theorem L7_4_eqs : L7_4 = mkM 0 [] [(sh 22 [(0, .imm TCall 0), (3, .int .i64 1)], [])] [] [(.exit 0, sh 22 [], []), (.ret, sh 22 [(2, .bool 0)], [])] (iterS st_L7_4 FU) := congrArg (fun f => mkM 0 [] [(sh 22 [(0, .imm TCall 0), (3, .int .i64 1)], [])] [] [(.exit 0, sh 22 [], []), (.ret, sh 22 [(2, .bool 0)], [])] f) (funext op_L7_4_eq)
theorem L7_4_run : ∀ t s x, (manyRun L7_4 t s).sel = some x → CodeOk Try.prog 0 (.loop (cAt Try.prog 7 4)) t s x := by
  rw [L7_4_eqs]
  exact mkM_ok (st := st_L7_4) (m := FU) cs_12_ok hmix false (LsOk.none _ _ _) (by kernel_rfl) (fun env y h => by rw [← stepMC_lk]; exact h)
theorem op_L7_4_good {p : Nat × List Dat → Prop} (Inv : List Dat → Prop) (μ : List Dat → Nat) (h : ∀ env, Inv env → Good (fun y => match y with | .go e => Inv e ∧ μ e < μ env | .stop k d => p (k, d)) (st_L7_4 env).sel) (env : List Dat) (hi : Inv env) (hm : μ env < FU) : Good p (op_L7_4 env) := by
  rw [op_L7_4_eq]
  exact iterS_good Inv μ p h FU env hi hm

noncomputable def fn_L7_4_t : List Dat → Tree Step
  | [.l (Ty.pair (Ty.int IntKind.i64) (Ty.pair (Ty.int IntKind.i64) (Ty.pair (Ty.int IntKind.i64) (Ty.pair (Ty.int IntKind.u64) (Ty.pair (Ty.int IntKind.u32) (Ty.pair (Ty.int IntKind.u32) (Ty.sl (Ty.pair (Ty.int IntKind.u8) (Ty.int IntKind.i64))))))))) l0, .n n1] =>
    (.node (decide (n1 < (↑(List.length l0) : Int)))
     (.node (inR n1 (List.length l0))
      (.node (decide ((↑(List.length (cl_7 l0 n1)) : Int) > (20 : Int)))
       (.leaf (Step.stop 1 [.b false]))
       (.leaf (Step.go [.k 0, .l TCall l0, .n (IntKind.wrap .i64 (n1 + (1 : Int)))])))
      (.bad 10))
     (.leaf (Step.stop 0 [])))
  | _ => .bad 0
theorem fn_L7_4_t_im (l0 : List (Ty.den TCall)) (n1 : Int) : Imp (fn_L7_4_t [.l TCall l0, .n n1]) (st_L7_4 [.k 0, .l TCall l0, .n n1]) :=
(.path [1] (by kernel_rfl)
(.node (by kernel_rfl) (by kernel_rfl) (fun h0 =>
(.node (by kernel_rfl) (by kernel_rfl) (fun h1 =>
(.node (by kernel_rfl) (by kernel_rfl) (fun h2 =>
(.path [1] (by kernel_rfl)
(.leaf (by kernel_rfl)))) (fun h2 =>
(.path [1] (by kernel_rfl)
(.leaf (by kernel_rfl)))))) (fun h1 =>
.none))) (fun h0 =>
(.path [1] (by kernel_rfl)
(.leaf (by kernel_rfl))))))

theorem ls_7_ok : LsOk Try.prog (List.length ([] : List PB)) (lsM [(4, L7_4)] (List.length ([] : List PB))) (bodyOf Try.prog 7) := LsOk.many fun j B hB hk c hc hi => by
  simp only [lookM] at hB
  split at hB
  · rename_i e; have := Nat.eq_of_beq_eq_true e; subst this; cases hB
    have e1 : loopAt Try.prog 7 4 = [cAt Try.prog 7 4] := loopAt_one (by kernel_rfl)
    have e2 : c ∈ loopAt Try.prog 7 4 := loopsAt_mem hc hi
    rw [e1] at e2; cases List.mem_singleton.1 e2; exact L7_4_run
  cases hB

noncomputable def ev_7 (env : List Dat) : Tree (Nat × List Dat) := Lk.boxC false LK cs_12 7 (lsM [(4, L7_4)] (List.length ([] : List PB))) (mkF [.imm TCall 0] [] [] [(.bool 0, [])] fun _ => none) env
theorem op_7_ex : ∃ f : List Dat → Option (Nat × List Dat), ∀ env, f env = (ev_7 env).sel := ⟨fun env => (ev_7 env).sel, fun _ => rfl⟩
noncomputable def op_7 : List Dat → Option (Nat × List Dat) := Classical.choose op_7_ex
theorem op_7_eq (env : List Dat) : op_7 env = (ev_7 env).sel := Classical.choose_spec op_7_ex env
noncomputable def B7 : FBox := mkF [.imm TCall 0] [] [] [(.bool 0, [])] op_7
theorem B7_ok : RunOk Try.prog 7 (boxRun B7) := mkF_ok (op := op_7) cs_12_ok hmix false (ls_7_ok) (fun env x h => by rw [op_7_eq] at h; rw [← boxC_lk]; exact h)
theorem op_7_good {p : Nat × List Dat → Prop} {T : Tree (Nat × List Dat)} {env : List Dat} (h : Imp T (ev_7 env)) (g : Good p T.sel) : Good p (op_7 env) := by
  rw [op_7_eq]
  exact h.good g

noncomputable def fn_7_t : List Dat → Tree (Nat × List Dat)
  | [.l (Ty.pair (Ty.int IntKind.i64) (Ty.pair (Ty.int IntKind.i64) (Ty.pair (Ty.int IntKind.i64) (Ty.pair (Ty.int IntKind.u64) (Ty.pair (Ty.int IntKind.u32) (Ty.pair (Ty.int IntKind.u32) (Ty.sl (Ty.pair (Ty.int IntKind.u8) (Ty.int IntKind.i64))))))))) l0] =>
    (.node (decide ((↑(List.length l0) : Int) > (60 : Int)))
     (.leaf ((0, [.b false])))
     (let r1 : Option (Nat × List Dat) := (op_L7_4 [.k 0, .l TCall l0, .n (0 : Int)]);
      (.node (isK 0 [] r1)
       (.leaf ((0, [.b true])))
       (.node (isK 1 [HK.b] r1)
        (.leaf ((0, [.b (gb (dOf r1) 0)])))
        (.bad 351)))))
  | _ => .bad 0
theorem fn_7_t_im (l0 : List (Ty.den TCall)) : Imp (fn_7_t [.l TCall l0]) (ev_7 [.l TCall l0]) :=
(.node (by kernel_rfl) (by kernel_rfl) (fun h0 =>
(.path [1] (by kernel_rfl)
(.leaf (by kernel_rfl)))) (fun h0 =>
(.node (by kernel_rfl) (by kernel_rfl) (fun h1 =>
(.path [1] (by kernel_rfl)
(.leaf (by kernel_rfl)))) (fun h1 =>
(.node (by kernel_rfl) (by kernel_rfl) (fun h2 =>
(.path [1] (by kernel_rfl)
(.leaf (by kernel_rfl)))) (fun h2 =>
.none))))))

noncomputable def cs_7 : FuncId → Option CSpec := csLend 7 B7 cs_12
theorem cs_7_ok : CsOk Try.prog cs_7 := csLend_ok cs_12_ok B7_ok

noncomputable def st_L16o_2 (env : List Dat) : Tree Step := Lk.stepMC false LK cs_7 16 2 ls0 (mkM 1 [0] [(sh 17 [(1, .ptr 1 0), (2, .int .i64 0)], [.arr TCmd 1, rC 2 0])] [] [(.exit 0, sh 17 [], [.arr TCmd 0])] fun _ => none) env
theorem op_L16o_2_ex : ∃ f : List Dat → Option (Nat × List Dat), ∀ env, f env = iterS st_L16o_2 FU env := ⟨iterS st_L16o_2 FU, fun _ => rfl⟩
noncomputable def op_L16o_2 : List Dat → Option (Nat × List Dat) := Classical.choose op_L16o_2_ex
theorem op_L16o_2_eq (env : List Dat) : op_L16o_2 env = iterS st_L16o_2 FU env := Classical.choose_spec op_L16o_2_ex env
noncomputable def L16o_2 : MBox := mkM 1 [0] [(sh 17 [(1, .ptr 1 0), (2, .int .i64 0)], [.arr TCmd 1, rC 2 0])] [] [(.exit 0, sh 17 [], [.arr TCmd 0])] op_L16o_2
theorem L16o_2_eqs : L16o_2 = mkM 1 [0] [(sh 17 [(1, .ptr 1 0), (2, .int .i64 0)], [.arr TCmd 1, rC 2 0])] [] [(.exit 0, sh 17 [], [.arr TCmd 0])] (iterS st_L16o_2 FU) := congrArg (fun f => mkM 1 [0] [(sh 17 [(1, .ptr 1 0), (2, .int .i64 0)], [.arr TCmd 1, rC 2 0])] [] [(.exit 0, sh 17 [], [.arr TCmd 0])] f) (funext op_L16o_2_eq)
theorem L16o_2_run : ∀ t s x, (manyRun L16o_2 t s).sel = some x → CodeOk Try.prog 1 (.loop (cAt Try.prog 16 2)) t s x := by
  rw [L16o_2_eqs]
  exact mkM_ok (st := st_L16o_2) (m := FU) cs_7_ok hmix false (LsOk.none _ _ _) (by kernel_rfl) (fun env y h => by rw [← stepMC_lk]; exact h)
theorem op_L16o_2_good {p : Nat × List Dat → Prop} (Inv : List Dat → Prop) (μ : List Dat → Nat) (h : ∀ env, Inv env → Good (fun y => match y with | .go e => Inv e ∧ μ e < μ env | .stop k d => p (k, d)) (st_L16o_2 env).sel) (env : List Dat) (hi : Inv env) (hm : μ env < FU) : Good p (op_L16o_2 env) := by
  rw [op_L16o_2_eq]
  exact iterS_good Inv μ p h FU env hi hm

noncomputable def fn_L16o_2_t : List Dat → Tree Step
  | [.n n0, .l (Ty.pair (Ty.int IntKind.u8) (Ty.int IntKind.i64)) l1, .n n2, .n n3, .n n4, .n n5, .n n6] =>
    (.node (decide (n0 < (↑(List.length l1) : Int)))
     (.node (inR n0 (List.length l1))
      (.leaf (Step.go [.k 0, .n (IntKind.wrap .i64 (n0 + (1 : Int))), .l TCmd (List.set l1 (Int.toNat n0) (Prod.fst (List.getD l1 (Int.toNat n0) (Ty.dflt TCmd)), (-9 : Int))), .n n2, .n n3, .n n4, .n n5, .n n6]))
      (.bad 12))
     (.leaf (Step.stop 0 [.l TCmd l1])))
  | _ => .bad 0
theorem fn_L16o_2_t_im (n0 : Int) (l1 : List (Ty.den TCmd)) (n2 : Int) (n3 : Int) (n4 : Int) (n5 : Int) (n6 : Int) : Imp (fn_L16o_2_t [.n n0, .l TCmd l1, .n n2, .n n3, .n n4, .n n5, .n n6]) (st_L16o_2 [.k 0, .n n0, .l TCmd l1, .n n2, .n n3, .n n4, .n n5, .n n6]) :=
(.path [1] (by kernel_rfl)
(.node (by kernel_rfl) (by kernel_rfl) (fun h0 =>
(.node (by kernel_rfl) (by kernel_rfl) (fun h1 =>
(.path [1] (by kernel_rfl)
(.leaf (by kernel_rfl)))) (fun h1 =>
.none))) (fun h0 =>
(.path [1] (by kernel_rfl)
(.leaf (by kernel_rfl))))))

theorem ls_16o_ok : LsOk Try.prog (List.length ([.arr TCmd 5] : List PB)) (lsM [(2, L16o_2)] (List.length ([.arr TCmd 5] : List PB))) (bodyOf Try.prog 16) := LsOk.many fun j B hB hk c hc hi => by
  simp only [lookM] at hB
  split at hB
  · rename_i e; have := Nat.eq_of_beq_eq_true e; subst this; cases hB
    have e1 : loopAt Try.prog 16 2 = [cAt Try.prog 16 2] := loopAt_one (by kernel_rfl)
    have e2 : c ∈ loopAt Try.prog 16 2 := loopsAt_mem hc hi
    rw [e1] at e2; cases List.mem_singleton.1 e2; exact L16o_2_run
  cases hB

noncomputable def ev_16o (env : List Dat) : Tree (Nat × List Dat) := Lk.boxC false LK cs_7 16 (lsM [(2, L16o_2)] (List.length ([.arr TCmd 5] : List PB))) (mkF [rO 0 0] [.arr TCmd 5] [0] [(.tup [], [.arr TCmd 0])] fun _ => none) env
theorem op_16o_ex : ∃ f : List Dat → Option (Nat × List Dat), ∀ env, f env = (ev_16o env).sel := ⟨fun env => (ev_16o env).sel, fun _ => rfl⟩
noncomputable def op_16o : List Dat → Option (Nat × List Dat) := Classical.choose op_16o_ex
theorem op_16o_eq (env : List Dat) : op_16o env = (ev_16o env).sel := Classical.choose_spec op_16o_ex env
noncomputable def B16o : FBox := mkF [rO 0 0] [.arr TCmd 5] [0] [(.tup [], [.arr TCmd 0])] op_16o
theorem B16o_ok : RunOk Try.prog 16 (boxRun B16o) := mkF_ok (op := op_16o) cs_7_ok hmix false (ls_16o_ok) (fun env x h => by rw [op_16o_eq] at h; rw [← boxC_lk]; exact h)
theorem op_16o_good {p : Nat × List Dat → Prop} {T : Tree (Nat × List Dat)} {env : List Dat} (h : Imp T (ev_16o env)) (g : Good p T.sel) : Good p (op_16o env) := by
  rw [op_16o_eq]
  exact h.good g

noncomputable def fn_16o_t : List Dat → Tree (Nat × List Dat)
  | [.n n0, .n n1, .n n2, .n n3, .n n4, .l (Ty.pair (Ty.int IntKind.u8) (Ty.int IntKind.i64)) l5] =>
    (let r1 : Option (Nat × List Dat) := (op_L16o_2 [.k 0, .n (0 : Int), .l TCmd l5, .n n0, .n n1, .n n2, .n n3, .n n4]);
     (.node (isK 0 [HK.l TCmd] r1)
      (.leaf ((0, [.l TCmd (gl TCmd (dOf r1) 0)])))
      (.bad 351)))
  | _ => .bad 0
theorem fn_16o_t_im (n0 : Int) (n1 : Int) (n2 : Int) (n3 : Int) (n4 : Int) (l5 : List (Ty.den TCmd)) : Imp (fn_16o_t [.n n0, .n n1, .n n2, .n n3, .n n4, .l TCmd l5]) (ev_16o [.n n0, .n n1, .n n2, .n n3, .n n4, .l TCmd l5]) :=
(.node (by kernel_rfl) (by kernel_rfl) (fun h0 =>
(.path [1] (by kernel_rfl)
(.leaf (by kernel_rfl)))) (fun h0 =>
.none))

noncomputable def st_L16n_2 (env : List Dat) : Tree Step := Lk.stepMC false LK cs_7 16 2 ls0 (mkM 0 [] [(sh 17 [(1, .ptr 0 0), (2, .int .i64 0)], [rNB 1])] [] [(.exit 0, sh 17 [], [])] fun _ => none) env
theorem op_L16n_2_ex : ∃ f : List Dat → Option (Nat × List Dat), ∀ env, f env = iterS st_L16n_2 FU env := ⟨iterS st_L16n_2 FU, fun _ => rfl⟩
noncomputable def op_L16n_2 : List Dat → Option (Nat × List Dat) := Classical.choose op_L16n_2_ex
theorem op_L16n_2_eq (env : List Dat) : op_L16n_2 env = iterS st_L16n_2 FU env := Classical.choose_spec op_L16n_2_ex env
noncomputable def L16n_2 : MBox := mkM 0 [] [(sh 17 [(1, .ptr 0 0), (2, .int .i64 0)], [rNB 1])] [] [(.exit 0, sh 17 [], [])] op_L16n_2
theorem L16n_2_eqs : L16n_2 = mkM 0 [] [(sh 17 [(1, .ptr 0 0), (2, .int .i64 0)], [rNB 1])] [] [(.exit 0, sh 17 [], [])] (iterS st_L16n_2 FU) := congrArg (fun f => mkM 0 [] [(sh 17 [(1, .ptr 0 0), (2, .int .i64 0)], [rNB 1])] [] [(.exit 0, sh 17 [], [])] f) (funext op_L16n_2_eq)
theorem L16n_2_run : ∀ t s x, (manyRun L16n_2 t s).sel = some x → CodeOk Try.prog 0 (.loop (cAt Try.prog 16 2)) t s x := by
  rw [L16n_2_eqs]
  exact mkM_ok (st := st_L16n_2) (m := FU) cs_7_ok hmix false (LsOk.none _ _ _) (by kernel_rfl) (fun env y h => by rw [← stepMC_lk]; exact h)
theorem op_L16n_2_good {p : Nat × List Dat → Prop} (Inv : List Dat → Prop) (μ : List Dat → Nat) (h : ∀ env, Inv env → Good (fun y => match y with | .go e => Inv e ∧ μ e < μ env | .stop k d => p (k, d)) (st_L16n_2 env).sel) (env : List Dat) (hi : Inv env) (hm : μ env < FU) : Good p (op_L16n_2 env) := by
  rw [op_L16n_2_eq]
  exact iterS_good Inv μ p h FU env hi hm

noncomputable def fn_L16n_2_t : List Dat → Tree Step
  | [.n n0, .n n1, .n n2, .n n3, .n n4, .n n5] =>
    (.node (decide (n0 < (0 : Int)))
     (.bad 16)
     (.leaf (Step.stop 0 [])))
  | _ => .bad 0
theorem fn_L16n_2_t_im (n0 : Int) (n1 : Int) (n2 : Int) (n3 : Int) (n4 : Int) (n5 : Int) : Imp (fn_L16n_2_t [.n n0, .n n1, .n n2, .n n3, .n n4, .n n5]) (st_L16n_2 [.k 0, .n n0, .n n1, .n n2, .n n3, .n n4, .n n5]) :=
(.path [1] (by kernel_rfl)
(.node (by kernel_rfl) (by kernel_rfl) (fun h0 =>
.none) (fun h0 =>
(.path [1] (by kernel_rfl)
(.leaf (by kernel_rfl))))))

theorem ls_16n_ok : LsOk Try.prog (List.length ([] : List PB)) (lsM [(2, L16n_2)] (List.length ([] : List PB))) (bodyOf Try.prog 16) := LsOk.many fun j B hB hk c hc hi => by
  simp only [lookM] at hB
  split at hB
  · rename_i e; have := Nat.eq_of_beq_eq_true e; subst this; cases hB
    have e1 : loopAt Try.prog 16 2 = [cAt Try.prog 16 2] := loopAt_one (by kernel_rfl)
    have e2 : c ∈ loopAt Try.prog 16 2 := loopsAt_mem hc hi
    rw [e1] at e2; cases List.mem_singleton.1 e2; exact L16n_2_run
  cases hB

noncomputable def ev_16n (env : List Dat) : Tree (Nat × List Dat) := Lk.boxC false LK cs_7 16 (lsM [(2, L16n_2)] (List.length ([] : List PB))) (mkF [rN 0] [] [] [(.tup [], [])] fun _ => none) env
theorem op_16n_ex : ∃ f : List Dat → Option (Nat × List Dat), ∀ env, f env = (ev_16n env).sel := ⟨fun env => (ev_16n env).sel, fun _ => rfl⟩
noncomputable def op_16n : List Dat → Option (Nat × List Dat) := Classical.choose op_16n_ex
theorem op_16n_eq (env : List Dat) : op_16n env = (ev_16n env).sel := Classical.choose_spec op_16n_ex env
noncomputable def B16n : FBox := mkF [rN 0] [] [] [(.tup [], [])] op_16n
theorem B16n_ok : RunOk Try.prog 16 (boxRun B16n) := mkF_ok (op := op_16n) cs_7_ok hmix false (ls_16n_ok) (fun env x h => by rw [op_16n_eq] at h; rw [← boxC_lk]; exact h)
theorem op_16n_good {p : Nat × List Dat → Prop} {T : Tree (Nat × List Dat)} {env : List Dat} (h : Imp T (ev_16n env)) (g : Good p T.sel) : Good p (op_16n env) := by
  rw [op_16n_eq]
  exact h.good g

noncomputable def fn_16n_t : List Dat → Tree (Nat × List Dat)
  | [.n n0, .n n1, .n n2, .n n3, .n n4] =>
    (let r1 : Option (Nat × List Dat) := (op_L16n_2 [.k 0, .n (0 : Int), .n n0, .n n1, .n n2, .n n3, .n n4]);
     (.node (isK 0 [] r1)
      (.leaf ((0, [])))
      (.bad 351)))
  | _ => .bad 0
theorem fn_16n_t_im (n0 : Int) (n1 : Int) (n2 : Int) (n3 : Int) (n4 : Int) : Imp (fn_16n_t [.n n0, .n n1, .n n2, .n n3, .n n4]) (ev_16n [.n n0, .n n1, .n n2, .n n3, .n n4]) :=
(.node (by kernel_rfl) (by kernel_rfl) (fun h0 =>
(.path [1] (by kernel_rfl)
(.leaf (by kernel_rfl)))) (fun h0 =>
.none))

noncomputable def cs_16n : FuncId → Option CSpec := csAdd 16 [B16o, B16n] cs_7
theorem cs_16n_ok : CsOk Try.prog cs_16n := csAdd_ok cs_7_ok fun B hB => by
  simp only [List.mem_cons, List.not_mem_nil, or_false] at hB
  rcases hB with rfl | rfl
  · exact B16o_ok
  · exact B16n_ok

noncomputable def st_L3_10 (env : List Dat) : Tree Step := Lk.stepMC false LK cs_16n 3 10 ls0 (mkM (cv := [(5, [2], 5, .imm TCmd), (5, [3], 5, .imm TCmd), (5, [4], 5, .imm TCmd), (6, [], 6, .imm TCmd), (6, [], 11, .imm TCmd), (6, [], 18, .imm TCmd)]) 0 [] [(sh 141 [(1, .imm TCall 0), (5, .ptr 0 0), (6, .ptr 1 0), (7, .int .i64 1)], [aB 2 .nilptr .nilptr .nilptr, bB 5]), (sh 141 [(1, .imm TCall 0), (5, .ptr 0 0), (6, .ptr 1 0), (7, .int .i64 1)], [aB 2 .nilptr .nilptr (.ptr 2 0), bB 5, rB 25]), (sh 141 [(1, .imm TCall 0), (5, .ptr 0 0), (6, .ptr 1 0), (7, .int .i64 1)], [aB 2 .nilptr (.ptr 2 0) .nilptr, bB 5, rB 25]), (sh 141 [(1, .imm TCall 0), (5, .ptr 0 0), (6, .ptr 1 0), (7, .int .i64 1)], [aB 2 .nilptr (.ptr 2 0) (.ptr 3 0), bB 5, rB 25, rB 31]), (sh 141 [(1, .imm TCall 0), (5, .ptr 0 0), (6, .ptr 1 0), (7, .int .i64 1)], [aB 2 (.ptr 2 0) .nilptr .nilptr, bB 5, rB 25]), (sh 141 [(1, .imm TCall 0), (5, .ptr 0 0), (6, .ptr 1 0), (7, .int .i64 1)], [aB 2 (.ptr 2 0) .nilptr (.ptr 3 0), bB 5, rB 25, rB 31]), (sh 141 [(1, .imm TCall 0), (5, .ptr 0 0), (6, .ptr 1 0), (7, .int .i64 1)], [aB 2 (.ptr 2 0) (.ptr 3 0) .nilptr, bB 5, rB 25, rB 31]), (sh 141 [(1, .imm TCall 0), (5, .ptr 0 0), (6, .ptr 1 0), (7, .int .i64 1)], [aB 2 (.ptr 2 0) (.ptr 3 0) (.ptr 4 0), bB 5, rB 25, rB 31, rB 37])] [] [(.exit 0, sh 141 [], []), (.ret, sh 141 [(4, .bool 0)], [])] fun _ => none) env
theorem op_L3_10_ex : ∃ f : List Dat → Option (Nat × List Dat), ∀ env, f env = iterS st_L3_10 FU env := ⟨iterS st_L3_10 FU, fun _ => rfl⟩
noncomputable def op_L3_10 : List Dat → Option (Nat × List Dat) := Classical.choose op_L3_10_ex
theorem op_L3_10_eq (env : List Dat) : op_L3_10 env = iterS st_L3_10 FU env := Classical.choose_spec op_L3_10_ex env
noncomputable def L3_10 : MBox := mkM (cv := [(5, [2], 5, .imm TCmd), (5, [3], 5, .imm TCmd), (5, [4], 5, .imm TCmd), (6, [], 6, .imm TCmd), (6, [], 11, .imm TCmd), (6, [], 18, .imm TCmd)]) 0 [] [(sh 141 [(1, .imm TCall 0), (5, .ptr 0 0), (6, .ptr 1 0), (7, .int .i64 1)], [aB 2 .nilptr .nilptr .nilptr, bB 5]), (sh 141 [(1, .imm TCall 0), (5, .ptr 0 0), (6, .ptr 1 0), (7, .int .i64 1)], [aB 2 .nilptr .nilptr (.ptr 2 0), bB 5, rB 25]), (sh 141 [(1, .imm TCall 0), (5, .ptr 0 0), (6, .ptr 1 0), (7, .int .i64 1)], [aB 2 .nilptr (.ptr 2 0) .nilptr, bB 5, rB 25]), (sh 141 [(1, .imm TCall 0), (5, .ptr 0 0), (6, .ptr 1 0), (7, .int .i64 1)], [aB 2 .nilptr (.ptr 2 0) (.ptr 3 0), bB 5, rB 25, rB 31]), (sh 141 [(1, .imm TCall 0), (5, .ptr 0 0), (6, .ptr 1 0), (7, .int .i64 1)], [aB 2 (.ptr 2 0) .nilptr .nilptr, bB 5, rB 25]), (sh 141 [(1, .imm TCall 0), (5, .ptr 0 0), (6, .ptr 1 0), (7, .int .i64 1)], [aB 2 (.ptr 2 0) .nilptr (.ptr 3 0), bB 5, rB 25, rB 31]), (sh 141 [(1, .imm TCall 0), (5, .ptr 0 0), (6, .ptr 1 0), (7, .int .i64 1)], [aB 2 (.ptr 2 0) (.ptr 3 0) .nilptr, bB 5, rB 25, rB 31]), (sh 141 [(1, .imm TCall 0), (5, .ptr 0 0), (6, .ptr 1 0), (7, .int .i64 1)], [aB 2 (.ptr 2 0) (.ptr 3 0) (.ptr 4 0), bB 5, rB 25, rB 31, rB 37])] [] [(.exit 0, sh 141 [], []), (.ret, sh 141 [(4, .bool 0)], [])] op_L3_10
theorem L3_10_eqs : L3_10 = mkM (cv := [(5, [2], 5, .imm TCmd), (5, [3], 5, .imm TCmd), (5, [4], 5, .imm TCmd), (6, [], 6, .imm TCmd), (6, [], 11, .imm TCmd), (6, [], 18, .imm TCmd)]) 0 [] [(sh 141 [(1, .imm TCall 0), (5, .ptr 0 0), (6, .ptr 1 0), (7, .int .i64 1)], [aB 2 .nilptr .nilptr .nilptr, bB 5]), (sh 141 [(1, .imm TCall 0), (5, .ptr 0 0), (6, .ptr 1 0), (7, .int .i64 1)], [aB 2 .nilptr .nilptr (.ptr 2 0), bB 5, rB 25]), (sh 141 [(1, .imm TCall 0), (5, .ptr 0 0), (6, .ptr 1 0), (7, .int .i64 1)], [aB 2 .nilptr (.ptr 2 0) .nilptr, bB 5, rB 25]), (sh 141 [(1, .imm TCall 0), (5, .ptr 0 0), (6, .ptr 1 0), (7, .int .i64 1)], [aB 2 .nilptr (.ptr 2 0) (.ptr 3 0), bB 5, rB 25, rB 31]), (sh 141 [(1, .imm TCall 0), (5, .ptr 0 0), (6, .ptr 1 0), (7, .int .i64 1)], [aB 2 (.ptr 2 0) .nilptr .nilptr, bB 5, rB 25]), (sh 141 [(1, .imm TCall 0), (5, .ptr 0 0), (6, .ptr 1 0), (7, .int .i64 1)], [aB 2 (.ptr 2 0) .nilptr (.ptr 3 0), bB 5, rB 25, rB 31]), (sh 141 [(1, .imm TCall 0), (5, .ptr 0 0), (6, .ptr 1 0), (7, .int .i64 1)], [aB 2 (.ptr 2 0) (.ptr 3 0) .nilptr, bB 5, rB 25, rB 31]), (sh 141 [(1, .imm TCall 0), (5, .ptr 0 0), (6, .ptr 1 0), (7, .int .i64 1)], [aB 2 (.ptr 2 0) (.ptr 3 0) (.ptr 4 0), bB 5, rB 25, rB 31, rB 37])] [] [(.exit 0, sh 141 [], []), (.ret, sh 141 [(4, .bool 0)], [])] (iterS st_L3_10 FU) := congrArg (fun f => mkM (cv := [(5, [2], 5, .imm TCmd), (5, [3], 5, .imm TCmd), (5, [4], 5, .imm TCmd), (6, [], 6, .imm TCmd), (6, [], 11, .imm TCmd), (6, [], 18, .imm TCmd)]) 0 [] [(sh 141 [(1, .imm TCall 0), (5, .ptr 0 0), (6, .ptr 1 0), (7, .int .i64 1)], [aB 2 .nilptr .nilptr .nilptr, bB 5]), (sh 141 [(1, .imm TCall 0), (5, .ptr 0 0), (6, .ptr 1 0), (7, .int .i64 1)], [aB 2 .nilptr .nilptr (.ptr 2 0), bB 5, rB 25]), (sh 141 [(1, .imm TCall 0), (5, .ptr 0 0), (6, .ptr 1 0), (7, .int .i64 1)], [aB 2 .nilptr (.ptr 2 0) .nilptr, bB 5, rB 25]), (sh 141 [(1, .imm TCall 0), (5, .ptr 0 0), (6, .ptr 1 0), (7, .int .i64 1)], [aB 2 .nilptr (.ptr 2 0) (.ptr 3 0), bB 5, rB 25, rB 31]), (sh 141 [(1, .imm TCall 0), (5, .ptr 0 0), (6, .ptr 1 0), (7, .int .i64 1)], [aB 2 (.ptr 2 0) .nilptr .nilptr, bB 5, rB 25]), (sh 141 [(1, .imm TCall 0), (5, .ptr 0 0), (6, .ptr 1 0), (7, .int .i64 1)], [aB 2 (.ptr 2 0) .nilptr (.ptr 3 0), bB 5, rB 25, rB 31]), (sh 141 [(1, .imm TCall 0), (5, .ptr 0 0), (6, .ptr 1 0), (7, .int .i64 1)], [aB 2 (.ptr 2 0) (.ptr 3 0) .nilptr, bB 5, rB 25, rB 31]), (sh 141 [(1, .imm TCall 0), (5, .ptr 0 0), (6, .ptr 1 0), (7, .int .i64 1)], [aB 2 (.ptr 2 0) (.ptr 3 0) (.ptr 4 0), bB 5, rB 25, rB 31, rB 37])] [] [(.exit 0, sh 141 [], []), (.ret, sh 141 [(4, .bool 0)], [])] f) (funext op_L3_10_eq)
theorem L3_10_run : ∀ t s x, (manyRun L3_10 t s).sel = some x → CodeOk Try.prog 0 (.loop (cAt Try.prog 3 10)) t s x := by
  rw [L3_10_eqs]
  exact mkM_ok (st := st_L3_10) (m := FU) cs_16n_ok hmix false (LsOk.none _ _ _) (by kernel_rfl) (fun env y h => by rw [← stepMC_lk]; exact h)
theorem op_L3_10_good {p : Nat × List Dat → Prop} (Inv : List Dat → Prop) (μ : List Dat → Nat) (h : ∀ env, Inv env → Good (fun y => match y with | .go e => Inv e ∧ μ e < μ env | .stop k d => p (k, d)) (st_L3_10 env).sel) (env : List Dat) (hi : Inv env) (hm : μ env < FU) : Good p (op_L3_10 env) := by
  rw [op_L3_10_eq]
  exact iterS_good Inv μ p h FU env hi hm

noncomputable def fn_L3_10_t000 : List Dat → Tree Step
  | [.l (Ty.pair (Ty.int IntKind.i64) (Ty.pair (Ty.int IntKind.i64) (Ty.pair (Ty.int IntKind.i64) (Ty.pair (Ty.int IntKind.u64) (Ty.pair (Ty.int IntKind.u32) (Ty.pair (Ty.int IntKind.u32) (Ty.sl (Ty.pair (Ty.int IntKind.u8) (Ty.int IntKind.i64))))))))) l0, .n n1, .n n2, .n n3, .b b4, .n n5, .n n6, .n n7, .l (Ty.pair (Ty.int IntKind.u8) (Ty.int IntKind.i64)) l8, .n n9, .n n10, .n n11, .l (Ty.pair (Ty.int IntKind.u8) (Ty.int IntKind.i64)) l12, .n n13, .n n14, .n n15, .l (Ty.pair (Ty.int IntKind.u8) (Ty.int IntKind.i64)) l16, .n n17, .n n18] =>
    (.node (decide (List.length (cl_7 l0 n1) * 16 ≤ 140737488355328))
     (let r1 : Option (Nat × List Dat) := (op_12 [.n (cl_1 l0 n1), .n (3 : Int)]);
      (.node (isK 0 [HK.n] r1)
       (.node (gn (dOf r1) 0 == (0 : Int))
        (.node (decide ((cl_3 l0 n1 : Int) ≤ n3))
         (let r2 : Option (Nat × List Dat) := (op_16n [.n (0 : Int), .n (0 : Int), .n (0 : Int), .n (0 : Int), .n (0 : Int)]);
          (.node (isK 0 [] r2)
           (let r3 : Option (Nat × List Dat) := (op_16o [.n (cl_2 l0 n1), .n (cl_3 l0 n1), .n (cl_4 l0 n1), .n (cl_5 l0 n1), .n (cl_6 l0 n1), .l TCmd (cl_7 l0 n1)]);
            (.node (isK 0 [HK.l TCmd] r3)
             (.leaf (Step.go [.k 0, .l TCall l0, .n (IntKind.wrap .i64 (n1 + (1 : Int))), .n n2, .n n3, .b b4, .n n2, .n n3, .b false, .n n5, .n n6, .n n7, .l TCmd l8, .b false, .n n9, .n n10, .n n11, .l TCmd l12, .b false, .n n17, .n n18, .n n13, .n n14, .n n15, .l TCmd l16, .b b4]))
             (.bad 351)))
           (.bad 351)))
         (let r2 : Option (Nat × List Dat) := (op_62 [.l TCmd (cl_7 l0 n1)]);
          (.node (isK 0 [HK.l TCmd] r2)
           (let r3 : Option (Nat × List Dat) := (op_62 [.l TCmd (gl TCmd (dOf r2) 0)]);
            (.node (isK 0 [HK.l TCmd] r3)
             (let r4 : Option (Nat × List Dat) := (op_30 [.n (cl_4 l0 n1), .n (cl_5 l0 n1), .n (cl_6 l0 n1), .l TCmd (gl TCmd (dOf r3) 0), .n (cl_4 l0 n1), .n (cl_5 l0 n1), .n (cl_6 l0 n1), .l TCmd (cl_7 l0 n1)]);
              (.node (isK 0 [HK.b] r4)
               (.node (!gb (dOf r4) 0)
                (.leaf (Step.stop 1 [.b false]))
                (let r5 : Option (Nat × List Dat) := (op_16o [.n n2, .n (cl_3 l0 n1), .n (cl_4 l0 n1), .n (cl_5 l0 n1), .n (cl_6 l0 n1), .l TCmd (gl TCmd (dOf r3) 0)]);
                 (.node (isK 0 [HK.l TCmd] r5)
                  (let r6 : Option (Nat × List Dat) := (op_16o [.n (cl_2 l0 n1), .n (cl_3 l0 n1), .n (cl_4 l0 n1), .n (cl_5 l0 n1), .n (cl_6 l0 n1), .l TCmd (cl_7 l0 n1)]);
                   (.node (isK 0 [HK.l TCmd] r6)
                    (let r7 : Option (Nat × List Dat) := (op_16n [.n (0 : Int), .n (0 : Int), .n (0 : Int), .n (0 : Int), .n (0 : Int)]);
                     (.node (isK 0 [] r7)
                      (.leaf (Step.go (.k 4 :: .l TCall l0 :: .n (IntKind.wrap .i64 (n1 + (1 : Int))) :: .n n2 :: .n (cl_3 l0 n1) :: .b false :: .n n2 :: .n (cl_3 l0 n1) :: .b true :: .n (cl_4 l0 n1) :: .n (cl_5 l0 n1) :: .n (cl_6 l0 n1) :: .l TCmd (cl_7 l0 n1) :: .b false :: .n (0 : Int) :: .n (0 : Int) :: .n (0 : Int) :: .l TCmd [] :: .b false :: .n n17 :: .n n18 :: .n n13 :: .n n14 :: .n n15 :: .l TCmd l16 :: .b false :: .n n2 :: .n (cl_3 l0 n1) :: .n (cl_4 l0 n1) :: .n (cl_5 l0 n1) :: .n (cl_6 l0 n1) :: .l TCmd (gl TCmd (dOf r2) 0) :: [])))
                      (.bad 351)))
                    (.bad 351)))
                  (.bad 351))))
               (.bad 351)))
             (.bad 351)))
           (.bad 351))))
        (.node (cl_2 l0 n1 != IntKind.wrap .i64 ((1 : Int) - n2))
         (let r2 : Option (Nat × List Dat) := (op_16o [.n (cl_2 l0 n1), .n (cl_3 l0 n1), .n (cl_4 l0 n1), .n (cl_5 l0 n1), .n (cl_6 l0 n1), .l TCmd (cl_7 l0 n1)]);
          (.node (isK 0 [HK.l TCmd] r2)
           (let r3 : Option (Nat × List Dat) := (op_16n [.n (0 : Int), .n (0 : Int), .n (0 : Int), .n (0 : Int), .n (0 : Int)]);
            (.node (isK 0 [] r3)
             (.leaf (Step.go [.k 0, .l TCall l0, .n (IntKind.wrap .i64 (n1 + (1 : Int))), .n n2, .n n3, .b b4, .n n2, .n n3, .b false, .n n5, .n n6, .n n7, .l TCmd l8, .b false, .n n9, .n n10, .n n11, .l TCmd l12, .b false, .n n17, .n n18, .n n13, .n n14, .n n15, .l TCmd l16, .b b4]))
             (.bad 351)))
           (.bad 351)))
         (.node (decide ((cl_3 l0 n1 : Int) < n3))
          (let r2 : Option (Nat × List Dat) := (op_16o [.n (cl_2 l0 n1), .n (cl_3 l0 n1), .n (cl_4 l0 n1), .n (cl_5 l0 n1), .n (cl_6 l0 n1), .l TCmd (cl_7 l0 n1)]);
           (.node (isK 0 [HK.l TCmd] r2)
            (let r3 : Option (Nat × List Dat) := (op_16n [.n (0 : Int), .n (0 : Int), .n (0 : Int), .n (0 : Int), .n (0 : Int)]);
             (.node (isK 0 [] r3)
              (.leaf (Step.go [.k 0, .l TCall l0, .n (IntKind.wrap .i64 (n1 + (1 : Int))), .n n2, .n n3, .b b4, .n n2, .n n3, .b false, .n n5, .n n6, .n n7, .l TCmd l8, .b false, .n n9, .n n10, .n n11, .l TCmd l12, .b false, .n n17, .n n18, .n n13, .n n14, .n n15, .l TCmd l16, .b b4]))
              (.bad 351)))
            (.bad 351)))
          (let r2 : Option (Nat × List Dat) := (op_62 [.l TCmd (cl_7 l0 n1)]);
           (.node (isK 0 [HK.l TCmd] r2)
            (.node (decide ((cl_3 l0 n1 : Int) > n3))
             (let r3 : Option (Nat × List Dat) := (op_16o [.n (cl_2 l0 n1), .n (cl_3 l0 n1), .n (cl_4 l0 n1), .n (cl_5 l0 n1), .n (cl_6 l0 n1), .l TCmd (cl_7 l0 n1)]);
              (.node (isK 0 [HK.l TCmd] r3)
               (let r4 : Option (Nat × List Dat) := (op_16n [.n (0 : Int), .n (0 : Int), .n (0 : Int), .n (0 : Int), .n (0 : Int)]);
                (.node (isK 0 [] r4)
                 (.leaf (Step.go (.k 1 :: .l TCall l0 :: .n (IntKind.wrap .i64 (n1 + (1 : Int))) :: .n n2 :: .n n3 :: .b b4 :: .n n2 :: .n n3 :: .b false :: .n n5 :: .n n6 :: .n n7 :: .l TCmd l8 :: .b false :: .n n9 :: .n n10 :: .n n11 :: .l TCmd l12 :: .b true :: .n (cl_2 l0 n1) :: .n (cl_3 l0 n1) :: .n (cl_4 l0 n1) :: .n (cl_5 l0 n1) :: .n (cl_6 l0 n1) :: .l TCmd (cl_7 l0 n1) :: .b b4 :: .n (cl_2 l0 n1) :: .n (cl_3 l0 n1) :: .n (cl_4 l0 n1) :: .n (cl_5 l0 n1) :: .n (cl_6 l0 n1) :: .l TCmd (gl TCmd (dOf r2) 0) :: [])))
                 (.bad 351)))
               (.bad 351)))
             (let r3 : Option (Nat × List Dat) := (op_16o [.n (cl_2 l0 n1), .n (cl_3 l0 n1), .n (cl_4 l0 n1), .n (cl_5 l0 n1), .n (cl_6 l0 n1), .l TCmd (cl_7 l0 n1)]);
              (.node (isK 0 [HK.l TCmd] r3)
               (let r4 : Option (Nat × List Dat) := (op_16n [.n (0 : Int), .n (0 : Int), .n (0 : Int), .n (0 : Int), .n (0 : Int)]);
                (.node (isK 0 [] r4)
                 (.leaf (Step.go (.k 2 :: .l TCall l0 :: .n (IntKind.wrap .i64 (n1 + (1 : Int))) :: .n n2 :: .n n3 :: .b b4 :: .n n2 :: .n n3 :: .b false :: .n n5 :: .n n6 :: .n n7 :: .l TCmd l8 :: .b true :: .n (cl_4 l0 n1) :: .n (cl_5 l0 n1) :: .n (cl_6 l0 n1) :: .l TCmd (cl_7 l0 n1) :: .b false :: .n n17 :: .n n18 :: .n n13 :: .n n14 :: .n n15 :: .l TCmd l16 :: .b b4 :: .n (cl_2 l0 n1) :: .n (cl_3 l0 n1) :: .n (cl_4 l0 n1) :: .n (cl_5 l0 n1) :: .n (cl_6 l0 n1) :: .l TCmd (gl TCmd (dOf r2) 0) :: [])))
                 (.bad 351)))
               (.bad 351))))
            (.bad 351))))))
       (.bad 351)))
     (.bad 60))
  | _ => .bad 0
theorem fn_L3_10_t000_im (l0 : List (Ty.den TCall)) (n1 : Int) (n2 : Int) (n3 : Int) (b4 : Bool) (n5 : Int) (n6 : Int) (n7 : Int) (l8 : List (Ty.den TCmd)) (n9 : Int) (n10 : Int) (n11 : Int) (l12 : List (Ty.den TCmd)) (n13 : Int) (n14 : Int) (n15 : Int) (l16 : List (Ty.den TCmd)) (n17 : Int) (n18 : Int) (g0 : 0 ≤ n1) (g1 :  n1 < (l0.length : Int)) : Imp (fn_L3_10_t000 [.l TCall l0, .n n1, .n n2, .n n3, .b b4, .n n5, .n n6, .n n7, .l TCmd l8, .n n9, .n n10, .n n11, .l TCmd l12, .n n13, .n n14, .n n15, .l TCmd l16, .n n17, .n n18]) (st_L3_10 [.k 0, .l TCall l0, .n n1, .n n2, .n n3, .b b4, .n n2, .n n3, .b false, .n n5, .n n6, .n n7, .l TCmd l8, .b false, .n n9, .n n10, .n n11, .l TCmd l12, .b false, .n n17, .n n18, .n n13, .n n14, .n n15, .l TCmd l16, .b b4]) :=
(.path [1] (by kernel_rfl)
(.pt (c := (decide (n1 < (↑(List.length l0) : Int)))) (by kernel_rfl) (by kernel_rfl) (by (simp [*]; done))
(.pt (c := (inR n1 (List.length l0))) (by kernel_rfl) (by kernel_rfl) (by (simp only [w64d, decide_eq_true_eq, decide_eq_false_iff_not, beq_iff_eq, beq_eq_false_iff_ne, bne_iff_ne, ne_eq, inR, Bool.and_eq_true, Bool.and_eq_false_iff, Bool.not_eq_true', Bool.not_eq_false', Bool.not_eq_eq_eq_not, Bool.not_true, Bool.not_false] at *; omega))
(.path [1] (by kernel_rfl)
(.node (by kernel_rfl) (by kernel_rfl) (fun h0 =>
(.path [1] (by kernel_rfl)
(.pt (c := (inR n1 (List.length l0))) (by kernel_rfl) (by kernel_rfl) (by (simp only [w64d, decide_eq_true_eq, decide_eq_false_iff_not, beq_iff_eq, beq_eq_false_iff_ne, bne_iff_ne, ne_eq, inR, Bool.and_eq_true, Bool.and_eq_false_iff, Bool.not_eq_true', Bool.not_eq_false', Bool.not_eq_eq_eq_not, Bool.not_true, Bool.not_false] at *; omega))
(.node (by kernel_rfl) (by kernel_rfl) (fun h1 =>
(.path [1] (by kernel_rfl)
(.node (by kernel_rfl) (by kernel_rfl) (fun h2 =>
(.path [1,0] (by kernel_rfl)
(.node (by kernel_rfl) (by kernel_rfl) (fun h3 =>
(.path [1] (by kernel_rfl)
(.pt (c := (inR n1 (List.length l0))) (by kernel_rfl) (by kernel_rfl) (by (simp only [w64d, decide_eq_true_eq, decide_eq_false_iff_not, beq_iff_eq, beq_eq_false_iff_ne, bne_iff_ne, ne_eq, inR, Bool.and_eq_true, Bool.and_eq_false_iff, Bool.not_eq_true', Bool.not_eq_false', Bool.not_eq_eq_eq_not, Bool.not_true, Bool.not_false] at *; omega))
(.pt (c := (inR n1 (List.length l0))) (by kernel_rfl) (by kernel_rfl) (by (simp only [w64d, decide_eq_true_eq, decide_eq_false_iff_not, beq_iff_eq, beq_eq_false_iff_ne, bne_iff_ne, ne_eq, inR, Bool.and_eq_true, Bool.and_eq_false_iff, Bool.not_eq_true', Bool.not_eq_false', Bool.not_eq_eq_eq_not, Bool.not_true, Bool.not_false] at *; omega))
(.path [1] (by kernel_rfl)
(.pt (by kernel_rfl) (by kernel_rfl) h3
(.path [1,1,0,1,1,1,1,1,1,0,1] (by kernel_rfl)
(.node (by kernel_rfl) (by kernel_rfl) (fun h4 =>
(.path [1,1] (by kernel_rfl)
(.node (by kernel_rfl) (by kernel_rfl) (fun h5 =>
(.path [1,1,0,1,1,1,1,1,1,1,1,1,1,1,1,1,0,1,1,0,1,0,1,1] (by kernel_rfl)
(.pf (c := (n3 != n3)) (by kernel_rfl) (by kernel_rfl) (by (simp [*]; done))
(.path [1] (by kernel_rfl)
(.pt (by kernel_rfl) (by kernel_rfl) h4
(.path [1,1] (by kernel_rfl)
(.leaf (by kernel_rfl)))))))) (fun h5 =>
.none)))) (fun h4 =>
.none))))))))) (fun h3 =>
(.path [1] (by kernel_rfl)
(.node (by kernel_rfl) (by kernel_rfl) (fun h4 =>
(.path [1,1,1,0,0,0,1] (by kernel_rfl)
(.node (by kernel_rfl) (by kernel_rfl) (fun h5 =>
(.path [1,1,1] (by kernel_rfl)
(.pt (c := (inR n1 (List.length l0))) (by kernel_rfl) (by kernel_rfl) (by (simp only [w64d, decide_eq_true_eq, decide_eq_false_iff_not, beq_iff_eq, beq_eq_false_iff_ne, bne_iff_ne, ne_eq, inR, Bool.and_eq_true, Bool.and_eq_false_iff, Bool.not_eq_true', Bool.not_eq_false', Bool.not_eq_eq_eq_not, Bool.not_true, Bool.not_false] at *; omega))
(.pt (c := (inR n1 (List.length l0))) (by kernel_rfl) (by kernel_rfl) (by (simp only [w64d, decide_eq_true_eq, decide_eq_false_iff_not, beq_iff_eq, beq_eq_false_iff_ne, bne_iff_ne, ne_eq, inR, Bool.and_eq_true, Bool.and_eq_false_iff, Bool.not_eq_true', Bool.not_eq_false', Bool.not_eq_eq_eq_not, Bool.not_true, Bool.not_false] at *; omega))
(.path [1] (by kernel_rfl)
(.pf (by kernel_rfl) (by kernel_rfl) h3
(.path [1] (by kernel_rfl)
(.pt (by kernel_rfl) (by kernel_rfl) h0
(.path [1,0,0,0,0,0,1] (by kernel_rfl)
(.pt (by kernel_rfl) (by kernel_rfl) h0
(.path [1,1,1,1,0,1] (by kernel_rfl)
(.pt (c := (n2 == n2)) (by kernel_rfl) (by kernel_rfl) (by (simp [*]; done))
(.pt (c := (cl_3 l0 n1 == cl_3 l0 n1)) (by kernel_rfl) (by kernel_rfl) (by (simp [*]; done))
(.node (by kernel_rfl) (by kernel_rfl) (fun h6 =>
(.path [1,1] (by kernel_rfl)
(.node (by kernel_rfl) (by kernel_rfl) (fun h7 =>
(.path [1] (by kernel_rfl)
(.leaf (by kernel_rfl)))) (fun h7 =>
(.path [1] (by kernel_rfl)
(.node (by kernel_rfl) (by kernel_rfl) (fun h8 =>
(.path [1,1] (by kernel_rfl)
(.node (by kernel_rfl) (by kernel_rfl) (fun h9 =>
(.path [1,1,0,0,1,1,1,1,1,0,1,1,1,1,0,1,1,0,1,0,1,1] (by kernel_rfl)
(.pf (c := (cl_3 l0 n1 != cl_3 l0 n1)) (by kernel_rfl) (by kernel_rfl) (by (simp [*]; done))
(.path [1] (by kernel_rfl)
(.node (by kernel_rfl) (by kernel_rfl) (fun h10 =>
(.path [1,1] (by kernel_rfl)
(.leaf (by kernel_rfl)))) (fun h10 =>
.none)))))) (fun h9 =>
.none)))) (fun h8 =>
.none))))))) (fun h6 =>
.none))))))))))))))) (fun h5 =>
.none)))) (fun h4 =>
.none))))))) (fun h2 =>
(.path [1,0,0,1] (by kernel_rfl)
(.node (by kernel_rfl) (by kernel_rfl) (fun h3 =>
(.path [1] (by kernel_rfl)
(.pt (c := (inR n1 (List.length l0))) (by kernel_rfl) (by kernel_rfl) (by (simp only [w64d, decide_eq_true_eq, decide_eq_false_iff_not, beq_iff_eq, beq_eq_false_iff_ne, bne_iff_ne, ne_eq, inR, Bool.and_eq_true, Bool.and_eq_false_iff, Bool.not_eq_true', Bool.not_eq_false', Bool.not_eq_eq_eq_not, Bool.not_true, Bool.not_false] at *; omega))
(.path [1,1,1,1] (by kernel_rfl)
(.pt (by kernel_rfl) (by kernel_rfl) h3
(.path [1,1,0,1] (by kernel_rfl)
(.node (by kernel_rfl) (by kernel_rfl) (fun h4 =>
(.path [1,1,0,1,1,1,1,1,1,1,1,1,1,1,1,1,0,1,1,0,1,0,1,1] (by kernel_rfl)
(.pf (c := (n3 != n3)) (by kernel_rfl) (by kernel_rfl) (by (simp [*]; done))
(.path [1] (by kernel_rfl)
(.node (by kernel_rfl) (by kernel_rfl) (fun h5 =>
(.path [1,1] (by kernel_rfl)
(.leaf (by kernel_rfl)))) (fun h5 =>
.none)))))) (fun h4 =>
.none)))))))) (fun h3 =>
(.path [1] (by kernel_rfl)
(.node (by kernel_rfl) (by kernel_rfl) (fun h4 =>
(.path [1] (by kernel_rfl)
(.pt (c := (inR n1 (List.length l0))) (by kernel_rfl) (by kernel_rfl) (by (simp only [w64d, decide_eq_true_eq, decide_eq_false_iff_not, beq_iff_eq, beq_eq_false_iff_ne, bne_iff_ne, ne_eq, inR, Bool.and_eq_true, Bool.and_eq_false_iff, Bool.not_eq_true', Bool.not_eq_false', Bool.not_eq_eq_eq_not, Bool.not_true, Bool.not_false] at *; omega))
(.path [1,1,1,1] (by kernel_rfl)
(.pf (by kernel_rfl) (by kernel_rfl) h3
(.path [1] (by kernel_rfl)
(.pt (by kernel_rfl) (by kernel_rfl) h4
(.path [1,1,0,1] (by kernel_rfl)
(.node (by kernel_rfl) (by kernel_rfl) (fun h5 =>
(.path [1,1,0,1,1,1,1,1,1,1,1,1,1,1,1,1,0,1,1,0,1,0,1,1] (by kernel_rfl)
(.pf (c := (n3 != n3)) (by kernel_rfl) (by kernel_rfl) (by (simp [*]; done))
(.path [1] (by kernel_rfl)
(.node (by kernel_rfl) (by kernel_rfl) (fun h6 =>
(.path [1,1] (by kernel_rfl)
(.leaf (by kernel_rfl)))) (fun h6 =>
.none)))))) (fun h5 =>
.none)))))))))) (fun h4 =>
(.path [1] (by kernel_rfl)
(.node (by kernel_rfl) (by kernel_rfl) (fun h5 =>
(.path [1,1,1] (by kernel_rfl)
(.node (by kernel_rfl) (by kernel_rfl) (fun h6 =>
(.path [1,1,1,1,1,1,1] (by kernel_rfl)
(.pt (c := (inR n1 (List.length l0))) (by kernel_rfl) (by kernel_rfl) (by (simp only [w64d, decide_eq_true_eq, decide_eq_false_iff_not, beq_iff_eq, beq_eq_false_iff_ne, bne_iff_ne, ne_eq, inR, Bool.and_eq_true, Bool.and_eq_false_iff, Bool.not_eq_true', Bool.not_eq_false', Bool.not_eq_eq_eq_not, Bool.not_true, Bool.not_false] at *; omega))
(.path [1,1,1,1] (by kernel_rfl)
(.pf (by kernel_rfl) (by kernel_rfl) h3
(.path [1] (by kernel_rfl)
(.pf (by kernel_rfl) (by kernel_rfl) h4
(.path [1] (by kernel_rfl)
(.pt (by kernel_rfl) (by kernel_rfl) h6
(.path [1,1,1,1,1] (by kernel_rfl)
(.pt (by kernel_rfl) (by kernel_rfl) h0
(.path [1,1,1,1,0,1] (by kernel_rfl)
(.node (by kernel_rfl) (by kernel_rfl) (fun h7 =>
(.path [1,1,0,1,1,1,1,1,1,1,1,1,1,1,1,1,0,1,1,0,1,0,1,1] (by kernel_rfl)
(.pf (c := (n3 != n3)) (by kernel_rfl) (by kernel_rfl) (by (simp [*]; done))
(.path [1] (by kernel_rfl)
(.node (by kernel_rfl) (by kernel_rfl) (fun h8 =>
(.path [1,1] (by kernel_rfl)
(.leaf (by kernel_rfl)))) (fun h8 =>
.none)))))) (fun h7 =>
.none)))))))))))))) (fun h6 =>
(.path [1,1] (by kernel_rfl)
(.pt (c := (inR n1 (List.length l0))) (by kernel_rfl) (by kernel_rfl) (by (simp only [w64d, decide_eq_true_eq, decide_eq_false_iff_not, beq_iff_eq, beq_eq_false_iff_ne, bne_iff_ne, ne_eq, inR, Bool.and_eq_true, Bool.and_eq_false_iff, Bool.not_eq_true', Bool.not_eq_false', Bool.not_eq_eq_eq_not, Bool.not_true, Bool.not_false] at *; omega))
(.path [1,1,1,1] (by kernel_rfl)
(.pf (by kernel_rfl) (by kernel_rfl) h3
(.path [1] (by kernel_rfl)
(.pf (by kernel_rfl) (by kernel_rfl) h4
(.path [1] (by kernel_rfl)
(.pf (by kernel_rfl) (by kernel_rfl) h6
(.path [1,1] (by kernel_rfl)
(.pt (by kernel_rfl) (by kernel_rfl) h0
(.path [1,1,1,0,1] (by kernel_rfl)
(.node (by kernel_rfl) (by kernel_rfl) (fun h7 =>
(.path [1,1,0,1,1,1,1,1,1,1,1,1,1,1,1,1,0,1,1,0,1,0,1,1] (by kernel_rfl)
(.pf (c := (n3 != n3)) (by kernel_rfl) (by kernel_rfl) (by (simp [*]; done))
(.path [1] (by kernel_rfl)
(.node (by kernel_rfl) (by kernel_rfl) (fun h8 =>
(.path [1,1] (by kernel_rfl)
(.leaf (by kernel_rfl)))) (fun h8 =>
.none)))))) (fun h7 =>
.none))))))))))))))))) (fun h5 =>
.none))))))))))))) (fun h1 =>
.none))))) (fun h0 =>
.none))))))

noncomputable def fn_L3_10_t001 : List Dat → Tree Step
  | [.l (Ty.pair (Ty.int IntKind.i64) (Ty.pair (Ty.int IntKind.i64) (Ty.pair (Ty.int IntKind.i64) (Ty.pair (Ty.int IntKind.u64) (Ty.pair (Ty.int IntKind.u32) (Ty.pair (Ty.int IntKind.u32) (Ty.sl (Ty.pair (Ty.int IntKind.u8) (Ty.int IntKind.i64))))))))) l0, .n n1, .n n2, .n n3, .b b4, .n n5, .n n6, .n n7, .l (Ty.pair (Ty.int IntKind.u8) (Ty.int IntKind.i64)) l8, .n n9, .n n10, .n n11, .l (Ty.pair (Ty.int IntKind.u8) (Ty.int IntKind.i64)) l12, .n n13, .n n14, .n n15, .l (Ty.pair (Ty.int IntKind.u8) (Ty.int IntKind.i64)) l16, .n n17, .n n18] =>
    (.node (decide (List.length (cl_7 l0 n1) * 16 ≤ 140737488355328))
     (let r1 : Option (Nat × List Dat) := (op_12 [.n (cl_1 l0 n1), .n (3 : Int)]);
      (.node (isK 0 [HK.n] r1)
       (.node (gn (dOf r1) 0 == (0 : Int))
        (.node (decide ((cl_3 l0 n1 : Int) ≤ n3))
         (let r2 : Option (Nat × List Dat) := (op_16n [.n (0 : Int), .n (0 : Int), .n (0 : Int), .n (0 : Int), .n (0 : Int)]);
          (.node (isK 0 [] r2)
           (let r3 : Option (Nat × List Dat) := (op_16o [.n (cl_2 l0 n1), .n (cl_3 l0 n1), .n (cl_4 l0 n1), .n (cl_5 l0 n1), .n (cl_6 l0 n1), .l TCmd (cl_7 l0 n1)]);
            (.node (isK 0 [HK.l TCmd] r3)
             (.leaf (Step.go (.k 1 :: .l TCall l0 :: .n (IntKind.wrap .i64 (n1 + (1 : Int))) :: .n n2 :: .n n3 :: .b b4 :: .n n2 :: .n n3 :: .b false :: .n n5 :: .n n6 :: .n n7 :: .l TCmd l8 :: .b false :: .n n9 :: .n n10 :: .n n11 :: .l TCmd l12 :: .b true :: .n n17 :: .n n18 :: .n n13 :: .n n14 :: .n n15 :: .l TCmd l16 :: .b b4 :: .n n17 :: .n n18 :: .n n13 :: .n n14 :: .n n15 :: .l TCmd l16 :: [])))
             (.bad 351)))
           (.bad 351)))
         (let r2 : Option (Nat × List Dat) := (op_62 [.l TCmd (cl_7 l0 n1)]);
          (.node (isK 0 [HK.l TCmd] r2)
           (.node (decide (n18 ≤ (cl_3 l0 n1 : Int)))
            (.node (n18 == cl_3 l0 n1)
             (let r3 : Option (Nat × List Dat) := (op_62 [.l TCmd (gl TCmd (dOf r2) 0)]);
              (.node (isK 0 [HK.l TCmd] r3)
               (let r4 : Option (Nat × List Dat) := (op_30 [.n (cl_4 l0 n1), .n (cl_5 l0 n1), .n (cl_6 l0 n1), .l TCmd (gl TCmd (dOf r3) 0), .n (cl_4 l0 n1), .n (cl_5 l0 n1), .n (cl_6 l0 n1), .l TCmd (cl_7 l0 n1)]);
                (.node (isK 0 [HK.b] r4)
                 (.node (!gb (dOf r4) 0)
                  (.leaf (Step.stop 1 [.b false]))
                  (let r5 : Option (Nat × List Dat) := (op_16o [.n n2, .n (cl_3 l0 n1), .n (cl_4 l0 n1), .n (cl_5 l0 n1), .n (cl_6 l0 n1), .l TCmd (gl TCmd (dOf r3) 0)]);
                   (.node (isK 0 [HK.l TCmd] r5)
                    (let r6 : Option (Nat × List Dat) := (op_16o [.n (cl_2 l0 n1), .n (cl_3 l0 n1), .n (cl_4 l0 n1), .n (cl_5 l0 n1), .n (cl_6 l0 n1), .l TCmd (cl_7 l0 n1)]);
                     (.node (isK 0 [HK.l TCmd] r6)
                      (let r7 : Option (Nat × List Dat) := (op_31 [.n (cl_4 l0 n1), .n (cl_5 l0 n1), .n (cl_6 l0 n1), .l TCmd (gl TCmd (dOf r2) 0), .n n13, .n n14, .n n15, .l TCmd l16]);
                       (.node (isK 0 [HK.n, HK.n, HK.n, HK.l TCmd] r7)
                        (let r8 : Option (Nat × List Dat) := (op_32 [.n (cl_4 l0 n1), .n (cl_5 l0 n1), .n (cl_6 l0 n1), .l TCmd (cl_7 l0 n1), .n n13, .n n14, .n n15, .l TCmd l16]);
                         (.node (isK 0 [HK.n, HK.n, HK.n, HK.l TCmd] r8)
                          (let r9 : Option (Nat × List Dat) := (op_30 [.n (gn (dOf r7) 0), .n (gn (dOf r7) 1), .n (gn (dOf r7) 2), .l TCmd (gl TCmd (dOf r7) 3), .n (gn (dOf r8) 0), .n (gn (dOf r8) 1), .n (gn (dOf r8) 2), .l TCmd (gl TCmd (dOf r8) 3)]);
                           (.node (isK 0 [HK.b] r9)
                            (.node (!gb (dOf r9) 0)
                             (.leaf (Step.stop 1 [.b false]))
                             (let r10 : Option (Nat × List Dat) := (op_16o [.n (0 : Int), .n (0 : Int), .n (gn (dOf r7) 0), .n (gn (dOf r7) 1), .n (gn (dOf r7) 2), .l TCmd (gl TCmd (dOf r7) 3)]);
                              (.node (isK 0 [HK.l TCmd] r10)
                               (.leaf (Step.go (.k 6 :: .l TCall l0 :: .n (IntKind.wrap .i64 (n1 + (1 : Int))) :: .n n2 :: .n (cl_3 l0 n1) :: .b false :: .n n2 :: .n (cl_3 l0 n1) :: .b true :: .n (cl_4 l0 n1) :: .n (cl_5 l0 n1) :: .n (cl_6 l0 n1) :: .l TCmd (cl_7 l0 n1) :: .b (n18 == cl_3 l0 n1) :: .n n13 :: .n n14 :: .n n15 :: .l TCmd l16 :: .b (decide (n18 > (cl_3 l0 n1 : Int))) :: .n n17 :: .n n18 :: .n n13 :: .n n14 :: .n n15 :: .l TCmd l16 :: .b false :: .n n2 :: .n (cl_3 l0 n1) :: .n (cl_4 l0 n1) :: .n (cl_5 l0 n1) :: .n (cl_6 l0 n1) :: .l TCmd (gl TCmd (dOf r2) 0) :: .n n17 :: .n n18 :: .n n13 :: .n n14 :: .n n15 :: .l TCmd l16 :: [])))
                               (.bad 351))))
                            (.bad 351)))
                          (.bad 351)))
                        (.bad 351)))
                      (.bad 351)))
                    (.bad 351))))
                 (.bad 351)))
               (.bad 351)))
             (let r3 : Option (Nat × List Dat) := (op_62 [.l TCmd (gl TCmd (dOf r2) 0)]);
              (.node (isK 0 [HK.l TCmd] r3)
               (let r4 : Option (Nat × List Dat) := (op_30 [.n (cl_4 l0 n1), .n (cl_5 l0 n1), .n (cl_6 l0 n1), .l TCmd (gl TCmd (dOf r3) 0), .n (cl_4 l0 n1), .n (cl_5 l0 n1), .n (cl_6 l0 n1), .l TCmd (cl_7 l0 n1)]);
                (.node (isK 0 [HK.b] r4)
                 (.node (!gb (dOf r4) 0)
                  (.leaf (Step.stop 1 [.b false]))
                  (let r5 : Option (Nat × List Dat) := (op_16o [.n n2, .n (cl_3 l0 n1), .n (cl_4 l0 n1), .n (cl_5 l0 n1), .n (cl_6 l0 n1), .l TCmd (gl TCmd (dOf r3) 0)]);
                   (.node (isK 0 [HK.l TCmd] r5)
                    (let r6 : Option (Nat × List Dat) := (op_16o [.n (cl_2 l0 n1), .n (cl_3 l0 n1), .n (cl_4 l0 n1), .n (cl_5 l0 n1), .n (cl_6 l0 n1), .l TCmd (cl_7 l0 n1)]);
                     (.node (isK 0 [HK.l TCmd] r6)
                      (let r7 : Option (Nat × List Dat) := (op_16n [.n (0 : Int), .n (0 : Int), .n (0 : Int), .n (0 : Int), .n (0 : Int)]);
                       (.node (isK 0 [] r7)
                        (.leaf (Step.go (.k 4 :: .l TCall l0 :: .n (IntKind.wrap .i64 (n1 + (1 : Int))) :: .n n2 :: .n (cl_3 l0 n1) :: .b false :: .n n2 :: .n (cl_3 l0 n1) :: .b true :: .n (cl_4 l0 n1) :: .n (cl_5 l0 n1) :: .n (cl_6 l0 n1) :: .l TCmd (cl_7 l0 n1) :: .b (n18 == cl_3 l0 n1) :: .n (0 : Int) :: .n (0 : Int) :: .n (0 : Int) :: .l TCmd [] :: .b (decide (n18 > (cl_3 l0 n1 : Int))) :: .n n17 :: .n n18 :: .n n13 :: .n n14 :: .n n15 :: .l TCmd l16 :: .b false :: .n n2 :: .n (cl_3 l0 n1) :: .n (cl_4 l0 n1) :: .n (cl_5 l0 n1) :: .n (cl_6 l0 n1) :: .l TCmd (gl TCmd (dOf r2) 0) :: [])))
                        (.bad 351)))
                      (.bad 351)))
                    (.bad 351))))
                 (.bad 351)))
               (.bad 351))))
            (let r3 : Option (Nat × List Dat) := (op_62 [.l TCmd (gl TCmd (dOf r2) 0)]);
             (.node (isK 0 [HK.l TCmd] r3)
              (let r4 : Option (Nat × List Dat) := (op_30 [.n (cl_4 l0 n1), .n (cl_5 l0 n1), .n (cl_6 l0 n1), .l TCmd (gl TCmd (dOf r3) 0), .n (cl_4 l0 n1), .n (cl_5 l0 n1), .n (cl_6 l0 n1), .l TCmd (cl_7 l0 n1)]);
               (.node (isK 0 [HK.b] r4)
                (.node (!gb (dOf r4) 0)
                 (.leaf (Step.stop 1 [.b false]))
                 (let r5 : Option (Nat × List Dat) := (op_16o [.n n2, .n (cl_3 l0 n1), .n (cl_4 l0 n1), .n (cl_5 l0 n1), .n (cl_6 l0 n1), .l TCmd (gl TCmd (dOf r3) 0)]);
                  (.node (isK 0 [HK.l TCmd] r5)
                   (let r6 : Option (Nat × List Dat) := (op_16o [.n (cl_2 l0 n1), .n (cl_3 l0 n1), .n (cl_4 l0 n1), .n (cl_5 l0 n1), .n (cl_6 l0 n1), .l TCmd (cl_7 l0 n1)]);
                    (.node (isK 0 [HK.l TCmd] r6)
                     (let r7 : Option (Nat × List Dat) := (op_16n [.n (0 : Int), .n (0 : Int), .n (0 : Int), .n (0 : Int), .n (0 : Int)]);
                      (.node (isK 0 [] r7)
                       (.leaf (Step.go (.k 5 :: .l TCall l0 :: .n (IntKind.wrap .i64 (n1 + (1 : Int))) :: .n n2 :: .n (cl_3 l0 n1) :: .b false :: .n n2 :: .n (cl_3 l0 n1) :: .b true :: .n (cl_4 l0 n1) :: .n (cl_5 l0 n1) :: .n (cl_6 l0 n1) :: .l TCmd (cl_7 l0 n1) :: .b (n18 == cl_3 l0 n1) :: .n (0 : Int) :: .n (0 : Int) :: .n (0 : Int) :: .l TCmd [] :: .b (decide (n18 > (cl_3 l0 n1 : Int))) :: .n n17 :: .n n18 :: .n n13 :: .n n14 :: .n n15 :: .l TCmd l16 :: .b false :: .n n2 :: .n (cl_3 l0 n1) :: .n (cl_4 l0 n1) :: .n (cl_5 l0 n1) :: .n (cl_6 l0 n1) :: .l TCmd (gl TCmd (dOf r2) 0) :: .n n17 :: .n n18 :: .n n13 :: .n n14 :: .n n15 :: .l TCmd l16 :: [])))
                       (.bad 351)))
                     (.bad 351)))
                   (.bad 351))))
                (.bad 351)))
              (.bad 351))))
           (.bad 351))))
        (.node (cl_2 l0 n1 != IntKind.wrap .i64 ((1 : Int) - n2))
         (let r2 : Option (Nat × List Dat) := (op_16o [.n (cl_2 l0 n1), .n (cl_3 l0 n1), .n (cl_4 l0 n1), .n (cl_5 l0 n1), .n (cl_6 l0 n1), .l TCmd (cl_7 l0 n1)]);
          (.node (isK 0 [HK.l TCmd] r2)
           (let r3 : Option (Nat × List Dat) := (op_16n [.n (0 : Int), .n (0 : Int), .n (0 : Int), .n (0 : Int), .n (0 : Int)]);
            (.node (isK 0 [] r3)
             (.leaf (Step.go (.k 1 :: .l TCall l0 :: .n (IntKind.wrap .i64 (n1 + (1 : Int))) :: .n n2 :: .n n3 :: .b b4 :: .n n2 :: .n n3 :: .b false :: .n n5 :: .n n6 :: .n n7 :: .l TCmd l8 :: .b false :: .n n9 :: .n n10 :: .n n11 :: .l TCmd l12 :: .b true :: .n n17 :: .n n18 :: .n n13 :: .n n14 :: .n n15 :: .l TCmd l16 :: .b b4 :: .n n17 :: .n n18 :: .n n13 :: .n n14 :: .n n15 :: .l TCmd l16 :: [])))
             (.bad 351)))
           (.bad 351)))
         (.node (decide ((cl_3 l0 n1 : Int) < n3))
          (let r2 : Option (Nat × List Dat) := (op_16o [.n (cl_2 l0 n1), .n (cl_3 l0 n1), .n (cl_4 l0 n1), .n (cl_5 l0 n1), .n (cl_6 l0 n1), .l TCmd (cl_7 l0 n1)]);
           (.node (isK 0 [HK.l TCmd] r2)
            (let r3 : Option (Nat × List Dat) := (op_16n [.n (0 : Int), .n (0 : Int), .n (0 : Int), .n (0 : Int), .n (0 : Int)]);
             (.node (isK 0 [] r3)
              (.leaf (Step.go (.k 1 :: .l TCall l0 :: .n (IntKind.wrap .i64 (n1 + (1 : Int))) :: .n n2 :: .n n3 :: .b b4 :: .n n2 :: .n n3 :: .b false :: .n n5 :: .n n6 :: .n n7 :: .l TCmd l8 :: .b false :: .n n9 :: .n n10 :: .n n11 :: .l TCmd l12 :: .b true :: .n n17 :: .n n18 :: .n n13 :: .n n14 :: .n n15 :: .l TCmd l16 :: .b b4 :: .n n17 :: .n n18 :: .n n13 :: .n n14 :: .n n15 :: .l TCmd l16 :: [])))
              (.bad 351)))
            (.bad 351)))
          (let r2 : Option (Nat × List Dat) := (op_62 [.l TCmd (cl_7 l0 n1)]);
           (.node (isK 0 [HK.l TCmd] r2)
            (.node (decide ((cl_3 l0 n1 : Int) > n3))
             (.node (decide ((cl_3 l0 n1 : Int) > n18))
              (let r3 : Option (Nat × List Dat) := (op_16o [.n (cl_2 l0 n1), .n (cl_3 l0 n1), .n (cl_4 l0 n1), .n (cl_5 l0 n1), .n (cl_6 l0 n1), .l TCmd (cl_7 l0 n1)]);
               (.node (isK 0 [HK.l TCmd] r3)
                (let r4 : Option (Nat × List Dat) := (op_16n [.n (0 : Int), .n (0 : Int), .n (0 : Int), .n (0 : Int), .n (0 : Int)]);
                 (.node (isK 0 [] r4)
                  (.leaf (Step.go (.k 1 :: .l TCall l0 :: .n (IntKind.wrap .i64 (n1 + (1 : Int))) :: .n n2 :: .n n3 :: .b b4 :: .n n2 :: .n n3 :: .b false :: .n n5 :: .n n6 :: .n n7 :: .l TCmd l8 :: .b false :: .n n9 :: .n n10 :: .n n11 :: .l TCmd l12 :: .b true :: .n (cl_2 l0 n1) :: .n (cl_3 l0 n1) :: .n (cl_4 l0 n1) :: .n (cl_5 l0 n1) :: .n (cl_6 l0 n1) :: .l TCmd (cl_7 l0 n1) :: .b b4 :: .n (cl_2 l0 n1) :: .n (cl_3 l0 n1) :: .n (cl_4 l0 n1) :: .n (cl_5 l0 n1) :: .n (cl_6 l0 n1) :: .l TCmd (gl TCmd (dOf r2) 0) :: [])))
                  (.bad 351)))
                (.bad 351)))
              (.node (n18 == cl_3 l0 n1)
               (let r3 : Option (Nat × List Dat) := (op_29 [.n n13, .n n14, .n n15, .l TCmd l16, .n (cl_4 l0 n1), .n (cl_5 l0 n1), .n (cl_6 l0 n1), .l TCmd (gl TCmd (dOf r2) 0)]);
                (.node (isK 0 [HK.b] r3)
                 (.node (gb (dOf r3) 0)
                  (let r4 : Option (Nat × List Dat) := (op_30 [.n (cl_4 l0 n1), .n (cl_5 l0 n1), .n (cl_6 l0 n1), .l TCmd (cl_7 l0 n1), .n n13, .n n14, .n n15, .l TCmd l16]);
                   (.node (isK 0 [HK.b] r4)
                    (.node (gb (dOf r4) 0)
                     (let r5 : Option (Nat × List Dat) := (op_16o [.n (cl_2 l0 n1), .n (cl_3 l0 n1), .n (cl_4 l0 n1), .n (cl_5 l0 n1), .n (cl_6 l0 n1), .l TCmd (cl_7 l0 n1)]);
                      (.node (isK 0 [HK.l TCmd] r5)
                       (let r6 : Option (Nat × List Dat) := (op_16n [.n (0 : Int), .n (0 : Int), .n (0 : Int), .n (0 : Int), .n (0 : Int)]);
                        (.node (isK 0 [] r6)
                         (.leaf (Step.go (.k 1 :: .l TCall l0 :: .n (IntKind.wrap .i64 (n1 + (1 : Int))) :: .n n2 :: .n n3 :: .b b4 :: .n n2 :: .n n3 :: .b false :: .n n5 :: .n n6 :: .n n7 :: .l TCmd l8 :: .b false :: .n n9 :: .n n10 :: .n n11 :: .l TCmd l12 :: .b true :: .n n17 :: .n n18 :: .n n13 :: .n n14 :: .n n15 :: .l TCmd l16 :: .b b4 :: .n n17 :: .n n18 :: .n n13 :: .n n14 :: .n n15 :: .l TCmd l16 :: [])))
                         (.bad 351)))
                       (.bad 351)))
                     (.leaf (Step.stop 1 [.b false])))
                    (.bad 351)))
                  (let r4 : Option (Nat × List Dat) := (op_30 [.n (cl_4 l0 n1), .n (cl_5 l0 n1), .n (cl_6 l0 n1), .l TCmd (cl_7 l0 n1), .n n13, .n n14, .n n15, .l TCmd l16]);
                   (.node (isK 0 [HK.b] r4)
                    (.node (gb (dOf r4) 0)
                     (.leaf (Step.stop 1 [.b false]))
                     (let r5 : Option (Nat × List Dat) := (op_16o [.n (cl_2 l0 n1), .n (cl_3 l0 n1), .n (cl_4 l0 n1), .n (cl_5 l0 n1), .n (cl_6 l0 n1), .l TCmd (cl_7 l0 n1)]);
                      (.node (isK 0 [HK.l TCmd] r5)
                       (let r6 : Option (Nat × List Dat) := (op_16n [.n (0 : Int), .n (0 : Int), .n (0 : Int), .n (0 : Int), .n (0 : Int)]);
                        (.node (isK 0 [] r6)
                         (.leaf (Step.go (.k 1 :: .l TCall l0 :: .n (IntKind.wrap .i64 (n1 + (1 : Int))) :: .n n2 :: .n n3 :: .b b4 :: .n n2 :: .n n3 :: .b false :: .n n5 :: .n n6 :: .n n7 :: .l TCmd l8 :: .b false :: .n n9 :: .n n10 :: .n n11 :: .l TCmd l12 :: .b true :: .n n17 :: .n n18 :: .n n13 :: .n n14 :: .n n15 :: .l TCmd l16 :: .b b4 :: .n n17 :: .n n18 :: .n n13 :: .n n14 :: .n n15 :: .l TCmd l16 :: [])))
                         (.bad 351)))
                       (.bad 351))))
                    (.bad 351))))
                 (.bad 351)))
               (let r3 : Option (Nat × List Dat) := (op_16o [.n (cl_2 l0 n1), .n (cl_3 l0 n1), .n (cl_4 l0 n1), .n (cl_5 l0 n1), .n (cl_6 l0 n1), .l TCmd (cl_7 l0 n1)]);
                (.node (isK 0 [HK.l TCmd] r3)
                 (let r4 : Option (Nat × List Dat) := (op_16n [.n (0 : Int), .n (0 : Int), .n (0 : Int), .n (0 : Int), .n (0 : Int)]);
                  (.node (isK 0 [] r4)
                   (.leaf (Step.go (.k 1 :: .l TCall l0 :: .n (IntKind.wrap .i64 (n1 + (1 : Int))) :: .n n2 :: .n n3 :: .b b4 :: .n n2 :: .n n3 :: .b false :: .n n5 :: .n n6 :: .n n7 :: .l TCmd l8 :: .b false :: .n n9 :: .n n10 :: .n n11 :: .l TCmd l12 :: .b true :: .n n17 :: .n n18 :: .n n13 :: .n n14 :: .n n15 :: .l TCmd l16 :: .b b4 :: .n n17 :: .n n18 :: .n n13 :: .n n14 :: .n n15 :: .l TCmd l16 :: [])))
                   (.bad 351)))
                 (.bad 351)))))
             (let r3 : Option (Nat × List Dat) := (op_16o [.n (cl_2 l0 n1), .n (cl_3 l0 n1), .n (cl_4 l0 n1), .n (cl_5 l0 n1), .n (cl_6 l0 n1), .l TCmd (cl_7 l0 n1)]);
              (.node (isK 0 [HK.l TCmd] r3)
               (let r4 : Option (Nat × List Dat) := (op_16n [.n (0 : Int), .n (0 : Int), .n (0 : Int), .n (0 : Int), .n (0 : Int)]);
                (.node (isK 0 [] r4)
                 (.leaf (Step.go (.k 3 :: .l TCall l0 :: .n (IntKind.wrap .i64 (n1 + (1 : Int))) :: .n n2 :: .n n3 :: .b b4 :: .n n2 :: .n n3 :: .b false :: .n n5 :: .n n6 :: .n n7 :: .l TCmd l8 :: .b true :: .n (cl_4 l0 n1) :: .n (cl_5 l0 n1) :: .n (cl_6 l0 n1) :: .l TCmd (cl_7 l0 n1) :: .b true :: .n n17 :: .n n18 :: .n n13 :: .n n14 :: .n n15 :: .l TCmd l16 :: .b b4 :: .n (cl_2 l0 n1) :: .n (cl_3 l0 n1) :: .n (cl_4 l0 n1) :: .n (cl_5 l0 n1) :: .n (cl_6 l0 n1) :: .l TCmd (gl TCmd (dOf r2) 0) :: .n n17 :: .n n18 :: .n n13 :: .n n14 :: .n n15 :: .l TCmd l16 :: [])))
                 (.bad 351)))
               (.bad 351))))
            (.bad 351))))))
       (.bad 351)))
     (.bad 60))
  | _ => .bad 0
theorem fn_L3_10_t001_im (l0 : List (Ty.den TCall)) (n1 : Int) (n2 : Int) (n3 : Int) (b4 : Bool) (n5 : Int) (n6 : Int) (n7 : Int) (l8 : List (Ty.den TCmd)) (n9 : Int) (n10 : Int) (n11 : Int) (l12 : List (Ty.den TCmd)) (n13 : Int) (n14 : Int) (n15 : Int) (l16 : List (Ty.den TCmd)) (n17 : Int) (n18 : Int) (g0 : 0 ≤ n1) (g1 :  n1 < (l0.length : Int)) : Imp (fn_L3_10_t001 [.l TCall l0, .n n1, .n n2, .n n3, .b b4, .n n5, .n n6, .n n7, .l TCmd l8, .n n9, .n n10, .n n11, .l TCmd l12, .n n13, .n n14, .n n15, .l TCmd l16, .n n17, .n n18]) (st_L3_10 [.k 1, .l TCall l0, .n n1, .n n2, .n n3, .b b4, .n n2, .n n3, .b false, .n n5, .n n6, .n n7, .l TCmd l8, .b false, .n n9, .n n10, .n n11, .l TCmd l12, .b true, .n n17, .n n18, .n n13, .n n14, .n n15, .l TCmd l16, .b b4, .n n17, .n n18, .n n13, .n n14, .n n15, .l TCmd l16]) :=
(.path [1] (by kernel_rfl)
(.pt (c := (decide (n1 < (↑(List.length l0) : Int)))) (by kernel_rfl) (by kernel_rfl) (by (simp [*]; done))
(.pt (c := (inR n1 (List.length l0))) (by kernel_rfl) (by kernel_rfl) (by (simp only [w64d, decide_eq_true_eq, decide_eq_false_iff_not, beq_iff_eq, beq_eq_false_iff_ne, bne_iff_ne, ne_eq, inR, Bool.and_eq_true, Bool.and_eq_false_iff, Bool.not_eq_true', Bool.not_eq_false', Bool.not_eq_eq_eq_not, Bool.not_true, Bool.not_false] at *; omega))
(.path [1] (by kernel_rfl)
(.node (by kernel_rfl) (by kernel_rfl) (fun h0 =>
(.path [1] (by kernel_rfl)
(.pt (c := (inR n1 (List.length l0))) (by kernel_rfl) (by kernel_rfl) (by (simp only [w64d, decide_eq_true_eq, decide_eq_false_iff_not, beq_iff_eq, beq_eq_false_iff_ne, bne_iff_ne, ne_eq, inR, Bool.and_eq_true, Bool.and_eq_false_iff, Bool.not_eq_true', Bool.not_eq_false', Bool.not_eq_eq_eq_not, Bool.not_true, Bool.not_false] at *; omega))
(.node (by kernel_rfl) (by kernel_rfl) (fun h1 =>
(.path [1] (by kernel_rfl)
(.node (by kernel_rfl) (by kernel_rfl) (fun h2 =>
(.path [1,0] (by kernel_rfl)
(.node (by kernel_rfl) (by kernel_rfl) (fun h3 =>
(.path [1] (by kernel_rfl)
(.pt (c := (inR n1 (List.length l0))) (by kernel_rfl) (by kernel_rfl) (by (simp only [w64d, decide_eq_true_eq, decide_eq_false_iff_not, beq_iff_eq, beq_eq_false_iff_ne, bne_iff_ne, ne_eq, inR, Bool.and_eq_true, Bool.and_eq_false_iff, Bool.not_eq_true', Bool.not_eq_false', Bool.not_eq_eq_eq_not, Bool.not_true, Bool.not_false] at *; omega))
(.pt (c := (inR n1 (List.length l0))) (by kernel_rfl) (by kernel_rfl) (by (simp only [w64d, decide_eq_true_eq, decide_eq_false_iff_not, beq_iff_eq, beq_eq_false_iff_ne, bne_iff_ne, ne_eq, inR, Bool.and_eq_true, Bool.and_eq_false_iff, Bool.not_eq_true', Bool.not_eq_false', Bool.not_eq_eq_eq_not, Bool.not_true, Bool.not_false] at *; omega))
(.path [1] (by kernel_rfl)
(.pt (by kernel_rfl) (by kernel_rfl) h3
(.path [1,1,0,1,1,1,1,1,1,0,1] (by kernel_rfl)
(.node (by kernel_rfl) (by kernel_rfl) (fun h4 =>
(.path [1,1] (by kernel_rfl)
(.node (by kernel_rfl) (by kernel_rfl) (fun h5 =>
(.path [1,1,0,1,1,1,1,1,1,1,1,1,1,1,1,1,0,1,1,0,1,0,1,1] (by kernel_rfl)
(.pf (c := (n3 != n3)) (by kernel_rfl) (by kernel_rfl) (by (simp [*]; done))
(.path [1] (by kernel_rfl)
(.pt (by kernel_rfl) (by kernel_rfl) h4
(.path [1,1] (by kernel_rfl)
(.leaf (by kernel_rfl)))))))) (fun h5 =>
.none)))) (fun h4 =>
.none))))))))) (fun h3 =>
(.path [1] (by kernel_rfl)
(.node (by kernel_rfl) (by kernel_rfl) (fun h4 =>
(.path [1,1,1,1] (by kernel_rfl)
(.node (by kernel_rfl) (by kernel_rfl) (fun h5 =>
(.node (by kernel_rfl) (by kernel_rfl) (fun h6 =>
(.path [1] (by kernel_rfl)
(.node (by kernel_rfl) (by kernel_rfl) (fun h7 =>
(.path [1,1,1] (by kernel_rfl)
(.pt (c := (inR n1 (List.length l0))) (by kernel_rfl) (by kernel_rfl) (by (simp only [w64d, decide_eq_true_eq, decide_eq_false_iff_not, beq_iff_eq, beq_eq_false_iff_ne, bne_iff_ne, ne_eq, inR, Bool.and_eq_true, Bool.and_eq_false_iff, Bool.not_eq_true', Bool.not_eq_false', Bool.not_eq_eq_eq_not, Bool.not_true, Bool.not_false] at *; omega))
(.pt (c := (inR n1 (List.length l0))) (by kernel_rfl) (by kernel_rfl) (by (simp only [w64d, decide_eq_true_eq, decide_eq_false_iff_not, beq_iff_eq, beq_eq_false_iff_ne, bne_iff_ne, ne_eq, inR, Bool.and_eq_true, Bool.and_eq_false_iff, Bool.not_eq_true', Bool.not_eq_false', Bool.not_eq_eq_eq_not, Bool.not_true, Bool.not_false] at *; omega))
(.path [1] (by kernel_rfl)
(.pf (by kernel_rfl) (by kernel_rfl) h3
(.path [1] (by kernel_rfl)
(.pt (by kernel_rfl) (by kernel_rfl) h0
(.path [1,1] (by kernel_rfl)
(.pt (by kernel_rfl) (by kernel_rfl) h6
(.path [1,1] (by kernel_rfl)
(.pt (by kernel_rfl) (by kernel_rfl) h0
(.path [1,1,1,1,0,1] (by kernel_rfl)
(.pt (c := (n2 == n2)) (by kernel_rfl) (by kernel_rfl) (by (simp [*]; done))
(.pt (c := (cl_3 l0 n1 == cl_3 l0 n1)) (by kernel_rfl) (by kernel_rfl) (by (simp [*]; done))
(.node (by kernel_rfl) (by kernel_rfl) (fun h8 =>
(.path [1,1] (by kernel_rfl)
(.node (by kernel_rfl) (by kernel_rfl) (fun h9 =>
(.path [1] (by kernel_rfl)
(.leaf (by kernel_rfl)))) (fun h9 =>
(.path [1] (by kernel_rfl)
(.node (by kernel_rfl) (by kernel_rfl) (fun h10 =>
(.path [1,1] (by kernel_rfl)
(.node (by kernel_rfl) (by kernel_rfl) (fun h11 =>
(.path [1,1,0,0,0,0] (by kernel_rfl)
(.node (by kernel_rfl) (by kernel_rfl) (fun h12 =>
(.path [1,1,1,1,0] (by kernel_rfl)
(.pf (c := (!n18 == cl_3 l0 n1)) (by kernel_rfl) (by kernel_rfl) (by (simp [*]; done))
(.path [0] (by kernel_rfl)
(.node (by kernel_rfl) (by kernel_rfl) (fun h13 =>
(.path [1,1,1,0] (by kernel_rfl)
(.node (by kernel_rfl) (by kernel_rfl) (fun h14 =>
(.path [1] (by kernel_rfl)
(.node (by kernel_rfl) (by kernel_rfl) (fun h15 =>
(.path [1,1,1,1] (by kernel_rfl)
(.leaf (by kernel_rfl)))) (fun h15 =>
(.path [1,0,1,1] (by kernel_rfl)
(.pf (c := (cl_3 l0 n1 != cl_3 l0 n1)) (by kernel_rfl) (by kernel_rfl) (by (simp [*]; done))
(.path [1] (by kernel_rfl)
(.node (by kernel_rfl) (by kernel_rfl) (fun h16 =>
(.path [1,1] (by kernel_rfl)
(.leaf (by kernel_rfl)))) (fun h16 =>
.none))))))))) (fun h14 =>
.none)))) (fun h13 =>
.none)))))) (fun h12 =>
.none)))) (fun h11 =>
.none)))) (fun h10 =>
.none))))))) (fun h8 =>
.none))))))))))))))))) (fun h7 =>
.none)))) (fun h6 =>
(.path [1] (by kernel_rfl)
(.node (by kernel_rfl) (by kernel_rfl) (fun h7 =>
(.path [1,1,1] (by kernel_rfl)
(.pt (c := (inR n1 (List.length l0))) (by kernel_rfl) (by kernel_rfl) (by (simp only [w64d, decide_eq_true_eq, decide_eq_false_iff_not, beq_iff_eq, beq_eq_false_iff_ne, bne_iff_ne, ne_eq, inR, Bool.and_eq_true, Bool.and_eq_false_iff, Bool.not_eq_true', Bool.not_eq_false', Bool.not_eq_eq_eq_not, Bool.not_true, Bool.not_false] at *; omega))
(.pt (c := (inR n1 (List.length l0))) (by kernel_rfl) (by kernel_rfl) (by (simp only [w64d, decide_eq_true_eq, decide_eq_false_iff_not, beq_iff_eq, beq_eq_false_iff_ne, bne_iff_ne, ne_eq, inR, Bool.and_eq_true, Bool.and_eq_false_iff, Bool.not_eq_true', Bool.not_eq_false', Bool.not_eq_eq_eq_not, Bool.not_true, Bool.not_false] at *; omega))
(.path [1] (by kernel_rfl)
(.pf (by kernel_rfl) (by kernel_rfl) h3
(.path [1] (by kernel_rfl)
(.pt (by kernel_rfl) (by kernel_rfl) h0
(.path [1,1] (by kernel_rfl)
(.pf (by kernel_rfl) (by kernel_rfl) h6
(.path [1,1] (by kernel_rfl)
(.pt (by kernel_rfl) (by kernel_rfl) h0
(.path [1,1,1,1,0,1] (by kernel_rfl)
(.pt (c := (n2 == n2)) (by kernel_rfl) (by kernel_rfl) (by (simp [*]; done))
(.pt (c := (cl_3 l0 n1 == cl_3 l0 n1)) (by kernel_rfl) (by kernel_rfl) (by (simp [*]; done))
(.node (by kernel_rfl) (by kernel_rfl) (fun h8 =>
(.path [1,1] (by kernel_rfl)
(.node (by kernel_rfl) (by kernel_rfl) (fun h9 =>
(.path [1] (by kernel_rfl)
(.leaf (by kernel_rfl)))) (fun h9 =>
(.path [1] (by kernel_rfl)
(.node (by kernel_rfl) (by kernel_rfl) (fun h10 =>
(.path [1,1] (by kernel_rfl)
(.node (by kernel_rfl) (by kernel_rfl) (fun h11 =>
(.path [1,1,0,0,1,1,1,1,1,0] (by kernel_rfl)
(.pt (c := (!n18 == cl_3 l0 n1)) (by kernel_rfl) (by kernel_rfl) (by (simp [*]; done))
(.path [1,1,1,0,1,1,0,1,0,1,1] (by kernel_rfl)
(.pf (c := (cl_3 l0 n1 != cl_3 l0 n1)) (by kernel_rfl) (by kernel_rfl) (by (simp [*]; done))
(.path [1] (by kernel_rfl)
(.node (by kernel_rfl) (by kernel_rfl) (fun h12 =>
(.path [1,1] (by kernel_rfl)
(.leaf (by kernel_rfl)))) (fun h12 =>
.none)))))))) (fun h11 =>
.none)))) (fun h10 =>
.none))))))) (fun h8 =>
.none))))))))))))))))) (fun h7 =>
.none)))))) (fun h5 =>
(.path [1] (by kernel_rfl)
(.node (by kernel_rfl) (by kernel_rfl) (fun h6 =>
(.path [1,1,1] (by kernel_rfl)
(.pt (c := (inR n1 (List.length l0))) (by kernel_rfl) (by kernel_rfl) (by (simp only [w64d, decide_eq_true_eq, decide_eq_false_iff_not, beq_iff_eq, beq_eq_false_iff_ne, bne_iff_ne, ne_eq, inR, Bool.and_eq_true, Bool.and_eq_false_iff, Bool.not_eq_true', Bool.not_eq_false', Bool.not_eq_eq_eq_not, Bool.not_true, Bool.not_false] at *; omega))
(.pt (c := (inR n1 (List.length l0))) (by kernel_rfl) (by kernel_rfl) (by (simp only [w64d, decide_eq_true_eq, decide_eq_false_iff_not, beq_iff_eq, beq_eq_false_iff_ne, bne_iff_ne, ne_eq, inR, Bool.and_eq_true, Bool.and_eq_false_iff, Bool.not_eq_true', Bool.not_eq_false', Bool.not_eq_eq_eq_not, Bool.not_true, Bool.not_false] at *; omega))
(.path [1] (by kernel_rfl)
(.pf (by kernel_rfl) (by kernel_rfl) h3
(.path [1] (by kernel_rfl)
(.pt (by kernel_rfl) (by kernel_rfl) h0
(.path [1,1] (by kernel_rfl)
(.pf (c := (n18 == cl_3 l0 n1)) (by kernel_rfl) (by kernel_rfl) (by (simp only [w64d, decide_eq_true_eq, decide_eq_false_iff_not, beq_iff_eq, beq_eq_false_iff_ne, bne_iff_ne, ne_eq, inR, Bool.and_eq_true, Bool.and_eq_false_iff, Bool.not_eq_true', Bool.not_eq_false', Bool.not_eq_eq_eq_not, Bool.not_true, Bool.not_false] at *; omega))
(.path [1,1] (by kernel_rfl)
(.pt (by kernel_rfl) (by kernel_rfl) h0
(.path [1,1,1,1,0,1] (by kernel_rfl)
(.pt (c := (n2 == n2)) (by kernel_rfl) (by kernel_rfl) (by (simp [*]; done))
(.pt (c := (cl_3 l0 n1 == cl_3 l0 n1)) (by kernel_rfl) (by kernel_rfl) (by (simp [*]; done))
(.node (by kernel_rfl) (by kernel_rfl) (fun h7 =>
(.path [1,1] (by kernel_rfl)
(.node (by kernel_rfl) (by kernel_rfl) (fun h8 =>
(.path [1] (by kernel_rfl)
(.leaf (by kernel_rfl)))) (fun h8 =>
(.path [1] (by kernel_rfl)
(.node (by kernel_rfl) (by kernel_rfl) (fun h9 =>
(.path [1,1] (by kernel_rfl)
(.node (by kernel_rfl) (by kernel_rfl) (fun h10 =>
(.path [1,1,0,0,1,1,1,1,1,0] (by kernel_rfl)
(.pt (c := (!n18 == cl_3 l0 n1)) (by kernel_rfl) (by kernel_rfl) (by (simp only [w64d, decide_eq_true_eq, decide_eq_false_iff_not, beq_iff_eq, beq_eq_false_iff_ne, bne_iff_ne, ne_eq, inR, Bool.and_eq_true, Bool.and_eq_false_iff, Bool.not_eq_true', Bool.not_eq_false', Bool.not_eq_eq_eq_not, Bool.not_true, Bool.not_false] at *; omega))
(.path [1,1,1,0,1,1,0,1,0,1,1] (by kernel_rfl)
(.pf (c := (cl_3 l0 n1 != cl_3 l0 n1)) (by kernel_rfl) (by kernel_rfl) (by (simp [*]; done))
(.path [1] (by kernel_rfl)
(.node (by kernel_rfl) (by kernel_rfl) (fun h11 =>
(.path [1,1] (by kernel_rfl)
(.leaf (by kernel_rfl)))) (fun h11 =>
.none)))))))) (fun h10 =>
.none)))) (fun h9 =>
.none))))))) (fun h7 =>
.none))))))))))))))))) (fun h6 =>
.none))))))) (fun h4 =>
.none))))))) (fun h2 =>
(.path [1,0,0,1] (by kernel_rfl)
(.node (by kernel_rfl) (by kernel_rfl) (fun h3 =>
(.path [1] (by kernel_rfl)
(.pt (c := (inR n1 (List.length l0))) (by kernel_rfl) (by kernel_rfl) (by (simp only [w64d, decide_eq_true_eq, decide_eq_false_iff_not, beq_iff_eq, beq_eq_false_iff_ne, bne_iff_ne, ne_eq, inR, Bool.and_eq_true, Bool.and_eq_false_iff, Bool.not_eq_true', Bool.not_eq_false', Bool.not_eq_eq_eq_not, Bool.not_true, Bool.not_false] at *; omega))
(.path [1,1,1,1] (by kernel_rfl)
(.pt (by kernel_rfl) (by kernel_rfl) h3
(.path [1,1,0,1] (by kernel_rfl)
(.node (by kernel_rfl) (by kernel_rfl) (fun h4 =>
(.path [1,1,0,1,1,1,1,1,1,1,1,1,1,1,1,1,0,1,1,0,1,0,1,1] (by kernel_rfl)
(.pf (c := (n3 != n3)) (by kernel_rfl) (by kernel_rfl) (by (simp [*]; done))
(.path [1] (by kernel_rfl)
(.node (by kernel_rfl) (by kernel_rfl) (fun h5 =>
(.path [1,1] (by kernel_rfl)
(.leaf (by kernel_rfl)))) (fun h5 =>
.none)))))) (fun h4 =>
.none)))))))) (fun h3 =>
(.path [1] (by kernel_rfl)
(.node (by kernel_rfl) (by kernel_rfl) (fun h4 =>
(.path [1] (by kernel_rfl)
(.pt (c := (inR n1 (List.length l0))) (by kernel_rfl) (by kernel_rfl) (by (simp only [w64d, decide_eq_true_eq, decide_eq_false_iff_not, beq_iff_eq, beq_eq_false_iff_ne, bne_iff_ne, ne_eq, inR, Bool.and_eq_true, Bool.and_eq_false_iff, Bool.not_eq_true', Bool.not_eq_false', Bool.not_eq_eq_eq_not, Bool.not_true, Bool.not_false] at *; omega))
(.path [1,1,1,1] (by kernel_rfl)
(.pf (by kernel_rfl) (by kernel_rfl) h3
(.path [1] (by kernel_rfl)
(.pt (by kernel_rfl) (by kernel_rfl) h4
(.path [1,1,0,1] (by kernel_rfl)
(.node (by kernel_rfl) (by kernel_rfl) (fun h5 =>
(.path [1,1,0,1,1,1,1,1,1,1,1,1,1,1,1,1,0,1,1,0,1,0,1,1] (by kernel_rfl)
(.pf (c := (n3 != n3)) (by kernel_rfl) (by kernel_rfl) (by (simp [*]; done))
(.path [1] (by kernel_rfl)
(.node (by kernel_rfl) (by kernel_rfl) (fun h6 =>
(.path [1,1] (by kernel_rfl)
(.leaf (by kernel_rfl)))) (fun h6 =>
.none)))))) (fun h5 =>
.none)))))))))) (fun h4 =>
(.path [1] (by kernel_rfl)
(.node (by kernel_rfl) (by kernel_rfl) (fun h5 =>
(.path [1,1,1] (by kernel_rfl)
(.node (by kernel_rfl) (by kernel_rfl) (fun h6 =>
(.path [1,0,1] (by kernel_rfl)
(.node (by kernel_rfl) (by kernel_rfl) (fun h7 =>
(.path [1,1] (by kernel_rfl)
(.pt (c := (inR n1 (List.length l0))) (by kernel_rfl) (by kernel_rfl) (by (simp only [w64d, decide_eq_true_eq, decide_eq_false_iff_not, beq_iff_eq, beq_eq_false_iff_ne, bne_iff_ne, ne_eq, inR, Bool.and_eq_true, Bool.and_eq_false_iff, Bool.not_eq_true', Bool.not_eq_false', Bool.not_eq_eq_eq_not, Bool.not_true, Bool.not_false] at *; omega))
(.path [1,1,1,1] (by kernel_rfl)
(.pf (by kernel_rfl) (by kernel_rfl) h3
(.path [1] (by kernel_rfl)
(.pf (by kernel_rfl) (by kernel_rfl) h4
(.path [1] (by kernel_rfl)
(.pt (by kernel_rfl) (by kernel_rfl) h6
(.path [0,1] (by kernel_rfl)
(.pt (by kernel_rfl) (by kernel_rfl) h7
(.path [1] (by kernel_rfl)
(.pt (by kernel_rfl) (by kernel_rfl) h0
(.path [1,1,1,1,0,1] (by kernel_rfl)
(.node (by kernel_rfl) (by kernel_rfl) (fun h8 =>
(.path [1,1,0,1,1,1,1,1,1,1,1,1,1,1,1,1,0,1,1,0,1,0,1,1] (by kernel_rfl)
(.pf (c := (n3 != n3)) (by kernel_rfl) (by kernel_rfl) (by (simp [*]; done))
(.path [1] (by kernel_rfl)
(.node (by kernel_rfl) (by kernel_rfl) (fun h9 =>
(.path [1,1] (by kernel_rfl)
(.leaf (by kernel_rfl)))) (fun h9 =>
.none)))))) (fun h8 =>
.none)))))))))))))))) (fun h7 =>
(.path [1] (by kernel_rfl)
(.node (by kernel_rfl) (by kernel_rfl) (fun h8 =>
(.node (by kernel_rfl) (by kernel_rfl) (fun h9 =>
(.path [1,1,1] (by kernel_rfl)
(.node (by kernel_rfl) (by kernel_rfl) (fun h10 =>
(.path [1,1] (by kernel_rfl)
(.pt (c := (inR n1 (List.length l0))) (by kernel_rfl) (by kernel_rfl) (by (simp only [w64d, decide_eq_true_eq, decide_eq_false_iff_not, beq_iff_eq, beq_eq_false_iff_ne, bne_iff_ne, ne_eq, inR, Bool.and_eq_true, Bool.and_eq_false_iff, Bool.not_eq_true', Bool.not_eq_false', Bool.not_eq_eq_eq_not, Bool.not_true, Bool.not_false] at *; omega))
(.path [1,1,1,1] (by kernel_rfl)
(.pf (by kernel_rfl) (by kernel_rfl) h3
(.path [1] (by kernel_rfl)
(.pf (by kernel_rfl) (by kernel_rfl) h4
(.path [1] (by kernel_rfl)
(.pt (by kernel_rfl) (by kernel_rfl) h6
(.path [0,1] (by kernel_rfl)
(.pf (by kernel_rfl) (by kernel_rfl) h7
(.pt (c := (cl_3 l0 n1 == n18)) (by kernel_rfl) (by kernel_rfl) (by (simp only [w64d, decide_eq_true_eq, decide_eq_false_iff_not, beq_iff_eq, beq_eq_false_iff_ne, bne_iff_ne, ne_eq, inR, Bool.and_eq_true, Bool.and_eq_false_iff, Bool.not_eq_true', Bool.not_eq_false', Bool.not_eq_eq_eq_not, Bool.not_true, Bool.not_false] at *; omega))
(.node (by kernel_rfl) (by kernel_rfl) (fun h11 =>
(.path [1,1] (by kernel_rfl)
(.node (by kernel_rfl) (by kernel_rfl) (fun h12 =>
(.path [1,1,0,1] (by kernel_rfl)
(.node (by kernel_rfl) (by kernel_rfl) (fun h13 =>
(.path [1,1,0,1,1,1,1,1,1,1,1,1,1,1,1,1,0,1,1,0,1,0,1,1] (by kernel_rfl)
(.pf (c := (n3 != n3)) (by kernel_rfl) (by kernel_rfl) (by (simp [*]; done))
(.path [1] (by kernel_rfl)
(.node (by kernel_rfl) (by kernel_rfl) (fun h14 =>
(.path [1,1] (by kernel_rfl)
(.leaf (by kernel_rfl)))) (fun h14 =>
.none)))))) (fun h13 =>
.none)))) (fun h12 =>
(.path [1,1,1,1] (by kernel_rfl)
(.leaf (by kernel_rfl))))))) (fun h11 =>
.none)))))))))))))) (fun h10 =>
(.path [1,1] (by kernel_rfl)
(.pt (c := (inR n1 (List.length l0))) (by kernel_rfl) (by kernel_rfl) (by (simp only [w64d, decide_eq_true_eq, decide_eq_false_iff_not, beq_iff_eq, beq_eq_false_iff_ne, bne_iff_ne, ne_eq, inR, Bool.and_eq_true, Bool.and_eq_false_iff, Bool.not_eq_true', Bool.not_eq_false', Bool.not_eq_eq_eq_not, Bool.not_true, Bool.not_false] at *; omega))
(.path [1,1,1,1] (by kernel_rfl)
(.pf (by kernel_rfl) (by kernel_rfl) h3
(.path [1] (by kernel_rfl)
(.pf (by kernel_rfl) (by kernel_rfl) h4
(.path [1] (by kernel_rfl)
(.pt (by kernel_rfl) (by kernel_rfl) h6
(.path [0,1] (by kernel_rfl)
(.pf (by kernel_rfl) (by kernel_rfl) h7
(.pt (c := (cl_3 l0 n1 == n18)) (by kernel_rfl) (by kernel_rfl) (by (simp only [w64d, decide_eq_true_eq, decide_eq_false_iff_not, beq_iff_eq, beq_eq_false_iff_ne, bne_iff_ne, ne_eq, inR, Bool.and_eq_true, Bool.and_eq_false_iff, Bool.not_eq_true', Bool.not_eq_false', Bool.not_eq_eq_eq_not, Bool.not_true, Bool.not_false] at *; omega))
(.node (by kernel_rfl) (by kernel_rfl) (fun h11 =>
(.path [1,1] (by kernel_rfl)
(.node (by kernel_rfl) (by kernel_rfl) (fun h12 =>
(.path [1,1,1,1] (by kernel_rfl)
(.leaf (by kernel_rfl)))) (fun h12 =>
(.path [1,1,0,1] (by kernel_rfl)
(.node (by kernel_rfl) (by kernel_rfl) (fun h13 =>
(.path [1,1,0,1,1,1,1,1,1,1,1,1,1,1,1,1,0,1,1,0,1,0,1,1] (by kernel_rfl)
(.pf (c := (n3 != n3)) (by kernel_rfl) (by kernel_rfl) (by (simp [*]; done))
(.path [1] (by kernel_rfl)
(.node (by kernel_rfl) (by kernel_rfl) (fun h14 =>
(.path [1,1] (by kernel_rfl)
(.leaf (by kernel_rfl)))) (fun h14 =>
.none)))))) (fun h13 =>
.none))))))) (fun h11 =>
.none))))))))))))))))) (fun h9 =>
.none))) (fun h8 =>
(.path [0,1,1,0,1,1] (by kernel_rfl)
(.pt (c := (inR n1 (List.length l0))) (by kernel_rfl) (by kernel_rfl) (by (simp only [w64d, decide_eq_true_eq, decide_eq_false_iff_not, beq_iff_eq, beq_eq_false_iff_ne, bne_iff_ne, ne_eq, inR, Bool.and_eq_true, Bool.and_eq_false_iff, Bool.not_eq_true', Bool.not_eq_false', Bool.not_eq_eq_eq_not, Bool.not_true, Bool.not_false] at *; omega))
(.path [1,1,1,1] (by kernel_rfl)
(.pf (by kernel_rfl) (by kernel_rfl) h3
(.path [1] (by kernel_rfl)
(.pf (by kernel_rfl) (by kernel_rfl) h4
(.path [1] (by kernel_rfl)
(.pt (by kernel_rfl) (by kernel_rfl) h6
(.path [0,1] (by kernel_rfl)
(.pf (by kernel_rfl) (by kernel_rfl) h7
(.pf (c := (cl_3 l0 n1 == n18)) (by kernel_rfl) (by kernel_rfl) (by (simp only [w64d, decide_eq_true_eq, decide_eq_false_iff_not, beq_iff_eq, beq_eq_false_iff_ne, bne_iff_ne, ne_eq, inR, Bool.and_eq_true, Bool.and_eq_false_iff, Bool.not_eq_true', Bool.not_eq_false', Bool.not_eq_eq_eq_not, Bool.not_true, Bool.not_false] at *; omega))
(.path [0,1,0,1,1,0,1] (by kernel_rfl)
(.node (by kernel_rfl) (by kernel_rfl) (fun h9 =>
(.path [1,1,0,1,1,1,1,1,1,1,1,1,1,1,1,1,0,1,1,0,1,0,1,1] (by kernel_rfl)
(.pf (c := (n3 != n3)) (by kernel_rfl) (by kernel_rfl) (by (simp [*]; done))
(.path [1] (by kernel_rfl)
(.node (by kernel_rfl) (by kernel_rfl) (fun h10 =>
(.path [1,1] (by kernel_rfl)
(.leaf (by kernel_rfl)))) (fun h10 =>
.none)))))) (fun h9 =>
.none))))))))))))))))))))) (fun h6 =>
(.path [1,1] (by kernel_rfl)
(.pt (c := (inR n1 (List.length l0))) (by kernel_rfl) (by kernel_rfl) (by (simp only [w64d, decide_eq_true_eq, decide_eq_false_iff_not, beq_iff_eq, beq_eq_false_iff_ne, bne_iff_ne, ne_eq, inR, Bool.and_eq_true, Bool.and_eq_false_iff, Bool.not_eq_true', Bool.not_eq_false', Bool.not_eq_eq_eq_not, Bool.not_true, Bool.not_false] at *; omega))
(.path [1,1,1,1] (by kernel_rfl)
(.pf (by kernel_rfl) (by kernel_rfl) h3
(.path [1] (by kernel_rfl)
(.pf (by kernel_rfl) (by kernel_rfl) h4
(.path [1] (by kernel_rfl)
(.pf (by kernel_rfl) (by kernel_rfl) h6
(.path [1,1] (by kernel_rfl)
(.pt (by kernel_rfl) (by kernel_rfl) h0
(.path [1,1,1,0,1] (by kernel_rfl)
(.node (by kernel_rfl) (by kernel_rfl) (fun h7 =>
(.path [1,1,0,1,1,1,1,1,1,1,1,1,1,1,1,1,0,1,1,0,1,0,1,1] (by kernel_rfl)
(.pf (c := (n3 != n3)) (by kernel_rfl) (by kernel_rfl) (by (simp [*]; done))
(.path [1] (by kernel_rfl)
(.node (by kernel_rfl) (by kernel_rfl) (fun h8 =>
(.path [1,1] (by kernel_rfl)
(.leaf (by kernel_rfl)))) (fun h8 =>
.none)))))) (fun h7 =>
.none))))))))))))))))) (fun h5 =>
.none))))))))))))) (fun h1 =>
.none))))) (fun h0 =>
.none))))))

noncomputable def fn_L3_10_t010 : List Dat → Tree Step
  | [.l (Ty.pair (Ty.int IntKind.i64) (Ty.pair (Ty.int IntKind.i64) (Ty.pair (Ty.int IntKind.i64) (Ty.pair (Ty.int IntKind.u64) (Ty.pair (Ty.int IntKind.u32) (Ty.pair (Ty.int IntKind.u32) (Ty.sl (Ty.pair (Ty.int IntKind.u8) (Ty.int IntKind.i64))))))))) l0, .n n1, .n n2, .n n3, .b b4, .n n5, .n n6, .n n7, .l (Ty.pair (Ty.int IntKind.u8) (Ty.int IntKind.i64)) l8, .n n9, .n n10, .n n11, .l (Ty.pair (Ty.int IntKind.u8) (Ty.int IntKind.i64)) l12, .n n13, .n n14, .n n15, .l (Ty.pair (Ty.int IntKind.u8) (Ty.int IntKind.i64)) l16, .n n17, .n n18, .n n19] =>
    (.node (decide (List.length (cl_7 l0 n1) * 16 ≤ 140737488355328))
     (let r1 : Option (Nat × List Dat) := (op_12 [.n (cl_1 l0 n1), .n (3 : Int)]);
      (.node (isK 0 [HK.n] r1)
       (.node (gn (dOf r1) 0 == (0 : Int))
        (.node (decide ((cl_3 l0 n1 : Int) ≤ n3))
         (let r2 : Option (Nat × List Dat) := (op_16n [.n (0 : Int), .n (0 : Int), .n (0 : Int), .n (0 : Int), .n (0 : Int)]);
          (.node (isK 0 [] r2)
           (let r3 : Option (Nat × List Dat) := (op_16o [.n (cl_2 l0 n1), .n (cl_3 l0 n1), .n (cl_4 l0 n1), .n (cl_5 l0 n1), .n (cl_6 l0 n1), .l TCmd (cl_7 l0 n1)]);
            (.node (isK 0 [HK.l TCmd] r3)
             (.leaf (Step.go (.k 2 :: .l TCall l0 :: .n (IntKind.wrap .i64 (n1 + (1 : Int))) :: .n n2 :: .n n3 :: .b b4 :: .n n2 :: .n n3 :: .b false :: .n n5 :: .n n6 :: .n n7 :: .l TCmd l8 :: .b true :: .n n9 :: .n n10 :: .n n11 :: .l TCmd l12 :: .b false :: .n n17 :: .n n18 :: .n n13 :: .n n14 :: .n n15 :: .l TCmd l16 :: .b b4 :: .n n19 :: .n n3 :: .n n9 :: .n n10 :: .n n11 :: .l TCmd l12 :: [])))
             (.bad 351)))
           (.bad 351)))
         (let r2 : Option (Nat × List Dat) := (op_62 [.l TCmd (cl_7 l0 n1)]);
          (.node (isK 0 [HK.l TCmd] r2)
           (let r3 : Option (Nat × List Dat) := (op_62 [.l TCmd (gl TCmd (dOf r2) 0)]);
            (.node (isK 0 [HK.l TCmd] r3)
             (let r4 : Option (Nat × List Dat) := (op_30 [.n (cl_4 l0 n1), .n (cl_5 l0 n1), .n (cl_6 l0 n1), .l TCmd (gl TCmd (dOf r3) 0), .n (cl_4 l0 n1), .n (cl_5 l0 n1), .n (cl_6 l0 n1), .l TCmd (cl_7 l0 n1)]);
              (.node (isK 0 [HK.b] r4)
               (.node (!gb (dOf r4) 0)
                (.leaf (Step.stop 1 [.b false]))
                (let r5 : Option (Nat × List Dat) := (op_16o [.n n2, .n (cl_3 l0 n1), .n (cl_4 l0 n1), .n (cl_5 l0 n1), .n (cl_6 l0 n1), .l TCmd (gl TCmd (dOf r3) 0)]);
                 (.node (isK 0 [HK.l TCmd] r5)
                  (let r6 : Option (Nat × List Dat) := (op_16o [.n (cl_2 l0 n1), .n (cl_3 l0 n1), .n (cl_4 l0 n1), .n (cl_5 l0 n1), .n (cl_6 l0 n1), .l TCmd (cl_7 l0 n1)]);
                   (.node (isK 0 [HK.l TCmd] r6)
                    (let r7 : Option (Nat × List Dat) := (op_16n [.n (0 : Int), .n (0 : Int), .n (0 : Int), .n (0 : Int), .n (0 : Int)]);
                     (.node (isK 0 [] r7)
                      (.leaf (Step.go (.k 4 :: .l TCall l0 :: .n (IntKind.wrap .i64 (n1 + (1 : Int))) :: .n n2 :: .n (cl_3 l0 n1) :: .b false :: .n n2 :: .n (cl_3 l0 n1) :: .b true :: .n (cl_4 l0 n1) :: .n (cl_5 l0 n1) :: .n (cl_6 l0 n1) :: .l TCmd (cl_7 l0 n1) :: .b false :: .n (0 : Int) :: .n (0 : Int) :: .n (0 : Int) :: .l TCmd [] :: .b false :: .n n17 :: .n n18 :: .n n13 :: .n n14 :: .n n15 :: .l TCmd l16 :: .b false :: .n n2 :: .n (cl_3 l0 n1) :: .n (cl_4 l0 n1) :: .n (cl_5 l0 n1) :: .n (cl_6 l0 n1) :: .l TCmd (gl TCmd (dOf r2) 0) :: [])))
                      (.bad 351)))
                    (.bad 351)))
                  (.bad 351))))
               (.bad 351)))
             (.bad 351)))
           (.bad 351))))
        (.node (cl_2 l0 n1 != IntKind.wrap .i64 ((1 : Int) - n2))
         (let r2 : Option (Nat × List Dat) := (op_16o [.n (cl_2 l0 n1), .n (cl_3 l0 n1), .n (cl_4 l0 n1), .n (cl_5 l0 n1), .n (cl_6 l0 n1), .l TCmd (cl_7 l0 n1)]);
          (.node (isK 0 [HK.l TCmd] r2)
           (let r3 : Option (Nat × List Dat) := (op_16n [.n (0 : Int), .n (0 : Int), .n (0 : Int), .n (0 : Int), .n (0 : Int)]);
            (.node (isK 0 [] r3)
             (.leaf (Step.go (.k 2 :: .l TCall l0 :: .n (IntKind.wrap .i64 (n1 + (1 : Int))) :: .n n2 :: .n n3 :: .b b4 :: .n n2 :: .n n3 :: .b false :: .n n5 :: .n n6 :: .n n7 :: .l TCmd l8 :: .b true :: .n n9 :: .n n10 :: .n n11 :: .l TCmd l12 :: .b false :: .n n17 :: .n n18 :: .n n13 :: .n n14 :: .n n15 :: .l TCmd l16 :: .b b4 :: .n n19 :: .n n3 :: .n n9 :: .n n10 :: .n n11 :: .l TCmd l12 :: [])))
             (.bad 351)))
           (.bad 351)))
         (.node (decide ((cl_3 l0 n1 : Int) < n3))
          (let r2 : Option (Nat × List Dat) := (op_16o [.n (cl_2 l0 n1), .n (cl_3 l0 n1), .n (cl_4 l0 n1), .n (cl_5 l0 n1), .n (cl_6 l0 n1), .l TCmd (cl_7 l0 n1)]);
           (.node (isK 0 [HK.l TCmd] r2)
            (let r3 : Option (Nat × List Dat) := (op_16n [.n (0 : Int), .n (0 : Int), .n (0 : Int), .n (0 : Int), .n (0 : Int)]);
             (.node (isK 0 [] r3)
              (.leaf (Step.go (.k 2 :: .l TCall l0 :: .n (IntKind.wrap .i64 (n1 + (1 : Int))) :: .n n2 :: .n n3 :: .b b4 :: .n n2 :: .n n3 :: .b false :: .n n5 :: .n n6 :: .n n7 :: .l TCmd l8 :: .b true :: .n n9 :: .n n10 :: .n n11 :: .l TCmd l12 :: .b false :: .n n17 :: .n n18 :: .n n13 :: .n n14 :: .n n15 :: .l TCmd l16 :: .b b4 :: .n n19 :: .n n3 :: .n n9 :: .n n10 :: .n n11 :: .l TCmd l12 :: [])))
              (.bad 351)))
            (.bad 351)))
          (let r2 : Option (Nat × List Dat) := (op_62 [.l TCmd (cl_7 l0 n1)]);
           (.node (isK 0 [HK.l TCmd] r2)
            (.node (decide ((cl_3 l0 n1 : Int) > n3))
             (let r3 : Option (Nat × List Dat) := (op_16o [.n (cl_2 l0 n1), .n (cl_3 l0 n1), .n (cl_4 l0 n1), .n (cl_5 l0 n1), .n (cl_6 l0 n1), .l TCmd (cl_7 l0 n1)]);
              (.node (isK 0 [HK.l TCmd] r3)
               (let r4 : Option (Nat × List Dat) := (op_16n [.n (0 : Int), .n (0 : Int), .n (0 : Int), .n (0 : Int), .n (0 : Int)]);
                (.node (isK 0 [] r4)
                 (.leaf (Step.go (.k 3 :: .l TCall l0 :: .n (IntKind.wrap .i64 (n1 + (1 : Int))) :: .n n2 :: .n n3 :: .b b4 :: .n n2 :: .n n3 :: .b false :: .n n5 :: .n n6 :: .n n7 :: .l TCmd l8 :: .b true :: .n n9 :: .n n10 :: .n n11 :: .l TCmd l12 :: .b true :: .n (cl_2 l0 n1) :: .n (cl_3 l0 n1) :: .n (cl_4 l0 n1) :: .n (cl_5 l0 n1) :: .n (cl_6 l0 n1) :: .l TCmd (cl_7 l0 n1) :: .b b4 :: .n n19 :: .n n3 :: .n n9 :: .n n10 :: .n n11 :: .l TCmd l12 :: .n (cl_2 l0 n1) :: .n (cl_3 l0 n1) :: .n (cl_4 l0 n1) :: .n (cl_5 l0 n1) :: .n (cl_6 l0 n1) :: .l TCmd (gl TCmd (dOf r2) 0) :: [])))
                 (.bad 351)))
               (.bad 351)))
             (let r3 : Option (Nat × List Dat) := (op_29 [.n n9, .n n10, .n n11, .l TCmd l12, .n (cl_4 l0 n1), .n (cl_5 l0 n1), .n (cl_6 l0 n1), .l TCmd (gl TCmd (dOf r2) 0)]);
              (.node (isK 0 [HK.b] r3)
               (.node (gb (dOf r3) 0)
                (let r4 : Option (Nat × List Dat) := (op_30 [.n (cl_4 l0 n1), .n (cl_5 l0 n1), .n (cl_6 l0 n1), .l TCmd (cl_7 l0 n1), .n n9, .n n10, .n n11, .l TCmd l12]);
                 (.node (isK 0 [HK.b] r4)
                  (.node (gb (dOf r4) 0)
                   (let r5 : Option (Nat × List Dat) := (op_16o [.n (cl_2 l0 n1), .n (cl_3 l0 n1), .n (cl_4 l0 n1), .n (cl_5 l0 n1), .n (cl_6 l0 n1), .l TCmd (cl_7 l0 n1)]);
                    (.node (isK 0 [HK.l TCmd] r5)
                     (let r6 : Option (Nat × List Dat) := (op_16n [.n (0 : Int), .n (0 : Int), .n (0 : Int), .n (0 : Int), .n (0 : Int)]);
                      (.node (isK 0 [] r6)
                       (.leaf (Step.go (.k 2 :: .l TCall l0 :: .n (IntKind.wrap .i64 (n1 + (1 : Int))) :: .n n2 :: .n n3 :: .b b4 :: .n n2 :: .n n3 :: .b false :: .n n5 :: .n n6 :: .n n7 :: .l TCmd l8 :: .b true :: .n n9 :: .n n10 :: .n n11 :: .l TCmd l12 :: .b false :: .n n17 :: .n n18 :: .n n13 :: .n n14 :: .n n15 :: .l TCmd l16 :: .b b4 :: .n n19 :: .n n3 :: .n n9 :: .n n10 :: .n n11 :: .l TCmd l12 :: [])))
                       (.bad 351)))
                     (.bad 351)))
                   (.leaf (Step.stop 1 [.b false])))
                  (.bad 351)))
                (let r4 : Option (Nat × List Dat) := (op_30 [.n (cl_4 l0 n1), .n (cl_5 l0 n1), .n (cl_6 l0 n1), .l TCmd (cl_7 l0 n1), .n n9, .n n10, .n n11, .l TCmd l12]);
                 (.node (isK 0 [HK.b] r4)
                  (.node (gb (dOf r4) 0)
                   (.leaf (Step.stop 1 [.b false]))
                   (let r5 : Option (Nat × List Dat) := (op_16o [.n (cl_2 l0 n1), .n (cl_3 l0 n1), .n (cl_4 l0 n1), .n (cl_5 l0 n1), .n (cl_6 l0 n1), .l TCmd (cl_7 l0 n1)]);
                    (.node (isK 0 [HK.l TCmd] r5)
                     (let r6 : Option (Nat × List Dat) := (op_16n [.n (0 : Int), .n (0 : Int), .n (0 : Int), .n (0 : Int), .n (0 : Int)]);
                      (.node (isK 0 [] r6)
                       (.leaf (Step.go (.k 2 :: .l TCall l0 :: .n (IntKind.wrap .i64 (n1 + (1 : Int))) :: .n n2 :: .n n3 :: .b true :: .n n2 :: .n n3 :: .b false :: .n n5 :: .n n6 :: .n n7 :: .l TCmd l8 :: .b true :: .n n9 :: .n n10 :: .n n11 :: .l TCmd l12 :: .b false :: .n n17 :: .n n18 :: .n n13 :: .n n14 :: .n n15 :: .l TCmd l16 :: .b true :: .n n19 :: .n n3 :: .n n9 :: .n n10 :: .n n11 :: .l TCmd l12 :: [])))
                       (.bad 351)))
                     (.bad 351))))
                  (.bad 351))))
               (.bad 351))))
            (.bad 351))))))
       (.bad 351)))
     (.bad 60))
  | _ => .bad 0
theorem fn_L3_10_t010_im (l0 : List (Ty.den TCall)) (n1 : Int) (n2 : Int) (n3 : Int) (b4 : Bool) (n5 : Int) (n6 : Int) (n7 : Int) (l8 : List (Ty.den TCmd)) (n9 : Int) (n10 : Int) (n11 : Int) (l12 : List (Ty.den TCmd)) (n13 : Int) (n14 : Int) (n15 : Int) (l16 : List (Ty.den TCmd)) (n17 : Int) (n18 : Int) (n19 : Int) (g0 : 0 ≤ n1) (g1 :  n1 < (l0.length : Int)) : Imp (fn_L3_10_t010 [.l TCall l0, .n n1, .n n2, .n n3, .b b4, .n n5, .n n6, .n n7, .l TCmd l8, .n n9, .n n10, .n n11, .l TCmd l12, .n n13, .n n14, .n n15, .l TCmd l16, .n n17, .n n18, .n n19]) (st_L3_10 [.k 2, .l TCall l0, .n n1, .n n2, .n n3, .b b4, .n n2, .n n3, .b false, .n n5, .n n6, .n n7, .l TCmd l8, .b true, .n n9, .n n10, .n n11, .l TCmd l12, .b false, .n n17, .n n18, .n n13, .n n14, .n n15, .l TCmd l16, .b b4, .n n19, .n n3, .n n9, .n n10, .n n11, .l TCmd l12]) :=
(.path [1] (by kernel_rfl)
(.pt (c := (decide (n1 < (↑(List.length l0) : Int)))) (by kernel_rfl) (by kernel_rfl) (by (simp [*]; done))
(.pt (c := (inR n1 (List.length l0))) (by kernel_rfl) (by kernel_rfl) (by (simp only [w64d, decide_eq_true_eq, decide_eq_false_iff_not, beq_iff_eq, beq_eq_false_iff_ne, bne_iff_ne, ne_eq, inR, Bool.and_eq_true, Bool.and_eq_false_iff, Bool.not_eq_true', Bool.not_eq_false', Bool.not_eq_eq_eq_not, Bool.not_true, Bool.not_false] at *; omega))
(.path [1] (by kernel_rfl)
(.node (by kernel_rfl) (by kernel_rfl) (fun h0 =>
(.path [1] (by kernel_rfl)
(.pt (c := (inR n1 (List.length l0))) (by kernel_rfl) (by kernel_rfl) (by (simp only [w64d, decide_eq_true_eq, decide_eq_false_iff_not, beq_iff_eq, beq_eq_false_iff_ne, bne_iff_ne, ne_eq, inR, Bool.and_eq_true, Bool.and_eq_false_iff, Bool.not_eq_true', Bool.not_eq_false', Bool.not_eq_eq_eq_not, Bool.not_true, Bool.not_false] at *; omega))
(.node (by kernel_rfl) (by kernel_rfl) (fun h1 =>
(.path [1] (by kernel_rfl)
(.node (by kernel_rfl) (by kernel_rfl) (fun h2 =>
(.path [1,0] (by kernel_rfl)
(.node (by kernel_rfl) (by kernel_rfl) (fun h3 =>
(.path [1] (by kernel_rfl)
(.pt (c := (inR n1 (List.length l0))) (by kernel_rfl) (by kernel_rfl) (by (simp only [w64d, decide_eq_true_eq, decide_eq_false_iff_not, beq_iff_eq, beq_eq_false_iff_ne, bne_iff_ne, ne_eq, inR, Bool.and_eq_true, Bool.and_eq_false_iff, Bool.not_eq_true', Bool.not_eq_false', Bool.not_eq_eq_eq_not, Bool.not_true, Bool.not_false] at *; omega))
(.pt (c := (inR n1 (List.length l0))) (by kernel_rfl) (by kernel_rfl) (by (simp only [w64d, decide_eq_true_eq, decide_eq_false_iff_not, beq_iff_eq, beq_eq_false_iff_ne, bne_iff_ne, ne_eq, inR, Bool.and_eq_true, Bool.and_eq_false_iff, Bool.not_eq_true', Bool.not_eq_false', Bool.not_eq_eq_eq_not, Bool.not_true, Bool.not_false] at *; omega))
(.path [1] (by kernel_rfl)
(.pt (by kernel_rfl) (by kernel_rfl) h3
(.path [1,1,0,1,1,1,1,1,1,0,1] (by kernel_rfl)
(.node (by kernel_rfl) (by kernel_rfl) (fun h4 =>
(.path [1,1] (by kernel_rfl)
(.node (by kernel_rfl) (by kernel_rfl) (fun h5 =>
(.path [1,1,0,1,1,1,1,1,1,1,1,1,1,1,1,1,0,1,1,0,1,0,1,1] (by kernel_rfl)
(.pf (c := (n3 != n3)) (by kernel_rfl) (by kernel_rfl) (by (simp [*]; done))
(.path [1] (by kernel_rfl)
(.pt (by kernel_rfl) (by kernel_rfl) h4
(.path [1,1] (by kernel_rfl)
(.leaf (by kernel_rfl)))))))) (fun h5 =>
.none)))) (fun h4 =>
.none))))))))) (fun h3 =>
(.path [1] (by kernel_rfl)
(.node (by kernel_rfl) (by kernel_rfl) (fun h4 =>
(.path [1,1,1,0,0,0,1] (by kernel_rfl)
(.node (by kernel_rfl) (by kernel_rfl) (fun h5 =>
(.path [1,1,1] (by kernel_rfl)
(.pt (c := (inR n1 (List.length l0))) (by kernel_rfl) (by kernel_rfl) (by (simp only [w64d, decide_eq_true_eq, decide_eq_false_iff_not, beq_iff_eq, beq_eq_false_iff_ne, bne_iff_ne, ne_eq, inR, Bool.and_eq_true, Bool.and_eq_false_iff, Bool.not_eq_true', Bool.not_eq_false', Bool.not_eq_eq_eq_not, Bool.not_true, Bool.not_false] at *; omega))
(.pt (c := (inR n1 (List.length l0))) (by kernel_rfl) (by kernel_rfl) (by (simp only [w64d, decide_eq_true_eq, decide_eq_false_iff_not, beq_iff_eq, beq_eq_false_iff_ne, bne_iff_ne, ne_eq, inR, Bool.and_eq_true, Bool.and_eq_false_iff, Bool.not_eq_true', Bool.not_eq_false', Bool.not_eq_eq_eq_not, Bool.not_true, Bool.not_false] at *; omega))
(.path [1] (by kernel_rfl)
(.pf (by kernel_rfl) (by kernel_rfl) h3
(.path [1] (by kernel_rfl)
(.pt (by kernel_rfl) (by kernel_rfl) h0
(.path [1,0,0,0,0,0,1] (by kernel_rfl)
(.pt (by kernel_rfl) (by kernel_rfl) h0
(.path [1,1,1,1,0,1] (by kernel_rfl)
(.pt (c := (n2 == n2)) (by kernel_rfl) (by kernel_rfl) (by (simp [*]; done))
(.pt (c := (cl_3 l0 n1 == cl_3 l0 n1)) (by kernel_rfl) (by kernel_rfl) (by (simp [*]; done))
(.node (by kernel_rfl) (by kernel_rfl) (fun h6 =>
(.path [1,1] (by kernel_rfl)
(.node (by kernel_rfl) (by kernel_rfl) (fun h7 =>
(.path [1] (by kernel_rfl)
(.leaf (by kernel_rfl)))) (fun h7 =>
(.path [1] (by kernel_rfl)
(.node (by kernel_rfl) (by kernel_rfl) (fun h8 =>
(.path [1,1] (by kernel_rfl)
(.node (by kernel_rfl) (by kernel_rfl) (fun h9 =>
(.path [1,1,0,0,1,1,1,1,1,0,1,1,1,1,0,1,1,0,1,0,1,1] (by kernel_rfl)
(.pf (c := (cl_3 l0 n1 != cl_3 l0 n1)) (by kernel_rfl) (by kernel_rfl) (by (simp [*]; done))
(.path [1] (by kernel_rfl)
(.node (by kernel_rfl) (by kernel_rfl) (fun h10 =>
(.path [1,1] (by kernel_rfl)
(.leaf (by kernel_rfl)))) (fun h10 =>
.none)))))) (fun h9 =>
.none)))) (fun h8 =>
.none))))))) (fun h6 =>
.none))))))))))))))) (fun h5 =>
.none)))) (fun h4 =>
.none))))))) (fun h2 =>
(.path [1,0,0,1] (by kernel_rfl)
(.node (by kernel_rfl) (by kernel_rfl) (fun h3 =>
(.path [1] (by kernel_rfl)
(.pt (c := (inR n1 (List.length l0))) (by kernel_rfl) (by kernel_rfl) (by (simp only [w64d, decide_eq_true_eq, decide_eq_false_iff_not, beq_iff_eq, beq_eq_false_iff_ne, bne_iff_ne, ne_eq, inR, Bool.and_eq_true, Bool.and_eq_false_iff, Bool.not_eq_true', Bool.not_eq_false', Bool.not_eq_eq_eq_not, Bool.not_true, Bool.not_false] at *; omega))
(.path [1,1,1,1] (by kernel_rfl)
(.pt (by kernel_rfl) (by kernel_rfl) h3
(.path [1,1,0,1] (by kernel_rfl)
(.node (by kernel_rfl) (by kernel_rfl) (fun h4 =>
(.path [1,1,0,1,1,1,1,1,1,1,1,1,1,1,1,1,0,1,1,0,1,0,1,1] (by kernel_rfl)
(.pf (c := (n3 != n3)) (by kernel_rfl) (by kernel_rfl) (by (simp [*]; done))
(.path [1] (by kernel_rfl)
(.node (by kernel_rfl) (by kernel_rfl) (fun h5 =>
(.path [1,1] (by kernel_rfl)
(.leaf (by kernel_rfl)))) (fun h5 =>
.none)))))) (fun h4 =>
.none)))))))) (fun h3 =>
(.path [1] (by kernel_rfl)
(.node (by kernel_rfl) (by kernel_rfl) (fun h4 =>
(.path [1] (by kernel_rfl)
(.pt (c := (inR n1 (List.length l0))) (by kernel_rfl) (by kernel_rfl) (by (simp only [w64d, decide_eq_true_eq, decide_eq_false_iff_not, beq_iff_eq, beq_eq_false_iff_ne, bne_iff_ne, ne_eq, inR, Bool.and_eq_true, Bool.and_eq_false_iff, Bool.not_eq_true', Bool.not_eq_false', Bool.not_eq_eq_eq_not, Bool.not_true, Bool.not_false] at *; omega))
(.path [1,1,1,1] (by kernel_rfl)
(.pf (by kernel_rfl) (by kernel_rfl) h3
(.path [1] (by kernel_rfl)
(.pt (by kernel_rfl) (by kernel_rfl) h4
(.path [1,1,0,1] (by kernel_rfl)
(.node (by kernel_rfl) (by kernel_rfl) (fun h5 =>
(.path [1,1,0,1,1,1,1,1,1,1,1,1,1,1,1,1,0,1,1,0,1,0,1,1] (by kernel_rfl)
(.pf (c := (n3 != n3)) (by kernel_rfl) (by kernel_rfl) (by (simp [*]; done))
(.path [1] (by kernel_rfl)
(.node (by kernel_rfl) (by kernel_rfl) (fun h6 =>
(.path [1,1] (by kernel_rfl)
(.leaf (by kernel_rfl)))) (fun h6 =>
.none)))))) (fun h5 =>
.none)))))))))) (fun h4 =>
(.path [1] (by kernel_rfl)
(.node (by kernel_rfl) (by kernel_rfl) (fun h5 =>
(.path [1,1,1] (by kernel_rfl)
(.node (by kernel_rfl) (by kernel_rfl) (fun h6 =>
(.path [1,1,1,1,1,1,1] (by kernel_rfl)
(.pt (c := (inR n1 (List.length l0))) (by kernel_rfl) (by kernel_rfl) (by (simp only [w64d, decide_eq_true_eq, decide_eq_false_iff_not, beq_iff_eq, beq_eq_false_iff_ne, bne_iff_ne, ne_eq, inR, Bool.and_eq_true, Bool.and_eq_false_iff, Bool.not_eq_true', Bool.not_eq_false', Bool.not_eq_eq_eq_not, Bool.not_true, Bool.not_false] at *; omega))
(.path [1,1,1,1] (by kernel_rfl)
(.pf (by kernel_rfl) (by kernel_rfl) h3
(.path [1] (by kernel_rfl)
(.pf (by kernel_rfl) (by kernel_rfl) h4
(.path [1] (by kernel_rfl)
(.pt (by kernel_rfl) (by kernel_rfl) h6
(.path [1,1,1,1,1] (by kernel_rfl)
(.pt (by kernel_rfl) (by kernel_rfl) h0
(.path [1,1,1,1,0,1] (by kernel_rfl)
(.node (by kernel_rfl) (by kernel_rfl) (fun h7 =>
(.path [1,1,0,1,1,1,1,1,1,1,1,1,1,1,1,1,0,1,1,0,1,0,1,1] (by kernel_rfl)
(.pf (c := (n3 != n3)) (by kernel_rfl) (by kernel_rfl) (by (simp [*]; done))
(.path [1] (by kernel_rfl)
(.node (by kernel_rfl) (by kernel_rfl) (fun h8 =>
(.path [1,1] (by kernel_rfl)
(.leaf (by kernel_rfl)))) (fun h8 =>
.none)))))) (fun h7 =>
.none)))))))))))))) (fun h6 =>
(.path [0,1] (by kernel_rfl)
(.pt (c := (n3 == cl_3 l0 n1)) (by kernel_rfl) (by kernel_rfl) (by (simp only [w64d, decide_eq_true_eq, decide_eq_false_iff_not, beq_iff_eq, beq_eq_false_iff_ne, bne_iff_ne, ne_eq, inR, Bool.and_eq_true, Bool.and_eq_false_iff, Bool.not_eq_true', Bool.not_eq_false', Bool.not_eq_eq_eq_not, Bool.not_true, Bool.not_false] at *; omega))
(.node (by kernel_rfl) (by kernel_rfl) (fun h7 =>
(.path [1,1,1] (by kernel_rfl)
(.node (by kernel_rfl) (by kernel_rfl) (fun h8 =>
(.path [1] (by kernel_rfl)
(.pt (c := (inR n1 (List.length l0))) (by kernel_rfl) (by kernel_rfl) (by (simp only [w64d, decide_eq_true_eq, decide_eq_false_iff_not, beq_iff_eq, beq_eq_false_iff_ne, bne_iff_ne, ne_eq, inR, Bool.and_eq_true, Bool.and_eq_false_iff, Bool.not_eq_true', Bool.not_eq_false', Bool.not_eq_eq_eq_not, Bool.not_true, Bool.not_false] at *; omega))
(.path [1,1,1,1] (by kernel_rfl)
(.pf (by kernel_rfl) (by kernel_rfl) h3
(.path [1] (by kernel_rfl)
(.pf (by kernel_rfl) (by kernel_rfl) h4
(.path [1] (by kernel_rfl)
(.pf (by kernel_rfl) (by kernel_rfl) h6
(.path [0] (by kernel_rfl)
(.node (by kernel_rfl) (by kernel_rfl) (fun h9 =>
(.path [1,1] (by kernel_rfl)
(.node (by kernel_rfl) (by kernel_rfl) (fun h10 =>
(.path [1,1,0,1] (by kernel_rfl)
(.node (by kernel_rfl) (by kernel_rfl) (fun h11 =>
(.path [1,1,0,1,1,1,1,1,1,1,1,1,1,1,1,1,0,1,1,0,1,0,1,1] (by kernel_rfl)
(.pf (c := (n3 != n3)) (by kernel_rfl) (by kernel_rfl) (by (simp [*]; done))
(.path [1] (by kernel_rfl)
(.node (by kernel_rfl) (by kernel_rfl) (fun h12 =>
(.path [1,1] (by kernel_rfl)
(.leaf (by kernel_rfl)))) (fun h12 =>
.none)))))) (fun h11 =>
.none)))) (fun h10 =>
(.path [1,1,1,1] (by kernel_rfl)
(.leaf (by kernel_rfl))))))) (fun h9 =>
.none)))))))))))) (fun h8 =>
(.path [1] (by kernel_rfl)
(.pt (c := (inR n1 (List.length l0))) (by kernel_rfl) (by kernel_rfl) (by (simp only [w64d, decide_eq_true_eq, decide_eq_false_iff_not, beq_iff_eq, beq_eq_false_iff_ne, bne_iff_ne, ne_eq, inR, Bool.and_eq_true, Bool.and_eq_false_iff, Bool.not_eq_true', Bool.not_eq_false', Bool.not_eq_eq_eq_not, Bool.not_true, Bool.not_false] at *; omega))
(.path [1,1,1,1] (by kernel_rfl)
(.pf (by kernel_rfl) (by kernel_rfl) h3
(.path [1] (by kernel_rfl)
(.pf (by kernel_rfl) (by kernel_rfl) h4
(.path [1] (by kernel_rfl)
(.pf (by kernel_rfl) (by kernel_rfl) h6
(.path [0] (by kernel_rfl)
(.node (by kernel_rfl) (by kernel_rfl) (fun h9 =>
(.path [1,1] (by kernel_rfl)
(.node (by kernel_rfl) (by kernel_rfl) (fun h10 =>
(.path [1,1,1,1] (by kernel_rfl)
(.leaf (by kernel_rfl)))) (fun h10 =>
(.path [1,1,0,1] (by kernel_rfl)
(.node (by kernel_rfl) (by kernel_rfl) (fun h11 =>
(.path [1,1,0,1,1,1,1,1,1,1,1,1,1,1,1,1,0,1,1,0,1,0,1,1] (by kernel_rfl)
(.pf (c := (n3 != n3)) (by kernel_rfl) (by kernel_rfl) (by (simp [*]; done))
(.path [1] (by kernel_rfl)
(.node (by kernel_rfl) (by kernel_rfl) (fun h12 =>
(.path [1,1] (by kernel_rfl)
(.leaf (by kernel_rfl)))) (fun h12 =>
.none)))))) (fun h11 =>
.none))))))) (fun h9 =>
.none))))))))))))))) (fun h7 =>
.none)))))))) (fun h5 =>
.none))))))))))))) (fun h1 =>
.none))))) (fun h0 =>
.none))))))


noncomputable def fn_L3_10_t100 : List Dat → Tree Step
  | [.l (Ty.pair (Ty.int IntKind.i64) (Ty.pair (Ty.int IntKind.i64) (Ty.pair (Ty.int IntKind.i64) (Ty.pair (Ty.int IntKind.u64) (Ty.pair (Ty.int IntKind.u32) (Ty.pair (Ty.int IntKind.u32) (Ty.sl (Ty.pair (Ty.int IntKind.u8) (Ty.int IntKind.i64))))))))) l0, .n n1, .n n2, .n n3, .b b4, .n n5, .n n6, .n n7, .l (Ty.pair (Ty.int IntKind.u8) (Ty.int IntKind.i64)) l8, .n n9, .n n10, .n n11, .l (Ty.pair (Ty.int IntKind.u8) (Ty.int IntKind.i64)) l12, .n n13, .n n14, .n n15, .l (Ty.pair (Ty.int IntKind.u8) (Ty.int IntKind.i64)) l16, .n n17, .n n18, .n n19, .n n20] =>
    (.node (decide (List.length (cl_7 l0 n1) * 16 ≤ 140737488355328))
     (let r1 : Option (Nat × List Dat) := (op_12 [.n (cl_1 l0 n1), .n (3 : Int)]);
      (.node (isK 0 [HK.n] r1)
       (.node (gn (dOf r1) 0 == (0 : Int))
        (.node (decide ((cl_3 l0 n1 : Int) ≤ n3))
         (let r2 : Option (Nat × List Dat) := (op_16n [.n (0 : Int), .n (0 : Int), .n (0 : Int), .n (0 : Int), .n (0 : Int)]);
          (.node (isK 0 [] r2)
           (let r3 : Option (Nat × List Dat) := (op_16o [.n (cl_2 l0 n1), .n (cl_3 l0 n1), .n (cl_4 l0 n1), .n (cl_5 l0 n1), .n (cl_6 l0 n1), .l TCmd (cl_7 l0 n1)]);
            (.node (isK 0 [HK.l TCmd] r3)
             (.leaf (Step.go (.k 4 :: .l TCall l0 :: .n (IntKind.wrap .i64 (n1 + (1 : Int))) :: .n n2 :: .n n3 :: .b b4 :: .n n2 :: .n n3 :: .b true :: .n n5 :: .n n6 :: .n n7 :: .l TCmd l8 :: .b false :: .n n9 :: .n n10 :: .n n11 :: .l TCmd l12 :: .b false :: .n n17 :: .n n18 :: .n n13 :: .n n14 :: .n n15 :: .l TCmd l16 :: .b b4 :: .n n19 :: .n n20 :: .n n5 :: .n n6 :: .n n7 :: .l TCmd l8 :: [])))
             (.bad 351)))
           (.bad 351)))
         (let r2 : Option (Nat × List Dat) := (op_62 [.l TCmd (cl_7 l0 n1)]);
          (.node (isK 0 [HK.l TCmd] r2)
           (let r3 : Option (Nat × List Dat) := (op_62 [.l TCmd (gl TCmd (dOf r2) 0)]);
            (.node (isK 0 [HK.l TCmd] r3)
             (let r4 : Option (Nat × List Dat) := (op_30 [.n (cl_4 l0 n1), .n (cl_5 l0 n1), .n (cl_6 l0 n1), .l TCmd (gl TCmd (dOf r3) 0), .n (cl_4 l0 n1), .n (cl_5 l0 n1), .n (cl_6 l0 n1), .l TCmd (cl_7 l0 n1)]);
              (.node (isK 0 [HK.b] r4)
               (.node (!gb (dOf r4) 0)
                (.leaf (Step.stop 1 [.b false]))
                (let r5 : Option (Nat × List Dat) := (op_16o [.n n2, .n (cl_3 l0 n1), .n (cl_4 l0 n1), .n (cl_5 l0 n1), .n (cl_6 l0 n1), .l TCmd (gl TCmd (dOf r3) 0)]);
                 (.node (isK 0 [HK.l TCmd] r5)
                  (let r6 : Option (Nat × List Dat) := (op_16o [.n (cl_2 l0 n1), .n (cl_3 l0 n1), .n (cl_4 l0 n1), .n (cl_5 l0 n1), .n (cl_6 l0 n1), .l TCmd (cl_7 l0 n1)]);
                   (.node (isK 0 [HK.l TCmd] r6)
                    (let r7 : Option (Nat × List Dat) := (op_16n [.n (0 : Int), .n (0 : Int), .n (0 : Int), .n (0 : Int), .n (0 : Int)]);
                     (.node (isK 0 [] r7)
                      (.leaf (Step.go (.k 4 :: .l TCall l0 :: .n (IntKind.wrap .i64 (n1 + (1 : Int))) :: .n n2 :: .n (cl_3 l0 n1) :: .b false :: .n n2 :: .n (cl_3 l0 n1) :: .b true :: .n (cl_4 l0 n1) :: .n (cl_5 l0 n1) :: .n (cl_6 l0 n1) :: .l TCmd (cl_7 l0 n1) :: .b false :: .n (0 : Int) :: .n (0 : Int) :: .n (0 : Int) :: .l TCmd [] :: .b false :: .n n17 :: .n n18 :: .n n13 :: .n n14 :: .n n15 :: .l TCmd l16 :: .b false :: .n n2 :: .n (cl_3 l0 n1) :: .n (cl_4 l0 n1) :: .n (cl_5 l0 n1) :: .n (cl_6 l0 n1) :: .l TCmd (gl TCmd (dOf r2) 0) :: [])))
                      (.bad 351)))
                    (.bad 351)))
                  (.bad 351))))
               (.bad 351)))
             (.bad 351)))
           (.bad 351))))
        (.node (cl_2 l0 n1 != IntKind.wrap .i64 ((1 : Int) - n2))
         (let r2 : Option (Nat × List Dat) := (op_16o [.n (cl_2 l0 n1), .n (cl_3 l0 n1), .n (cl_4 l0 n1), .n (cl_5 l0 n1), .n (cl_6 l0 n1), .l TCmd (cl_7 l0 n1)]);
          (.node (isK 0 [HK.l TCmd] r2)
           (let r3 : Option (Nat × List Dat) := (op_16n [.n (0 : Int), .n (0 : Int), .n (0 : Int), .n (0 : Int), .n (0 : Int)]);
            (.node (isK 0 [] r3)
             (.leaf (Step.go (.k 4 :: .l TCall l0 :: .n (IntKind.wrap .i64 (n1 + (1 : Int))) :: .n n2 :: .n n3 :: .b b4 :: .n n2 :: .n n3 :: .b true :: .n n5 :: .n n6 :: .n n7 :: .l TCmd l8 :: .b false :: .n n9 :: .n n10 :: .n n11 :: .l TCmd l12 :: .b false :: .n n17 :: .n n18 :: .n n13 :: .n n14 :: .n n15 :: .l TCmd l16 :: .b b4 :: .n n19 :: .n n20 :: .n n5 :: .n n6 :: .n n7 :: .l TCmd l8 :: [])))
             (.bad 351)))
           (.bad 351)))
         (.node (decide ((cl_3 l0 n1 : Int) < n3))
          (let r2 : Option (Nat × List Dat) := (op_16o [.n (cl_2 l0 n1), .n (cl_3 l0 n1), .n (cl_4 l0 n1), .n (cl_5 l0 n1), .n (cl_6 l0 n1), .l TCmd (cl_7 l0 n1)]);
           (.node (isK 0 [HK.l TCmd] r2)
            (let r3 : Option (Nat × List Dat) := (op_16n [.n (0 : Int), .n (0 : Int), .n (0 : Int), .n (0 : Int), .n (0 : Int)]);
             (.node (isK 0 [] r3)
              (.leaf (Step.go (.k 4 :: .l TCall l0 :: .n (IntKind.wrap .i64 (n1 + (1 : Int))) :: .n n2 :: .n n3 :: .b b4 :: .n n2 :: .n n3 :: .b true :: .n n5 :: .n n6 :: .n n7 :: .l TCmd l8 :: .b false :: .n n9 :: .n n10 :: .n n11 :: .l TCmd l12 :: .b false :: .n n17 :: .n n18 :: .n n13 :: .n n14 :: .n n15 :: .l TCmd l16 :: .b b4 :: .n n19 :: .n n20 :: .n n5 :: .n n6 :: .n n7 :: .l TCmd l8 :: [])))
              (.bad 351)))
            (.bad 351)))
          (let r2 : Option (Nat × List Dat) := (op_62 [.l TCmd (cl_7 l0 n1)]);
           (.node (isK 0 [HK.l TCmd] r2)
            (.node (decide ((cl_3 l0 n1 : Int) > n3))
             (let r3 : Option (Nat × List Dat) := (op_16o [.n (cl_2 l0 n1), .n (cl_3 l0 n1), .n (cl_4 l0 n1), .n (cl_5 l0 n1), .n (cl_6 l0 n1), .l TCmd (cl_7 l0 n1)]);
              (.node (isK 0 [HK.l TCmd] r3)
               (let r4 : Option (Nat × List Dat) := (op_16n [.n (0 : Int), .n (0 : Int), .n (0 : Int), .n (0 : Int), .n (0 : Int)]);
                (.node (isK 0 [] r4)
                 (.leaf (Step.go (.k 5 :: .l TCall l0 :: .n (IntKind.wrap .i64 (n1 + (1 : Int))) :: .n n2 :: .n n3 :: .b b4 :: .n n2 :: .n n3 :: .b true :: .n n5 :: .n n6 :: .n n7 :: .l TCmd l8 :: .b false :: .n n9 :: .n n10 :: .n n11 :: .l TCmd l12 :: .b true :: .n (cl_2 l0 n1) :: .n (cl_3 l0 n1) :: .n (cl_4 l0 n1) :: .n (cl_5 l0 n1) :: .n (cl_6 l0 n1) :: .l TCmd (cl_7 l0 n1) :: .b b4 :: .n n19 :: .n n20 :: .n n5 :: .n n6 :: .n n7 :: .l TCmd l8 :: .n (cl_2 l0 n1) :: .n (cl_3 l0 n1) :: .n (cl_4 l0 n1) :: .n (cl_5 l0 n1) :: .n (cl_6 l0 n1) :: .l TCmd (gl TCmd (dOf r2) 0) :: [])))
                 (.bad 351)))
               (.bad 351)))
             (let r3 : Option (Nat × List Dat) := (op_16o [.n (cl_2 l0 n1), .n (cl_3 l0 n1), .n (cl_4 l0 n1), .n (cl_5 l0 n1), .n (cl_6 l0 n1), .l TCmd (cl_7 l0 n1)]);
              (.node (isK 0 [HK.l TCmd] r3)
               (.node (b4)
                (let r4 : Option (Nat × List Dat) := (op_16n [.n (0 : Int), .n (0 : Int), .n (0 : Int), .n (0 : Int), .n (0 : Int)]);
                 (.node (isK 0 [] r4)
                  (.leaf (Step.go (.k 6 :: .l TCall l0 :: .n (IntKind.wrap .i64 (n1 + (1 : Int))) :: .n n2 :: .n n3 :: .b b4 :: .n n2 :: .n n3 :: .b true :: .n n5 :: .n n6 :: .n n7 :: .l TCmd l8 :: .b true :: .n (cl_4 l0 n1) :: .n (cl_5 l0 n1) :: .n (cl_6 l0 n1) :: .l TCmd (cl_7 l0 n1) :: .b false :: .n n17 :: .n n18 :: .n n13 :: .n n14 :: .n n15 :: .l TCmd l16 :: .b b4 :: .n n19 :: .n n20 :: .n n5 :: .n n6 :: .n n7 :: .l TCmd l8 :: .n (cl_2 l0 n1) :: .n (cl_3 l0 n1) :: .n (cl_4 l0 n1) :: .n (cl_5 l0 n1) :: .n (cl_6 l0 n1) :: .l TCmd (gl TCmd (dOf r2) 0) :: [])))
                  (.bad 351)))
                (let r4 : Option (Nat × List Dat) := (op_31 [.n n5, .n n6, .n n7, .l TCmd l8, .n (cl_4 l0 n1), .n (cl_5 l0 n1), .n (cl_6 l0 n1), .l TCmd (gl TCmd (dOf r2) 0)]);
                 (.node (isK 0 [HK.n, HK.n, HK.n, HK.l TCmd] r4)
                  (let r5 : Option (Nat × List Dat) := (op_32 [.n n5, .n n6, .n n7, .l TCmd l8, .n (cl_4 l0 n1), .n (cl_5 l0 n1), .n (cl_6 l0 n1), .l TCmd (cl_7 l0 n1)]);
                   (.node (isK 0 [HK.n, HK.n, HK.n, HK.l TCmd] r5)
                    (let r6 : Option (Nat × List Dat) := (op_30 [.n (gn (dOf r4) 0), .n (gn (dOf r4) 1), .n (gn (dOf r4) 2), .l TCmd (gl TCmd (dOf r4) 3), .n (gn (dOf r5) 0), .n (gn (dOf r5) 1), .n (gn (dOf r5) 2), .l TCmd (gl TCmd (dOf r5) 3)]);
                     (.node (isK 0 [HK.b] r6)
                      (.node (!gb (dOf r6) 0)
                       (.leaf (Step.stop 1 [.b false]))
                       (let r7 : Option (Nat × List Dat) := (op_16o [.n (0 : Int), .n (0 : Int), .n (gn (dOf r4) 0), .n (gn (dOf r4) 1), .n (gn (dOf r4) 2), .l TCmd (gl TCmd (dOf r4) 3)]);
                        (.node (isK 0 [HK.l TCmd] r7)
                         (.leaf (Step.go (.k 6 :: .l TCall l0 :: .n (IntKind.wrap .i64 (n1 + (1 : Int))) :: .n n2 :: .n n3 :: .b b4 :: .n n2 :: .n n3 :: .b true :: .n n5 :: .n n6 :: .n n7 :: .l TCmd l8 :: .b true :: .n (cl_4 l0 n1) :: .n (cl_5 l0 n1) :: .n (cl_6 l0 n1) :: .l TCmd (cl_7 l0 n1) :: .b false :: .n n17 :: .n n18 :: .n n13 :: .n n14 :: .n n15 :: .l TCmd l16 :: .b b4 :: .n n19 :: .n n20 :: .n n5 :: .n n6 :: .n n7 :: .l TCmd l8 :: .n (cl_2 l0 n1) :: .n (cl_3 l0 n1) :: .n (cl_4 l0 n1) :: .n (cl_5 l0 n1) :: .n (cl_6 l0 n1) :: .l TCmd (gl TCmd (dOf r2) 0) :: [])))
                         (.bad 351))))
                      (.bad 351)))
                    (.bad 351)))
                  (.bad 351))))
               (.bad 351))))
            (.bad 351))))))
       (.bad 351)))
     (.bad 60))
  | _ => .bad 0
theorem fn_L3_10_t100_im (l0 : List (Ty.den TCall)) (n1 : Int) (n2 : Int) (n3 : Int) (b4 : Bool) (n5 : Int) (n6 : Int) (n7 : Int) (l8 : List (Ty.den TCmd)) (n9 : Int) (n10 : Int) (n11 : Int) (l12 : List (Ty.den TCmd)) (n13 : Int) (n14 : Int) (n15 : Int) (l16 : List (Ty.den TCmd)) (n17 : Int) (n18 : Int) (n19 : Int) (n20 : Int) (g0 : 0 ≤ n1) (g1 :  n1 < (l0.length : Int)) : Imp (fn_L3_10_t100 [.l TCall l0, .n n1, .n n2, .n n3, .b b4, .n n5, .n n6, .n n7, .l TCmd l8, .n n9, .n n10, .n n11, .l TCmd l12, .n n13, .n n14, .n n15, .l TCmd l16, .n n17, .n n18, .n n19, .n n20]) (st_L3_10 [.k 4, .l TCall l0, .n n1, .n n2, .n n3, .b b4, .n n2, .n n3, .b true, .n n5, .n n6, .n n7, .l TCmd l8, .b false, .n n9, .n n10, .n n11, .l TCmd l12, .b false, .n n17, .n n18, .n n13, .n n14, .n n15, .l TCmd l16, .b b4, .n n19, .n n20, .n n5, .n n6, .n n7, .l TCmd l8]) :=
(.path [1] (by kernel_rfl)
(.pt (c := (decide (n1 < (↑(List.length l0) : Int)))) (by kernel_rfl) (by kernel_rfl) (by (simp [*]; done))
(.pt (c := (inR n1 (List.length l0))) (by kernel_rfl) (by kernel_rfl) (by (simp only [w64d, decide_eq_true_eq, decide_eq_false_iff_not, beq_iff_eq, beq_eq_false_iff_ne, bne_iff_ne, ne_eq, inR, Bool.and_eq_true, Bool.and_eq_false_iff, Bool.not_eq_true', Bool.not_eq_false', Bool.not_eq_eq_eq_not, Bool.not_true, Bool.not_false] at *; omega))
(.path [1] (by kernel_rfl)
(.node (by kernel_rfl) (by kernel_rfl) (fun h0 =>
(.path [1] (by kernel_rfl)
(.pt (c := (inR n1 (List.length l0))) (by kernel_rfl) (by kernel_rfl) (by (simp only [w64d, decide_eq_true_eq, decide_eq_false_iff_not, beq_iff_eq, beq_eq_false_iff_ne, bne_iff_ne, ne_eq, inR, Bool.and_eq_true, Bool.and_eq_false_iff, Bool.not_eq_true', Bool.not_eq_false', Bool.not_eq_eq_eq_not, Bool.not_true, Bool.not_false] at *; omega))
(.node (by kernel_rfl) (by kernel_rfl) (fun h1 =>
(.path [1] (by kernel_rfl)
(.node (by kernel_rfl) (by kernel_rfl) (fun h2 =>
(.path [1,0] (by kernel_rfl)
(.node (by kernel_rfl) (by kernel_rfl) (fun h3 =>
(.path [1] (by kernel_rfl)
(.pt (c := (inR n1 (List.length l0))) (by kernel_rfl) (by kernel_rfl) (by (simp only [w64d, decide_eq_true_eq, decide_eq_false_iff_not, beq_iff_eq, beq_eq_false_iff_ne, bne_iff_ne, ne_eq, inR, Bool.and_eq_true, Bool.and_eq_false_iff, Bool.not_eq_true', Bool.not_eq_false', Bool.not_eq_eq_eq_not, Bool.not_true, Bool.not_false] at *; omega))
(.pt (c := (inR n1 (List.length l0))) (by kernel_rfl) (by kernel_rfl) (by (simp only [w64d, decide_eq_true_eq, decide_eq_false_iff_not, beq_iff_eq, beq_eq_false_iff_ne, bne_iff_ne, ne_eq, inR, Bool.and_eq_true, Bool.and_eq_false_iff, Bool.not_eq_true', Bool.not_eq_false', Bool.not_eq_eq_eq_not, Bool.not_true, Bool.not_false] at *; omega))
(.path [1] (by kernel_rfl)
(.pt (by kernel_rfl) (by kernel_rfl) h3
(.path [1,1,0,1,1,1,1,1,1,0,1] (by kernel_rfl)
(.node (by kernel_rfl) (by kernel_rfl) (fun h4 =>
(.path [1,1] (by kernel_rfl)
(.node (by kernel_rfl) (by kernel_rfl) (fun h5 =>
(.path [1,1,0,0,1,1,1,1,1,0,1,1,1,1,0,1,1,0,1,0,1,1] (by kernel_rfl)
(.pf (c := (n3 != n3)) (by kernel_rfl) (by kernel_rfl) (by (simp [*]; done))
(.path [1] (by kernel_rfl)
(.pt (by kernel_rfl) (by kernel_rfl) h4
(.path [1,1] (by kernel_rfl)
(.leaf (by kernel_rfl)))))))) (fun h5 =>
.none)))) (fun h4 =>
.none))))))))) (fun h3 =>
(.path [1] (by kernel_rfl)
(.node (by kernel_rfl) (by kernel_rfl) (fun h4 =>
(.path [1,1,1,0,0,0,1] (by kernel_rfl)
(.node (by kernel_rfl) (by kernel_rfl) (fun h5 =>
(.path [1,1,1] (by kernel_rfl)
(.pt (c := (inR n1 (List.length l0))) (by kernel_rfl) (by kernel_rfl) (by (simp only [w64d, decide_eq_true_eq, decide_eq_false_iff_not, beq_iff_eq, beq_eq_false_iff_ne, bne_iff_ne, ne_eq, inR, Bool.and_eq_true, Bool.and_eq_false_iff, Bool.not_eq_true', Bool.not_eq_false', Bool.not_eq_eq_eq_not, Bool.not_true, Bool.not_false] at *; omega))
(.pt (c := (inR n1 (List.length l0))) (by kernel_rfl) (by kernel_rfl) (by (simp only [w64d, decide_eq_true_eq, decide_eq_false_iff_not, beq_iff_eq, beq_eq_false_iff_ne, bne_iff_ne, ne_eq, inR, Bool.and_eq_true, Bool.and_eq_false_iff, Bool.not_eq_true', Bool.not_eq_false', Bool.not_eq_eq_eq_not, Bool.not_true, Bool.not_false] at *; omega))
(.path [1] (by kernel_rfl)
(.pf (by kernel_rfl) (by kernel_rfl) h3
(.path [1] (by kernel_rfl)
(.pt (by kernel_rfl) (by kernel_rfl) h0
(.path [1,0,0,0,0,0,1] (by kernel_rfl)
(.pt (by kernel_rfl) (by kernel_rfl) h0
(.path [1,1,1,1,0,1] (by kernel_rfl)
(.pt (c := (n2 == n2)) (by kernel_rfl) (by kernel_rfl) (by (simp [*]; done))
(.pt (c := (cl_3 l0 n1 == cl_3 l0 n1)) (by kernel_rfl) (by kernel_rfl) (by (simp [*]; done))
(.node (by kernel_rfl) (by kernel_rfl) (fun h6 =>
(.path [1,1] (by kernel_rfl)
(.node (by kernel_rfl) (by kernel_rfl) (fun h7 =>
(.path [1] (by kernel_rfl)
(.leaf (by kernel_rfl)))) (fun h7 =>
(.path [1] (by kernel_rfl)
(.node (by kernel_rfl) (by kernel_rfl) (fun h8 =>
(.path [1,1] (by kernel_rfl)
(.node (by kernel_rfl) (by kernel_rfl) (fun h9 =>
(.path [1,1,0,0,1,1,1,1,1,0,1,1,1,1,0,1,1,0,1,0,1,1] (by kernel_rfl)
(.pf (c := (cl_3 l0 n1 != cl_3 l0 n1)) (by kernel_rfl) (by kernel_rfl) (by (simp [*]; done))
(.path [1] (by kernel_rfl)
(.node (by kernel_rfl) (by kernel_rfl) (fun h10 =>
(.path [1,1] (by kernel_rfl)
(.leaf (by kernel_rfl)))) (fun h10 =>
.none)))))) (fun h9 =>
.none)))) (fun h8 =>
.none))))))) (fun h6 =>
.none))))))))))))))) (fun h5 =>
.none)))) (fun h4 =>
.none))))))) (fun h2 =>
(.path [1,0,0,1] (by kernel_rfl)
(.node (by kernel_rfl) (by kernel_rfl) (fun h3 =>
(.path [1] (by kernel_rfl)
(.pt (c := (inR n1 (List.length l0))) (by kernel_rfl) (by kernel_rfl) (by (simp only [w64d, decide_eq_true_eq, decide_eq_false_iff_not, beq_iff_eq, beq_eq_false_iff_ne, bne_iff_ne, ne_eq, inR, Bool.and_eq_true, Bool.and_eq_false_iff, Bool.not_eq_true', Bool.not_eq_false', Bool.not_eq_eq_eq_not, Bool.not_true, Bool.not_false] at *; omega))
(.path [1,1,1,1] (by kernel_rfl)
(.pt (by kernel_rfl) (by kernel_rfl) h3
(.path [1,1,0,1] (by kernel_rfl)
(.node (by kernel_rfl) (by kernel_rfl) (fun h4 =>
(.path [1,1,0,0,1,1,1,1,1,0,1,1,1,1,0,1,1,0,1,0,1,1] (by kernel_rfl)
(.pf (c := (n3 != n3)) (by kernel_rfl) (by kernel_rfl) (by (simp [*]; done))
(.path [1] (by kernel_rfl)
(.node (by kernel_rfl) (by kernel_rfl) (fun h5 =>
(.path [1,1] (by kernel_rfl)
(.leaf (by kernel_rfl)))) (fun h5 =>
.none)))))) (fun h4 =>
.none)))))))) (fun h3 =>
(.path [1] (by kernel_rfl)
(.node (by kernel_rfl) (by kernel_rfl) (fun h4 =>
(.path [1] (by kernel_rfl)
(.pt (c := (inR n1 (List.length l0))) (by kernel_rfl) (by kernel_rfl) (by (simp only [w64d, decide_eq_true_eq, decide_eq_false_iff_not, beq_iff_eq, beq_eq_false_iff_ne, bne_iff_ne, ne_eq, inR, Bool.and_eq_true, Bool.and_eq_false_iff, Bool.not_eq_true', Bool.not_eq_false', Bool.not_eq_eq_eq_not, Bool.not_true, Bool.not_false] at *; omega))
(.path [1,1,1,1] (by kernel_rfl)
(.pf (by kernel_rfl) (by kernel_rfl) h3
(.path [1] (by kernel_rfl)
(.pt (by kernel_rfl) (by kernel_rfl) h4
(.path [1,1,0,1] (by kernel_rfl)
(.node (by kernel_rfl) (by kernel_rfl) (fun h5 =>
(.path [1,1,0,0,1,1,1,1,1,0,1,1,1,1,0,1,1,0,1,0,1,1] (by kernel_rfl)
(.pf (c := (n3 != n3)) (by kernel_rfl) (by kernel_rfl) (by (simp [*]; done))
(.path [1] (by kernel_rfl)
(.node (by kernel_rfl) (by kernel_rfl) (fun h6 =>
(.path [1,1] (by kernel_rfl)
(.leaf (by kernel_rfl)))) (fun h6 =>
.none)))))) (fun h5 =>
.none)))))))))) (fun h4 =>
(.path [1] (by kernel_rfl)
(.node (by kernel_rfl) (by kernel_rfl) (fun h5 =>
(.path [1,1,1] (by kernel_rfl)
(.node (by kernel_rfl) (by kernel_rfl) (fun h6 =>
(.path [1,1,1,1,1,1,1] (by kernel_rfl)
(.pt (c := (inR n1 (List.length l0))) (by kernel_rfl) (by kernel_rfl) (by (simp only [w64d, decide_eq_true_eq, decide_eq_false_iff_not, beq_iff_eq, beq_eq_false_iff_ne, bne_iff_ne, ne_eq, inR, Bool.and_eq_true, Bool.and_eq_false_iff, Bool.not_eq_true', Bool.not_eq_false', Bool.not_eq_eq_eq_not, Bool.not_true, Bool.not_false] at *; omega))
(.path [1,1,1,1] (by kernel_rfl)
(.pf (by kernel_rfl) (by kernel_rfl) h3
(.path [1] (by kernel_rfl)
(.pf (by kernel_rfl) (by kernel_rfl) h4
(.path [1] (by kernel_rfl)
(.pt (by kernel_rfl) (by kernel_rfl) h6
(.path [1,1,1,1,1] (by kernel_rfl)
(.pt (by kernel_rfl) (by kernel_rfl) h0
(.path [1,1,1,1,0,1] (by kernel_rfl)
(.node (by kernel_rfl) (by kernel_rfl) (fun h7 =>
(.path [1,1,0,0,1,1,1,1,1,0,1,1,1,1,0,1,1,0,1,0,1,1] (by kernel_rfl)
(.pf (c := (n3 != n3)) (by kernel_rfl) (by kernel_rfl) (by (simp [*]; done))
(.path [1] (by kernel_rfl)
(.node (by kernel_rfl) (by kernel_rfl) (fun h8 =>
(.path [1,1] (by kernel_rfl)
(.leaf (by kernel_rfl)))) (fun h8 =>
.none)))))) (fun h7 =>
.none)))))))))))))) (fun h6 =>
(.path [1,1] (by kernel_rfl)
(.pt (c := (inR n1 (List.length l0))) (by kernel_rfl) (by kernel_rfl) (by (simp only [w64d, decide_eq_true_eq, decide_eq_false_iff_not, beq_iff_eq, beq_eq_false_iff_ne, bne_iff_ne, ne_eq, inR, Bool.and_eq_true, Bool.and_eq_false_iff, Bool.not_eq_true', Bool.not_eq_false', Bool.not_eq_eq_eq_not, Bool.not_true, Bool.not_false] at *; omega))
(.path [1,1,1,1] (by kernel_rfl)
(.pf (by kernel_rfl) (by kernel_rfl) h3
(.path [1] (by kernel_rfl)
(.pf (by kernel_rfl) (by kernel_rfl) h4
(.path [1] (by kernel_rfl)
(.pf (by kernel_rfl) (by kernel_rfl) h6
(.path [1,1] (by kernel_rfl)
(.pt (by kernel_rfl) (by kernel_rfl) h0
(.path [1,1,1,0,1] (by kernel_rfl)
(.node (by kernel_rfl) (by kernel_rfl) (fun h7 =>
(.path [1,1,0,0,0] (by kernel_rfl)
(.node (by kernel_rfl) (by kernel_rfl) (fun h8 =>
(.path [1,1,0,0] (by kernel_rfl)
(.pt (by kernel_rfl) (by kernel_rfl) h8
(.path [1,0,1,1,0,1,0,1,1] (by kernel_rfl)
(.pf (c := (n3 != n3)) (by kernel_rfl) (by kernel_rfl) (by (simp [*]; done))
(.path [1] (by kernel_rfl)
(.node (by kernel_rfl) (by kernel_rfl) (fun h9 =>
(.path [1,1] (by kernel_rfl)
(.leaf (by kernel_rfl)))) (fun h9 =>
.none)))))))) (fun h8 =>
(.node (by kernel_rfl) (by kernel_rfl) (fun h9 =>
(.path [1,1,1,1,0,0] (by kernel_rfl)
(.pf (by kernel_rfl) (by kernel_rfl) h8
(.node (by kernel_rfl) (by kernel_rfl) (fun h10 =>
(.path [1,1,1,0] (by kernel_rfl)
(.node (by kernel_rfl) (by kernel_rfl) (fun h11 =>
(.path [1] (by kernel_rfl)
(.node (by kernel_rfl) (by kernel_rfl) (fun h12 =>
(.path [1,1,1,1] (by kernel_rfl)
(.leaf (by kernel_rfl)))) (fun h12 =>
(.path [1,0,1,1] (by kernel_rfl)
(.pf (c := (n3 != n3)) (by kernel_rfl) (by kernel_rfl) (by (simp [*]; done))
(.path [1] (by kernel_rfl)
(.node (by kernel_rfl) (by kernel_rfl) (fun h13 =>
(.path [1,1] (by kernel_rfl)
(.leaf (by kernel_rfl)))) (fun h13 =>
.none))))))))) (fun h11 =>
.none)))) (fun h10 =>
.none))))) (fun h9 =>
.none)))))) (fun h7 =>
.none))))))))))))))))) (fun h5 =>
.none))))))))))))) (fun h1 =>
.none))))) (fun h0 =>
.none))))))


noncomputable def fn_L3_10_t110 : List Dat → Tree Step
  | [.l (Ty.pair (Ty.int IntKind.i64) (Ty.pair (Ty.int IntKind.i64) (Ty.pair (Ty.int IntKind.i64) (Ty.pair (Ty.int IntKind.u64) (Ty.pair (Ty.int IntKind.u32) (Ty.pair (Ty.int IntKind.u32) (Ty.sl (Ty.pair (Ty.int IntKind.u8) (Ty.int IntKind.i64))))))))) l0, .n n1, .n n2, .n n3, .b b4, .n n5, .n n6, .n n7, .l (Ty.pair (Ty.int IntKind.u8) (Ty.int IntKind.i64)) l8, .n n9, .n n10, .n n11, .l (Ty.pair (Ty.int IntKind.u8) (Ty.int IntKind.i64)) l12, .n n13, .n n14, .n n15, .l (Ty.pair (Ty.int IntKind.u8) (Ty.int IntKind.i64)) l16, .n n17, .n n18, .n n19, .n n20, .n n21] =>
    (.node (decide (List.length (cl_7 l0 n1) * 16 ≤ 140737488355328))
     (let r1 : Option (Nat × List Dat) := (op_12 [.n (cl_1 l0 n1), .n (3 : Int)]);
      (.node (isK 0 [HK.n] r1)
       (.node (gn (dOf r1) 0 == (0 : Int))
        (.node (decide ((cl_3 l0 n1 : Int) ≤ n3))
         (let r2 : Option (Nat × List Dat) := (op_16n [.n (0 : Int), .n (0 : Int), .n (0 : Int), .n (0 : Int), .n (0 : Int)]);
          (.node (isK 0 [] r2)
           (let r3 : Option (Nat × List Dat) := (op_16o [.n (cl_2 l0 n1), .n (cl_3 l0 n1), .n (cl_4 l0 n1), .n (cl_5 l0 n1), .n (cl_6 l0 n1), .l TCmd (cl_7 l0 n1)]);
            (.node (isK 0 [HK.l TCmd] r3)
             (.node (b4)
              (.leaf (Step.go (.k 6 :: .l TCall l0 :: .n (IntKind.wrap .i64 (n1 + (1 : Int))) :: .n n2 :: .n n3 :: .b b4 :: .n n2 :: .n n3 :: .b true :: .n n5 :: .n n6 :: .n n7 :: .l TCmd l8 :: .b true :: .n n9 :: .n n10 :: .n n11 :: .l TCmd l12 :: .b false :: .n n17 :: .n n18 :: .n n13 :: .n n14 :: .n n15 :: .l TCmd l16 :: .b b4 :: .n n19 :: .n n20 :: .n n5 :: .n n6 :: .n n7 :: .l TCmd l8 :: .n n21 :: .n n3 :: .n n9 :: .n n10 :: .n n11 :: .l TCmd l12 :: [])))
              (let r4 : Option (Nat × List Dat) := (op_31 [.n n5, .n n6, .n n7, .l TCmd l8, .n n9, .n n10, .n n11, .l TCmd l12]);
               (.node (isK 0 [HK.n, HK.n, HK.n, HK.l TCmd] r4)
                (let r5 : Option (Nat × List Dat) := (op_32 [.n n5, .n n6, .n n7, .l TCmd l8, .n n9, .n n10, .n n11, .l TCmd l12]);
                 (.node (isK 0 [HK.n, HK.n, HK.n, HK.l TCmd] r5)
                  (let r6 : Option (Nat × List Dat) := (op_30 [.n (gn (dOf r4) 0), .n (gn (dOf r4) 1), .n (gn (dOf r4) 2), .l TCmd (gl TCmd (dOf r4) 3), .n (gn (dOf r5) 0), .n (gn (dOf r5) 1), .n (gn (dOf r5) 2), .l TCmd (gl TCmd (dOf r5) 3)]);
                   (.node (isK 0 [HK.b] r6)
                    (.node (!gb (dOf r6) 0)
                     (.leaf (Step.stop 1 [.b false]))
                     (let r7 : Option (Nat × List Dat) := (op_16o [.n (0 : Int), .n (0 : Int), .n (gn (dOf r4) 0), .n (gn (dOf r4) 1), .n (gn (dOf r4) 2), .l TCmd (gl TCmd (dOf r4) 3)]);
                      (.node (isK 0 [HK.l TCmd] r7)
                       (.leaf (Step.go (.k 6 :: .l TCall l0 :: .n (IntKind.wrap .i64 (n1 + (1 : Int))) :: .n n2 :: .n n3 :: .b b4 :: .n n2 :: .n n3 :: .b true :: .n n5 :: .n n6 :: .n n7 :: .l TCmd l8 :: .b true :: .n n9 :: .n n10 :: .n n11 :: .l TCmd l12 :: .b false :: .n n17 :: .n n18 :: .n n13 :: .n n14 :: .n n15 :: .l TCmd l16 :: .b b4 :: .n n19 :: .n n20 :: .n n5 :: .n n6 :: .n n7 :: .l TCmd l8 :: .n n21 :: .n n3 :: .n n9 :: .n n10 :: .n n11 :: .l TCmd l12 :: [])))
                       (.bad 351))))
                    (.bad 351)))
                  (.bad 351)))
                (.bad 351))))
             (.bad 351)))
           (.bad 351)))
         (let r2 : Option (Nat × List Dat) := (op_62 [.l TCmd (cl_7 l0 n1)]);
          (.node (isK 0 [HK.l TCmd] r2)
           (let r3 : Option (Nat × List Dat) := (op_62 [.l TCmd (gl TCmd (dOf r2) 0)]);
            (.node (isK 0 [HK.l TCmd] r3)
             (let r4 : Option (Nat × List Dat) := (op_30 [.n (cl_4 l0 n1), .n (cl_5 l0 n1), .n (cl_6 l0 n1), .l TCmd (gl TCmd (dOf r3) 0), .n (cl_4 l0 n1), .n (cl_5 l0 n1), .n (cl_6 l0 n1), .l TCmd (cl_7 l0 n1)]);
              (.node (isK 0 [HK.b] r4)
               (.node (!gb (dOf r4) 0)
                (.leaf (Step.stop 1 [.b false]))
                (let r5 : Option (Nat × List Dat) := (op_16o [.n n2, .n (cl_3 l0 n1), .n (cl_4 l0 n1), .n (cl_5 l0 n1), .n (cl_6 l0 n1), .l TCmd (gl TCmd (dOf r3) 0)]);
                 (.node (isK 0 [HK.l TCmd] r5)
                  (let r6 : Option (Nat × List Dat) := (op_16o [.n (cl_2 l0 n1), .n (cl_3 l0 n1), .n (cl_4 l0 n1), .n (cl_5 l0 n1), .n (cl_6 l0 n1), .l TCmd (cl_7 l0 n1)]);
                   (.node (isK 0 [HK.l TCmd] r6)
                    (let r7 : Option (Nat × List Dat) := (op_16n [.n (0 : Int), .n (0 : Int), .n (0 : Int), .n (0 : Int), .n (0 : Int)]);
                     (.node (isK 0 [] r7)
                      (.leaf (Step.go (.k 4 :: .l TCall l0 :: .n (IntKind.wrap .i64 (n1 + (1 : Int))) :: .n n2 :: .n (cl_3 l0 n1) :: .b false :: .n n2 :: .n (cl_3 l0 n1) :: .b true :: .n (cl_4 l0 n1) :: .n (cl_5 l0 n1) :: .n (cl_6 l0 n1) :: .l TCmd (cl_7 l0 n1) :: .b false :: .n (0 : Int) :: .n (0 : Int) :: .n (0 : Int) :: .l TCmd [] :: .b false :: .n n17 :: .n n18 :: .n n13 :: .n n14 :: .n n15 :: .l TCmd l16 :: .b false :: .n n2 :: .n (cl_3 l0 n1) :: .n (cl_4 l0 n1) :: .n (cl_5 l0 n1) :: .n (cl_6 l0 n1) :: .l TCmd (gl TCmd (dOf r2) 0) :: [])))
                      (.bad 351)))
                    (.bad 351)))
                  (.bad 351))))
               (.bad 351)))
             (.bad 351)))
           (.bad 351))))
        (.node (cl_2 l0 n1 != IntKind.wrap .i64 ((1 : Int) - n2))
         (let r2 : Option (Nat × List Dat) := (op_16o [.n (cl_2 l0 n1), .n (cl_3 l0 n1), .n (cl_4 l0 n1), .n (cl_5 l0 n1), .n (cl_6 l0 n1), .l TCmd (cl_7 l0 n1)]);
          (.node (isK 0 [HK.l TCmd] r2)
           (.node (b4)
            (let r3 : Option (Nat × List Dat) := (op_16n [.n (0 : Int), .n (0 : Int), .n (0 : Int), .n (0 : Int), .n (0 : Int)]);
             (.node (isK 0 [] r3)
              (.leaf (Step.go (.k 6 :: .l TCall l0 :: .n (IntKind.wrap .i64 (n1 + (1 : Int))) :: .n n2 :: .n n3 :: .b b4 :: .n n2 :: .n n3 :: .b true :: .n n5 :: .n n6 :: .n n7 :: .l TCmd l8 :: .b true :: .n n9 :: .n n10 :: .n n11 :: .l TCmd l12 :: .b false :: .n n17 :: .n n18 :: .n n13 :: .n n14 :: .n n15 :: .l TCmd l16 :: .b b4 :: .n n19 :: .n n20 :: .n n5 :: .n n6 :: .n n7 :: .l TCmd l8 :: .n n21 :: .n n3 :: .n n9 :: .n n10 :: .n n11 :: .l TCmd l12 :: [])))
              (.bad 351)))
            (let r3 : Option (Nat × List Dat) := (op_31 [.n n5, .n n6, .n n7, .l TCmd l8, .n n9, .n n10, .n n11, .l TCmd l12]);
             (.node (isK 0 [HK.n, HK.n, HK.n, HK.l TCmd] r3)
              (let r4 : Option (Nat × List Dat) := (op_32 [.n n5, .n n6, .n n7, .l TCmd l8, .n n9, .n n10, .n n11, .l TCmd l12]);
               (.node (isK 0 [HK.n, HK.n, HK.n, HK.l TCmd] r4)
                (let r5 : Option (Nat × List Dat) := (op_30 [.n (gn (dOf r3) 0), .n (gn (dOf r3) 1), .n (gn (dOf r3) 2), .l TCmd (gl TCmd (dOf r3) 3), .n (gn (dOf r4) 0), .n (gn (dOf r4) 1), .n (gn (dOf r4) 2), .l TCmd (gl TCmd (dOf r4) 3)]);
                 (.node (isK 0 [HK.b] r5)
                  (.node (!gb (dOf r5) 0)
                   (.leaf (Step.stop 1 [.b false]))
                   (let r6 : Option (Nat × List Dat) := (op_16o [.n (0 : Int), .n (0 : Int), .n (gn (dOf r3) 0), .n (gn (dOf r3) 1), .n (gn (dOf r3) 2), .l TCmd (gl TCmd (dOf r3) 3)]);
                    (.node (isK 0 [HK.l TCmd] r6)
                     (.leaf (Step.go (.k 6 :: .l TCall l0 :: .n (IntKind.wrap .i64 (n1 + (1 : Int))) :: .n n2 :: .n n3 :: .b b4 :: .n n2 :: .n n3 :: .b true :: .n n5 :: .n n6 :: .n n7 :: .l TCmd l8 :: .b true :: .n n9 :: .n n10 :: .n n11 :: .l TCmd l12 :: .b false :: .n n17 :: .n n18 :: .n n13 :: .n n14 :: .n n15 :: .l TCmd l16 :: .b b4 :: .n n19 :: .n n20 :: .n n5 :: .n n6 :: .n n7 :: .l TCmd l8 :: .n n21 :: .n n3 :: .n n9 :: .n n10 :: .n n11 :: .l TCmd l12 :: [])))
                     (.bad 351))))
                  (.bad 351)))
                (.bad 351)))
              (.bad 351))))
           (.bad 351)))
         (.node (decide ((cl_3 l0 n1 : Int) < n3))
          (let r2 : Option (Nat × List Dat) := (op_16o [.n (cl_2 l0 n1), .n (cl_3 l0 n1), .n (cl_4 l0 n1), .n (cl_5 l0 n1), .n (cl_6 l0 n1), .l TCmd (cl_7 l0 n1)]);
           (.node (isK 0 [HK.l TCmd] r2)
            (.node (b4)
             (let r3 : Option (Nat × List Dat) := (op_16n [.n (0 : Int), .n (0 : Int), .n (0 : Int), .n (0 : Int), .n (0 : Int)]);
              (.node (isK 0 [] r3)
               (.leaf (Step.go (.k 6 :: .l TCall l0 :: .n (IntKind.wrap .i64 (n1 + (1 : Int))) :: .n n2 :: .n n3 :: .b b4 :: .n n2 :: .n n3 :: .b true :: .n n5 :: .n n6 :: .n n7 :: .l TCmd l8 :: .b true :: .n n9 :: .n n10 :: .n n11 :: .l TCmd l12 :: .b false :: .n n17 :: .n n18 :: .n n13 :: .n n14 :: .n n15 :: .l TCmd l16 :: .b b4 :: .n n19 :: .n n20 :: .n n5 :: .n n6 :: .n n7 :: .l TCmd l8 :: .n n21 :: .n n3 :: .n n9 :: .n n10 :: .n n11 :: .l TCmd l12 :: [])))
               (.bad 351)))
             (let r3 : Option (Nat × List Dat) := (op_31 [.n n5, .n n6, .n n7, .l TCmd l8, .n n9, .n n10, .n n11, .l TCmd l12]);
              (.node (isK 0 [HK.n, HK.n, HK.n, HK.l TCmd] r3)
               (let r4 : Option (Nat × List Dat) := (op_32 [.n n5, .n n6, .n n7, .l TCmd l8, .n n9, .n n10, .n n11, .l TCmd l12]);
                (.node (isK 0 [HK.n, HK.n, HK.n, HK.l TCmd] r4)
                 (let r5 : Option (Nat × List Dat) := (op_30 [.n (gn (dOf r3) 0), .n (gn (dOf r3) 1), .n (gn (dOf r3) 2), .l TCmd (gl TCmd (dOf r3) 3), .n (gn (dOf r4) 0), .n (gn (dOf r4) 1), .n (gn (dOf r4) 2), .l TCmd (gl TCmd (dOf r4) 3)]);
                  (.node (isK 0 [HK.b] r5)
                   (.node (!gb (dOf r5) 0)
                    (.leaf (Step.stop 1 [.b false]))
                    (let r6 : Option (Nat × List Dat) := (op_16o [.n (0 : Int), .n (0 : Int), .n (gn (dOf r3) 0), .n (gn (dOf r3) 1), .n (gn (dOf r3) 2), .l TCmd (gl TCmd (dOf r3) 3)]);
                     (.node (isK 0 [HK.l TCmd] r6)
                      (.leaf (Step.go (.k 6 :: .l TCall l0 :: .n (IntKind.wrap .i64 (n1 + (1 : Int))) :: .n n2 :: .n n3 :: .b b4 :: .n n2 :: .n n3 :: .b true :: .n n5 :: .n n6 :: .n n7 :: .l TCmd l8 :: .b true :: .n n9 :: .n n10 :: .n n11 :: .l TCmd l12 :: .b false :: .n n17 :: .n n18 :: .n n13 :: .n n14 :: .n n15 :: .l TCmd l16 :: .b b4 :: .n n19 :: .n n20 :: .n n5 :: .n n6 :: .n n7 :: .l TCmd l8 :: .n n21 :: .n n3 :: .n n9 :: .n n10 :: .n n11 :: .l TCmd l12 :: [])))
                      (.bad 351))))
                   (.bad 351)))
                 (.bad 351)))
               (.bad 351))))
            (.bad 351)))
          (let r2 : Option (Nat × List Dat) := (op_62 [.l TCmd (cl_7 l0 n1)]);
           (.node (isK 0 [HK.l TCmd] r2)
            (.node (decide ((cl_3 l0 n1 : Int) > n3))
             (let r3 : Option (Nat × List Dat) := (op_16o [.n (cl_2 l0 n1), .n (cl_3 l0 n1), .n (cl_4 l0 n1), .n (cl_5 l0 n1), .n (cl_6 l0 n1), .l TCmd (cl_7 l0 n1)]);
              (.node (isK 0 [HK.l TCmd] r3)
               (.node (b4)
                (let r4 : Option (Nat × List Dat) := (op_16n [.n (0 : Int), .n (0 : Int), .n (0 : Int), .n (0 : Int), .n (0 : Int)]);
                 (.node (isK 0 [] r4)
                  (.leaf (Step.go (.k 7 :: .l TCall l0 :: .n (IntKind.wrap .i64 (n1 + (1 : Int))) :: .n n2 :: .n n3 :: .b b4 :: .n n2 :: .n n3 :: .b true :: .n n5 :: .n n6 :: .n n7 :: .l TCmd l8 :: .b true :: .n n9 :: .n n10 :: .n n11 :: .l TCmd l12 :: .b true :: .n (cl_2 l0 n1) :: .n (cl_3 l0 n1) :: .n (cl_4 l0 n1) :: .n (cl_5 l0 n1) :: .n (cl_6 l0 n1) :: .l TCmd (cl_7 l0 n1) :: .b b4 :: .n n19 :: .n n20 :: .n n5 :: .n n6 :: .n n7 :: .l TCmd l8 :: .n n21 :: .n n3 :: .n n9 :: .n n10 :: .n n11 :: .l TCmd l12 :: .n (cl_2 l0 n1) :: .n (cl_3 l0 n1) :: .n (cl_4 l0 n1) :: .n (cl_5 l0 n1) :: .n (cl_6 l0 n1) :: .l TCmd (gl TCmd (dOf r2) 0) :: [])))
                  (.bad 351)))
                (let r4 : Option (Nat × List Dat) := (op_31 [.n n5, .n n6, .n n7, .l TCmd l8, .n n9, .n n10, .n n11, .l TCmd l12]);
                 (.node (isK 0 [HK.n, HK.n, HK.n, HK.l TCmd] r4)
                  (let r5 : Option (Nat × List Dat) := (op_32 [.n n5, .n n6, .n n7, .l TCmd l8, .n n9, .n n10, .n n11, .l TCmd l12]);
                   (.node (isK 0 [HK.n, HK.n, HK.n, HK.l TCmd] r5)
                    (let r6 : Option (Nat × List Dat) := (op_30 [.n (gn (dOf r4) 0), .n (gn (dOf r4) 1), .n (gn (dOf r4) 2), .l TCmd (gl TCmd (dOf r4) 3), .n (gn (dOf r5) 0), .n (gn (dOf r5) 1), .n (gn (dOf r5) 2), .l TCmd (gl TCmd (dOf r5) 3)]);
                     (.node (isK 0 [HK.b] r6)
                      (.node (!gb (dOf r6) 0)
                       (.leaf (Step.stop 1 [.b false]))
                       (let r7 : Option (Nat × List Dat) := (op_16o [.n (0 : Int), .n (0 : Int), .n (gn (dOf r4) 0), .n (gn (dOf r4) 1), .n (gn (dOf r4) 2), .l TCmd (gl TCmd (dOf r4) 3)]);
                        (.node (isK 0 [HK.l TCmd] r7)
                         (.leaf (Step.go (.k 7 :: .l TCall l0 :: .n (IntKind.wrap .i64 (n1 + (1 : Int))) :: .n n2 :: .n n3 :: .b b4 :: .n n2 :: .n n3 :: .b true :: .n n5 :: .n n6 :: .n n7 :: .l TCmd l8 :: .b true :: .n n9 :: .n n10 :: .n n11 :: .l TCmd l12 :: .b true :: .n (cl_2 l0 n1) :: .n (cl_3 l0 n1) :: .n (cl_4 l0 n1) :: .n (cl_5 l0 n1) :: .n (cl_6 l0 n1) :: .l TCmd (cl_7 l0 n1) :: .b b4 :: .n n19 :: .n n20 :: .n n5 :: .n n6 :: .n n7 :: .l TCmd l8 :: .n n21 :: .n n3 :: .n n9 :: .n n10 :: .n n11 :: .l TCmd l12 :: .n (cl_2 l0 n1) :: .n (cl_3 l0 n1) :: .n (cl_4 l0 n1) :: .n (cl_5 l0 n1) :: .n (cl_6 l0 n1) :: .l TCmd (gl TCmd (dOf r2) 0) :: [])))
                         (.bad 351))))
                      (.bad 351)))
                    (.bad 351)))
                  (.bad 351))))
               (.bad 351)))
             (let r3 : Option (Nat × List Dat) := (op_29 [.n n9, .n n10, .n n11, .l TCmd l12, .n (cl_4 l0 n1), .n (cl_5 l0 n1), .n (cl_6 l0 n1), .l TCmd (gl TCmd (dOf r2) 0)]);
              (.node (isK 0 [HK.b] r3)
               (.node (gb (dOf r3) 0)
                (let r4 : Option (Nat × List Dat) := (op_30 [.n (cl_4 l0 n1), .n (cl_5 l0 n1), .n (cl_6 l0 n1), .l TCmd (cl_7 l0 n1), .n n9, .n n10, .n n11, .l TCmd l12]);
                 (.node (isK 0 [HK.b] r4)
                  (.node (gb (dOf r4) 0)
                   (let r5 : Option (Nat × List Dat) := (op_16o [.n (cl_2 l0 n1), .n (cl_3 l0 n1), .n (cl_4 l0 n1), .n (cl_5 l0 n1), .n (cl_6 l0 n1), .l TCmd (cl_7 l0 n1)]);
                    (.node (isK 0 [HK.l TCmd] r5)
                     (.node (b4)
                      (let r6 : Option (Nat × List Dat) := (op_16n [.n (0 : Int), .n (0 : Int), .n (0 : Int), .n (0 : Int), .n (0 : Int)]);
                       (.node (isK 0 [] r6)
                        (.leaf (Step.go (.k 6 :: .l TCall l0 :: .n (IntKind.wrap .i64 (n1 + (1 : Int))) :: .n n2 :: .n n3 :: .b b4 :: .n n2 :: .n n3 :: .b true :: .n n5 :: .n n6 :: .n n7 :: .l TCmd l8 :: .b true :: .n n9 :: .n n10 :: .n n11 :: .l TCmd l12 :: .b false :: .n n17 :: .n n18 :: .n n13 :: .n n14 :: .n n15 :: .l TCmd l16 :: .b b4 :: .n n19 :: .n n20 :: .n n5 :: .n n6 :: .n n7 :: .l TCmd l8 :: .n n21 :: .n n3 :: .n n9 :: .n n10 :: .n n11 :: .l TCmd l12 :: [])))
                        (.bad 351)))
                      (let r6 : Option (Nat × List Dat) := (op_31 [.n n5, .n n6, .n n7, .l TCmd l8, .n n9, .n n10, .n n11, .l TCmd l12]);
                       (.node (isK 0 [HK.n, HK.n, HK.n, HK.l TCmd] r6)
                        (let r7 : Option (Nat × List Dat) := (op_32 [.n n5, .n n6, .n n7, .l TCmd l8, .n n9, .n n10, .n n11, .l TCmd l12]);
                         (.node (isK 0 [HK.n, HK.n, HK.n, HK.l TCmd] r7)
                          (let r8 : Option (Nat × List Dat) := (op_30 [.n (gn (dOf r6) 0), .n (gn (dOf r6) 1), .n (gn (dOf r6) 2), .l TCmd (gl TCmd (dOf r6) 3), .n (gn (dOf r7) 0), .n (gn (dOf r7) 1), .n (gn (dOf r7) 2), .l TCmd (gl TCmd (dOf r7) 3)]);
                           (.node (isK 0 [HK.b] r8)
                            (.node (!gb (dOf r8) 0)
                             (.leaf (Step.stop 1 [.b false]))
                             (let r9 : Option (Nat × List Dat) := (op_16o [.n (0 : Int), .n (0 : Int), .n (gn (dOf r6) 0), .n (gn (dOf r6) 1), .n (gn (dOf r6) 2), .l TCmd (gl TCmd (dOf r6) 3)]);
                              (.node (isK 0 [HK.l TCmd] r9)
                               (.leaf (Step.go (.k 6 :: .l TCall l0 :: .n (IntKind.wrap .i64 (n1 + (1 : Int))) :: .n n2 :: .n n3 :: .b b4 :: .n n2 :: .n n3 :: .b true :: .n n5 :: .n n6 :: .n n7 :: .l TCmd l8 :: .b true :: .n n9 :: .n n10 :: .n n11 :: .l TCmd l12 :: .b false :: .n n17 :: .n n18 :: .n n13 :: .n n14 :: .n n15 :: .l TCmd l16 :: .b b4 :: .n n19 :: .n n20 :: .n n5 :: .n n6 :: .n n7 :: .l TCmd l8 :: .n n21 :: .n n3 :: .n n9 :: .n n10 :: .n n11 :: .l TCmd l12 :: [])))
                               (.bad 351))))
                            (.bad 351)))
                          (.bad 351)))
                        (.bad 351))))
                     (.bad 351)))
                   (.leaf (Step.stop 1 [.b false])))
                  (.bad 351)))
                (let r4 : Option (Nat × List Dat) := (op_30 [.n (cl_4 l0 n1), .n (cl_5 l0 n1), .n (cl_6 l0 n1), .l TCmd (cl_7 l0 n1), .n n9, .n n10, .n n11, .l TCmd l12]);
                 (.node (isK 0 [HK.b] r4)
                  (.node (gb (dOf r4) 0)
                   (.leaf (Step.stop 1 [.b false]))
                   (let r5 : Option (Nat × List Dat) := (op_16o [.n (cl_2 l0 n1), .n (cl_3 l0 n1), .n (cl_4 l0 n1), .n (cl_5 l0 n1), .n (cl_6 l0 n1), .l TCmd (cl_7 l0 n1)]);
                    (.node (isK 0 [HK.l TCmd] r5)
                     (let r6 : Option (Nat × List Dat) := (op_16n [.n (0 : Int), .n (0 : Int), .n (0 : Int), .n (0 : Int), .n (0 : Int)]);
                      (.node (isK 0 [] r6)
                       (.leaf (Step.go (.k 6 :: .l TCall l0 :: .n (IntKind.wrap .i64 (n1 + (1 : Int))) :: .n n2 :: .n n3 :: .b true :: .n n2 :: .n n3 :: .b true :: .n n5 :: .n n6 :: .n n7 :: .l TCmd l8 :: .b true :: .n n9 :: .n n10 :: .n n11 :: .l TCmd l12 :: .b false :: .n n17 :: .n n18 :: .n n13 :: .n n14 :: .n n15 :: .l TCmd l16 :: .b true :: .n n19 :: .n n20 :: .n n5 :: .n n6 :: .n n7 :: .l TCmd l8 :: .n n21 :: .n n3 :: .n n9 :: .n n10 :: .n n11 :: .l TCmd l12 :: [])))
                       (.bad 351)))
                     (.bad 351))))
                  (.bad 351))))
               (.bad 351))))
            (.bad 351))))))
       (.bad 351)))
     (.bad 60))
  | _ => .bad 0
theorem fn_L3_10_t110_im (l0 : List (Ty.den TCall)) (n1 : Int) (n2 : Int) (n3 : Int) (b4 : Bool) (n5 : Int) (n6 : Int) (n7 : Int) (l8 : List (Ty.den TCmd)) (n9 : Int) (n10 : Int) (n11 : Int) (l12 : List (Ty.den TCmd)) (n13 : Int) (n14 : Int) (n15 : Int) (l16 : List (Ty.den TCmd)) (n17 : Int) (n18 : Int) (n19 : Int) (n20 : Int) (n21 : Int) (g0 : 0 ≤ n1) (g1 :  n1 < (l0.length : Int)) : Imp (fn_L3_10_t110 [.l TCall l0, .n n1, .n n2, .n n3, .b b4, .n n5, .n n6, .n n7, .l TCmd l8, .n n9, .n n10, .n n11, .l TCmd l12, .n n13, .n n14, .n n15, .l TCmd l16, .n n17, .n n18, .n n19, .n n20, .n n21]) (st_L3_10 [.k 6, .l TCall l0, .n n1, .n n2, .n n3, .b b4, .n n2, .n n3, .b true, .n n5, .n n6, .n n7, .l TCmd l8, .b true, .n n9, .n n10, .n n11, .l TCmd l12, .b false, .n n17, .n n18, .n n13, .n n14, .n n15, .l TCmd l16, .b b4, .n n19, .n n20, .n n5, .n n6, .n n7, .l TCmd l8, .n n21, .n n3, .n n9, .n n10, .n n11, .l TCmd l12]) :=
(.path [1] (by kernel_rfl)
(.pt (c := (decide (n1 < (↑(List.length l0) : Int)))) (by kernel_rfl) (by kernel_rfl) (by (simp [*]; done))
(.pt (c := (inR n1 (List.length l0))) (by kernel_rfl) (by kernel_rfl) (by (simp only [w64d, decide_eq_true_eq, decide_eq_false_iff_not, beq_iff_eq, beq_eq_false_iff_ne, bne_iff_ne, ne_eq, inR, Bool.and_eq_true, Bool.and_eq_false_iff, Bool.not_eq_true', Bool.not_eq_false', Bool.not_eq_eq_eq_not, Bool.not_true, Bool.not_false] at *; omega))
(.path [1] (by kernel_rfl)
(.node (by kernel_rfl) (by kernel_rfl) (fun h0 =>
(.path [1] (by kernel_rfl)
(.pt (c := (inR n1 (List.length l0))) (by kernel_rfl) (by kernel_rfl) (by (simp only [w64d, decide_eq_true_eq, decide_eq_false_iff_not, beq_iff_eq, beq_eq_false_iff_ne, bne_iff_ne, ne_eq, inR, Bool.and_eq_true, Bool.and_eq_false_iff, Bool.not_eq_true', Bool.not_eq_false', Bool.not_eq_eq_eq_not, Bool.not_true, Bool.not_false] at *; omega))
(.node (by kernel_rfl) (by kernel_rfl) (fun h1 =>
(.path [1] (by kernel_rfl)
(.node (by kernel_rfl) (by kernel_rfl) (fun h2 =>
(.path [1,0] (by kernel_rfl)
(.node (by kernel_rfl) (by kernel_rfl) (fun h3 =>
(.path [1] (by kernel_rfl)
(.pt (c := (inR n1 (List.length l0))) (by kernel_rfl) (by kernel_rfl) (by (simp only [w64d, decide_eq_true_eq, decide_eq_false_iff_not, beq_iff_eq, beq_eq_false_iff_ne, bne_iff_ne, ne_eq, inR, Bool.and_eq_true, Bool.and_eq_false_iff, Bool.not_eq_true', Bool.not_eq_false', Bool.not_eq_eq_eq_not, Bool.not_true, Bool.not_false] at *; omega))
(.pt (c := (inR n1 (List.length l0))) (by kernel_rfl) (by kernel_rfl) (by (simp only [w64d, decide_eq_true_eq, decide_eq_false_iff_not, beq_iff_eq, beq_eq_false_iff_ne, bne_iff_ne, ne_eq, inR, Bool.and_eq_true, Bool.and_eq_false_iff, Bool.not_eq_true', Bool.not_eq_false', Bool.not_eq_eq_eq_not, Bool.not_true, Bool.not_false] at *; omega))
(.path [1] (by kernel_rfl)
(.pt (by kernel_rfl) (by kernel_rfl) h3
(.path [1,1,0,1,1,1,1,1,1,0,1] (by kernel_rfl)
(.node (by kernel_rfl) (by kernel_rfl) (fun h4 =>
(.path [1,1] (by kernel_rfl)
(.node (by kernel_rfl) (by kernel_rfl) (fun h5 =>
(.path [1,1,0,0,0] (by kernel_rfl)
(.node (by kernel_rfl) (by kernel_rfl) (fun h6 =>
(.path [1,1,0,0] (by kernel_rfl)
(.pt (by kernel_rfl) (by kernel_rfl) h6
(.path [1,0,1,1,0,1,0,1,1] (by kernel_rfl)
(.pf (c := (n3 != n3)) (by kernel_rfl) (by kernel_rfl) (by (simp [*]; done))
(.path [1] (by kernel_rfl)
(.pt (by kernel_rfl) (by kernel_rfl) h4
(.path [1,1] (by kernel_rfl)
(.leaf (by kernel_rfl)))))))))) (fun h6 =>
(.node (by kernel_rfl) (by kernel_rfl) (fun h7 =>
(.path [1,1,1,1,0,0] (by kernel_rfl)
(.pf (by kernel_rfl) (by kernel_rfl) h6
(.node (by kernel_rfl) (by kernel_rfl) (fun h8 =>
(.path [1,1,1,0] (by kernel_rfl)
(.node (by kernel_rfl) (by kernel_rfl) (fun h9 =>
(.path [1] (by kernel_rfl)
(.node (by kernel_rfl) (by kernel_rfl) (fun h10 =>
(.path [1,1,1,1] (by kernel_rfl)
(.leaf (by kernel_rfl)))) (fun h10 =>
(.path [1,0,1,1] (by kernel_rfl)
(.pf (c := (n3 != n3)) (by kernel_rfl) (by kernel_rfl) (by (simp [*]; done))
(.path [1] (by kernel_rfl)
(.node (by kernel_rfl) (by kernel_rfl) (fun h11 =>
(.path [1,1] (by kernel_rfl)
(.leaf (by kernel_rfl)))) (fun h11 =>
.none))))))))) (fun h9 =>
.none)))) (fun h8 =>
.none))))) (fun h7 =>
.none)))))) (fun h5 =>
.none)))) (fun h4 =>
.none))))))))) (fun h3 =>
(.path [1] (by kernel_rfl)
(.node (by kernel_rfl) (by kernel_rfl) (fun h4 =>
(.path [1,1,1,0,0,0,1] (by kernel_rfl)
(.node (by kernel_rfl) (by kernel_rfl) (fun h5 =>
(.path [1,1,1] (by kernel_rfl)
(.pt (c := (inR n1 (List.length l0))) (by kernel_rfl) (by kernel_rfl) (by (simp only [w64d, decide_eq_true_eq, decide_eq_false_iff_not, beq_iff_eq, beq_eq_false_iff_ne, bne_iff_ne, ne_eq, inR, Bool.and_eq_true, Bool.and_eq_false_iff, Bool.not_eq_true', Bool.not_eq_false', Bool.not_eq_eq_eq_not, Bool.not_true, Bool.not_false] at *; omega))
(.pt (c := (inR n1 (List.length l0))) (by kernel_rfl) (by kernel_rfl) (by (simp only [w64d, decide_eq_true_eq, decide_eq_false_iff_not, beq_iff_eq, beq_eq_false_iff_ne, bne_iff_ne, ne_eq, inR, Bool.and_eq_true, Bool.and_eq_false_iff, Bool.not_eq_true', Bool.not_eq_false', Bool.not_eq_eq_eq_not, Bool.not_true, Bool.not_false] at *; omega))
(.path [1] (by kernel_rfl)
(.pf (by kernel_rfl) (by kernel_rfl) h3
(.path [1] (by kernel_rfl)
(.pt (by kernel_rfl) (by kernel_rfl) h0
(.path [1,0,0,0,0,0,1] (by kernel_rfl)
(.pt (by kernel_rfl) (by kernel_rfl) h0
(.path [1,1,1,1,0,1] (by kernel_rfl)
(.pt (c := (n2 == n2)) (by kernel_rfl) (by kernel_rfl) (by (simp [*]; done))
(.pt (c := (cl_3 l0 n1 == cl_3 l0 n1)) (by kernel_rfl) (by kernel_rfl) (by (simp [*]; done))
(.node (by kernel_rfl) (by kernel_rfl) (fun h6 =>
(.path [1,1] (by kernel_rfl)
(.node (by kernel_rfl) (by kernel_rfl) (fun h7 =>
(.path [1] (by kernel_rfl)
(.leaf (by kernel_rfl)))) (fun h7 =>
(.path [1] (by kernel_rfl)
(.node (by kernel_rfl) (by kernel_rfl) (fun h8 =>
(.path [1,1] (by kernel_rfl)
(.node (by kernel_rfl) (by kernel_rfl) (fun h9 =>
(.path [1,1,0,0,1,1,1,1,1,0,1,1,1,1,0,1,1,0,1,0,1,1] (by kernel_rfl)
(.pf (c := (cl_3 l0 n1 != cl_3 l0 n1)) (by kernel_rfl) (by kernel_rfl) (by (simp [*]; done))
(.path [1] (by kernel_rfl)
(.node (by kernel_rfl) (by kernel_rfl) (fun h10 =>
(.path [1,1] (by kernel_rfl)
(.leaf (by kernel_rfl)))) (fun h10 =>
.none)))))) (fun h9 =>
.none)))) (fun h8 =>
.none))))))) (fun h6 =>
.none))))))))))))))) (fun h5 =>
.none)))) (fun h4 =>
.none))))))) (fun h2 =>
(.path [1,0,0,1] (by kernel_rfl)
(.node (by kernel_rfl) (by kernel_rfl) (fun h3 =>
(.path [1] (by kernel_rfl)
(.pt (c := (inR n1 (List.length l0))) (by kernel_rfl) (by kernel_rfl) (by (simp only [w64d, decide_eq_true_eq, decide_eq_false_iff_not, beq_iff_eq, beq_eq_false_iff_ne, bne_iff_ne, ne_eq, inR, Bool.and_eq_true, Bool.and_eq_false_iff, Bool.not_eq_true', Bool.not_eq_false', Bool.not_eq_eq_eq_not, Bool.not_true, Bool.not_false] at *; omega))
(.path [1,1,1,1] (by kernel_rfl)
(.pt (by kernel_rfl) (by kernel_rfl) h3
(.path [1,1,0,1] (by kernel_rfl)
(.node (by kernel_rfl) (by kernel_rfl) (fun h4 =>
(.path [1,1,0,0,0] (by kernel_rfl)
(.node (by kernel_rfl) (by kernel_rfl) (fun h5 =>
(.path [1,1,0,0] (by kernel_rfl)
(.pt (by kernel_rfl) (by kernel_rfl) h5
(.path [1,0,1,1,0,1,0,1,1] (by kernel_rfl)
(.pf (c := (n3 != n3)) (by kernel_rfl) (by kernel_rfl) (by (simp [*]; done))
(.path [1] (by kernel_rfl)
(.node (by kernel_rfl) (by kernel_rfl) (fun h6 =>
(.path [1,1] (by kernel_rfl)
(.leaf (by kernel_rfl)))) (fun h6 =>
.none)))))))) (fun h5 =>
(.node (by kernel_rfl) (by kernel_rfl) (fun h6 =>
(.path [1,1,1,1,0,0] (by kernel_rfl)
(.pf (by kernel_rfl) (by kernel_rfl) h5
(.node (by kernel_rfl) (by kernel_rfl) (fun h7 =>
(.path [1,1,1,0] (by kernel_rfl)
(.node (by kernel_rfl) (by kernel_rfl) (fun h8 =>
(.path [1] (by kernel_rfl)
(.node (by kernel_rfl) (by kernel_rfl) (fun h9 =>
(.path [1,1,1,1] (by kernel_rfl)
(.leaf (by kernel_rfl)))) (fun h9 =>
(.path [1,0,1,1] (by kernel_rfl)
(.pf (c := (n3 != n3)) (by kernel_rfl) (by kernel_rfl) (by (simp [*]; done))
(.path [1] (by kernel_rfl)
(.node (by kernel_rfl) (by kernel_rfl) (fun h10 =>
(.path [1,1] (by kernel_rfl)
(.leaf (by kernel_rfl)))) (fun h10 =>
.none))))))))) (fun h8 =>
.none)))) (fun h7 =>
.none))))) (fun h6 =>
.none)))))) (fun h4 =>
.none)))))))) (fun h3 =>
(.path [1] (by kernel_rfl)
(.node (by kernel_rfl) (by kernel_rfl) (fun h4 =>
(.path [1] (by kernel_rfl)
(.pt (c := (inR n1 (List.length l0))) (by kernel_rfl) (by kernel_rfl) (by (simp only [w64d, decide_eq_true_eq, decide_eq_false_iff_not, beq_iff_eq, beq_eq_false_iff_ne, bne_iff_ne, ne_eq, inR, Bool.and_eq_true, Bool.and_eq_false_iff, Bool.not_eq_true', Bool.not_eq_false', Bool.not_eq_eq_eq_not, Bool.not_true, Bool.not_false] at *; omega))
(.path [1,1,1,1] (by kernel_rfl)
(.pf (by kernel_rfl) (by kernel_rfl) h3
(.path [1] (by kernel_rfl)
(.pt (by kernel_rfl) (by kernel_rfl) h4
(.path [1,1,0,1] (by kernel_rfl)
(.node (by kernel_rfl) (by kernel_rfl) (fun h5 =>
(.path [1,1,0,0,0] (by kernel_rfl)
(.node (by kernel_rfl) (by kernel_rfl) (fun h6 =>
(.path [1,1,0,0] (by kernel_rfl)
(.pt (by kernel_rfl) (by kernel_rfl) h6
(.path [1,0,1,1,0,1,0,1,1] (by kernel_rfl)
(.pf (c := (n3 != n3)) (by kernel_rfl) (by kernel_rfl) (by (simp [*]; done))
(.path [1] (by kernel_rfl)
(.node (by kernel_rfl) (by kernel_rfl) (fun h7 =>
(.path [1,1] (by kernel_rfl)
(.leaf (by kernel_rfl)))) (fun h7 =>
.none)))))))) (fun h6 =>
(.node (by kernel_rfl) (by kernel_rfl) (fun h7 =>
(.path [1,1,1,1,0,0] (by kernel_rfl)
(.pf (by kernel_rfl) (by kernel_rfl) h6
(.node (by kernel_rfl) (by kernel_rfl) (fun h8 =>
(.path [1,1,1,0] (by kernel_rfl)
(.node (by kernel_rfl) (by kernel_rfl) (fun h9 =>
(.path [1] (by kernel_rfl)
(.node (by kernel_rfl) (by kernel_rfl) (fun h10 =>
(.path [1,1,1,1] (by kernel_rfl)
(.leaf (by kernel_rfl)))) (fun h10 =>
(.path [1,0,1,1] (by kernel_rfl)
(.pf (c := (n3 != n3)) (by kernel_rfl) (by kernel_rfl) (by (simp [*]; done))
(.path [1] (by kernel_rfl)
(.node (by kernel_rfl) (by kernel_rfl) (fun h11 =>
(.path [1,1] (by kernel_rfl)
(.leaf (by kernel_rfl)))) (fun h11 =>
.none))))))))) (fun h9 =>
.none)))) (fun h8 =>
.none))))) (fun h7 =>
.none)))))) (fun h5 =>
.none)))))))))) (fun h4 =>
(.path [1] (by kernel_rfl)
(.node (by kernel_rfl) (by kernel_rfl) (fun h5 =>
(.path [1,1,1] (by kernel_rfl)
(.node (by kernel_rfl) (by kernel_rfl) (fun h6 =>
(.path [1,1,1,1,1,1,1] (by kernel_rfl)
(.pt (c := (inR n1 (List.length l0))) (by kernel_rfl) (by kernel_rfl) (by (simp only [w64d, decide_eq_true_eq, decide_eq_false_iff_not, beq_iff_eq, beq_eq_false_iff_ne, bne_iff_ne, ne_eq, inR, Bool.and_eq_true, Bool.and_eq_false_iff, Bool.not_eq_true', Bool.not_eq_false', Bool.not_eq_eq_eq_not, Bool.not_true, Bool.not_false] at *; omega))
(.path [1,1,1,1] (by kernel_rfl)
(.pf (by kernel_rfl) (by kernel_rfl) h3
(.path [1] (by kernel_rfl)
(.pf (by kernel_rfl) (by kernel_rfl) h4
(.path [1] (by kernel_rfl)
(.pt (by kernel_rfl) (by kernel_rfl) h6
(.path [1,1,1,1,1] (by kernel_rfl)
(.pt (by kernel_rfl) (by kernel_rfl) h0
(.path [1,1,1,1,0,1] (by kernel_rfl)
(.node (by kernel_rfl) (by kernel_rfl) (fun h7 =>
(.path [1,1,0,0,0] (by kernel_rfl)
(.node (by kernel_rfl) (by kernel_rfl) (fun h8 =>
(.path [1,1,0,0] (by kernel_rfl)
(.pt (by kernel_rfl) (by kernel_rfl) h8
(.path [1,0,1,1,0,1,0,1,1] (by kernel_rfl)
(.pf (c := (n3 != n3)) (by kernel_rfl) (by kernel_rfl) (by (simp [*]; done))
(.path [1] (by kernel_rfl)
(.node (by kernel_rfl) (by kernel_rfl) (fun h9 =>
(.path [1,1] (by kernel_rfl)
(.leaf (by kernel_rfl)))) (fun h9 =>
.none)))))))) (fun h8 =>
(.node (by kernel_rfl) (by kernel_rfl) (fun h9 =>
(.path [1,1,1,1,0,0] (by kernel_rfl)
(.pf (by kernel_rfl) (by kernel_rfl) h8
(.node (by kernel_rfl) (by kernel_rfl) (fun h10 =>
(.path [1,1,1,0] (by kernel_rfl)
(.node (by kernel_rfl) (by kernel_rfl) (fun h11 =>
(.path [1] (by kernel_rfl)
(.node (by kernel_rfl) (by kernel_rfl) (fun h12 =>
(.path [1,1,1,1] (by kernel_rfl)
(.leaf (by kernel_rfl)))) (fun h12 =>
(.path [1,0,1,1] (by kernel_rfl)
(.pf (c := (n3 != n3)) (by kernel_rfl) (by kernel_rfl) (by (simp [*]; done))
(.path [1] (by kernel_rfl)
(.node (by kernel_rfl) (by kernel_rfl) (fun h13 =>
(.path [1,1] (by kernel_rfl)
(.leaf (by kernel_rfl)))) (fun h13 =>
.none))))))))) (fun h11 =>
.none)))) (fun h10 =>
.none))))) (fun h9 =>
.none)))))) (fun h7 =>
.none)))))))))))))) (fun h6 =>
(.path [0,1] (by kernel_rfl)
(.pt (c := (n3 == cl_3 l0 n1)) (by kernel_rfl) (by kernel_rfl) (by (simp only [w64d, decide_eq_true_eq, decide_eq_false_iff_not, beq_iff_eq, beq_eq_false_iff_ne, bne_iff_ne, ne_eq, inR, Bool.and_eq_true, Bool.and_eq_false_iff, Bool.not_eq_true', Bool.not_eq_false', Bool.not_eq_eq_eq_not, Bool.not_true, Bool.not_false] at *; omega))
(.node (by kernel_rfl) (by kernel_rfl) (fun h7 =>
(.path [1,1,1] (by kernel_rfl)
(.node (by kernel_rfl) (by kernel_rfl) (fun h8 =>
(.path [1] (by kernel_rfl)
(.pt (c := (inR n1 (List.length l0))) (by kernel_rfl) (by kernel_rfl) (by (simp only [w64d, decide_eq_true_eq, decide_eq_false_iff_not, beq_iff_eq, beq_eq_false_iff_ne, bne_iff_ne, ne_eq, inR, Bool.and_eq_true, Bool.and_eq_false_iff, Bool.not_eq_true', Bool.not_eq_false', Bool.not_eq_eq_eq_not, Bool.not_true, Bool.not_false] at *; omega))
(.path [1,1,1,1] (by kernel_rfl)
(.pf (by kernel_rfl) (by kernel_rfl) h3
(.path [1] (by kernel_rfl)
(.pf (by kernel_rfl) (by kernel_rfl) h4
(.path [1] (by kernel_rfl)
(.pf (by kernel_rfl) (by kernel_rfl) h6
(.path [0] (by kernel_rfl)
(.node (by kernel_rfl) (by kernel_rfl) (fun h9 =>
(.path [1,1] (by kernel_rfl)
(.node (by kernel_rfl) (by kernel_rfl) (fun h10 =>
(.path [1,1,0,1] (by kernel_rfl)
(.node (by kernel_rfl) (by kernel_rfl) (fun h11 =>
(.path [1,1,0,0,0] (by kernel_rfl)
(.node (by kernel_rfl) (by kernel_rfl) (fun h12 =>
(.path [1,1,0,0] (by kernel_rfl)
(.pt (by kernel_rfl) (by kernel_rfl) h12
(.path [1,0,1,1,0,1,0,1,1] (by kernel_rfl)
(.pf (c := (n3 != n3)) (by kernel_rfl) (by kernel_rfl) (by (simp [*]; done))
(.path [1] (by kernel_rfl)
(.node (by kernel_rfl) (by kernel_rfl) (fun h13 =>
(.path [1,1] (by kernel_rfl)
(.leaf (by kernel_rfl)))) (fun h13 =>
.none)))))))) (fun h12 =>
(.node (by kernel_rfl) (by kernel_rfl) (fun h13 =>
(.path [1,1,1,1,0,0] (by kernel_rfl)
(.pf (by kernel_rfl) (by kernel_rfl) h12
(.node (by kernel_rfl) (by kernel_rfl) (fun h14 =>
(.path [1,1,1,0] (by kernel_rfl)
(.node (by kernel_rfl) (by kernel_rfl) (fun h15 =>
(.path [1] (by kernel_rfl)
(.node (by kernel_rfl) (by kernel_rfl) (fun h16 =>
(.path [1,1,1,1] (by kernel_rfl)
(.leaf (by kernel_rfl)))) (fun h16 =>
(.path [1,0,1,1] (by kernel_rfl)
(.pf (c := (n3 != n3)) (by kernel_rfl) (by kernel_rfl) (by (simp [*]; done))
(.path [1] (by kernel_rfl)
(.node (by kernel_rfl) (by kernel_rfl) (fun h17 =>
(.path [1,1] (by kernel_rfl)
(.leaf (by kernel_rfl)))) (fun h17 =>
.none))))))))) (fun h15 =>
.none)))) (fun h14 =>
.none))))) (fun h13 =>
.none)))))) (fun h11 =>
.none)))) (fun h10 =>
(.path [1,1,1,1] (by kernel_rfl)
(.leaf (by kernel_rfl))))))) (fun h9 =>
.none)))))))))))) (fun h8 =>
(.path [1] (by kernel_rfl)
(.pt (c := (inR n1 (List.length l0))) (by kernel_rfl) (by kernel_rfl) (by (simp only [w64d, decide_eq_true_eq, decide_eq_false_iff_not, beq_iff_eq, beq_eq_false_iff_ne, bne_iff_ne, ne_eq, inR, Bool.and_eq_true, Bool.and_eq_false_iff, Bool.not_eq_true', Bool.not_eq_false', Bool.not_eq_eq_eq_not, Bool.not_true, Bool.not_false] at *; omega))
(.path [1,1,1,1] (by kernel_rfl)
(.pf (by kernel_rfl) (by kernel_rfl) h3
(.path [1] (by kernel_rfl)
(.pf (by kernel_rfl) (by kernel_rfl) h4
(.path [1] (by kernel_rfl)
(.pf (by kernel_rfl) (by kernel_rfl) h6
(.path [0] (by kernel_rfl)
(.node (by kernel_rfl) (by kernel_rfl) (fun h9 =>
(.path [1,1] (by kernel_rfl)
(.node (by kernel_rfl) (by kernel_rfl) (fun h10 =>
(.path [1,1,1,1] (by kernel_rfl)
(.leaf (by kernel_rfl)))) (fun h10 =>
(.path [1,1,0,1] (by kernel_rfl)
(.node (by kernel_rfl) (by kernel_rfl) (fun h11 =>
(.path [1,1,0,0,0,1,1,1,0,0,1,1,0,1,1,0,1,0,1,1] (by kernel_rfl)
(.pf (c := (n3 != n3)) (by kernel_rfl) (by kernel_rfl) (by (simp [*]; done))
(.path [1] (by kernel_rfl)
(.node (by kernel_rfl) (by kernel_rfl) (fun h12 =>
(.path [1,1] (by kernel_rfl)
(.leaf (by kernel_rfl)))) (fun h12 =>
.none)))))) (fun h11 =>
.none))))))) (fun h9 =>
.none))))))))))))))) (fun h7 =>
.none)))))))) (fun h5 =>
.none))))))))))))) (fun h1 =>
.none))))) (fun h0 =>
.none))))))


noncomputable def fn_L3_10_x000 : List Dat → Tree Step
  | [.l (Ty.pair (Ty.int IntKind.i64) (Ty.pair (Ty.int IntKind.i64) (Ty.pair (Ty.int IntKind.i64) (Ty.pair (Ty.int IntKind.u64) (Ty.pair (Ty.int IntKind.u32) (Ty.pair (Ty.int IntKind.u32) (Ty.sl (Ty.pair (Ty.int IntKind.u8) (Ty.int IntKind.i64))))))))) l0, .n n1, .n n2, .n n3, .b b4, .n n5, .n n6, .n n7, .l (Ty.pair (Ty.int IntKind.u8) (Ty.int IntKind.i64)) l8, .n n9, .n n10, .n n11, .l (Ty.pair (Ty.int IntKind.u8) (Ty.int IntKind.i64)) l12, .n n13, .n n14, .n n15, .l (Ty.pair (Ty.int IntKind.u8) (Ty.int IntKind.i64)) l16, .n n17, .n n18] =>
    (.leaf (Step.stop 0 []))
  | _ => .bad 0
theorem fn_L3_10_x000_im (l0 : List (Ty.den TCall)) (n1 : Int) (n2 : Int) (n3 : Int) (b4 : Bool) (n5 : Int) (n6 : Int) (n7 : Int) (l8 : List (Ty.den TCmd)) (n9 : Int) (n10 : Int) (n11 : Int) (l12 : List (Ty.den TCmd)) (n13 : Int) (n14 : Int) (n15 : Int) (l16 : List (Ty.den TCmd)) (n17 : Int) (n18 : Int) (g0 : n1 = (l0.length : Int)) : Imp (fn_L3_10_x000 [.l TCall l0, .n n1, .n n2, .n n3, .b b4, .n n5, .n n6, .n n7, .l TCmd l8, .n n9, .n n10, .n n11, .l TCmd l12, .n n13, .n n14, .n n15, .l TCmd l16, .n n17, .n n18]) (st_L3_10 [.k 0, .l TCall l0, .n n1, .n n2, .n n3, .b b4, .n n2, .n n3, .b false, .n n5, .n n6, .n n7, .l TCmd l8, .b false, .n n9, .n n10, .n n11, .l TCmd l12, .b false, .n n17, .n n18, .n n13, .n n14, .n n15, .l TCmd l16, .b b4]) :=
(.path [1] (by kernel_rfl)
(.pf (c := (decide (n1 < (↑(List.length l0) : Int)))) (by kernel_rfl) (by kernel_rfl) (by (simp [*]; done))
(.path [1] (by kernel_rfl)
(.leaf (by kernel_rfl)))))

noncomputable def fn_L3_10_x001 : List Dat → Tree Step
  | [.l (Ty.pair (Ty.int IntKind.i64) (Ty.pair (Ty.int IntKind.i64) (Ty.pair (Ty.int IntKind.i64) (Ty.pair (Ty.int IntKind.u64) (Ty.pair (Ty.int IntKind.u32) (Ty.pair (Ty.int IntKind.u32) (Ty.sl (Ty.pair (Ty.int IntKind.u8) (Ty.int IntKind.i64))))))))) l0, .n n1, .n n2, .n n3, .b b4, .n n5, .n n6, .n n7, .l (Ty.pair (Ty.int IntKind.u8) (Ty.int IntKind.i64)) l8, .n n9, .n n10, .n n11, .l (Ty.pair (Ty.int IntKind.u8) (Ty.int IntKind.i64)) l12, .n n13, .n n14, .n n15, .l (Ty.pair (Ty.int IntKind.u8) (Ty.int IntKind.i64)) l16, .n n17, .n n18] =>
    (.leaf (Step.stop 0 []))
  | _ => .bad 0
theorem fn_L3_10_x001_im (l0 : List (Ty.den TCall)) (n1 : Int) (n2 : Int) (n3 : Int) (b4 : Bool) (n5 : Int) (n6 : Int) (n7 : Int) (l8 : List (Ty.den TCmd)) (n9 : Int) (n10 : Int) (n11 : Int) (l12 : List (Ty.den TCmd)) (n13 : Int) (n14 : Int) (n15 : Int) (l16 : List (Ty.den TCmd)) (n17 : Int) (n18 : Int) (g0 : n1 = (l0.length : Int)) : Imp (fn_L3_10_x001 [.l TCall l0, .n n1, .n n2, .n n3, .b b4, .n n5, .n n6, .n n7, .l TCmd l8, .n n9, .n n10, .n n11, .l TCmd l12, .n n13, .n n14, .n n15, .l TCmd l16, .n n17, .n n18]) (st_L3_10 [.k 1, .l TCall l0, .n n1, .n n2, .n n3, .b b4, .n n2, .n n3, .b false, .n n5, .n n6, .n n7, .l TCmd l8, .b false, .n n9, .n n10, .n n11, .l TCmd l12, .b true, .n n17, .n n18, .n n13, .n n14, .n n15, .l TCmd l16, .b b4, .n n17, .n n18, .n n13, .n n14, .n n15, .l TCmd l16]) :=
(.path [1] (by kernel_rfl)
(.pf (c := (decide (n1 < (↑(List.length l0) : Int)))) (by kernel_rfl) (by kernel_rfl) (by (simp [*]; done))
(.path [1] (by kernel_rfl)
(.leaf (by kernel_rfl)))))

noncomputable def fn_L3_10_x010 : List Dat → Tree Step
  | [.l (Ty.pair (Ty.int IntKind.i64) (Ty.pair (Ty.int IntKind.i64) (Ty.pair (Ty.int IntKind.i64) (Ty.pair (Ty.int IntKind.u64) (Ty.pair (Ty.int IntKind.u32) (Ty.pair (Ty.int IntKind.u32) (Ty.sl (Ty.pair (Ty.int IntKind.u8) (Ty.int IntKind.i64))))))))) l0, .n n1, .n n2, .n n3, .b b4, .n n5, .n n6, .n n7, .l (Ty.pair (Ty.int IntKind.u8) (Ty.int IntKind.i64)) l8, .n n9, .n n10, .n n11, .l (Ty.pair (Ty.int IntKind.u8) (Ty.int IntKind.i64)) l12, .n n13, .n n14, .n n15, .l (Ty.pair (Ty.int IntKind.u8) (Ty.int IntKind.i64)) l16, .n n17, .n n18, .n n19] =>
    (.leaf (Step.stop 0 []))
  | _ => .bad 0
theorem fn_L3_10_x010_im (l0 : List (Ty.den TCall)) (n1 : Int) (n2 : Int) (n3 : Int) (b4 : Bool) (n5 : Int) (n6 : Int) (n7 : Int) (l8 : List (Ty.den TCmd)) (n9 : Int) (n10 : Int) (n11 : Int) (l12 : List (Ty.den TCmd)) (n13 : Int) (n14 : Int) (n15 : Int) (l16 : List (Ty.den TCmd)) (n17 : Int) (n18 : Int) (n19 : Int) (g0 : n1 = (l0.length : Int)) : Imp (fn_L3_10_x010 [.l TCall l0, .n n1, .n n2, .n n3, .b b4, .n n5, .n n6, .n n7, .l TCmd l8, .n n9, .n n10, .n n11, .l TCmd l12, .n n13, .n n14, .n n15, .l TCmd l16, .n n17, .n n18, .n n19]) (st_L3_10 [.k 2, .l TCall l0, .n n1, .n n2, .n n3, .b b4, .n n2, .n n3, .b false, .n n5, .n n6, .n n7, .l TCmd l8, .b true, .n n9, .n n10, .n n11, .l TCmd l12, .b false, .n n17, .n n18, .n n13, .n n14, .n n15, .l TCmd l16, .b b4, .n n19, .n n3, .n n9, .n n10, .n n11, .l TCmd l12]) :=
(.path [1] (by kernel_rfl)
(.pf (c := (decide (n1 < (↑(List.length l0) : Int)))) (by kernel_rfl) (by kernel_rfl) (by (simp [*]; done))
(.path [1] (by kernel_rfl)
(.leaf (by kernel_rfl)))))

noncomputable def fn_L3_10_x011 : List Dat → Tree Step
  | [.l (Ty.pair (Ty.int IntKind.i64) (Ty.pair (Ty.int IntKind.i64) (Ty.pair (Ty.int IntKind.i64) (Ty.pair (Ty.int IntKind.u64) (Ty.pair (Ty.int IntKind.u32) (Ty.pair (Ty.int IntKind.u32) (Ty.sl (Ty.pair (Ty.int IntKind.u8) (Ty.int IntKind.i64))))))))) l0, .n n1, .n n2, .n n3, .b b4, .n n5, .n n6, .n n7, .l (Ty.pair (Ty.int IntKind.u8) (Ty.int IntKind.i64)) l8, .n n9, .n n10, .n n11, .l (Ty.pair (Ty.int IntKind.u8) (Ty.int IntKind.i64)) l12, .n n13, .n n14, .n n15, .l (Ty.pair (Ty.int IntKind.u8) (Ty.int IntKind.i64)) l16, .n n17, .n n18, .n n19] =>
    (.leaf (Step.stop 0 []))
  | _ => .bad 0
theorem fn_L3_10_x011_im (l0 : List (Ty.den TCall)) (n1 : Int) (n2 : Int) (n3 : Int) (b4 : Bool) (n5 : Int) (n6 : Int) (n7 : Int) (l8 : List (Ty.den TCmd)) (n9 : Int) (n10 : Int) (n11 : Int) (l12 : List (Ty.den TCmd)) (n13 : Int) (n14 : Int) (n15 : Int) (l16 : List (Ty.den TCmd)) (n17 : Int) (n18 : Int) (n19 : Int) (g0 : n1 = (l0.length : Int)) : Imp (fn_L3_10_x011 [.l TCall l0, .n n1, .n n2, .n n3, .b b4, .n n5, .n n6, .n n7, .l TCmd l8, .n n9, .n n10, .n n11, .l TCmd l12, .n n13, .n n14, .n n15, .l TCmd l16, .n n17, .n n18, .n n19]) (st_L3_10 [.k 3, .l TCall l0, .n n1, .n n2, .n n3, .b b4, .n n2, .n n3, .b false, .n n5, .n n6, .n n7, .l TCmd l8, .b true, .n n9, .n n10, .n n11, .l TCmd l12, .b true, .n n17, .n n18, .n n13, .n n14, .n n15, .l TCmd l16, .b b4, .n n19, .n n3, .n n9, .n n10, .n n11, .l TCmd l12, .n n17, .n n18, .n n13, .n n14, .n n15, .l TCmd l16]) :=
(.path [1] (by kernel_rfl)
(.pf (c := (decide (n1 < (↑(List.length l0) : Int)))) (by kernel_rfl) (by kernel_rfl) (by (simp [*]; done))
(.path [1] (by kernel_rfl)
(.leaf (by kernel_rfl)))))

noncomputable def fn_L3_10_x100 : List Dat → Tree Step
  | [.l (Ty.pair (Ty.int IntKind.i64) (Ty.pair (Ty.int IntKind.i64) (Ty.pair (Ty.int IntKind.i64) (Ty.pair (Ty.int IntKind.u64) (Ty.pair (Ty.int IntKind.u32) (Ty.pair (Ty.int IntKind.u32) (Ty.sl (Ty.pair (Ty.int IntKind.u8) (Ty.int IntKind.i64))))))))) l0, .n n1, .n n2, .n n3, .b b4, .n n5, .n n6, .n n7, .l (Ty.pair (Ty.int IntKind.u8) (Ty.int IntKind.i64)) l8, .n n9, .n n10, .n n11, .l (Ty.pair (Ty.int IntKind.u8) (Ty.int IntKind.i64)) l12, .n n13, .n n14, .n n15, .l (Ty.pair (Ty.int IntKind.u8) (Ty.int IntKind.i64)) l16, .n n17, .n n18, .n n19, .n n20] =>
    (.leaf (Step.stop 0 []))
  | _ => .bad 0
theorem fn_L3_10_x100_im (l0 : List (Ty.den TCall)) (n1 : Int) (n2 : Int) (n3 : Int) (b4 : Bool) (n5 : Int) (n6 : Int) (n7 : Int) (l8 : List (Ty.den TCmd)) (n9 : Int) (n10 : Int) (n11 : Int) (l12 : List (Ty.den TCmd)) (n13 : Int) (n14 : Int) (n15 : Int) (l16 : List (Ty.den TCmd)) (n17 : Int) (n18 : Int) (n19 : Int) (n20 : Int) (g0 : n1 = (l0.length : Int)) : Imp (fn_L3_10_x100 [.l TCall l0, .n n1, .n n2, .n n3, .b b4, .n n5, .n n6, .n n7, .l TCmd l8, .n n9, .n n10, .n n11, .l TCmd l12, .n n13, .n n14, .n n15, .l TCmd l16, .n n17, .n n18, .n n19, .n n20]) (st_L3_10 [.k 4, .l TCall l0, .n n1, .n n2, .n n3, .b b4, .n n2, .n n3, .b true, .n n5, .n n6, .n n7, .l TCmd l8, .b false, .n n9, .n n10, .n n11, .l TCmd l12, .b false, .n n17, .n n18, .n n13, .n n14, .n n15, .l TCmd l16, .b b4, .n n19, .n n20, .n n5, .n n6, .n n7, .l TCmd l8]) :=
(.path [1] (by kernel_rfl)
(.pf (c := (decide (n1 < (↑(List.length l0) : Int)))) (by kernel_rfl) (by kernel_rfl) (by (simp [*]; done))
(.path [1] (by kernel_rfl)
(.leaf (by kernel_rfl)))))

noncomputable def fn_L3_10_x101 : List Dat → Tree Step
  | [.l (Ty.pair (Ty.int IntKind.i64) (Ty.pair (Ty.int IntKind.i64) (Ty.pair (Ty.int IntKind.i64) (Ty.pair (Ty.int IntKind.u64) (Ty.pair (Ty.int IntKind.u32) (Ty.pair (Ty.int IntKind.u32) (Ty.sl (Ty.pair (Ty.int IntKind.u8) (Ty.int IntKind.i64))))))))) l0, .n n1, .n n2, .n n3, .b b4, .n n5, .n n6, .n n7, .l (Ty.pair (Ty.int IntKind.u8) (Ty.int IntKind.i64)) l8, .n n9, .n n10, .n n11, .l (Ty.pair (Ty.int IntKind.u8) (Ty.int IntKind.i64)) l12, .n n13, .n n14, .n n15, .l (Ty.pair (Ty.int IntKind.u8) (Ty.int IntKind.i64)) l16, .n n17, .n n18, .n n19, .n n20] =>
    (.leaf (Step.stop 0 []))
  | _ => .bad 0
theorem fn_L3_10_x101_im (l0 : List (Ty.den TCall)) (n1 : Int) (n2 : Int) (n3 : Int) (b4 : Bool) (n5 : Int) (n6 : Int) (n7 : Int) (l8 : List (Ty.den TCmd)) (n9 : Int) (n10 : Int) (n11 : Int) (l12 : List (Ty.den TCmd)) (n13 : Int) (n14 : Int) (n15 : Int) (l16 : List (Ty.den TCmd)) (n17 : Int) (n18 : Int) (n19 : Int) (n20 : Int) (g0 : n1 = (l0.length : Int)) : Imp (fn_L3_10_x101 [.l TCall l0, .n n1, .n n2, .n n3, .b b4, .n n5, .n n6, .n n7, .l TCmd l8, .n n9, .n n10, .n n11, .l TCmd l12, .n n13, .n n14, .n n15, .l TCmd l16, .n n17, .n n18, .n n19, .n n20]) (st_L3_10 [.k 5, .l TCall l0, .n n1, .n n2, .n n3, .b b4, .n n2, .n n3, .b true, .n n5, .n n6, .n n7, .l TCmd l8, .b false, .n n9, .n n10, .n n11, .l TCmd l12, .b true, .n n17, .n n18, .n n13, .n n14, .n n15, .l TCmd l16, .b b4, .n n19, .n n20, .n n5, .n n6, .n n7, .l TCmd l8, .n n17, .n n18, .n n13, .n n14, .n n15, .l TCmd l16]) :=
(.path [1] (by kernel_rfl)
(.pf (c := (decide (n1 < (↑(List.length l0) : Int)))) (by kernel_rfl) (by kernel_rfl) (by (simp [*]; done))
(.path [1] (by kernel_rfl)
(.leaf (by kernel_rfl)))))

noncomputable def fn_L3_10_x110 : List Dat → Tree Step
  | [.l (Ty.pair (Ty.int IntKind.i64) (Ty.pair (Ty.int IntKind.i64) (Ty.pair (Ty.int IntKind.i64) (Ty.pair (Ty.int IntKind.u64) (Ty.pair (Ty.int IntKind.u32) (Ty.pair (Ty.int IntKind.u32) (Ty.sl (Ty.pair (Ty.int IntKind.u8) (Ty.int IntKind.i64))))))))) l0, .n n1, .n n2, .n n3, .b b4, .n n5, .n n6, .n n7, .l (Ty.pair (Ty.int IntKind.u8) (Ty.int IntKind.i64)) l8, .n n9, .n n10, .n n11, .l (Ty.pair (Ty.int IntKind.u8) (Ty.int IntKind.i64)) l12, .n n13, .n n14, .n n15, .l (Ty.pair (Ty.int IntKind.u8) (Ty.int IntKind.i64)) l16, .n n17, .n n18, .n n19, .n n20, .n n21] =>
    (.leaf (Step.stop 0 []))
  | _ => .bad 0
theorem fn_L3_10_x110_im (l0 : List (Ty.den TCall)) (n1 : Int) (n2 : Int) (n3 : Int) (b4 : Bool) (n5 : Int) (n6 : Int) (n7 : Int) (l8 : List (Ty.den TCmd)) (n9 : Int) (n10 : Int) (n11 : Int) (l12 : List (Ty.den TCmd)) (n13 : Int) (n14 : Int) (n15 : Int) (l16 : List (Ty.den TCmd)) (n17 : Int) (n18 : Int) (n19 : Int) (n20 : Int) (n21 : Int) (g0 : n1 = (l0.length : Int)) : Imp (fn_L3_10_x110 [.l TCall l0, .n n1, .n n2, .n n3, .b b4, .n n5, .n n6, .n n7, .l TCmd l8, .n n9, .n n10, .n n11, .l TCmd l12, .n n13, .n n14, .n n15, .l TCmd l16, .n n17, .n n18, .n n19, .n n20, .n n21]) (st_L3_10 [.k 6, .l TCall l0, .n n1, .n n2, .n n3, .b b4, .n n2, .n n3, .b true, .n n5, .n n6, .n n7, .l TCmd l8, .b true, .n n9, .n n10, .n n11, .l TCmd l12, .b false, .n n17, .n n18, .n n13, .n n14, .n n15, .l TCmd l16, .b b4, .n n19, .n n20, .n n5, .n n6, .n n7, .l TCmd l8, .n n21, .n n3, .n n9, .n n10, .n n11, .l TCmd l12]) :=
(.path [1] (by kernel_rfl)
(.pf (c := (decide (n1 < (↑(List.length l0) : Int)))) (by kernel_rfl) (by kernel_rfl) (by (simp [*]; done))
(.path [1] (by kernel_rfl)
(.leaf (by kernel_rfl)))))

noncomputable def fn_L3_10_x111 : List Dat → Tree Step
  | [.l (Ty.pair (Ty.int IntKind.i64) (Ty.pair (Ty.int IntKind.i64) (Ty.pair (Ty.int IntKind.i64) (Ty.pair (Ty.int IntKind.u64) (Ty.pair (Ty.int IntKind.u32) (Ty.pair (Ty.int IntKind.u32) (Ty.sl (Ty.pair (Ty.int IntKind.u8) (Ty.int IntKind.i64))))))))) l0, .n n1, .n n2, .n n3, .b b4, .n n5, .n n6, .n n7, .l (Ty.pair (Ty.int IntKind.u8) (Ty.int IntKind.i64)) l8, .n n9, .n n10, .n n11, .l (Ty.pair (Ty.int IntKind.u8) (Ty.int IntKind.i64)) l12, .n n13, .n n14, .n n15, .l (Ty.pair (Ty.int IntKind.u8) (Ty.int IntKind.i64)) l16, .n n17, .n n18, .n n19, .n n20, .n n21] =>
    (.leaf (Step.stop 0 []))
  | _ => .bad 0
theorem fn_L3_10_x111_im (l0 : List (Ty.den TCall)) (n1 : Int) (n2 : Int) (n3 : Int) (b4 : Bool) (n5 : Int) (n6 : Int) (n7 : Int) (l8 : List (Ty.den TCmd)) (n9 : Int) (n10 : Int) (n11 : Int) (l12 : List (Ty.den TCmd)) (n13 : Int) (n14 : Int) (n15 : Int) (l16 : List (Ty.den TCmd)) (n17 : Int) (n18 : Int) (n19 : Int) (n20 : Int) (n21 : Int) (g0 : n1 = (l0.length : Int)) : Imp (fn_L3_10_x111 [.l TCall l0, .n n1, .n n2, .n n3, .b b4, .n n5, .n n6, .n n7, .l TCmd l8, .n n9, .n n10, .n n11, .l TCmd l12, .n n13, .n n14, .n n15, .l TCmd l16, .n n17, .n n18, .n n19, .n n20, .n n21]) (st_L3_10 [.k 7, .l TCall l0, .n n1, .n n2, .n n3, .b b4, .n n2, .n n3, .b true, .n n5, .n n6, .n n7, .l TCmd l8, .b true, .n n9, .n n10, .n n11, .l TCmd l12, .b true, .n n17, .n n18, .n n13, .n n14, .n n15, .l TCmd l16, .b b4, .n n19, .n n20, .n n5, .n n6, .n n7, .l TCmd l8, .n n21, .n n3, .n n9, .n n10, .n n11, .l TCmd l12, .n n17, .n n18, .n n13, .n n14, .n n15, .l TCmd l16]) :=
(.path [1] (by kernel_rfl)
(.pf (c := (decide (n1 < (↑(List.length l0) : Int)))) (by kernel_rfl) (by kernel_rfl) (by (simp [*]; done))
(.path [1] (by kernel_rfl)
(.leaf (by kernel_rfl)))))

theorem ls_3_ok : LsOk Try.prog (0) (lsM [(10, L3_10)] (0)) (bodyOf Try.prog 3) := LsOk.many fun j B hB hk c hc hi => by
  simp only [lookM] at hB
  split at hB
  · rename_i e; have := Nat.eq_of_beq_eq_true e; subst this; cases hB
    have e1 : loopAt Try.prog 3 10 = [cAt Try.prog 3 10] := loopAt_one (by kernel_rfl)
    have e2 : c ∈ loopAt Try.prog 3 10 := loopsAt_mem hc hi
    rw [e1] at e2; cases List.mem_singleton.1 e2; exact L3_10_run
  cases hB

noncomputable def ev_W3 (env : List Dat) : Tree Bool := Lk.lawB false LK cs_16n 3 (lsM [(10, L3_10)] (0)) (instL [.int .i64 0, .imm TCall 1] env)

theorem W3_law (env : List Dat) (h : (ev_W3 env).sel = some true) {w : World} {args : Array Value} (ha : LRel R0 (snapOf w) (instL [.int .i64 0, .imm TCall 1] env) args) :
    Calls Try.prog 3 args w fun e w' => e = .returned (.bool true) ∧ Below w.heap.size w w' :=
  lawB_ok cs_16n_ok hmix false (ls := (lsM [(10, L3_10)] (0))) (ls_3_ok) (by rw [← lawB_lk]; exact h) ha

noncomputable def fn_W3_t : List Dat → Tree Bool
  | [.n n0, .l (Ty.pair (Ty.int IntKind.i64) (Ty.pair (Ty.int IntKind.i64) (Ty.pair (Ty.int IntKind.i64) (Ty.pair (Ty.int IntKind.u64) (Ty.pair (Ty.int IntKind.u32) (Ty.pair (Ty.int IntKind.u32) (Ty.sl (Ty.pair (Ty.int IntKind.u8) (Ty.int IntKind.i64))))))))) l1] =>
    (let r1 : Option (Nat × List Dat) := (op_7 [.l TCall l1]);
     (.node (isK 0 [HK.b] r1)
      (.node (!gb (dOf r1) 0)
       (.leaf (true))
       (.node (decide (n0 < (0 : Int)))
        (.leaf (true))
        (.node (decide (n0 > (1 : Int)))
         (.leaf (true))
         (.node (n0 != (0 : Int))
          (.node (n0 != (1 : Int))
           (.leaf (false))
           (let r2 : Option (Nat × List Dat) := (op_L3_10 [.k 0, .l TCall l1, .n (0 : Int), .n n0, .n (0 : Int), .b false, .n n0, .n (0 : Int), .b false, .n (0 : Int), .n (0 : Int), .n (0 : Int), .l TCmd [], .b false, .n (0 : Int), .n (0 : Int), .n (0 : Int), .l TCmd [], .b false, .n (0 : Int), .n (0 : Int), .n (0 : Int), .n (0 : Int), .n (0 : Int), .l TCmd [], .b false]);
            (.node (isK 0 [] r2)
             (.leaf (true))
             (.node (isK 1 [HK.b] r2)
              (.leaf (gb (dOf r2) 0))
              (.bad 351)))))
          (let r2 : Option (Nat × List Dat) := (op_L3_10 [.k 0, .l TCall l1, .n (0 : Int), .n n0, .n (0 : Int), .b false, .n n0, .n (0 : Int), .b false, .n (0 : Int), .n (0 : Int), .n (0 : Int), .l TCmd [], .b false, .n (0 : Int), .n (0 : Int), .n (0 : Int), .l TCmd [], .b false, .n (0 : Int), .n (0 : Int), .n (0 : Int), .n (0 : Int), .n (0 : Int), .l TCmd [], .b false]);
           (.node (isK 0 [] r2)
            (.leaf (true))
            (.node (isK 1 [HK.b] r2)
             (.leaf (gb (dOf r2) 0))
             (.bad 351))))))))
      (.bad 351)))
  | _ => .bad 0
theorem fn_W3_t_im (n0 : Int) (l1 : List (Ty.den TCall)) : Imp (fn_W3_t [.n n0, .l TCall l1]) (ev_W3 [.n n0, .l TCall l1]) :=
(.node (by kernel_rfl) (by kernel_rfl) (fun h0 =>
(.path [1] (by kernel_rfl)
(.node (by kernel_rfl) (by kernel_rfl) (fun h1 =>
(.path [1,1,1] (by kernel_rfl)
(.leaf (by kernel_rfl)))) (fun h1 =>
(.path [1] (by kernel_rfl)
(.node (by kernel_rfl) (by kernel_rfl) (fun h2 =>
(.path [1,1,1] (by kernel_rfl)
(.pt (c := (n0 != (0 : Int))) (by kernel_rfl) (by kernel_rfl) (by (simp only [w64d, decide_eq_true_eq, decide_eq_false_iff_not, beq_iff_eq, beq_eq_false_iff_ne, bne_iff_ne, ne_eq, inR, Bool.and_eq_true, Bool.and_eq_false_iff, Bool.not_eq_true', Bool.not_eq_false', Bool.not_eq_eq_eq_not, Bool.not_true, Bool.not_false] at *; omega))
(.pt (c := (n0 != (1 : Int))) (by kernel_rfl) (by kernel_rfl) (by (simp only [w64d, decide_eq_true_eq, decide_eq_false_iff_not, beq_iff_eq, beq_eq_false_iff_ne, bne_iff_ne, ne_eq, inR, Bool.and_eq_true, Bool.and_eq_false_iff, Bool.not_eq_true', Bool.not_eq_false', Bool.not_eq_eq_eq_not, Bool.not_true, Bool.not_false] at *; omega))
(.path [1,1,1,1] (by kernel_rfl)
(.leaf (by kernel_rfl))))))) (fun h2 =>
(.node (by kernel_rfl) (by kernel_rfl) (fun h3 =>
(.path [1] (by kernel_rfl)
(.pt (c := (n0 != (0 : Int))) (by kernel_rfl) (by kernel_rfl) (by (simp only [w64d, decide_eq_true_eq, decide_eq_false_iff_not, beq_iff_eq, beq_eq_false_iff_ne, bne_iff_ne, ne_eq, inR, Bool.and_eq_true, Bool.and_eq_false_iff, Bool.not_eq_true', Bool.not_eq_false', Bool.not_eq_eq_eq_not, Bool.not_true, Bool.not_false] at *; omega))
(.pt (c := (n0 != (1 : Int))) (by kernel_rfl) (by kernel_rfl) (by (simp only [w64d, decide_eq_true_eq, decide_eq_false_iff_not, beq_iff_eq, beq_eq_false_iff_ne, bne_iff_ne, ne_eq, inR, Bool.and_eq_true, Bool.and_eq_false_iff, Bool.not_eq_true', Bool.not_eq_false', Bool.not_eq_eq_eq_not, Bool.not_true, Bool.not_false] at *; omega))
(.path [1,1,1,1] (by kernel_rfl)
(.leaf (by kernel_rfl))))))) (fun h3 =>
(.path [1] (by kernel_rfl)
(.node (by kernel_rfl) (by kernel_rfl) (fun h4 =>
(.node (by kernel_rfl) (by kernel_rfl) (fun h5 =>
(.path [0,0] (by kernel_rfl)
(.leaf (by kernel_rfl)))) (fun h5 =>
(.path [1,1,0] (by kernel_rfl)
(.node (by kernel_rfl) (by kernel_rfl) (fun h6 =>
(.path [1,1,1] (by kernel_rfl)
(.leaf (by kernel_rfl)))) (fun h6 =>
(.node (by kernel_rfl) (by kernel_rfl) (fun h7 =>
(.leaf (by kernel_rfl))) (fun h7 =>
.none)))))))) (fun h4 =>
(.path [0,0,1,1,0] (by kernel_rfl)
(.node (by kernel_rfl) (by kernel_rfl) (fun h5 =>
(.path [1,1,1] (by kernel_rfl)
(.leaf (by kernel_rfl)))) (fun h5 =>
(.node (by kernel_rfl) (by kernel_rfl) (fun h6 =>
(.leaf (by kernel_rfl))) (fun h6 =>
.none))))))))))))))))) (fun h0 =>
.none))
end Go.Proofs.Ytcoamiaifbjofaa.Vx
