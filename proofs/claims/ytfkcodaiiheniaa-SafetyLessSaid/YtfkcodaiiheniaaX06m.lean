import Derived.Test.YtfkcodaiiheniaaVxIm
import Derived.Test.YtfkcodaiiheniaaVxLk
import Derived.Test.YtfkcodaiiheniaaVxLaw
import Derived.KernelRfl
namespace Go.Proofs.Ytfkcodaiiheniaa.Vx
open Go Go.RowKit
set_option linter.unusedVariables false
set_option linter.unusedSimpArgs false
set_option maxRecDepth 100000
set_option maxHeartbeats 0
@[match_pattern] abbrev TS : Ty := .str
@[match_pattern] abbrev TI : Ty := .int .i64
@[match_pattern] abbrev TNd : Ty := .pair (.int .i64) .bool
@[match_pattern] abbrev TPt : Ty := .pair .str (.int .i64)
@[match_pattern] abbrev TRt : Ty := .pair .str (.pair (.int .i64) (.pair (.sl (.int .i64)) (.pair (.sl (.pair (.int .i64) .bool)) (.pair (.sl (.int .i64)) (.sl (.pair (.int .i64) .bool))))))
abbrev DS := List (Ty.den TS)
abbrev DI := List (Ty.den TI)
abbrev DP := List (Ty.den TPt)
abbrev DR := List (Ty.den TRt)
abbrev DD := List (Ty.den TNd)
abbrev LDt := List Dat
abbrev OD := Option (Nat × List Dat)
abbrev TD := Tree (Nat × List Dat)
abbrev OpT := List Dat → Option (Nat × List Dat)
abbrev z0 : Nat := List.length ([] : List PB)
theorem opq (g : OpT) : ∃ f : OpT, ∀ env, f env = g env := ⟨g, fun _ => rfl⟩
theorem Imp.pq {α : Type} {T x : Tree α} {c : Bool} (a : Imp T x.th) (h : x.isNode = true := by kernel_rfl) (e : x.cd = c := by kernel_rfl) (k : c = true := by (simp only [w64d, decide_eq_true_eq, decide_eq_false_iff_not, beq_iff_eq, beq_eq_false_iff_ne, bne_iff_ne, ne_eq, inR, Bool.and_eq_true, Bool.and_eq_false_iff, Bool.not_eq_true', Bool.not_eq_false', Bool.not_eq_eq_eq_not, Bool.not_true, Bool.not_false] at *; omega)) : Imp T x := .pt h e k a
theorem onlyC {f i : Nat} {c : Code} (e : loopAt Try.prog f i = [cAt Try.prog f i]) (h : c ∈ loopAt Try.prog f i) : c = cAt Try.prog f i := by rw [e] at h; exact List.mem_singleton.1 h
def mgI (k : ByteArray) (l : DP) : Int := mget Ty.str TI k l
theorem Imp.nd {α : Type} {T E x : Tree α} {c : Bool} (a : c = true → Imp T x.th) (b : c = false → Imp E x.el) (h : x.isNode = true := by kernel_rfl) (e : x.cd = c := by kernel_rfl) : Imp (.node c T E) x := .node h e a b
theorem Imp.lf {α : Type} {x : Tree α} {y : α} (h : x.sel = some y := by kernel_rfl) : Imp (.leaf y) x := .leaf h
theorem Imp.pa {α : Type} {T x : Tree α} (l : List Nat) (a : Imp T (x.walk l)) (h : x.okPath l = true := by kernel_rfl) : Imp T x := .path l h a
def laV (h : Nat) : PV := .agg [.imm TS h, .imm TPt (h+1), .imm TPt (h+2), .imm TRt (h+3)]
def laB (h : Nat) : PB := .cells [.imm TS h, .imm TPt (h+1), .imm TPt (h+2), .imm TRt (h+3)]
theorem hmix : Try.prog.follows .mixedOrders = true := by kernel_rfl
theorem csNone_ok0 : CsOk Try.prog csNone := csNone_ok _
noncomputable def ev_60 (env : LDt) : TD := Lk.boxC false LK csNone 144 ls0 (mkF [.int .i32 0] [] [] [(.bool 0, [])] fun _ => none) env
noncomputable def op_60 : OpT := Classical.choose (opq (fun env => (ev_60 env).sel))
theorem op_60_eq (env : LDt) : op_60 env = (ev_60 env).sel := Classical.choose_spec (opq (fun env => (ev_60 env).sel)) env
noncomputable def B60 : FBox := mkF [.int .i32 0] [] [] [(.bool 0, [])] op_60
theorem B60_ok : RunOk Try.prog 144 (boxRun B60) := mkF_ok (op := op_60) csNone_ok0 hmix false (LsOk.none _ _ _) (fun env x h => by rw [op_60_eq] at h; rw [← boxC_lk]; exact h)
noncomputable def fn_60_t : LDt → TD
 | [.n n0] =>
  (.node (n0 == (58 : Int))
   (.leaf ((0, [.b false])))
   (.node (n0 == (35 : Int))
   (.leaf ((0, [.b false])))
   (.node (n0 == (43 : Int))
    (.leaf ((0, [.b false])))
    (.node (n0 == (45 : Int))
    (.leaf ((0, [.b false])))
    (.node (n0 == (65533 : Int))
     (.leaf ((0, [.b false])))
     (.node (decide (n0 > (32 : Int)))
     (.node (decide (n0 < (127 : Int)))
      (.leaf ((0, [.b true])))
      (.leaf ((0, [.b (decide (n0 > (160 : Int)))]))))
     (.leaf ((0, [.b false])))))))))
 | _ => .bad 0
theorem fn_60_t_im (n0 : Int) : Imp (fn_60_t [.n n0]) (ev_60 [.n n0]) :=
(.nd (fun h0 =>
(.pt (by kernel_rfl) (by kernel_rfl) h0
(.pa [1]
.lf))) (fun h0 =>
(.nd (fun h1 =>
(.pt (by kernel_rfl) (by kernel_rfl) h1
(.pa [1]
.lf))) (fun h1 =>
(.nd (fun h2 =>
(.pt (by kernel_rfl) (by kernel_rfl) h2
(.pa [1]
.lf))) (fun h2 =>
(.nd (fun h3 =>
(.pt (by kernel_rfl) (by kernel_rfl) h3
(.pa [1]
.lf))) (fun h3 =>
(.nd (fun h4 =>
(.pa [1]
.lf)) (fun h4 =>
(.nd (fun h5 =>
(.nd (fun h6 =>
(.pa [1,1]
.lf)) (fun h6 =>
(.pa [1]
.lf)))) (fun h5 =>
(.pa [0,1]
.lf)))))))))))))
noncomputable def cs_60 : FuncId → Option CSpec := csLend 144 B60 csNone
theorem cs_60_ok : CsOk Try.prog cs_60 := csLend_ok csNone_ok0 B60_ok
noncomputable def ev_59 (env : LDt) : TD := Lk.boxC false LK cs_60 141 ls0 (mkF [.int .i32 0] [] [] [(.bool 0, [])] fun _ => none) env
noncomputable def op_59 : OpT := Classical.choose (opq (fun env => (ev_59 env).sel))
theorem op_59_eq (env : LDt) : op_59 env = (ev_59 env).sel := Classical.choose_spec (opq (fun env => (ev_59 env).sel)) env
noncomputable def B59 : FBox := mkF [.int .i32 0] [] [] [(.bool 0, [])] op_59
theorem B59_ok : RunOk Try.prog 141 (boxRun B59) := mkF_ok (op := op_59) cs_60_ok hmix false (LsOk.none _ _ _) (fun env x h => by rw [op_59_eq] at h; rw [← boxC_lk]; exact h)
noncomputable def fn_59_t : LDt → TD
 | [.n n0] =>
  (.node (decide (n0 ≥ (33 : Int)))
   (.node (n0 != (58 : Int))
   (.node (n0 != (35 : Int))
    (.node (n0 != (43 : Int))
    (.node (n0 != (45 : Int))
     (.node (n0 != (65533 : Int))
     (.node (decide (n0 < (127 : Int)))
      (.leaf ((0, [.b true])))
      (.leaf ((0, [.b (decide (n0 > (160 : Int)))]))))
     (.leaf ((0, [.b false]))))
     (.leaf ((0, [.b false]))))
    (.leaf ((0, [.b false]))))
    (.leaf ((0, [.b false]))))
   (.leaf ((0, [.b false]))))
   (.leaf ((0, [.b false]))))
 | _ => .bad 0
theorem fn_59_t_im (n0 : Int) : Imp (fn_59_t [.n n0]) (ev_59 [.n n0]) :=
(.nd (fun h0 =>
(.nd (fun h1 =>
(.nd (fun h2 =>
(.nd (fun h3 =>
(.nd (fun h4 =>
(.nd (fun h5 =>
(.nd (fun h6 =>
(.pa [1,1]
.lf)) (fun h6 =>
(.pa [1]
.lf)))) (fun h5 =>
(.pa [0,1]
.lf)))) (fun h4 =>
(.pa [0,0,0,1]
.lf)))) (fun h3 =>
(.pa [0,0,0,0,0,1]
.lf)))) (fun h2 =>
(.pa [0,0,0,0,0,0,0,1]
.lf)))) (fun h1 =>
(.pa [0,0,0,0,0,0,0,0,0,1]
.lf)))) (fun h0 =>
(.pa [0,0,0,0,0,0,0,0,0,0,0,1]
.lf)))
noncomputable def cs_59 : FuncId → Option CSpec := csLend 141 B59 cs_60
theorem cs_59_ok : CsOk Try.prog cs_59 := csLend_ok cs_60_ok B59_ok
def kL50_3 (f : OpT) : MBox := mkM 0 [] [(sh 22 [(0, .str 0), (3, .int .i64 1), (7, .itr 0)], [.iter 2 3])] [] [(.exit 0, sh 22 [(3, .int .i64 0)], []), (.ret, sh 22 [(2, .bool 0)], [])] f
noncomputable def st_L50_3 (env : LDt) : Tree Step := Lk.stepMC false LK cs_59 128 3 ls0 (kL50_3 fun _ => none) env
noncomputable def op_L50_3 : OpT := Classical.choose (opq (iterS st_L50_3 FU))
theorem op_L50_3_eq (env : LDt) : op_L50_3 env = iterS st_L50_3 FU env := Classical.choose_spec (opq (iterS st_L50_3 FU)) env
noncomputable def L50_3 : MBox := kL50_3 op_L50_3
theorem L50_3_eqs : L50_3 = kL50_3 (iterS st_L50_3 FU) := congrArg kL50_3 (funext op_L50_3_eq)
theorem L50_3_run : ∀ t s x, (manyRun L50_3 t s).sel = some x → CodeOk Try.prog 0 (.loop (cAt Try.prog 128 3)) t s x := by
 rw [L50_3_eqs]
 exact mkM_ok (st := st_L50_3) (m := FU) cs_59_ok hmix false (LsOk.none _ _ _) (by kernel_rfl) (fun env y h => by rw [← stepMC_lk]; exact h)
noncomputable def fn_L50_3_t : LDt → Tree Step
 | [.s s0, .n n1, .n n2] =>
  (.node (decide (n2 < (↑(ByteArray.size s0) : Int)))
   (.node (decide (IntKind.wrap .i64 (n1 + (1 : Int)) > (16 : Int)))
   (.leaf (Step.stop 1 [.b false]))
   (let r1 : OD := (op_60 [.n (decC s0 n2)]);
    (.node (isK 0 [HK.b] r1)
    (.node (!gb (dOf r1) 0)
     (.leaf (Step.stop 1 [.b false]))
     (.leaf (Step.go [.k 0, .s s0, .n (IntKind.wrap .i64 (n1 + (1 : Int))), .s s0, .n (n2 + decW s0 n2)])))
    (.bad 351))))
   (.leaf (Step.stop 0 [.n n1])))
 | _ => .bad 0
theorem fn_L50_3_t_im (s0 : ByteArray) (n1 : Int) (n2 : Int) : Imp (fn_L50_3_t [.s s0, .n n1, .n n2]) (st_L50_3 [.k 0, .s s0, .n n1, .s s0, .n n2]) :=
(.pa [1]
(.nd (fun h0 =>
(.pa [1]
(.nd (fun h1 =>
(.pa [1,1,1]
.lf)) (fun h1 =>
(.nd (fun h2 =>
(.pa [1]
(.nd (fun h3 =>
(.pa [1]
.lf)) (fun h3 =>
(.pa [1]
.lf))))) (fun h2 =>
.none)))))) (fun h0 =>
(.pa [0,1]
.lf))))
theorem ls_50_ok : LsOk Try.prog (z0) (lsM [(3, L50_3)] (z0)) (bodyOf Try.prog 128) := LsOk.many fun j B hB hk c hc hi => by
 simp only [lookM] at hB
 split at hB
 ·rename_i e; have := Nat.eq_of_beq_eq_true e; subst this; cases hB
  rw [onlyC (f := 128) (i := 3) (loopAt_one (by kernel_rfl)) (loopsAt_mem hc hi)]; exact L50_3_run
 cases hB
noncomputable def ev_50 (env : LDt) : TD := Lk.boxC false LK cs_59 128 (lsM [(3, L50_3)] (z0)) (mkF [.str 0] [] [] [(.bool 0, [])] fun _ => none) env
noncomputable def op_50 : OpT := Classical.choose (opq (fun env => (ev_50 env).sel))
theorem op_50_eq (env : LDt) : op_50 env = (ev_50 env).sel := Classical.choose_spec (opq (fun env => (ev_50 env).sel)) env
noncomputable def B50 : FBox := mkF [.str 0] [] [] [(.bool 0, [])] op_50
theorem B50_ok : RunOk Try.prog 128 (boxRun B50) := mkF_ok (op := op_50) cs_59_ok hmix false (ls_50_ok) (fun env x h => by rw [op_50_eq] at h; rw [← boxC_lk]; exact h)
noncomputable def fn_50_t : LDt → TD
 | [.s s0] =>
  (let r1 : OD := (op_L50_3 [.k 0, .s s0, .n (0 : Int), .s s0, .n (0 : Int)]);
   (.node (isK 0 [HK.n] r1)
   (.leaf ((0, [.b (decide (gn (dOf r1) 0 > (0 : Int)))])))
   (.node (isK 1 [HK.b] r1)
    (.leaf ((0, [.b (gb (dOf r1) 0)])))
    (.bad 351))))
 | _ => .bad 0
theorem fn_50_t_im (s0 : ByteArray) : Imp (fn_50_t [.s s0]) (ev_50 [.s s0]) :=
(.nd (fun h0 =>
(.pa [1]
.lf)) (fun h0 =>
(.nd (fun h1 =>
(.pa [1]
.lf)) (fun h1 =>
.none))))
noncomputable def cs_50 : FuncId → Option CSpec := csLend 128 B50 cs_59
theorem cs_50_ok : CsOk Try.prog cs_50 := csLend_ok cs_59_ok B50_ok
noncomputable def st_L42_3 (env : LDt) : Tree Step := Lk.stepMC false LK cs_50 115 3 ls0 (kL50_3 fun _ => none) env
noncomputable def op_L42_3 : OpT := Classical.choose (opq (iterS st_L42_3 FU))
theorem op_L42_3_eq (env : LDt) : op_L42_3 env = iterS st_L42_3 FU env := Classical.choose_spec (opq (iterS st_L42_3 FU)) env
noncomputable def L42_3 : MBox := kL50_3 op_L42_3
theorem L42_3_eqs : L42_3 = kL50_3 (iterS st_L42_3 FU) := congrArg kL50_3 (funext op_L42_3_eq)
theorem L42_3_run : ∀ t s x, (manyRun L42_3 t s).sel = some x → CodeOk Try.prog 0 (.loop (cAt Try.prog 115 3)) t s x := by
 rw [L42_3_eqs]
 exact mkM_ok (st := st_L42_3) (m := FU) cs_50_ok hmix false (LsOk.none _ _ _) (by kernel_rfl) (fun env y h => by rw [← stepMC_lk]; exact h)
noncomputable def fn_L42_3_t : LDt → Tree Step
 | [.s s0, .n n1, .n n2] =>
  (.node (decide (n2 < (↑(ByteArray.size s0) : Int)))
   (let r1 : OD := (op_59 [.n (decC s0 n2)]);
   (.node (isK 0 [HK.b] r1)
    (.node (!gb (dOf r1) 0)
    (.leaf (Step.stop 1 [.b false]))
    (.leaf (Step.go [.k 0, .s s0, .n (IntKind.wrap .i64 (n1 + (1 : Int))), .s s0, .n (n2 + decW s0 n2)])))
    (.bad 351)))
   (.leaf (Step.stop 0 [.n n1])))
 | _ => .bad 0
theorem fn_L42_3_t_im (s0 : ByteArray) (n1 : Int) (n2 : Int) : Imp (fn_L42_3_t [.s s0, .n n1, .n n2]) (st_L42_3 [.k 0, .s s0, .n n1, .s s0, .n n2]) :=
(.pa [1]
(.nd (fun h0 =>
(.pa [1]
(.nd (fun h1 =>
(.pa [1]
(.nd (fun h2 =>
(.pa [1]
.lf)) (fun h2 =>
(.pa [1]
.lf))))) (fun h1 =>
.none)))) (fun h0 =>
(.pa [0,1]
.lf))))
theorem ls_42_ok : LsOk Try.prog (z0) (lsM [(3, L42_3)] (z0)) (bodyOf Try.prog 115) := LsOk.many fun j B hB hk c hc hi => by
 simp only [lookM] at hB
 split at hB
 ·rename_i e; have := Nat.eq_of_beq_eq_true e; subst this; cases hB
  rw [onlyC (f := 115) (i := 3) (loopAt_one (by kernel_rfl)) (loopsAt_mem hc hi)]; exact L42_3_run
 cases hB
noncomputable def ev_42 (env : LDt) : TD := Lk.boxC false LK cs_50 115 (lsM [(3, L42_3)] (z0)) (mkF [.str 0] [] [] [(.bool 0, [])] fun _ => none) env
noncomputable def op_42 : OpT := Classical.choose (opq (fun env => (ev_42 env).sel))
theorem op_42_eq (env : LDt) : op_42 env = (ev_42 env).sel := Classical.choose_spec (opq (fun env => (ev_42 env).sel)) env
noncomputable def B42 : FBox := mkF [.str 0] [] [] [(.bool 0, [])] op_42
theorem B42_ok : RunOk Try.prog 115 (boxRun B42) := mkF_ok (op := op_42) cs_50_ok hmix false (ls_42_ok) (fun env x h => by rw [op_42_eq] at h; rw [← boxC_lk]; exact h)
noncomputable def fn_42_t : LDt → TD
 | [.s s0] =>
  (let r1 : OD := (op_L42_3 [.k 0, .s s0, .n (0 : Int), .s s0, .n (0 : Int)]);
   (.node (isK 0 [HK.n] r1)
   (.node (decide (gn (dOf r1) 0 ≥ (1 : Int)))
    (.leaf ((0, [.b (decide (gn (dOf r1) 0 ≤ (16 : Int)))])))
    (.leaf ((0, [.b false]))))
   (.node (isK 1 [HK.b] r1)
    (.leaf ((0, [.b (gb (dOf r1) 0)])))
    (.bad 351))))
 | _ => .bad 0
theorem fn_42_t_im (s0 : ByteArray) : Imp (fn_42_t [.s s0]) (ev_42 [.s s0]) :=
(.nd (fun h0 =>
(.nd (fun h1 =>
(.pa [1]
.lf)) (fun h1 =>
(.pa [0,1]
.lf)))) (fun h0 =>
(.nd (fun h1 =>
(.pa [1]
.lf)) (fun h1 =>
.none))))
noncomputable def cs_42 : FuncId → Option CSpec := csLend 115 B42 cs_50
theorem cs_42_ok : CsOk Try.prog cs_42 := csLend_ok cs_50_ok B42_ok
def kL44_2 (f : OpT) : MBox := mkM 0 [] [(sh 32 [(0, .imm TI 0), (1, .int .i64 1), (5, .int .i64 2)], [])] [] [(.exit 0, sh 32 [(0, .imm TI 0)], []), (.ret, sh 32 [(4, .bool 0)], [])] f
noncomputable def st_L44_2 (env : LDt) : Tree Step := Lk.stepMC false LK cs_42 117 2 ls0 (kL44_2 fun _ => none) env
noncomputable def op_L44_2 : OpT := Classical.choose (opq (iterS st_L44_2 FU))
theorem op_L44_2_eq (env : LDt) : op_L44_2 env = iterS st_L44_2 FU env := Classical.choose_spec (opq (iterS st_L44_2 FU)) env
noncomputable def L44_2 : MBox := kL44_2 op_L44_2
theorem L44_2_eqs : L44_2 = kL44_2 (iterS st_L44_2 FU) := congrArg kL44_2 (funext op_L44_2_eq)
theorem L44_2_run : ∀ t s x, (manyRun L44_2 t s).sel = some x → CodeOk Try.prog 0 (.loop (cAt Try.prog 117 2)) t s x := by
 rw [L44_2_eqs]
 exact mkM_ok (st := st_L44_2) (m := FU) cs_42_ok hmix false (LsOk.none _ _ _) (by kernel_rfl) (fun env y h => by rw [← stepMC_lk]; exact h)
noncomputable def fn_L44_2_t : LDt → Tree Step
 | [.l TI l0, .n n1, .n n2] =>
  (.node (decide (n2 < (↑(List.length l0) : Int)))
   (.node (decide (n2 < (17 : Int)))
   (.node (decide ((List.getD l0 (Int.toNat n2) (0 : Int) : Int) < (0 : Int)))
    (.leaf (Step.stop 1 [.b false]))
    (.node (decide ((List.getD l0 (Int.toNat n2) (0 : Int) : Int) ≥ n1))
    (.leaf (Step.stop 1 [.b false]))
    (.leaf (Step.go [.k 0, .l TI l0, .n n1, .n (IntKind.wrap .i64 (n2 + (1 : Int)))]))))
   (.leaf (Step.stop 0 [.l TI l0])))
   (.leaf (Step.stop 0 [.l TI l0])))
 | _ => .bad 0
theorem fn_L44_2_t_im (l0 : DI) (n1 : Int) (n2 : Int) (g0 : 0 ≤ n2) : Imp (fn_L44_2_t [.l TI l0, .n n1, .n n2]) (st_L44_2 [.k 0, .l TI l0, .n n1, .n n2]) :=
(.pa [1]
(.nd (fun h0 =>
(.nd (fun h1 =>
(.pq (c := (inR n2 (List.length l0)))
(.nd (fun h2 =>
(.pa [1,1,1]
.lf)) (fun h2 =>
(.pq (c := (inR n2 (List.length l0)))
(.nd (fun h3 =>
(.pa [1]
.lf)) (fun h3 =>
(.pa [1]
.lf)))))))) (fun h1 =>
(.pa [1]
.lf)))) (fun h0 =>
(.pa [0,0,1]
.lf))))
theorem ls_44_ok : LsOk Try.prog (z0) (lsM [(2, L44_2)] (z0)) (bodyOf Try.prog 117) := LsOk.many fun j B hB hk c hc hi => by
 simp only [lookM] at hB
 split at hB
 ·rename_i e; have := Nat.eq_of_beq_eq_true e; subst this; cases hB
  rw [onlyC (f := 117) (i := 2) (loopAt_one (by kernel_rfl)) (loopsAt_mem hc hi)]; exact L44_2_run
 cases hB
def k44 (f : OpT) : FBox := mkF [.imm TI 0, .int .i64 1] [] [] [(.bool 0, [])] f
noncomputable def ev_44 (env : LDt) : TD := Lk.boxC false LK cs_42 117 (lsM [(2, L44_2)] (z0)) (k44 fun _ => none) env
noncomputable def op_44 : OpT := Classical.choose (opq (fun env => (ev_44 env).sel))
theorem op_44_eq (env : LDt) : op_44 env = (ev_44 env).sel := Classical.choose_spec (opq (fun env => (ev_44 env).sel)) env
noncomputable def B44 : FBox := k44 op_44
theorem B44_ok : RunOk Try.prog 117 (boxRun B44) := mkF_ok (op := op_44) cs_42_ok hmix false (ls_44_ok) (fun env x h => by rw [op_44_eq] at h; rw [← boxC_lk]; exact h)
noncomputable def fn_44_t : LDt → TD
 | [.l TI l0, .n n1] =>
  (let r1 : OD := (op_L44_2 [.k 0, .l TI l0, .n n1, .n (0 : Int)]);
   (.node (isK 0 [HK.l TI] r1)
   (.leaf ((0, [.b (decide ((↑(List.length (gl TI (dOf r1) 0)) : Int) ≤ (16 : Int)))])))
   (.node (isK 1 [HK.b] r1)
    (.leaf ((0, [.b (gb (dOf r1) 0)])))
    (.bad 351))))
 | _ => .bad 0
theorem fn_44_t_im (l0 : DI) (n1 : Int) : Imp (fn_44_t [.l TI l0, .n n1]) (ev_44 [.l TI l0, .n n1]) :=
(.nd (fun h0 =>
(.pa [1]
.lf)) (fun h0 =>
(.nd (fun h1 =>
(.pa [1]
.lf)) (fun h1 =>
.none))))
noncomputable def cs_44 : FuncId → Option CSpec := csLend 117 B44 cs_42
theorem cs_44_ok : CsOk Try.prog cs_44 := csLend_ok cs_42_ok B44_ok
def kL43_2 (f : OpT) : MBox := mkM 0 [] [(sh 19 [(0, .imm TS 0), (1, .str 1), (5, .int .i64 2)], [])] [] [(.exit 0, sh 19 [], []), (.ret, sh 19 [(4, .int .i64 0)], [])] f
noncomputable def st_L43_2 (env : LDt) : Tree Step := Lk.stepMC false LK cs_44 116 2 ls0 (kL43_2 fun _ => none) env
noncomputable def op_L43_2 : OpT := Classical.choose (opq (iterS st_L43_2 FU))
theorem op_L43_2_eq (env : LDt) : op_L43_2 env = iterS st_L43_2 FU env := Classical.choose_spec (opq (iterS st_L43_2 FU)) env
noncomputable def L43_2 : MBox := kL43_2 op_L43_2
theorem L43_2_eqs : L43_2 = kL43_2 (iterS st_L43_2 FU) := congrArg kL43_2 (funext op_L43_2_eq)
theorem L43_2_run : ∀ t s x, (manyRun L43_2 t s).sel = some x → CodeOk Try.prog 0 (.loop (cAt Try.prog 116 2)) t s x := by
 rw [L43_2_eqs]
 exact mkM_ok (st := st_L43_2) (m := FU) cs_44_ok hmix false (LsOk.none _ _ _) (by kernel_rfl) (fun env y h => by rw [← stepMC_lk]; exact h)
noncomputable def fn_L43_2_t : LDt → Tree Step
 | [.l TS l0, .s s1, .n n2] =>
  (.node (decide (n2 < (↑(List.length l0) : Int)))
   (.node (strEq (List.getD l0 (Int.toNat n2) (Ty.dflt Ty.str)) s1)
   (.leaf (Step.stop 1 [.n n2]))
   (.leaf (Step.go [.k 0, .l TS l0, .s s1, .n (IntKind.wrap .i64 (n2 + (1 : Int)))])))
   (.leaf (Step.stop 0 [])))
 | _ => .bad 0
theorem fn_L43_2_t_im (l0 : DS) (s1 : ByteArray) (n2 : Int) (g0 : 0 ≤ n2) : Imp (fn_L43_2_t [.l TS l0, .s s1, .n n2]) (st_L43_2 [.k 0, .l TS l0, .s s1, .n n2]) :=
(.pa [1]
(.nd (fun h0 =>
(.pq (c := (inR n2 (List.length l0)))
(.nd (fun h1 =>
(.pa [1]
.lf)) (fun h1 =>
(.pa [1]
.lf))))) (fun h0 =>
(.pa [1]
.lf))))
theorem ls_43_ok : LsOk Try.prog (z0) (lsM [(2, L43_2)] (z0)) (bodyOf Try.prog 116) := LsOk.many fun j B hB hk c hc hi => by
 simp only [lookM] at hB
 split at hB
 ·rename_i e; have := Nat.eq_of_beq_eq_true e; subst this; cases hB
  rw [onlyC (f := 116) (i := 2) (loopAt_one (by kernel_rfl)) (loopsAt_mem hc hi)]; exact L43_2_run
 cases hB
def k43 (f : OpT) : FBox := mkF [.imm TS 0, .str 1] [] [] [(.int .i64 0, [])] f
noncomputable def ev_43 (env : LDt) : TD := Lk.boxC false LK cs_44 116 (lsM [(2, L43_2)] (z0)) (k43 fun _ => none) env
noncomputable def op_43 : OpT := Classical.choose (opq (fun env => (ev_43 env).sel))
theorem op_43_eq (env : LDt) : op_43 env = (ev_43 env).sel := Classical.choose_spec (opq (fun env => (ev_43 env).sel)) env
noncomputable def B43 : FBox := k43 op_43
theorem B43_ok : RunOk Try.prog 116 (boxRun B43) := mkF_ok (op := op_43) cs_44_ok hmix false (ls_43_ok) (fun env x h => by rw [op_43_eq] at h; rw [← boxC_lk]; exact h)
noncomputable def fn_43_t : LDt → TD
 | [.l TS l0, .s s1] =>
  (let r1 : OD := (op_L43_2 [.k 0, .l TS l0, .s s1, .n (0 : Int)]);
   (.node (isK 0 [] r1)
   (.leaf ((0, [.n (-1 : Int)])))
   (.node (isK 1 [HK.n] r1)
    (.leaf ((0, [.n (gn (dOf r1) 0)])))
    (.bad 351))))
 | _ => .bad 0
theorem fn_43_t_im (l0 : DS) (s1 : ByteArray) : Imp (fn_43_t [.l TS l0, .s s1]) (ev_43 [.l TS l0, .s s1]) :=
(.nd (fun h0 =>
(.pa [1]
.lf)) (fun h0 =>
(.nd (fun h1 =>
(.pa [1]
.lf)) (fun h1 =>
.none))))
noncomputable def cs_43 : FuncId → Option CSpec := csLend 116 B43 cs_44
theorem cs_43_ok : CsOk Try.prog cs_43 := csLend_ok cs_44_ok B43_ok
def kL48_4 (f : OpT) : MBox := mkM 0 [] [(sh 23 [(2, .ptr 0 0), (10, .imm TI 0), (11, .int .i64 1), (12, .int .i64 2)], [laB 3])] [] [(.exit 0, sh 23 [], []), (.ret, sh 23 [(4, .bool 0)], [])] f
noncomputable def st_L48_4 (env : LDt) : Tree Step := Lk.stepMC false LK cs_43 126 4 ls0 (kL48_4 fun _ => none) env
noncomputable def op_L48_4 : OpT := Classical.choose (opq (iterS st_L48_4 FU))
theorem op_L48_4_eq (env : LDt) : op_L48_4 env = iterS st_L48_4 FU env := Classical.choose_spec (opq (iterS st_L48_4 FU)) env
noncomputable def L48_4 : MBox := kL48_4 op_L48_4
theorem L48_4_eqs : L48_4 = kL48_4 (iterS st_L48_4 FU) := congrArg kL48_4 (funext op_L48_4_eq)
theorem L48_4_run : ∀ t s x, (manyRun L48_4 t s).sel = some x → CodeOk Try.prog 0 (.loop (cAt Try.prog 126 4)) t s x := by
 rw [L48_4_eqs]
 exact mkM_ok (st := st_L48_4) (m := FU) cs_43_ok hmix false (LsOk.none _ _ _) (by kernel_rfl) (fun env y h => by rw [← stepMC_lk]; exact h)
noncomputable def fn_L48_4_t : LDt → Tree Step
 | [.l TI l0, .n n1, .n n2, .l TS l3, .l TPt l4, .l TPt l5, .l TRt l6] =>
  (.node (decide (n2 < n1))
   (.node (decide ((List.getD l0 (Int.toNat n2) (0 : Int) : Int) ≥ (0 : Int)))
   (.node (!decide ((List.getD l0 (Int.toNat n2) (0 : Int) : Int) < (↑(List.length l3) : Int)))
    (.leaf (Step.stop 1 [.b false]))
    (.leaf (Step.go [.k 0, .l TI l0, .n n1, .n (IntKind.wrap .i64 (n2 + (1 : Int))), .l TS l3, .l TPt l4, .l TPt l5, .l TRt l6])))
   (.leaf (Step.stop 1 [.b false])))
   (.leaf (Step.stop 0 [])))
 | _ => .bad 0
theorem fn_L48_4_t_im (l0 : DI) (n1 : Int) (n2 : Int) (l3 : DS) (l4 : DP) (l5 : DP) (l6 : DR) (g0 : 0 ≤ n2) (g1 :  n1 = (l0.length : Int)) : Imp (fn_L48_4_t [.l TI l0, .n n1, .n n2, .l TS l3, .l TPt l4, .l TPt l5, .l TRt l6]) (st_L48_4 [.k 0, .l TI l0, .n n1, .n n2, .l TS l3, .l TPt l4, .l TPt l5, .l TRt l6]) :=
(.pa [1]
(.nd (fun h0 =>
(.pq (c := (inR n2 (List.length l0)))
(.pa [1]
(.nd (fun h1 =>
(.pa [1]
(.nd (fun h2 =>
(.pa [1]
.lf)) (fun h2 =>
(.pa [1]
.lf))))) (fun h1 =>
(.pa [0,1,1,1]
.lf)))))) (fun h0 =>
(.pa [1]
.lf))))
theorem ls_48_ok : LsOk Try.prog (z0) (lsM [(4, L48_4)] (z0)) (bodyOf Try.prog 126) := LsOk.many fun j B hB hk c hc hi => by
 simp only [lookM] at hB
 split at hB
 ·rename_i e; have := Nat.eq_of_beq_eq_true e; subst this; cases hB
  rw [onlyC (f := 126) (i := 4) (loopAt_one (by kernel_rfl)) (loopsAt_mem hc hi)]; exact L48_4_run
 cases hB
def k48 (f : OpT) : FBox := mkF [laV 0, .imm TI 4] [] [] [(.bool 0, [])] f
noncomputable def ev_48 (env : LDt) : TD := Lk.boxC false LK cs_43 126 (lsM [(4, L48_4)] (z0)) (k48 fun _ => none) env
noncomputable def op_48 : OpT := Classical.choose (opq (fun env => (ev_48 env).sel))
theorem op_48_eq (env : LDt) : op_48 env = (ev_48 env).sel := Classical.choose_spec (opq (fun env => (ev_48 env).sel)) env
noncomputable def B48 : FBox := k48 op_48
theorem B48_ok : RunOk Try.prog 126 (boxRun B48) := mkF_ok (op := op_48) cs_43_ok hmix false (ls_48_ok) (fun env x h => by rw [op_48_eq] at h; rw [← boxC_lk]; exact h)
noncomputable def fn_48_t : LDt → TD
 | [.l TS l0, .l TPt l1, .l TPt l2, .l TRt l3, .l TI l4] =>
  (.node (decide ((↑(List.length l4) : Int) > (16 : Int)))
   (.leaf ((0, [.b false])))
   (let r1 : OD := (op_L48_4 [.k 0, .l TI l4, .n (↑(List.length l4) : Int), .n (0 : Int), .l TS l0, .l TPt l1, .l TPt l2, .l TRt l3]);
   (.node (isK 0 [] r1)
    (.leaf ((0, [.b true])))
    (.node (isK 1 [HK.b] r1)
    (.leaf ((0, [.b (gb (dOf r1) 0)])))
    (.bad 351)))))
 | _ => .bad 0
theorem fn_48_t_im (l0 : DS) (l1 : DP) (l2 : DP) (l3 : DR) (l4 : DI) : Imp (fn_48_t [.l TS l0, .l TPt l1, .l TPt l2, .l TRt l3, .l TI l4]) (ev_48 [.l TS l0, .l TPt l1, .l TPt l2, .l TRt l3, .l TI l4]) :=
(.nd (fun h0 =>
(.pa [1]
.lf)) (fun h0 =>
(.nd (fun h1 =>
(.pa [1]
.lf)) (fun h1 =>
(.nd (fun h2 =>
(.pa [1]
.lf)) (fun h2 =>
.none))))))
noncomputable def cs_48 : FuncId → Option CSpec := csLend 126 B48 cs_43
theorem cs_48_ok : CsOk Try.prog cs_48 := csLend_ok cs_43_ok B48_ok
def kL49_4 (f : OpT) : MBox := mkM 0 [] [(sh 24 [(2, .ptr 0 0), (10, .imm TNd 0), (11, .int .i64 1), (12, .int .i64 2)], [laB 3])] [] [(.exit 0, sh 24 [], []), (.ret, sh 24 [(4, .bool 0)], [])] f
noncomputable def st_L49_4 (env : LDt) : Tree Step := Lk.stepMC false LK cs_48 127 4 ls0 (kL49_4 fun _ => none) env
noncomputable def op_L49_4 : OpT := Classical.choose (opq (iterS st_L49_4 FU))
theorem op_L49_4_eq (env : LDt) : op_L49_4 env = iterS st_L49_4 FU env := Classical.choose_spec (opq (iterS st_L49_4 FU)) env
noncomputable def L49_4 : MBox := kL49_4 op_L49_4
theorem L49_4_eqs : L49_4 = kL49_4 (iterS st_L49_4 FU) := congrArg kL49_4 (funext op_L49_4_eq)
theorem L49_4_run : ∀ t s x, (manyRun L49_4 t s).sel = some x → CodeOk Try.prog 0 (.loop (cAt Try.prog 127 4)) t s x := by
 rw [L49_4_eqs]
 exact mkM_ok (st := st_L49_4) (m := FU) cs_48_ok hmix false (LsOk.none _ _ _) (by kernel_rfl) (fun env y h => by rw [← stepMC_lk]; exact h)
noncomputable def fn_L49_4_t : LDt → Tree Step
 | [.l TNd l0, .n n1, .n n2, .l TS l3, .l TPt l4, .l TPt l5, .l TRt l6] =>
  (.node (decide (n2 < n1))
   (.node (decide ((Prod.fst (List.getD l0 (Int.toNat n2) (Ty.dflt TNd)) : Int) ≥ (0 : Int)))
   (.node (!decide ((Prod.fst (List.getD l0 (Int.toNat n2) (Ty.dflt TNd)) : Int) < (↑(List.length l4) : Int)))
    (.leaf (Step.stop 1 [.b false]))
    (.leaf (Step.go [.k 0, .l TNd l0, .n n1, .n (IntKind.wrap .i64 (n2 + (1 : Int))), .l TS l3, .l TPt l4, .l TPt l5, .l TRt l6])))
   (.leaf (Step.stop 1 [.b false])))
   (.leaf (Step.stop 0 [])))
 | _ => .bad 0
theorem fn_L49_4_t_im (l0 : DD) (n1 : Int) (n2 : Int) (l3 : DS) (l4 : DP) (l5 : DP) (l6 : DR) (g0 : 0 ≤ n2) (g1 :  n1 = (l0.length : Int)) : Imp (fn_L49_4_t [.l TNd l0, .n n1, .n n2, .l TS l3, .l TPt l4, .l TPt l5, .l TRt l6]) (st_L49_4 [.k 0, .l TNd l0, .n n1, .n n2, .l TS l3, .l TPt l4, .l TPt l5, .l TRt l6]) :=
(.pa [1]
(.nd (fun h0 =>
(.pq (c := (inR n2 (List.length l0)))
(.pa [1]
(.nd (fun h1 =>
(.pa [1]
(.nd (fun h2 =>
(.pa [1]
.lf)) (fun h2 =>
(.pa [1]
.lf))))) (fun h1 =>
(.pa [0,1,1,1]
.lf)))))) (fun h0 =>
(.pa [1]
.lf))))
theorem ls_49_ok : LsOk Try.prog (z0) (lsM [(4, L49_4)] (z0)) (bodyOf Try.prog 127) := LsOk.many fun j B hB hk c hc hi => by
 simp only [lookM] at hB
 split at hB
 ·rename_i e; have := Nat.eq_of_beq_eq_true e; subst this; cases hB
  rw [onlyC (f := 127) (i := 4) (loopAt_one (by kernel_rfl)) (loopsAt_mem hc hi)]; exact L49_4_run
 cases hB
def k49 (f : OpT) : FBox := mkF [laV 0, .imm TNd 4] [] [] [(.bool 0, [])] f
noncomputable def ev_49 (env : LDt) : TD := Lk.boxC false LK cs_48 127 (lsM [(4, L49_4)] (z0)) (k49 fun _ => none) env
noncomputable def op_49 : OpT := Classical.choose (opq (fun env => (ev_49 env).sel))
theorem op_49_eq (env : LDt) : op_49 env = (ev_49 env).sel := Classical.choose_spec (opq (fun env => (ev_49 env).sel)) env
noncomputable def B49 : FBox := k49 op_49
theorem B49_ok : RunOk Try.prog 127 (boxRun B49) := mkF_ok (op := op_49) cs_48_ok hmix false (ls_49_ok) (fun env x h => by rw [op_49_eq] at h; rw [← boxC_lk]; exact h)
noncomputable def fn_49_t : LDt → TD
 | [.l TS l0, .l TPt l1, .l TPt l2, .l TRt l3, .l TNd l4] =>
  (.node (decide ((↑(List.length l4) : Int) > (16 : Int)))
   (.leaf ((0, [.b false])))
   (let r1 : OD := (op_L49_4 [.k 0, .l TNd l4, .n (↑(List.length l4) : Int), .n (0 : Int), .l TS l0, .l TPt l1, .l TPt l2, .l TRt l3]);
   (.node (isK 0 [] r1)
    (.leaf ((0, [.b true])))
    (.node (isK 1 [HK.b] r1)
    (.leaf ((0, [.b (gb (dOf r1) 0)])))
    (.bad 351)))))
 | _ => .bad 0
theorem fn_49_t_im (l0 : DS) (l1 : DP) (l2 : DP) (l3 : DR) (l4 : DD) : Imp (fn_49_t [.l TS l0, .l TPt l1, .l TPt l2, .l TRt l3, .l TNd l4]) (ev_49 [.l TS l0, .l TPt l1, .l TPt l2, .l TRt l3, .l TNd l4]) :=
(.nd (fun h0 =>
(.pa [1]
.lf)) (fun h0 =>
(.nd (fun h1 =>
(.pa [1]
.lf)) (fun h1 =>
(.nd (fun h2 =>
(.pa [1]
.lf)) (fun h2 =>
.none))))))
noncomputable def cs_49 : FuncId → Option CSpec := csLend 127 B49 cs_48
theorem cs_49_ok : CsOk Try.prog cs_49 := csLend_ok cs_48_ok B49_ok
def kL45_3 (f : OpT) : MBox := mkM 0 [] [(sh 24 [(0, .imm TNd 0), (3, .own 0), (4, .int .i64 1)], [.arr TI 2])] [(3, TI)] [(.exit 0, sh 24 [(3, .own 0)], [.arr TI 0])] f
noncomputable def st_L45_3 (env : LDt) : Tree Step := Lk.stepMC false LK cs_49 118 3 ls0 (kL45_3 fun _ => none) env
noncomputable def op_L45_3 : OpT := Classical.choose (opq (iterS st_L45_3 FU))
theorem op_L45_3_eq (env : LDt) : op_L45_3 env = iterS st_L45_3 FU env := Classical.choose_spec (opq (iterS st_L45_3 FU)) env
noncomputable def L45_3 : MBox := kL45_3 op_L45_3
theorem L45_3_eqs : L45_3 = kL45_3 (iterS st_L45_3 FU) := congrArg kL45_3 (funext op_L45_3_eq)
theorem L45_3_run : ∀ t s x, (manyRun L45_3 t s).sel = some x → CodeOk Try.prog 0 (.loop (cAt Try.prog 118 3)) t s x := by
 rw [L45_3_eqs]
 exact mkM_ok (st := st_L45_3) (m := FU) cs_49_ok hmix false (LsOk.none _ _ _) (by kernel_rfl) (fun env y h => by rw [← stepMC_lk]; exact h)
noncomputable def fn_L45_3_t : LDt → Tree Step
 | [.l TNd l0, .n n1, .l TI l2] =>
  (.node (decide (n1 < (↑(List.length l0) : Int)))
   (.node (decide (n1 < (17 : Int)))
   (.node (decide ((List.length l2 + 1) * 8 ≤ 140737488355328))
    (.leaf (Step.go [.k 0, .l TNd l0, .n (IntKind.wrap .i64 (n1 + (1 : Int))), .l TI (l2 ++ [Prod.fst (List.getD l0 (Int.toNat n1) (Ty.dflt TNd))])]))
    (.bad 62))
   (.leaf (Step.stop 0 [.l TI l2])))
   (.leaf (Step.stop 0 [.l TI l2])))
 | _ => .bad 0
theorem fn_L45_3_t_im (l0 : DD) (n1 : Int) (l2 : DI) (g0 : 0 ≤ n1) : Imp (fn_L45_3_t [.l TNd l0, .n n1, .l TI l2]) (st_L45_3 [.k 0, .l TNd l0, .n n1, .l TI l2]) :=
(.pa [1]
(.nd (fun h0 =>
(.nd (fun h1 =>
(.pq (c := (inR n1 (List.length l0)))
(.nd (fun h2 =>
(.pa [1]
.lf)) (fun h2 =>
.none)))) (fun h1 =>
(.pa [1]
.lf)))) (fun h0 =>
(.pa [0,0,1]
.lf))))
theorem ls_45_ok : LsOk Try.prog (z0) (lsM [(3, L45_3)] (z0)) (bodyOf Try.prog 118) := LsOk.many fun j B hB hk c hc hi => by
 simp only [lookM] at hB
 split at hB
 ·rename_i e; have := Nat.eq_of_beq_eq_true e; subst this; cases hB
  rw [onlyC (f := 118) (i := 3) (loopAt_one (by kernel_rfl)) (loopsAt_mem hc hi)]; exact L45_3_run
 cases hB
def k45 (f : OpT) : FBox := mkF [.imm TNd 0] [] [] [(.own 0, [.arr TI 0])] f
noncomputable def ev_45 (env : LDt) : TD := Lk.boxC false LK cs_49 118 (lsM [(3, L45_3)] (z0)) (k45 fun _ => none) env
noncomputable def op_45 : OpT := Classical.choose (opq (fun env => (ev_45 env).sel))
theorem op_45_eq (env : LDt) : op_45 env = (ev_45 env).sel := Classical.choose_spec (opq (fun env => (ev_45 env).sel)) env
noncomputable def B45 : FBox := k45 op_45
theorem B45_ok : RunOk Try.prog 118 (boxRun B45) := mkF_ok (op := op_45) cs_49_ok hmix false (ls_45_ok) (fun env x h => by rw [op_45_eq] at h; rw [← boxC_lk]; exact h)
noncomputable def fn_45_t : LDt → TD
 | [.l TNd l0] =>
  (let r1 : OD := (op_L45_3 [.k 0, .l TNd l0, .n (0 : Int), .l TI []]);
   (.node (isK 0 [HK.l TI] r1)
   (.leaf ((0, [.l TI (gl TI (dOf r1) 0)])))
   (.bad 351)))
 | _ => .bad 0
theorem fn_45_t_im (l0 : DD) : Imp (fn_45_t [.l TNd l0]) (ev_45 [.l TNd l0]) :=
(.nd (fun h0 =>
(.pa [1]
.lf)) (fun h0 =>
.none))
noncomputable def cs_45 : FuncId → Option CSpec := csLend 118 B45 cs_49
theorem cs_45_ok : CsOk Try.prog cs_45 := csLend_ok cs_49_ok B45_ok
def k31 (f : OpT) : FBox := mkF [laV 0, .agg [.str 4, .int .i64 5, .imm TI 6, .imm TNd 7, .imm TI 8, .imm TNd 9]] [] [] [(.bool 0, [])] f
noncomputable def ev_31 (env : LDt) : TD := Lk.boxC false LK cs_45 81 ls0 (k31 fun _ => none) env
noncomputable def op_31 : OpT := Classical.choose (opq (fun env => (ev_31 env).sel))
theorem op_31_eq (env : LDt) : op_31 env = (ev_31 env).sel := Classical.choose_spec (opq (fun env => (ev_31 env).sel)) env
noncomputable def B31 : FBox := k31 op_31
theorem B31_ok : RunOk Try.prog 81 (boxRun B31) := mkF_ok (op := op_31) cs_45_ok hmix false (LsOk.none _ _ _) (fun env x h => by rw [op_31_eq] at h; rw [← boxC_lk]; exact h)
noncomputable def fn_31_t : LDt → TD
 | [.l TS l0, .l TPt l1, .l TPt l2, .l TRt l3, .s s4, .n n5, .l TI l6, .l TNd l7, .l TI l8, .l TNd l9] =>
  (.node (decide (n5 ≥ (0 : Int)))
   (.node (decide (n5 < (↑(List.length l2) : Int)))
   (let r1 : OD := (op_48 [.l TS l0, .l TPt l1, .l TPt l2, .l TRt l3, .l TI l6]);
    (.node (isK 0 [HK.b] r1)
    (.node (gb (dOf r1) 0)
     (let r2 : OD := (op_49 [.l TS l0, .l TPt l1, .l TPt l2, .l TRt l3, .l TNd l7]);
     (.node (isK 0 [HK.b] r2)
      (.node (gb (dOf r2) 0)
      (let r3 : OD := (op_48 [.l TS l0, .l TPt l1, .l TPt l2, .l TRt l3, .l TI l8]);
       (.node (isK 0 [HK.b] r3)
       (.node (gb (dOf r3) 0)
        (let r4 : OD := (op_49 [.l TS l0, .l TPt l1, .l TPt l2, .l TRt l3, .l TNd l9]);
        (.node (isK 0 [HK.b] r4)
         (.leaf ((0, [.b (gb (dOf r4) 0)])))
         (.bad 351)))
        (.leaf ((0, [.b false]))))
       (.bad 351)))
      (.leaf ((0, [.b false]))))
      (.bad 351)))
     (.leaf ((0, [.b false]))))
    (.bad 351)))
   (.leaf ((0, [.b false]))))
   (.leaf ((0, [.b false]))))
 | _ => .bad 0
theorem fn_31_t_im (l0 : DS) (l1 : DP) (l2 : DP) (l3 : DR) (s4 : ByteArray) (n5 : Int) (l6 : DI) (l7 : DD) (l8 : DI) (l9 : DD) : Imp (fn_31_t [.l TS l0, .l TPt l1, .l TPt l2, .l TRt l3, .s s4, .n n5, .l TI l6, .l TNd l7, .l TI l8, .l TNd l9]) (ev_31 [.l TS l0, .l TPt l1, .l TPt l2, .l TRt l3, .s s4, .n n5, .l TI l6, .l TNd l7, .l TI l8, .l TNd l9]) :=
(.pa [1]
(.nd (fun h0 =>
(.pa [1]
(.nd (fun h1 =>
(.nd (fun h2 =>
(.pa [1]
(.nd (fun h3 =>
(.nd (fun h4 =>
(.pa [1]
(.nd (fun h5 =>
(.nd (fun h6 =>
(.pa [1]
(.nd (fun h7 =>
(.nd (fun h8 =>
(.pa [1,1]
.lf)) (fun h8 =>
.none))) (fun h7 =>
(.pa [0,1]
.lf))))) (fun h6 =>
.none))) (fun h5 =>
(.pa [0,0,0,1]
.lf))))) (fun h4 =>
.none))) (fun h3 =>
(.pa [0,0,0,0,0,1]
.lf))))) (fun h2 =>
.none))) (fun h1 =>
(.pa [0,0,0,0,0,0,0,1]
.lf))))) (fun h0 =>
(.pa [0,1,0,0,0,0,0,0,0,0,1]
.lf))))
noncomputable def cs_31 : FuncId → Option CSpec := csLend 81 B31 cs_45
theorem cs_31_ok : CsOk Try.prog cs_31 := csLend_ok cs_45_ok B31_ok
def kL32_3 (f : OpT) : MBox := mkM 0 [] [(sh 76 [(1, .ptr 0 0), (3, .own 1), (17, .imm TPt 0), (18, .int .i64 1), (19, .int .i64 2)], [laB 3, .arr TS 7])] [] [(.exit 0, sh 76 [(1, .ptr 0 0), (3, .own 1)], [laB 0, .arr TS 4])] f
noncomputable def st_L32_3 (env : LDt) : Tree Step := Lk.stepMC false LK cs_31 82 3 ls0 (kL32_3 fun _ => none) env
noncomputable def op_L32_3 : OpT := Classical.choose (opq (iterS st_L32_3 FU))
theorem op_L32_3_eq (env : LDt) : op_L32_3 env = iterS st_L32_3 FU env := Classical.choose_spec (opq (iterS st_L32_3 FU)) env
noncomputable def L32_3 : MBox := kL32_3 op_L32_3
theorem L32_3_eqs : L32_3 = kL32_3 (iterS st_L32_3 FU) := congrArg kL32_3 (funext op_L32_3_eq)
theorem L32_3_run : ∀ t s x, (manyRun L32_3 t s).sel = some x → CodeOk Try.prog 0 (.loop (cAt Try.prog 82 3)) t s x := by
 rw [L32_3_eqs]
 exact mkM_ok (st := st_L32_3) (m := FU) cs_31_ok hmix false (LsOk.none _ _ _) (by kernel_rfl) (fun env y h => by rw [← stepMC_lk]; exact h)
noncomputable def fn_L32_3_t : LDt → Tree Step
 | [.l TPt l0, .n n1, .n n2, .l TS l3, .l TPt l4, .l TPt l5, .l TRt l6, .l TS l7] =>
  (.node (decide (n2 < n1))
   (.node (decide ((List.length l7 + 1) * 16 ≤ 140737488355328))
   (.leaf (Step.go [.k 0, .l TPt l0, .n n1, .n (IntKind.wrap .i64 (n2 + (1 : Int))), .l TS l3, .l TPt l4, .l TPt l5, .l TRt l6, .l TS (l7 ++ [Prod.fst (List.getD l0 (Int.toNat n2) (Ty.dflt TPt))])]))
   (.bad 62))
   (.leaf (Step.stop 0 [.l TS l3, .l TPt l4, .l TPt l5, .l TRt l6, .l TS l7])))
 | _ => .bad 0
theorem fn_L32_3_t_im (l0 : DP) (n1 : Int) (n2 : Int) (l3 : DS) (l4 : DP) (l5 : DP) (l6 : DR) (l7 : DS) (g0 : 0 ≤ n2) (g1 :  n1 = (l0.length : Int)) : Imp (fn_L32_3_t [.l TPt l0, .n n1, .n n2, .l TS l3, .l TPt l4, .l TPt l5, .l TRt l6, .l TS l7]) (st_L32_3 [.k 0, .l TPt l0, .n n1, .n n2, .l TS l3, .l TPt l4, .l TPt l5, .l TRt l6, .l TS l7]) :=
(.pa [1]
(.nd (fun h0 =>
(.pq (c := (inR n2 (List.length l0)))
(.nd (fun h1 =>
(.pa [1]
.lf)) (fun h1 =>
.none)))) (fun h0 =>
(.pa [1]
.lf))))
def kL32_8 (f : OpT) : MBox := mkM 0 [] [(sh 76 [(1, .ptr 0 0), (3, .own 1), (30, .imm TPt 0), (31, .int .i64 1), (32, .int .i64 2)], [laB 3, .arr TS 7])] [] [(.exit 2, sh 76 [(1, .ptr 0 0), (3, .own 1)], [laB 0, .arr TS 4])] f
noncomputable def st_L32_8 (env : LDt) : Tree Step := Lk.stepMC false LK cs_31 82 8 ls0 (kL32_8 fun _ => none) env
noncomputable def op_L32_8 : OpT := Classical.choose (opq (iterS st_L32_8 FU))
theorem op_L32_8_eq (env : LDt) : op_L32_8 env = iterS st_L32_8 FU env := Classical.choose_spec (opq (iterS st_L32_8 FU)) env
noncomputable def L32_8 : MBox := kL32_8 op_L32_8
theorem L32_8_eqs : L32_8 = kL32_8 (iterS st_L32_8 FU) := congrArg kL32_8 (funext op_L32_8_eq)
theorem L32_8_run : ∀ t s x, (manyRun L32_8 t s).sel = some x → CodeOk Try.prog 0 (.loop (cAt Try.prog 82 8)) t s x := by
 rw [L32_8_eqs]
 exact mkM_ok (st := st_L32_8) (m := FU) cs_31_ok hmix false (LsOk.none _ _ _) (by kernel_rfl) (fun env y h => by rw [← stepMC_lk]; exact h)
noncomputable def fn_L32_8_t : LDt → Tree Step
 | [.l TPt l0, .n n1, .n n2, .l TS l3, .l TPt l4, .l TPt l5, .l TRt l6, .l TS l7] =>
  (.node (decide (n2 < n1))
   (.node (decide ((List.length l7 + 1) * 16 ≤ 140737488355328))
   (.leaf (Step.go [.k 0, .l TPt l0, .n n1, .n (IntKind.wrap .i64 (n2 + (1 : Int))), .l TS l3, .l TPt l4, .l TPt l5, .l TRt l6, .l TS (l7 ++ [Prod.fst (List.getD l0 (Int.toNat n2) (Ty.dflt TPt))])]))
   (.bad 62))
   (.leaf (Step.stop 0 [.l TS l3, .l TPt l4, .l TPt l5, .l TRt l6, .l TS l7])))
 | _ => .bad 0
theorem fn_L32_8_t_im (l0 : DP) (n1 : Int) (n2 : Int) (l3 : DS) (l4 : DP) (l5 : DP) (l6 : DR) (l7 : DS) (g0 : 0 ≤ n2) (g1 :  n1 = (l0.length : Int)) : Imp (fn_L32_8_t [.l TPt l0, .n n1, .n n2, .l TS l3, .l TPt l4, .l TPt l5, .l TRt l6, .l TS l7]) (st_L32_8 [.k 0, .l TPt l0, .n n1, .n n2, .l TS l3, .l TPt l4, .l TPt l5, .l TRt l6, .l TS l7]) :=
(.pa [1]
(.nd (fun h0 =>
(.pq (c := (inR n2 (List.length l0)))
(.nd (fun h1 =>
(.pa [1]
.lf)) (fun h1 =>
.none)))) (fun h0 =>
(.pa [1]
.lf))))
def kL32_13 (f : OpT) : MBox := mkM 0 [] [(sh 76 [(3, .own 0), (43, .imm TRt 0), (44, .int .i64 1), (45, .int .i64 2)], [.arr TS 3])] [] [(.exit 4, sh 76 [(3, .own 0)], [.arr TS 0])] f
noncomputable def st_L32_13 (env : LDt) : Tree Step := Lk.stepMC false LK cs_31 82 13 ls0 (kL32_13 fun _ => none) env
noncomputable def op_L32_13 : OpT := Classical.choose (opq (iterS st_L32_13 FU))
theorem op_L32_13_eq (env : LDt) : op_L32_13 env = iterS st_L32_13 FU env := Classical.choose_spec (opq (iterS st_L32_13 FU)) env
noncomputable def L32_13 : MBox := kL32_13 op_L32_13
theorem L32_13_eqs : L32_13 = kL32_13 (iterS st_L32_13 FU) := congrArg kL32_13 (funext op_L32_13_eq)
theorem L32_13_run : ∀ t s x, (manyRun L32_13 t s).sel = some x → CodeOk Try.prog 0 (.loop (cAt Try.prog 82 13)) t s x := by
 rw [L32_13_eqs]
 exact mkM_ok (st := st_L32_13) (m := FU) cs_31_ok hmix false (LsOk.none _ _ _) (by kernel_rfl) (fun env y h => by rw [← stepMC_lk]; exact h)
noncomputable def fn_L32_13_t : LDt → Tree Step
 | [.l TRt l0, .n n1, .n n2, .l TS l3] =>
  (.node (decide (n2 < n1))
   (.node (decide ((List.length l3 + 1) * 16 ≤ 140737488355328))
   (.leaf (Step.go [.k 0, .l TRt l0, .n n1, .n (IntKind.wrap .i64 (n2 + (1 : Int))), .l TS (l3 ++ [Prod.fst (List.getD l0 (Int.toNat n2) (Ty.dflt TRt))])]))
   (.bad 62))
   (.leaf (Step.stop 0 [.l TS l3])))
 | _ => .bad 0
theorem fn_L32_13_t_im (l0 : DR) (n1 : Int) (n2 : Int) (l3 : DS) (g0 : 0 ≤ n2) (g1 :  n1 = (l0.length : Int)) : Imp (fn_L32_13_t [.l TRt l0, .n n1, .n n2, .l TS l3]) (st_L32_13 [.k 0, .l TRt l0, .n n1, .n n2, .l TS l3]) :=
(.pa [1]
(.nd (fun h0 =>
(.pq (c := (inR n2 (List.length l0)))
(.nd (fun h1 =>
(.pa [1]
.lf)) (fun h1 =>
.none)))) (fun h0 =>
(.pa [1]
.lf))))
def kL32_19 (f : OpT) : MBox := mkM 0 [] [(sh 76 [(10, .mapv 0), (56, .own 1), (57, .int .i64 0), (58, .int .i64 1)], [.map .str (.int .i64) 2, .arr TS 3])] [] [(.exit 6, sh 76 [], []), (.ret, sh 76 [(2, .bool 0)], [])] f
noncomputable def st_L32_19 (env : LDt) : Tree Step := Lk.stepMC false LK cs_31 82 19 ls0 (kL32_19 fun _ => none) env
noncomputable def op_L32_19 : OpT := Classical.choose (opq (iterS st_L32_19 FU))
theorem op_L32_19_eq (env : LDt) : op_L32_19 env = iterS st_L32_19 FU env := Classical.choose_spec (opq (iterS st_L32_19 FU)) env
noncomputable def L32_19 : MBox := kL32_19 op_L32_19
theorem L32_19_eqs : L32_19 = kL32_19 (iterS st_L32_19 FU) := congrArg kL32_19 (funext op_L32_19_eq)
theorem L32_19_run : ∀ t s x, (manyRun L32_19 t s).sel = some x → CodeOk Try.prog 0 (.loop (cAt Try.prog 82 19)) t s x := by
 rw [L32_19_eqs]
 exact mkM_ok (st := st_L32_19) (m := FU) cs_31_ok hmix false (LsOk.none _ _ _) (by kernel_rfl) (fun env y h => by rw [← stepMC_lk]; exact h)
noncomputable def fn_L32_19_t : LDt → Tree Step
 | [.n n0, .n n1, .l TPt l2, .l TS l3] =>
  (.node (decide (n1 < n0))
   (let r1 : OD := (op_50 [.s (List.getD l3 (Int.toNat n1) (Ty.dflt Ty.str))]);
   (.node (isK 0 [HK.b] r1)
    (.node (!gb (dOf r1) 0)
    (.leaf (Step.stop 1 [.b false]))
    (.node (decide (mgI (List.getD l3 (Int.toNat n1) (Ty.dflt Ty.str)) (mput Ty.str TI (List.getD l3 (Int.toNat n1) (Ty.dflt Ty.str)) (IntKind.wrap .i64 (mgI (List.getD l3 (Int.toNat n1) (Ty.dflt Ty.str)) l2 + (1 : Int))) l2) > (1 : Int)))
     (.leaf (Step.stop 1 [.b false]))
     (.leaf (Step.go [.k 0, .n n0, .n (IntKind.wrap .i64 (n1 + (1 : Int))), .l TPt (mput Ty.str TI (List.getD l3 (Int.toNat n1) (Ty.dflt Ty.str)) (IntKind.wrap .i64 (mgI (List.getD l3 (Int.toNat n1) (Ty.dflt Ty.str)) l2 + (1 : Int))) l2), .l TS l3]))))
    (.bad 351)))
   (.leaf (Step.stop 0 [])))
 | _ => .bad 0
theorem fn_L32_19_t_im (n0 : Int) (n1 : Int) (l2 : DP) (l3 : DS) (g0 : 0 ≤ n1) (g1 :  n0 = (l3.length : Int)) : Imp (fn_L32_19_t [.n n0, .n n1, .l TPt l2, .l TS l3]) (st_L32_19 [.k 0, .n n0, .n n1, .l TPt l2, .l TS l3]) :=
(.pa [1]
(.nd (fun h0 =>
(.pq (c := (inR n1 (List.length l3)))
(.nd (fun h1 =>
(.pa [1]
(.nd (fun h2 =>
(.pa [1,1,1]
.lf)) (fun h2 =>
(.nd (fun h3 =>
(.pa [1]
.lf)) (fun h3 =>
(.pa [1]
.lf))))))) (fun h1 =>
.none)))) (fun h0 =>
(.pa [1]
.lf))))
theorem ls_32_ok : LsOk Try.prog (z0) (lsM [(3, L32_3), (8, L32_8), (13, L32_13), (19, L32_19)] (z0)) (bodyOf Try.prog 82) := LsOk.many fun j B hB hk c hc hi => by
 simp only [lookM] at hB
 split at hB
 ·rename_i e; have := Nat.eq_of_beq_eq_true e; subst this; cases hB
  rw [onlyC (f := 82) (i := 3) (loopAt_one (by kernel_rfl)) (loopsAt_mem hc hi)]; exact L32_3_run
 split at hB
 ·rename_i e; have := Nat.eq_of_beq_eq_true e; subst this; cases hB
  rw [onlyC (f := 82) (i := 8) (loopAt_one (by kernel_rfl)) (loopsAt_mem hc hi)]; exact L32_8_run
 split at hB
 ·rename_i e; have := Nat.eq_of_beq_eq_true e; subst this; cases hB
  rw [onlyC (f := 82) (i := 13) (loopAt_one (by kernel_rfl)) (loopsAt_mem hc hi)]; exact L32_13_run
 split at hB
 ·rename_i e; have := Nat.eq_of_beq_eq_true e; subst this; cases hB
  rw [onlyC (f := 82) (i := 19) (loopAt_one (by kernel_rfl)) (loopsAt_mem hc hi)]; exact L32_19_run
 cases hB
noncomputable def ev_32 (env : LDt) : TD := Lk.boxC false LK cs_31 82 (lsM [(3, L32_3), (8, L32_8), (13, L32_13), (19, L32_19)] (z0)) (mkF [laV 0] [] [] [(.bool 0, [])] fun _ => none) env
noncomputable def op_32 : OpT := Classical.choose (opq (fun env => (ev_32 env).sel))
theorem op_32_eq (env : LDt) : op_32 env = (ev_32 env).sel := Classical.choose_spec (opq (fun env => (ev_32 env).sel)) env
noncomputable def B32 : FBox := mkF [laV 0] [] [] [(.bool 0, [])] op_32
theorem B32_ok : RunOk Try.prog 82 (boxRun B32) := mkF_ok (op := op_32) cs_31_ok hmix false (ls_32_ok) (fun env x h => by rw [op_32_eq] at h; rw [← boxC_lk]; exact h)
noncomputable def fn_32_t : LDt → TD
 | [.l TS l0, .l TPt l1, .l TPt l2, .l TRt l3] =>
  (.node (decide (List.length l0 * 16 ≤ 140737488355328))
   (let r1 : OD := (op_L32_3 [.k 0, .l TPt l1, .n (↑(List.length l1) : Int), .n (0 : Int), .l TS l0, .l TPt l1, .l TPt l2, .l TRt l3, .l TS l0]);
   (.node (isK 0 [HK.l Ty.str, HK.l TPt, HK.l TPt, HK.l TRt, HK.l Ty.str] r1)
    (let r2 : OD := (op_L32_8 [.k 0, .l TPt (gl TPt (dOf r1) 2), .n (↑(List.length (gl TPt (dOf r1) 2)) : Int), .n (0 : Int), .l TS (gl Ty.str (dOf r1) 0), .l TPt (gl TPt (dOf r1) 1), .l TPt (gl TPt (dOf r1) 2), .l TRt (gl TRt (dOf r1) 3), .l TS (gl Ty.str (dOf r1) 4)]);
    (.node (isK 0 [HK.l Ty.str, HK.l TPt, HK.l TPt, HK.l TRt, HK.l Ty.str] r2)
     (let r3 : OD := (op_L32_13 [.k 0, .l TRt (gl TRt (dOf r2) 3), .n (↑(List.length (gl TRt (dOf r2) 3)) : Int), .n (0 : Int), .l TS (gl Ty.str (dOf r2) 4)]);
     (.node (isK 0 [HK.l Ty.str] r3)
      (let r4 : OD := (op_L32_19 [.k 0, .n (↑(List.length (gl Ty.str (dOf r3) 0)) : Int), .n (0 : Int), .l TPt [], .l TS (gl Ty.str (dOf r3) 0)]);
      (.node (isK 0 [] r4)
       (.leaf ((0, [.b true])))
       (.node (isK 1 [HK.b] r4)
       (.leaf ((0, [.b (gb (dOf r4) 0)])))
       (.bad 351))))
      (.bad 351)))
     (.bad 351)))
    (.bad 351)))
   (.bad 60))
 | _ => .bad 0
theorem fn_32_t_im (l0 : DS) (l1 : DP) (l2 : DP) (l3 : DR) : Imp (fn_32_t [.l TS l0, .l TPt l1, .l TPt l2, .l TRt l3]) (ev_32 [.l TS l0, .l TPt l1, .l TPt l2, .l TRt l3]) :=
(.nd (fun h0 =>
(.nd (fun h1 =>
(.nd (fun h2 =>
(.nd (fun h3 =>
(.nd (fun h4 =>
(.pa [1]
.lf)) (fun h4 =>
(.nd (fun h5 =>
(.pa [1]
.lf)) (fun h5 =>
.none))))) (fun h3 =>
.none))) (fun h2 =>
.none))) (fun h1 =>
.none))) (fun h0 =>
.none))
noncomputable def cs_32 : FuncId → Option CSpec := csLend 82 B32 cs_31
theorem cs_32_ok : CsOk Try.prog cs_32 := csLend_ok cs_31_ok B32_ok
def kL41_4 (f : OpT) : MBox := mkM 0 [] [(sh 60 [(1, .ptr 0 0), (3, .own 1), (4, .int .i64 0)], [laB 1, .arr TS 5])] [] [(.exit 0, sh 60 [(1, .ptr 0 0), (3, .own 1)], [laB 0, .arr TS 4])] f
noncomputable def st_L41_4 (env : LDt) : Tree Step := Lk.stepMC false LK cs_32 114 4 ls0 (kL41_4 fun _ => none) env
noncomputable def op_L41_4 : OpT := Classical.choose (opq (iterS st_L41_4 FU))
theorem op_L41_4_eq (env : LDt) : op_L41_4 env = iterS st_L41_4 FU env := Classical.choose_spec (opq (iterS st_L41_4 FU)) env
noncomputable def L41_4 : MBox := kL41_4 op_L41_4
theorem L41_4_eqs : L41_4 = kL41_4 (iterS st_L41_4 FU) := congrArg kL41_4 (funext op_L41_4_eq)
theorem L41_4_run : ∀ t s x, (manyRun L41_4 t s).sel = some x → CodeOk Try.prog 0 (.loop (cAt Try.prog 114 4)) t s x := by
 rw [L41_4_eqs]
 exact mkM_ok (st := st_L41_4) (m := FU) cs_32_ok hmix false (LsOk.none _ _ _) (by kernel_rfl) (fun env y h => by rw [← stepMC_lk]; exact h)
noncomputable def fn_L41_4_t : LDt → Tree Step
 | [.n n0, .l TS l1, .l TPt l2, .l TPt l3, .l TRt l4, .l TS l5] =>
  (.node (decide (n0 < (↑(List.length l2) : Int)))
   (.node (decide ((List.length l5 + 1) * 16 ≤ 140737488355328))
   (.leaf (Step.go [.k 0, .n (IntKind.wrap .i64 (n0 + (1 : Int))), .l TS l1, .l TPt l2, .l TPt l3, .l TRt l4, .l TS (l5 ++ [Prod.fst (List.getD l2 (Int.toNat n0) (Ty.dflt TPt))])]))
   (.bad 62))
   (.leaf (Step.stop 0 [.l TS l1, .l TPt l2, .l TPt l3, .l TRt l4, .l TS l5])))
 | _ => .bad 0
theorem fn_L41_4_t_im (n0 : Int) (l1 : DS) (l2 : DP) (l3 : DP) (l4 : DR) (l5 : DS) (g0 : 0 ≤ n0) : Imp (fn_L41_4_t [.n n0, .l TS l1, .l TPt l2, .l TPt l3, .l TRt l4, .l TS l5]) (st_L41_4 [.k 0, .n n0, .l TS l1, .l TPt l2, .l TPt l3, .l TRt l4, .l TS l5]) :=
(.pa [1]
(.nd (fun h0 =>
(.pq (c := (inR n0 (List.length l2)))
(.nd (fun h1 =>
(.pa [1]
.lf)) (fun h1 =>
.none)))) (fun h0 =>
(.pa [1]
.lf))))
def kL41_8 (f : OpT) : MBox := mkM 0 [] [(sh 60 [(1, .ptr 0 0), (3, .own 1), (5, .int .i64 0)], [laB 1, .arr TS 5])] [] [(.exit 2, sh 60 [(1, .ptr 0 0), (3, .own 1)], [laB 0, .arr TS 4])] f
noncomputable def st_L41_8 (env : LDt) : Tree Step := Lk.stepMC false LK cs_32 114 8 ls0 (kL41_8 fun _ => none) env
noncomputable def op_L41_8 : OpT := Classical.choose (opq (iterS st_L41_8 FU))
theorem op_L41_8_eq (env : LDt) : op_L41_8 env = iterS st_L41_8 FU env := Classical.choose_spec (opq (iterS st_L41_8 FU)) env
noncomputable def L41_8 : MBox := kL41_8 op_L41_8
theorem L41_8_eqs : L41_8 = kL41_8 (iterS st_L41_8 FU) := congrArg kL41_8 (funext op_L41_8_eq)
theorem L41_8_run : ∀ t s x, (manyRun L41_8 t s).sel = some x → CodeOk Try.prog 0 (.loop (cAt Try.prog 114 8)) t s x := by
 rw [L41_8_eqs]
 exact mkM_ok (st := st_L41_8) (m := FU) cs_32_ok hmix false (LsOk.none _ _ _) (by kernel_rfl) (fun env y h => by rw [← stepMC_lk]; exact h)
noncomputable def fn_L41_8_t : LDt → Tree Step
 | [.n n0, .l TS l1, .l TPt l2, .l TPt l3, .l TRt l4, .l TS l5] =>
  (.node (decide (n0 < (↑(List.length l3) : Int)))
   (.node (decide ((List.length l5 + 1) * 16 ≤ 140737488355328))
   (.leaf (Step.go [.k 0, .n (IntKind.wrap .i64 (n0 + (1 : Int))), .l TS l1, .l TPt l2, .l TPt l3, .l TRt l4, .l TS (l5 ++ [Prod.fst (List.getD l3 (Int.toNat n0) (Ty.dflt TPt))])]))
   (.bad 62))
   (.leaf (Step.stop 0 [.l TS l1, .l TPt l2, .l TPt l3, .l TRt l4, .l TS l5])))
 | _ => .bad 0
theorem fn_L41_8_t_im (n0 : Int) (l1 : DS) (l2 : DP) (l3 : DP) (l4 : DR) (l5 : DS) (g0 : 0 ≤ n0) : Imp (fn_L41_8_t [.n n0, .l TS l1, .l TPt l2, .l TPt l3, .l TRt l4, .l TS l5]) (st_L41_8 [.k 0, .n n0, .l TS l1, .l TPt l2, .l TPt l3, .l TRt l4, .l TS l5]) :=
(.pa [1]
(.nd (fun h0 =>
(.pq (c := (inR n0 (List.length l3)))
(.nd (fun h1 =>
(.pa [1]
.lf)) (fun h1 =>
.none)))) (fun h0 =>
(.pa [1]
.lf))))
def kL41_12 (f : OpT) : MBox := mkM 0 [] [(sh 60 [(1, .ptr 0 0), (3, .own 1), (6, .int .i64 0)], [laB 1, .arr TS 5])] [] [(.exit 4, sh 60 [(3, .own 0)], [.arr TS 0])] f
noncomputable def st_L41_12 (env : LDt) : Tree Step := Lk.stepMC false LK cs_32 114 12 ls0 (kL41_12 fun _ => none) env
noncomputable def op_L41_12 : OpT := Classical.choose (opq (iterS st_L41_12 FU))
theorem op_L41_12_eq (env : LDt) : op_L41_12 env = iterS st_L41_12 FU env := Classical.choose_spec (opq (iterS st_L41_12 FU)) env
noncomputable def L41_12 : MBox := kL41_12 op_L41_12
theorem L41_12_eqs : L41_12 = kL41_12 (iterS st_L41_12 FU) := congrArg kL41_12 (funext op_L41_12_eq)
theorem L41_12_run : ∀ t s x, (manyRun L41_12 t s).sel = some x → CodeOk Try.prog 0 (.loop (cAt Try.prog 114 12)) t s x := by
 rw [L41_12_eqs]
 exact mkM_ok (st := st_L41_12) (m := FU) cs_32_ok hmix false (LsOk.none _ _ _) (by kernel_rfl) (fun env y h => by rw [← stepMC_lk]; exact h)
noncomputable def fn_L41_12_t : LDt → Tree Step
 | [.n n0, .l TS l1, .l TPt l2, .l TPt l3, .l TRt l4, .l TS l5] =>
  (.node (decide (n0 < (↑(List.length l4) : Int)))
   (.node (decide ((List.length l5 + 1) * 16 ≤ 140737488355328))
   (.leaf (Step.go [.k 0, .n (IntKind.wrap .i64 (n0 + (1 : Int))), .l TS l1, .l TPt l2, .l TPt l3, .l TRt l4, .l TS (l5 ++ [Prod.fst (List.getD l4 (Int.toNat n0) (Ty.dflt TRt))])]))
   (.bad 62))
   (.leaf (Step.stop 0 [.l TS l5])))
 | _ => .bad 0
theorem fn_L41_12_t_im (n0 : Int) (l1 : DS) (l2 : DP) (l3 : DP) (l4 : DR) (l5 : DS) (g0 : 0 ≤ n0) : Imp (fn_L41_12_t [.n n0, .l TS l1, .l TPt l2, .l TPt l3, .l TRt l4, .l TS l5]) (st_L41_12 [.k 0, .n n0, .l TS l1, .l TPt l2, .l TPt l3, .l TRt l4, .l TS l5]) :=
(.pa [1]
(.nd (fun h0 =>
(.pq (c := (inR n0 (List.length l4)))
(.nd (fun h1 =>
(.pa [1]
.lf)) (fun h1 =>
.none)))) (fun h0 =>
(.pa [1]
.lf))))
theorem ls_41_ok : LsOk Try.prog (z0) (lsM [(4, L41_4), (8, L41_8), (12, L41_12)] (z0)) (bodyOf Try.prog 114) := LsOk.many fun j B hB hk c hc hi => by
 simp only [lookM] at hB
 split at hB
 ·rename_i e; have := Nat.eq_of_beq_eq_true e; subst this; cases hB
  rw [onlyC (f := 114) (i := 4) (loopAt_one (by kernel_rfl)) (loopsAt_mem hc hi)]; exact L41_4_run
 split at hB
 ·rename_i e; have := Nat.eq_of_beq_eq_true e; subst this; cases hB
  rw [onlyC (f := 114) (i := 8) (loopAt_one (by kernel_rfl)) (loopsAt_mem hc hi)]; exact L41_8_run
 split at hB
 ·rename_i e; have := Nat.eq_of_beq_eq_true e; subst this; cases hB
  rw [onlyC (f := 114) (i := 12) (loopAt_one (by kernel_rfl)) (loopsAt_mem hc hi)]; exact L41_12_run
 cases hB
def k41 (f : OpT) : FBox := mkF [laV 0] [] [] [(.own 0, [.arr TS 0])] f
noncomputable def ev_41 (env : LDt) : TD := Lk.boxC false LK cs_32 114 (lsM [(4, L41_4), (8, L41_8), (12, L41_12)] (z0)) (k41 fun _ => none) env
noncomputable def op_41 : OpT := Classical.choose (opq (fun env => (ev_41 env).sel))
theorem op_41_eq (env : LDt) : op_41 env = (ev_41 env).sel := Classical.choose_spec (opq (fun env => (ev_41 env).sel)) env
noncomputable def B41 : FBox := k41 op_41
theorem B41_ok : RunOk Try.prog 114 (boxRun B41) := mkF_ok (op := op_41) cs_32_ok hmix false (ls_41_ok) (fun env x h => by rw [op_41_eq] at h; rw [← boxC_lk]; exact h)
noncomputable def fn_41_t : LDt → TD
 | [.l TS l0, .l TPt l1, .l TPt l2, .l TRt l3] =>
  (.node (decide (List.length l0 * 16 ≤ 140737488355328))
   (let r1 : OD := (op_L41_4 [.k 0, .n (0 : Int), .l TS l0, .l TPt l1, .l TPt l2, .l TRt l3, .l TS l0]);
   (.node (isK 0 [HK.l Ty.str, HK.l TPt, HK.l TPt, HK.l TRt, HK.l Ty.str] r1)
    (let r2 : OD := (op_L41_8 [.k 0, .n (0 : Int), .l TS (gl Ty.str (dOf r1) 0), .l TPt (gl TPt (dOf r1) 1), .l TPt (gl TPt (dOf r1) 2), .l TRt (gl TRt (dOf r1) 3), .l TS (gl Ty.str (dOf r1) 4)]);
    (.node (isK 0 [HK.l Ty.str, HK.l TPt, HK.l TPt, HK.l TRt, HK.l Ty.str] r2)
     (let r3 : OD := (op_L41_12 [.k 0, .n (0 : Int), .l TS (gl Ty.str (dOf r2) 0), .l TPt (gl TPt (dOf r2) 1), .l TPt (gl TPt (dOf r2) 2), .l TRt (gl TRt (dOf r2) 3), .l TS (gl Ty.str (dOf r2) 4)]);
     (.node (isK 0 [HK.l Ty.str] r3)
      (.leaf ((0, [.l TS (gl Ty.str (dOf r3) 0)])))
      (.bad 351)))
     (.bad 351)))
    (.bad 351)))
   (.bad 60))
 | _ => .bad 0
theorem fn_41_t_im (l0 : DS) (l1 : DP) (l2 : DP) (l3 : DR) : Imp (fn_41_t [.l TS l0, .l TPt l1, .l TPt l2, .l TRt l3]) (ev_41 [.l TS l0, .l TPt l1, .l TPt l2, .l TRt l3]) :=
(.nd (fun h0 =>
(.nd (fun h1 =>
(.nd (fun h2 =>
(.nd (fun h3 =>
(.pa [1]
.lf)) (fun h3 =>
.none))) (fun h2 =>
.none))) (fun h1 =>
.none))) (fun h0 =>
.none))
noncomputable def cs_41 : FuncId → Option CSpec := csLend 114 B41 cs_32
theorem cs_41_ok : CsOk Try.prog cs_41 := csLend_ok cs_32_ok B41_ok
noncomputable def ev_40 (env : LDt) : TD := Lk.boxC false LK cs_41 113 ls0 (mkF [laV 0] [] [] [(.bool 0, [])] fun _ => none) env
noncomputable def op_40 : OpT := Classical.choose (opq (fun env => (ev_40 env).sel))
theorem op_40_eq (env : LDt) : op_40 env = (ev_40 env).sel := Classical.choose_spec (opq (fun env => (ev_40 env).sel)) env
noncomputable def B40 : FBox := mkF [laV 0] [] [] [(.bool 0, [])] op_40
theorem B40_ok : RunOk Try.prog 113 (boxRun B40) := mkF_ok (op := op_40) cs_41_ok hmix false (LsOk.none _ _ _) (fun env x h => by rw [op_40_eq] at h; rw [← boxC_lk]; exact h)
noncomputable def fn_40_t : LDt → TD
 | [.l TS l0, .l TPt l1, .l TPt l2, .l TRt l3] =>
  (.node (decide ((↑(List.length l0) : Int) > (64 : Int)))
   (.leaf ((0, [.b true])))
   (.node (decide ((↑(List.length l1) : Int) > (32 : Int)))
   (.leaf ((0, [.b true])))
   (.node (decide ((↑(List.length l2) : Int) > (32 : Int)))
    (.leaf ((0, [.b true])))
    (.leaf ((0, [.b (decide ((↑(List.length l3) : Int) > (64 : Int)))]))))))
 | _ => .bad 0
theorem fn_40_t_im (l0 : DS) (l1 : DP) (l2 : DP) (l3 : DR) : Imp (fn_40_t [.l TS l0, .l TPt l1, .l TPt l2, .l TRt l3]) (ev_40 [.l TS l0, .l TPt l1, .l TPt l2, .l TRt l3]) :=
(.nd (fun h0 =>
(.pa [1,1,1,1,1,1]
.lf)) (fun h0 =>
(.nd (fun h1 =>
(.pa [1,1,1,1]
.lf)) (fun h1 =>
(.nd (fun h2 =>
(.pa [1,1]
.lf)) (fun h2 =>
(.pa [1]
.lf)))))))
noncomputable def cs_40 : FuncId → Option CSpec := csLend 113 B40 cs_41
theorem cs_40_ok : CsOk Try.prog cs_40 := csLend_ok cs_41_ok B40_ok
def kL26_4 (f : OpT) : MBox := mkM 0 [] [(sh 75 [(1, .ptr 0 0), (32, .imm TPt 0), (33, .int .i64 1), (34, .int .i64 2)], [laB 3])] [] [(.exit 0, sh 75 [(1, .ptr 0 0)], [laB 0]), (.ret, sh 75 [(2, .bool 0)], [])] f
noncomputable def st_L26_4 (env : LDt) : Tree Step := Lk.stepMC false LK cs_40 49 4 ls0 (kL26_4 fun _ => none) env
noncomputable def op_L26_4 : OpT := Classical.choose (opq (iterS st_L26_4 FU))
theorem op_L26_4_eq (env : LDt) : op_L26_4 env = iterS st_L26_4 FU env := Classical.choose_spec (opq (iterS st_L26_4 FU)) env
noncomputable def L26_4 : MBox := kL26_4 op_L26_4
theorem L26_4_eqs : L26_4 = kL26_4 (iterS st_L26_4 FU) := congrArg kL26_4 (funext op_L26_4_eq)
theorem L26_4_run : ∀ t s x, (manyRun L26_4 t s).sel = some x → CodeOk Try.prog 0 (.loop (cAt Try.prog 49 4)) t s x := by
 rw [L26_4_eqs]
 exact mkM_ok (st := st_L26_4) (m := FU) cs_40_ok hmix false (LsOk.none _ _ _) (by kernel_rfl) (fun env y h => by rw [← stepMC_lk]; exact h)
noncomputable def fn_L26_4_t : LDt → Tree Step
 | [.l TPt l0, .n n1, .n n2, .l TS l3, .l TPt l4, .l TPt l5, .l TRt l6] =>
  (.node (decide (n2 < n1))
   (.node (decide ((Prod.snd (List.getD l0 (Int.toNat n2) (Ty.dflt TPt)) : Int) ≥ (0 : Int)))
   (.node (!decide ((Prod.snd (List.getD l0 (Int.toNat n2) (Ty.dflt TPt)) : Int) < (↑(List.length l3) : Int)))
    (.leaf (Step.stop 1 [.b false]))
    (.leaf (Step.go [.k 0, .l TPt l0, .n n1, .n (IntKind.wrap .i64 (n2 + (1 : Int))), .l TS l3, .l TPt l4, .l TPt l5, .l TRt l6])))
   (.leaf (Step.stop 1 [.b false])))
   (.leaf (Step.stop 0 [.l TS l3, .l TPt l4, .l TPt l5, .l TRt l6])))
 | _ => .bad 0
theorem fn_L26_4_t_im (l0 : DP) (n1 : Int) (n2 : Int) (l3 : DS) (l4 : DP) (l5 : DP) (l6 : DR) (g0 : 0 ≤ n2) (g1 :  n1 = (l0.length : Int)) : Imp (fn_L26_4_t [.l TPt l0, .n n1, .n n2, .l TS l3, .l TPt l4, .l TPt l5, .l TRt l6]) (st_L26_4 [.k 0, .l TPt l0, .n n1, .n n2, .l TS l3, .l TPt l4, .l TPt l5, .l TRt l6]) :=
(.pa [1]
(.nd (fun h0 =>
(.pq (c := (inR n2 (List.length l0)))
(.pa [1]
(.nd (fun h1 =>
(.pa [1]
(.nd (fun h2 =>
(.pa [1]
.lf)) (fun h2 =>
(.pa [1]
.lf))))) (fun h1 =>
(.pa [0,1,1,1]
.lf)))))) (fun h0 =>
(.pa [1]
.lf))))
def kL26_10 (f : OpT) : MBox := mkM 0 [] [(sh 75 [(1, .ptr 0 0), (47, .imm TPt 0), (48, .int .i64 1), (49, .int .i64 2)], [laB 3])] [] [(.exit 2, sh 75 [(1, .ptr 0 0)], [laB 0]), (.ret, sh 75 [(2, .bool 0)], [])] f
noncomputable def st_L26_10 (env : LDt) : Tree Step := Lk.stepMC false LK cs_40 49 10 ls0 (kL26_10 fun _ => none) env
noncomputable def op_L26_10 : OpT := Classical.choose (opq (iterS st_L26_10 FU))
theorem op_L26_10_eq (env : LDt) : op_L26_10 env = iterS st_L26_10 FU env := Classical.choose_spec (opq (iterS st_L26_10 FU)) env
noncomputable def L26_10 : MBox := kL26_10 op_L26_10
theorem L26_10_eqs : L26_10 = kL26_10 (iterS st_L26_10 FU) := congrArg kL26_10 (funext op_L26_10_eq)
theorem L26_10_run : ∀ t s x, (manyRun L26_10 t s).sel = some x → CodeOk Try.prog 0 (.loop (cAt Try.prog 49 10)) t s x := by
 rw [L26_10_eqs]
 exact mkM_ok (st := st_L26_10) (m := FU) cs_40_ok hmix false (LsOk.none _ _ _) (by kernel_rfl) (fun env y h => by rw [← stepMC_lk]; exact h)
noncomputable def fn_L26_10_t : LDt → Tree Step
 | [.l TPt l0, .n n1, .n n2, .l TS l3, .l TPt l4, .l TPt l5, .l TRt l6] =>
  (.node (decide (n2 < n1))
   (.node (decide ((Prod.snd (List.getD l0 (Int.toNat n2) (Ty.dflt TPt)) : Int) ≥ (0 : Int)))
   (.node (!decide ((Prod.snd (List.getD l0 (Int.toNat n2) (Ty.dflt TPt)) : Int) < (↑(List.length l3) : Int)))
    (.leaf (Step.stop 1 [.b false]))
    (.leaf (Step.go [.k 0, .l TPt l0, .n n1, .n (IntKind.wrap .i64 (n2 + (1 : Int))), .l TS l3, .l TPt l4, .l TPt l5, .l TRt l6])))
   (.leaf (Step.stop 1 [.b false])))
   (.leaf (Step.stop 0 [.l TS l3, .l TPt l4, .l TPt l5, .l TRt l6])))
 | _ => .bad 0
theorem fn_L26_10_t_im (l0 : DP) (n1 : Int) (n2 : Int) (l3 : DS) (l4 : DP) (l5 : DP) (l6 : DR) (g0 : 0 ≤ n2) (g1 :  n1 = (l0.length : Int)) : Imp (fn_L26_10_t [.l TPt l0, .n n1, .n n2, .l TS l3, .l TPt l4, .l TPt l5, .l TRt l6]) (st_L26_10 [.k 0, .l TPt l0, .n n1, .n n2, .l TS l3, .l TPt l4, .l TPt l5, .l TRt l6]) :=
(.pa [1]
(.nd (fun h0 =>
(.pq (c := (inR n2 (List.length l0)))
(.pa [1]
(.nd (fun h1 =>
(.pa [1]
(.nd (fun h2 =>
(.pa [1]
.lf)) (fun h2 =>
(.pa [1]
.lf))))) (fun h1 =>
(.pa [0,1,1,1]
.lf)))))) (fun h0 =>
(.pa [1]
.lf))))
def kL26_16 (f : OpT) : MBox := mkM 0 [] [(sh 75 [(1, .ptr 0 0), (62, .imm TRt 0), (63, .int .i64 1), (64, .int .i64 2)], [laB 3])] [] [(.exit 4, sh 75 [(1, .ptr 0 0)], [laB 0]), (.ret, sh 75 [(2, .bool 0)], [])] f
noncomputable def st_L26_16 (env : LDt) : Tree Step := Lk.stepMC false LK cs_40 49 16 ls0 (kL26_16 fun _ => none) env
noncomputable def op_L26_16 : OpT := Classical.choose (opq (iterS st_L26_16 FU))
theorem op_L26_16_eq (env : LDt) : op_L26_16 env = iterS st_L26_16 FU env := Classical.choose_spec (opq (iterS st_L26_16 FU)) env
noncomputable def L26_16 : MBox := kL26_16 op_L26_16
theorem L26_16_eqs : L26_16 = kL26_16 (iterS st_L26_16 FU) := congrArg kL26_16 (funext op_L26_16_eq)
theorem L26_16_run : ∀ t s x, (manyRun L26_16 t s).sel = some x → CodeOk Try.prog 0 (.loop (cAt Try.prog 49 16)) t s x := by
 rw [L26_16_eqs]
 exact mkM_ok (st := st_L26_16) (m := FU) cs_40_ok hmix false (LsOk.none _ _ _) (by kernel_rfl) (fun env y h => by rw [← stepMC_lk]; exact h)
noncomputable def fn_L26_16_t : LDt → Tree Step
 | [.l TRt l0, .n n1, .n n2, .l TS l3, .l TPt l4, .l TPt l5, .l TRt l6] =>
  (.node (decide (n2 < n1))
   (let r1 : OD := (op_31 [.l TS l3, .l TPt l4, .l TPt l5, .l TRt l6, .s (Prod.fst (List.getD l0 (Int.toNat n2) (Ty.dflt TRt))), .n (Prod.fst (Prod.snd (List.getD l0 (Int.toNat n2) (Ty.dflt TRt)))), .l TI (Prod.fst (Prod.snd (Prod.snd (List.getD l0 (Int.toNat n2) (Ty.dflt TRt))))), .l TNd (Prod.fst (Prod.snd (Prod.snd (Prod.snd (List.getD l0 (Int.toNat n2) (Ty.dflt TRt)))))), .l TI (Prod.fst (Prod.snd (Prod.snd (Prod.snd (Prod.snd (List.getD l0 (Int.toNat n2) (Ty.dflt TRt))))))), .l TNd (Prod.snd (Prod.snd (Prod.snd (Prod.snd (Prod.snd (List.getD l0 (Int.toNat n2) (Ty.dflt TRt)))))))]);
   (.node (isK 0 [HK.b] r1)
    (.node (!gb (dOf r1) 0)
    (.leaf (Step.stop 1 [.b false]))
    (.leaf (Step.go [.k 0, .l TRt l0, .n n1, .n (IntKind.wrap .i64 (n2 + (1 : Int))), .l TS l3, .l TPt l4, .l TPt l5, .l TRt l6])))
    (.bad 351)))
   (.leaf (Step.stop 0 [.l TS l3, .l TPt l4, .l TPt l5, .l TRt l6])))
 | _ => .bad 0
theorem fn_L26_16_t_im (l0 : DR) (n1 : Int) (n2 : Int) (l3 : DS) (l4 : DP) (l5 : DP) (l6 : DR) (g0 : 0 ≤ n2) (g1 :  n1 = (l0.length : Int)) : Imp (fn_L26_16_t [.l TRt l0, .n n1, .n n2, .l TS l3, .l TPt l4, .l TPt l5, .l TRt l6]) (st_L26_16 [.k 0, .l TRt l0, .n n1, .n n2, .l TS l3, .l TPt l4, .l TPt l5, .l TRt l6]) :=
(.pa [1]
(.nd (fun h0 =>
(.pq (c := (inR n2 (List.length l0)))
(.nd (fun h1 =>
(.pa [1]
(.nd (fun h2 =>
(.pa [1]
.lf)) (fun h2 =>
(.pa [1]
.lf))))) (fun h1 =>
.none)))) (fun h0 =>
(.pa [1]
.lf))))
theorem ls_26_ok : LsOk Try.prog (z0) (lsM [(4, L26_4), (10, L26_10), (16, L26_16)] (z0)) (bodyOf Try.prog 49) := LsOk.many fun j B hB hk c hc hi => by
 simp only [lookM] at hB
 split at hB
 ·rename_i e; have := Nat.eq_of_beq_eq_true e; subst this; cases hB
  rw [onlyC (f := 49) (i := 4) (loopAt_one (by kernel_rfl)) (loopsAt_mem hc hi)]; exact L26_4_run
 split at hB
 ·rename_i e; have := Nat.eq_of_beq_eq_true e; subst this; cases hB
  rw [onlyC (f := 49) (i := 10) (loopAt_one (by kernel_rfl)) (loopsAt_mem hc hi)]; exact L26_10_run
 split at hB
 ·rename_i e; have := Nat.eq_of_beq_eq_true e; subst this; cases hB
  rw [onlyC (f := 49) (i := 16) (loopAt_one (by kernel_rfl)) (loopsAt_mem hc hi)]; exact L26_16_run
 cases hB
noncomputable def ev_26 (env : LDt) : TD := Lk.boxC false LK cs_40 49 (lsM [(4, L26_4), (10, L26_10), (16, L26_16)] (z0)) (mkF [laV 0] [] [] [(.bool 0, [])] fun _ => none) env
noncomputable def op_26 : OpT := Classical.choose (opq (fun env => (ev_26 env).sel))
theorem op_26_eq (env : LDt) : op_26 env = (ev_26 env).sel := Classical.choose_spec (opq (fun env => (ev_26 env).sel)) env
noncomputable def B26 : FBox := mkF [laV 0] [] [] [(.bool 0, [])] op_26
theorem B26_ok : RunOk Try.prog 49 (boxRun B26) := mkF_ok (op := op_26) cs_40_ok hmix false (ls_26_ok) (fun env x h => by rw [op_26_eq] at h; rw [← boxC_lk]; exact h)
noncomputable def fn_26_t : LDt → TD
 | [.l TS l0, .l TPt l1, .l TPt l2, .l TRt l3] =>
  (.node (decide ((↑(List.length l0) : Int) > (64 : Int)))
   (.leaf ((0, [.b false])))
   (.node (decide ((↑(List.length l1) : Int) > (32 : Int)))
   (.leaf ((0, [.b false])))
   (.node (decide ((↑(List.length l2) : Int) > (32 : Int)))
    (.leaf ((0, [.b false])))
    (.node (decide ((↑(List.length l3) : Int) > (64 : Int)))
    (.leaf ((0, [.b false])))
    (let r1 : OD := (op_L26_4 [.k 0, .l TPt l1, .n (↑(List.length l1) : Int), .n (0 : Int), .l TS l0, .l TPt l1, .l TPt l2, .l TRt l3]);
     (.node (isK 0 [HK.l Ty.str, HK.l TPt, HK.l TPt, HK.l TRt] r1)
     (let r2 : OD := (op_L26_10 [.k 0, .l TPt (gl TPt (dOf r1) 2), .n (↑(List.length (gl TPt (dOf r1) 2)) : Int), .n (0 : Int), .l TS (gl Ty.str (dOf r1) 0), .l TPt (gl TPt (dOf r1) 1), .l TPt (gl TPt (dOf r1) 2), .l TRt (gl TRt (dOf r1) 3)]);
      (.node (isK 0 [HK.l Ty.str, HK.l TPt, HK.l TPt, HK.l TRt] r2)
      (let r3 : OD := (op_L26_16 [.k 0, .l TRt (gl TRt (dOf r2) 3), .n (↑(List.length (gl TRt (dOf r2) 3)) : Int), .n (0 : Int), .l TS (gl Ty.str (dOf r2) 0), .l TPt (gl TPt (dOf r2) 1), .l TPt (gl TPt (dOf r2) 2), .l TRt (gl TRt (dOf r2) 3)]);
       (.node (isK 0 [HK.l Ty.str, HK.l TPt, HK.l TPt, HK.l TRt] r3)
       (let r4 : OD := (op_32 [.l TS (gl Ty.str (dOf r3) 0), .l TPt (gl TPt (dOf r3) 1), .l TPt (gl TPt (dOf r3) 2), .l TRt (gl TRt (dOf r3) 3)]);
        (.node (isK 0 [HK.b] r4)
        (.leaf ((0, [.b (gb (dOf r4) 0)])))
        (.bad 351)))
       (.node (isK 1 [HK.b] r3)
        (.leaf ((0, [.b (gb (dOf r3) 0)])))
        (.bad 351))))
      (.node (isK 1 [HK.b] r2)
       (.leaf ((0, [.b (gb (dOf r2) 0)])))
       (.bad 351))))
     (.node (isK 1 [HK.b] r1)
      (.leaf ((0, [.b (gb (dOf r1) 0)])))
      (.bad 351))))))))
 | _ => .bad 0
theorem fn_26_t_im (l0 : DS) (l1 : DP) (l2 : DP) (l3 : DR) : Imp (fn_26_t [.l TS l0, .l TPt l1, .l TPt l2, .l TRt l3]) (ev_26 [.l TS l0, .l TPt l1, .l TPt l2, .l TRt l3]) :=
(.nd (fun h0 =>
(.pa [1,1,1,1,1,1,1]
.lf)) (fun h0 =>
(.nd (fun h1 =>
(.pa [1,1,1,1,1]
.lf)) (fun h1 =>
(.nd (fun h2 =>
(.pa [1,1,1]
.lf)) (fun h2 =>
(.nd (fun h3 =>
(.pa [1]
.lf)) (fun h3 =>
(.nd (fun h4 =>
(.nd (fun h5 =>
(.nd (fun h6 =>
(.nd (fun h7 =>
(.pa [1,1]
.lf)) (fun h7 =>
.none))) (fun h6 =>
(.nd (fun h7 =>
(.pa [1]
.lf)) (fun h7 =>
.none))))) (fun h5 =>
(.nd (fun h6 =>
(.pa [1]
.lf)) (fun h6 =>
.none))))) (fun h4 =>
(.nd (fun h5 =>
(.pa [1]
.lf)) (fun h5 =>
.none))))))))))))
noncomputable def cs_26 : FuncId → Option CSpec := csLend 49 B26 cs_40
theorem cs_26_ok : CsOk Try.prog cs_26 := csLend_ok cs_40_ok B26_ok
def kL28_5 (f : OpT) : MBox := mkM 0 [] [(sh 132 [(1, .ptr 0 0), (3, .own 1), (4, .int .i64 0)], [laB 1, .arr TS 5])] [] [(.exit 0, sh 132 [(1, .ptr 0 0)], [laB 0]), (.ret, sh 132 [(2, .bool 0)], [])] f
noncomputable def st_L28_5 (env : LDt) : Tree Step := Lk.stepMC false LK cs_26 73 5 ls0 (kL28_5 fun _ => none) env
noncomputable def op_L28_5 : OpT := Classical.choose (opq (iterS st_L28_5 FU))
theorem op_L28_5_eq (env : LDt) : op_L28_5 env = iterS st_L28_5 FU env := Classical.choose_spec (opq (iterS st_L28_5 FU)) env
noncomputable def L28_5 : MBox := kL28_5 op_L28_5
theorem L28_5_eqs : L28_5 = kL28_5 (iterS st_L28_5 FU) := congrArg kL28_5 (funext op_L28_5_eq)
theorem L28_5_run : ∀ t s x, (manyRun L28_5 t s).sel = some x → CodeOk Try.prog 0 (.loop (cAt Try.prog 73 5)) t s x := by
 rw [L28_5_eqs]
 exact mkM_ok (st := st_L28_5) (m := FU) cs_26_ok hmix false (LsOk.none _ _ _) (by kernel_rfl) (fun env y h => by rw [← stepMC_lk]; exact h)
noncomputable def fn_L28_5_t : LDt → Tree Step
 | [.n n0, .l TS l1, .l TPt l2, .l TPt l3, .l TRt l4, .l TS l5] =>
  (.node (decide (n0 < (↑(List.length l5) : Int)))
   (let r1 : OD := (op_42 [.s (List.getD l5 (Int.toNat n0) (Ty.dflt Ty.str))]);
   (.node (isK 0 [HK.b] r1)
    (.node (!gb (dOf r1) 0)
    (.leaf (Step.stop 1 [.b false]))
    (let r2 : OD := (op_43 [.l TS (List.take (Int.toNat n0 - 0) (List.drop 0 l5)), .s (List.getD l5 (Int.toNat n0) (Ty.dflt Ty.str))]);
     (.node (isK 0 [HK.n] r2)
     (.node (decide (gn (dOf r2) 0 ≥ (0 : Int)))
      (.leaf (Step.stop 1 [.b false]))
      (.leaf (Step.go [.k 0, .n (IntKind.wrap .i64 (n0 + (1 : Int))), .l TS l1, .l TPt l2, .l TPt l3, .l TRt l4, .l TS l5])))
     (.bad 351))))
    (.bad 351)))
   (.leaf (Step.stop 0 [.l TS l1, .l TPt l2, .l TPt l3, .l TRt l4])))
 | _ => .bad 0
theorem fn_L28_5_t_im (n0 : Int) (l1 : DS) (l2 : DP) (l3 : DP) (l4 : DR) (l5 : DS) (g0 : 0 ≤ n0) : Imp (fn_L28_5_t [.n n0, .l TS l1, .l TPt l2, .l TPt l3, .l TRt l4, .l TS l5]) (st_L28_5 [.k 0, .n n0, .l TS l1, .l TPt l2, .l TPt l3, .l TRt l4, .l TS l5]) :=
(.pa [1]
(.nd (fun h0 =>
(.pq (c := (inR n0 (List.length l5)))
(.nd (fun h1 =>
(.pa [1]
(.nd (fun h2 =>
(.pa [1,1,1,1]
.lf)) (fun h2 =>
(.pq (c := (decide ((0 : Int) ≤ n0) && decide (n0 ≤ (↑(List.length l5) : Int))))
(.pt (c := (true && decide ((0 : Int) ≤ n0))) (by kernel_rfl) (by kernel_rfl) (by (simp [*]; done))
(.pq (c := (inR n0 (List.length l5)))
(.nd (fun h3 =>
(.pa [1,1]
(.nd (fun h4 =>
(.pa [1]
.lf)) (fun h4 =>
(.pa [1]
.lf))))) (fun h3 =>
.none))))))))) (fun h1 =>
.none)))) (fun h0 =>
(.pa [1]
.lf))))
def kL28_10 (f : OpT) : MBox := mkM 0 [] [(sh 132 [(1, .ptr 0 0), (5, .int .i64 0)], [laB 1])] [] [(.exit 2, sh 132 [(1, .ptr 0 0)], [laB 0]), (.ret, sh 132 [(2, .bool 0)], [])] f
noncomputable def st_L28_10 (env : LDt) : Tree Step := Lk.stepMC false LK cs_26 73 10 ls0 (kL28_10 fun _ => none) env
noncomputable def op_L28_10 : OpT := Classical.choose (opq (iterS st_L28_10 FU))
theorem op_L28_10_eq (env : LDt) : op_L28_10 env = iterS st_L28_10 FU env := Classical.choose_spec (opq (iterS st_L28_10 FU)) env
noncomputable def L28_10 : MBox := kL28_10 op_L28_10
theorem L28_10_eqs : L28_10 = kL28_10 (iterS st_L28_10 FU) := congrArg kL28_10 (funext op_L28_10_eq)
theorem L28_10_run : ∀ t s x, (manyRun L28_10 t s).sel = some x → CodeOk Try.prog 0 (.loop (cAt Try.prog 73 10)) t s x := by
 rw [L28_10_eqs]
 exact mkM_ok (st := st_L28_10) (m := FU) cs_26_ok hmix false (LsOk.none _ _ _) (by kernel_rfl) (fun env y h => by rw [← stepMC_lk]; exact h)
noncomputable def fn_L28_10_t : LDt → Tree Step
 | [.n n0, .l TS l1, .l TPt l2, .l TPt l3, .l TRt l4] =>
  (.node (decide (n0 < (↑(List.length l2) : Int)))
   (let r1 : OD := (op_44 [.l TI [Prod.snd (List.getD l2 (Int.toNat n0) (Ty.dflt TPt))], .n (↑(List.length l1) : Int)]);
   (.node (isK 0 [HK.b] r1)
    (.node (!gb (dOf r1) 0)
    (.leaf (Step.stop 1 [.b false]))
    (.leaf (Step.go [.k 0, .n (IntKind.wrap .i64 (n0 + (1 : Int))), .l TS l1, .l TPt l2, .l TPt l3, .l TRt l4])))
    (.bad 351)))
   (.leaf (Step.stop 0 [.l TS l1, .l TPt l2, .l TPt l3, .l TRt l4])))
 | _ => .bad 0
theorem fn_L28_10_t_im (n0 : Int) (l1 : DS) (l2 : DP) (l3 : DP) (l4 : DR) (g0 : 0 ≤ n0) : Imp (fn_L28_10_t [.n n0, .l TS l1, .l TPt l2, .l TPt l3, .l TRt l4]) (st_L28_10 [.k 0, .n n0, .l TS l1, .l TPt l2, .l TPt l3, .l TRt l4]) :=
(.pa [1]
(.nd (fun h0 =>
(.pq (c := (inR n0 (List.length l2)))
(.nd (fun h1 =>
(.pa [1,1]
(.nd (fun h2 =>
(.pa [1]
.lf)) (fun h2 =>
(.pa [1]
.lf))))) (fun h1 =>
.none)))) (fun h0 =>
(.pa [1]
.lf))))
def kL28_15 (f : OpT) : MBox := mkM 0 [] [(sh 132 [(1, .ptr 0 0), (6, .int .i64 0)], [laB 1])] [] [(.exit 4, sh 132 [(1, .ptr 0 0)], [laB 0]), (.ret, sh 132 [(2, .bool 0)], [])] f
noncomputable def st_L28_15 (env : LDt) : Tree Step := Lk.stepMC false LK cs_26 73 15 ls0 (kL28_15 fun _ => none) env
noncomputable def op_L28_15 : OpT := Classical.choose (opq (iterS st_L28_15 FU))
theorem op_L28_15_eq (env : LDt) : op_L28_15 env = iterS st_L28_15 FU env := Classical.choose_spec (opq (iterS st_L28_15 FU)) env
noncomputable def L28_15 : MBox := kL28_15 op_L28_15
theorem L28_15_eqs : L28_15 = kL28_15 (iterS st_L28_15 FU) := congrArg kL28_15 (funext op_L28_15_eq)
theorem L28_15_run : ∀ t s x, (manyRun L28_15 t s).sel = some x → CodeOk Try.prog 0 (.loop (cAt Try.prog 73 15)) t s x := by
 rw [L28_15_eqs]
 exact mkM_ok (st := st_L28_15) (m := FU) cs_26_ok hmix false (LsOk.none _ _ _) (by kernel_rfl) (fun env y h => by rw [← stepMC_lk]; exact h)
noncomputable def fn_L28_15_t : LDt → Tree Step
 | [.n n0, .l TS l1, .l TPt l2, .l TPt l3, .l TRt l4] =>
  (.node (decide (n0 < (↑(List.length l3) : Int)))
   (let r1 : OD := (op_44 [.l TI [Prod.snd (List.getD l3 (Int.toNat n0) (Ty.dflt TPt))], .n (↑(List.length l1) : Int)]);
   (.node (isK 0 [HK.b] r1)
    (.node (!gb (dOf r1) 0)
    (.leaf (Step.stop 1 [.b false]))
    (.leaf (Step.go [.k 0, .n (IntKind.wrap .i64 (n0 + (1 : Int))), .l TS l1, .l TPt l2, .l TPt l3, .l TRt l4])))
    (.bad 351)))
   (.leaf (Step.stop 0 [.l TS l1, .l TPt l2, .l TPt l3, .l TRt l4])))
 | _ => .bad 0
theorem fn_L28_15_t_im (n0 : Int) (l1 : DS) (l2 : DP) (l3 : DP) (l4 : DR) (g0 : 0 ≤ n0) : Imp (fn_L28_15_t [.n n0, .l TS l1, .l TPt l2, .l TPt l3, .l TRt l4]) (st_L28_15 [.k 0, .n n0, .l TS l1, .l TPt l2, .l TPt l3, .l TRt l4]) :=
(.pa [1]
(.nd (fun h0 =>
(.pq (c := (inR n0 (List.length l3)))
(.nd (fun h1 =>
(.pa [1,1]
(.nd (fun h2 =>
(.pa [1]
.lf)) (fun h2 =>
(.pa [1]
.lf))))) (fun h1 =>
.none)))) (fun h0 =>
(.pa [1]
.lf))))
def kL28_20 (f : OpT) : MBox := mkM 0 [] [(sh 132 [(1, .ptr 0 0), (7, .int .i64 0)], [laB 1])] [] [(.exit 6, sh 132 [], []), (.ret, sh 132 [(2, .bool 0)], [])] f
noncomputable def st_L28_20 (env : LDt) : Tree Step := Lk.stepMC false LK cs_26 73 20 ls0 (kL28_20 fun _ => none) env
noncomputable def op_L28_20 : OpT := Classical.choose (opq (iterS st_L28_20 FU))
theorem op_L28_20_eq (env : LDt) : op_L28_20 env = iterS st_L28_20 FU env := Classical.choose_spec (opq (iterS st_L28_20 FU)) env
noncomputable def L28_20 : MBox := kL28_20 op_L28_20
theorem L28_20_eqs : L28_20 = kL28_20 (iterS st_L28_20 FU) := congrArg kL28_20 (funext op_L28_20_eq)
theorem L28_20_run : ∀ t s x, (manyRun L28_20 t s).sel = some x → CodeOk Try.prog 0 (.loop (cAt Try.prog 73 20)) t s x := by
 rw [L28_20_eqs]
 exact mkM_ok (st := st_L28_20) (m := FU) cs_26_ok hmix false (LsOk.none _ _ _) (by kernel_rfl) (fun env y h => by rw [← stepMC_lk]; exact h)
noncomputable def fn_L28_20_t : LDt → Tree Step
 | [.n n0, .l TS l1, .l TPt l2, .l TPt l3, .l TRt l4] =>
  (.node (decide (n0 < (↑(List.length l4) : Int)))
   (let r1 : OD := (op_44 [.l TI [Prod.fst (Prod.snd (List.getD l4 (Int.toNat n0) (Ty.dflt TRt)))], .n (↑(List.length l3) : Int)]);
   (.node (isK 0 [HK.b] r1)
    (.node (!gb (dOf r1) 0)
    (.leaf (Step.stop 1 [.b false]))
    (let r2 : OD := (op_44 [.l TI (Prod.fst (Prod.snd (Prod.snd (List.getD l4 (Int.toNat n0) (Ty.dflt TRt))))), .n (↑(List.length l1) : Int)]);
     (.node (isK 0 [HK.b] r2)
     (.node (!gb (dOf r2) 0)
      (.leaf (Step.stop 1 [.b false]))
      (let r3 : OD := (op_44 [.l TI (Prod.fst (Prod.snd (Prod.snd (Prod.snd (Prod.snd (List.getD l4 (Int.toNat n0) (Ty.dflt TRt))))))), .n (↑(List.length l1) : Int)]);
      (.node (isK 0 [HK.b] r3)
       (.node (!gb (dOf r3) 0)
       (.leaf (Step.stop 1 [.b false]))
       (let r4 : OD := (op_45 [.l TNd (Prod.fst (Prod.snd (Prod.snd (Prod.snd (List.getD l4 (Int.toNat n0) (Ty.dflt TRt))))))]);
        (.node (isK 0 [HK.l TI] r4)
        (let r5 : OD := (op_44 [.l TI (gl TI (dOf r4) 0), .n (↑(List.length l2) : Int)]);
         (.node (isK 0 [HK.b] r5)
         (.node (!gb (dOf r5) 0)
          (.leaf (Step.stop 1 [.b false]))
          (let r6 : OD := (op_45 [.l TNd (Prod.snd (Prod.snd (Prod.snd (Prod.snd (Prod.snd (List.getD l4 (Int.toNat n0) (Ty.dflt TRt)))))))]);
          (.node (isK 0 [HK.l TI] r6)
           (let r7 : OD := (op_44 [.l TI (gl TI (dOf r6) 0), .n (↑(List.length l2) : Int)]);
           (.node (isK 0 [HK.b] r7)
            (.node (!gb (dOf r7) 0)
            (.leaf (Step.stop 1 [.b false]))
            (.leaf (Step.go [.k 0, .n (IntKind.wrap .i64 (n0 + (1 : Int))), .l TS l1, .l TPt l2, .l TPt l3, .l TRt l4])))
            (.bad 351)))
           (.bad 351))))
         (.bad 351)))
        (.bad 351))))
       (.bad 351))))
     (.bad 351))))
    (.bad 351)))
   (.leaf (Step.stop 0 [])))
 | _ => .bad 0
theorem fn_L28_20_t_im (n0 : Int) (l1 : DS) (l2 : DP) (l3 : DP) (l4 : DR) (g0 : 0 ≤ n0) : Imp (fn_L28_20_t [.n n0, .l TS l1, .l TPt l2, .l TPt l3, .l TRt l4]) (st_L28_20 [.k 0, .n n0, .l TS l1, .l TPt l2, .l TPt l3, .l TRt l4]) :=
(.pa [1]
(.nd (fun h0 =>
(.pq (c := (inR n0 (List.length l4)))
(.nd (fun h1 =>
(.pa [1]
(.nd (fun h2 =>
(.pa [1,1,1,1,1,1,1,1,1,1]
.lf)) (fun h2 =>
(.nd (fun h3 =>
(.pa [1]
(.nd (fun h4 =>
(.pa [1,1,1,1,1,1,1,1]
.lf)) (fun h4 =>
(.nd (fun h5 =>
(.pa [1]
(.nd (fun h6 =>
(.pa [1,1,1,1,1,1]
.lf)) (fun h6 =>
(.nd (fun h7 =>
(.pa [1]
(.nd (fun h8 =>
(.pa [1]
(.nd (fun h9 =>
(.pa [1,1,1,1]
.lf)) (fun h9 =>
(.nd (fun h10 =>
(.pa [1]
(.nd (fun h11 =>
(.pa [1,1]
(.nd (fun h12 =>
(.pa [1]
.lf)) (fun h12 =>
(.pa [1]
.lf))))) (fun h11 =>
.none)))) (fun h10 =>
.none)))))) (fun h8 =>
.none)))) (fun h7 =>
.none)))))) (fun h5 =>
.none)))))) (fun h3 =>
.none)))))) (fun h1 =>
.none)))) (fun h0 =>
(.pa [1]
.lf))))
theorem ls_28_ok : LsOk Try.prog (z0) (lsM [(5, L28_5), (10, L28_10), (15, L28_15), (20, L28_20)] (z0)) (bodyOf Try.prog 73) := LsOk.many fun j B hB hk c hc hi => by
 simp only [lookM] at hB
 split at hB
 ·rename_i e; have := Nat.eq_of_beq_eq_true e; subst this; cases hB
  rw [onlyC (f := 73) (i := 5) (loopAt_one (by kernel_rfl)) (loopsAt_mem hc hi)]; exact L28_5_run
 split at hB
 ·rename_i e; have := Nat.eq_of_beq_eq_true e; subst this; cases hB
  rw [onlyC (f := 73) (i := 10) (loopAt_one (by kernel_rfl)) (loopsAt_mem hc hi)]; exact L28_10_run
 split at hB
 ·rename_i e; have := Nat.eq_of_beq_eq_true e; subst this; cases hB
  rw [onlyC (f := 73) (i := 15) (loopAt_one (by kernel_rfl)) (loopsAt_mem hc hi)]; exact L28_15_run
 split at hB
 ·rename_i e; have := Nat.eq_of_beq_eq_true e; subst this; cases hB
  rw [onlyC (f := 73) (i := 20) (loopAt_one (by kernel_rfl)) (loopsAt_mem hc hi)]; exact L28_20_run
 cases hB
noncomputable def ev_28 (env : LDt) : TD := Lk.boxC false LK cs_26 73 (lsM [(5, L28_5), (10, L28_10), (15, L28_15), (20, L28_20)] (z0)) (mkF [laV 0] [] [] [(.bool 0, [])] fun _ => none) env
noncomputable def op_28 : OpT := Classical.choose (opq (fun env => (ev_28 env).sel))
theorem op_28_eq (env : LDt) : op_28 env = (ev_28 env).sel := Classical.choose_spec (opq (fun env => (ev_28 env).sel)) env
noncomputable def B28 : FBox := mkF [laV 0] [] [] [(.bool 0, [])] op_28
theorem B28_ok : RunOk Try.prog 73 (boxRun B28) := mkF_ok (op := op_28) cs_26_ok hmix false (ls_28_ok) (fun env x h => by rw [op_28_eq] at h; rw [← boxC_lk]; exact h)
noncomputable def fn_28_t : LDt → TD
 | [.l TS l0, .l TPt l1, .l TPt l2, .l TRt l3] =>
  (let r1 : OD := (op_40 [.l TS l0, .l TPt l1, .l TPt l2, .l TRt l3]);
   (.node (isK 0 [HK.b] r1)
   (.node (gb (dOf r1) 0)
    (.leaf ((0, [.b false])))
    (let r2 : OD := (op_41 [.l TS l0, .l TPt l1, .l TPt l2, .l TRt l3]);
    (.node (isK 0 [HK.l Ty.str] r2)
     (let r3 : OD := (op_L28_5 [.k 0, .n (0 : Int), .l TS l0, .l TPt l1, .l TPt l2, .l TRt l3, .l TS (gl Ty.str (dOf r2) 0)]);
     (.node (isK 0 [HK.l Ty.str, HK.l TPt, HK.l TPt, HK.l TRt] r3)
      (let r4 : OD := (op_L28_10 [.k 0, .n (0 : Int), .l TS (gl Ty.str (dOf r3) 0), .l TPt (gl TPt (dOf r3) 1), .l TPt (gl TPt (dOf r3) 2), .l TRt (gl TRt (dOf r3) 3)]);
      (.node (isK 0 [HK.l Ty.str, HK.l TPt, HK.l TPt, HK.l TRt] r4)
       (let r5 : OD := (op_L28_15 [.k 0, .n (0 : Int), .l TS (gl Ty.str (dOf r4) 0), .l TPt (gl TPt (dOf r4) 1), .l TPt (gl TPt (dOf r4) 2), .l TRt (gl TRt (dOf r4) 3)]);
       (.node (isK 0 [HK.l Ty.str, HK.l TPt, HK.l TPt, HK.l TRt] r5)
        (let r6 : OD := (op_L28_20 [.k 0, .n (0 : Int), .l TS (gl Ty.str (dOf r5) 0), .l TPt (gl TPt (dOf r5) 1), .l TPt (gl TPt (dOf r5) 2), .l TRt (gl TRt (dOf r5) 3)]);
        (.node (isK 0 [] r6)
         (.leaf ((0, [.b true])))
         (.node (isK 1 [HK.b] r6)
         (.leaf ((0, [.b (gb (dOf r6) 0)])))
         (.bad 351))))
        (.node (isK 1 [HK.b] r5)
        (.leaf ((0, [.b (gb (dOf r5) 0)])))
        (.bad 351))))
       (.node (isK 1 [HK.b] r4)
       (.leaf ((0, [.b (gb (dOf r4) 0)])))
       (.bad 351))))
      (.node (isK 1 [HK.b] r3)
      (.leaf ((0, [.b (gb (dOf r3) 0)])))
      (.bad 351))))
     (.bad 351))))
   (.bad 351)))
 | _ => .bad 0
theorem fn_28_t_im (l0 : DS) (l1 : DP) (l2 : DP) (l3 : DR) : Imp (fn_28_t [.l TS l0, .l TPt l1, .l TPt l2, .l TRt l3]) (ev_28 [.l TS l0, .l TPt l1, .l TPt l2, .l TRt l3]) :=
(.nd (fun h0 =>
(.pa [1]
(.nd (fun h1 =>
(.pa [1]
.lf)) (fun h1 =>
(.nd (fun h2 =>
(.pa [1]
(.nd (fun h3 =>
(.nd (fun h4 =>
(.nd (fun h5 =>
(.nd (fun h6 =>
(.pa [1]
.lf)) (fun h6 =>
(.nd (fun h7 =>
(.pa [1]
.lf)) (fun h7 =>
.none))))) (fun h5 =>
(.nd (fun h6 =>
(.pa [1]
.lf)) (fun h6 =>
.none))))) (fun h4 =>
(.nd (fun h5 =>
(.pa [1]
.lf)) (fun h5 =>
.none))))) (fun h3 =>
(.nd (fun h4 =>
(.pa [1]
.lf)) (fun h4 =>
.none)))))) (fun h2 =>
.none)))))) (fun h0 =>
.none))
noncomputable def cs_28 : FuncId → Option CSpec := csLend 73 B28 cs_26
theorem cs_28_ok : CsOk Try.prog cs_28 := csLend_ok cs_26_ok B28_ok
end Go.Proofs.Ytfkcodaiiheniaa.Vx
