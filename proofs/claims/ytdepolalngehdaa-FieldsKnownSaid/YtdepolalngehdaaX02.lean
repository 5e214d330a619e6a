import Derived.Test.YtdepolalngehdaaVxIm
import Derived.Test.YtdepolalngehdaaVxLk
import Derived.Test.YtdepolalngehdaaVxLaw
import Derived.KernelRfl
namespace Go.Proofs.Ytdepolalngehdaa.Vx
open Go Go.RowKit
set_option linter.unusedVariables false
set_option linter.unusedSimpArgs false
set_option maxRecDepth 100000
set_option maxHeartbeats 0

abbrev TB : Ty := .int .u8
abbrev TIt : Ty := .pair (.int .u8) (.pair (.int .u64) (.sl (.int .u8)))
def itV (h : Nat) : PV := .agg [.int .u8 h, .int .u64 (h+1), .imm TB (h+2)]
def rdB (h : Nat) : PB := .cells [.imm TB h, .bool (h+1)]
def wrN : PB := .cells [.nilsl]
def wrO (b : Nat) : PB := .cells [.own b]

def it_1 (l : List (Ty.den TIt)) (i : Int) : Int := Prod.fst (List.getD l (Int.toNat i) (Ty.dflt TIt))
def it_2 (l : List (Ty.den TIt)) (i : Int) : Int := Prod.fst (Prod.snd (List.getD l (Int.toNat i) (Ty.dflt TIt)))
def it_3 (l : List (Ty.den TIt)) (i : Int) : List (Ty.den (Ty.int IntKind.u8)) := Prod.snd (Prod.snd (List.getD l (Int.toNat i) (Ty.dflt TIt)))
theorem hmix : Try.prog.follows .mixedOrders = true := by kernel_rfl
theorem csNone_ok0 : CsOk Try.prog csNone := csNone_ok _

def okc_31 (l : List (Ty.den TB)) : Bool := decide ((0 + l.length) * 1 ≤ 140737488355328)
def op_31 : List Dat → Option (Nat × List Dat) := cloneOp TB okc_31
def B31 : FBox := mkF [.imm TB 0] [] [] [(.own 0, [.arr TB 0])] op_31
noncomputable def cs_31 : FuncId → Option CSpec := csLend 31 B31 csNone
theorem B31_ok : RunOk Try.prog 31 (boxRun B31) :=
  clone_ok (P := Try.prog) (cl := clMd true Try.prog csNone) (clMd_ok csNone_ok0 hmix true) hmix (T := 25) (e := 5) (n := 400) (fn := Try.f31) (by kernel_rfl) (by kernel_rfl) (by kernel_rfl) (by kernel_rfl) TB okc_31
    (fun l => [.imm TB l, .undef, .nilsl, .undef, .undef, .undef, .undef, .undef]) (fun l => [.imm TB l, .undef, .nilsl, .imm TB l, .bool true, .undef, .undef, .undef])
    (fun l => [.imm TB l, .undef, .own 0 1, .imm TB l, .bool false, .own 0 0, .imm TB l, .own 0 1]) (fun l => ⟨[.arr TB 1 l], [0]⟩) (fun l => .own 0 1)
    (fun l => by kernel_rfl) (fun l => rfl) (fun l => rfl) (fun l => by kernel_rfl) (fun l => by kernel_rfl) (fun l => by kernel_rfl) (fun l => by kernel_rfl) (fun l => by kernel_rfl) (fun l => by kernel_rfl) (by kernel_rfl)
theorem cs_31_ok : CsOk Try.prog cs_31 := csLend_ok csNone_ok0 B31_ok
theorem op_31_is (l : List (Ty.den TB)) (h : l.length * 1 ≤ 140737488355328) : op_31 [.l TB l] = some (0, [.l TB l]) := by
  unfold op_31 cloneOp
  simp only [castL_self]
  have : okc_31 l = true := decide_eq_true (by omega)
  rw [this]; rfl

def op_9 : List Dat → Option (Nat × List Dat) := fun _ => some (0, [.b true])
def B9 : FBox := mkF [] [] [] [(.bool 0, [])] op_9
theorem fn_9_ok (env : List Dat) (y : Nat × List Dat) (h : op_9 env = some y) : (boxC true Try.prog cs_31 9 ls0 (mkF [] [] [] [(.bool 0, [])] fun _ => none) env).sel = some y := by
  cases h
  rw [← boxC_lk]
  kernel_rfl
theorem B9_ok : RunOk Try.prog 9 (boxRun B9) := mkF_ok (op := op_9) cs_31_ok hmix true (LsOk.none _ _ _) fn_9_ok

noncomputable def cs_9 : FuncId → Option CSpec := csAdd 9 [B9] cs_31
theorem cs_9_ok : CsOk Try.prog cs_9 := csAdd_ok cs_31_ok fun B hB => by
  cases List.mem_singleton.1 hB
  exact B9_ok

noncomputable def st_L17_3 (env : List Dat) : Tree Step := Lk.stepMC false LK cs_9 17 3 ls0 (mkM 0 [] [(sh 20 [(0, .imm TB 0), (3, .int .u64 1), (4, .int .i64 2)], [])] [] [(.exit 0, sh 20 [(3, .int .u64 0)], [])] fun _ => none) env
theorem op_L17_3_ex : ∃ f : List Dat → Option (Nat × List Dat), ∀ env, f env = iterS st_L17_3 FU env := ⟨iterS st_L17_3 FU, fun _ => rfl⟩
noncomputable def op_L17_3 : List Dat → Option (Nat × List Dat) := Classical.choose op_L17_3_ex
theorem op_L17_3_eq (env : List Dat) : op_L17_3 env = iterS st_L17_3 FU env := Classical.choose_spec op_L17_3_ex env
noncomputable def L17_3 : MBox := mkM 0 [] [(sh 20 [(0, .imm TB 0), (3, .int .u64 1), (4, .int .i64 2)], [])] [] [(.exit 0, sh 20 [(3, .int .u64 0)], [])] op_L17_3
theorem L17_3_eqs : L17_3 = mkM 0 [] [(sh 20 [(0, .imm TB 0), (3, .int .u64 1), (4, .int .i64 2)], [])] [] [(.exit 0, sh 20 [(3, .int .u64 0)], [])] (iterS st_L17_3 FU) := congrArg (fun f => mkM 0 [] [(sh 20 [(0, .imm TB 0), (3, .int .u64 1), (4, .int .i64 2)], [])] [] [(.exit 0, sh 20 [(3, .int .u64 0)], [])] f) (funext op_L17_3_eq)
theorem L17_3_run : ∀ t s x, (manyRun L17_3 t s).sel = some x → CodeOk Try.prog 0 (.loop (cAt Try.prog 17 3)) t s x := by
  rw [L17_3_eqs]
  exact mkM_ok (st := st_L17_3) (m := FU) cs_9_ok hmix false (LsOk.none _ _ _) (by kernel_rfl) (fun env y h => by rw [← stepMC_lk]; exact h)
theorem op_L17_3_good {p : Nat × List Dat → Prop} (Inv : List Dat → Prop) (μ : List Dat → Nat) (h : ∀ env, Inv env → Good (fun y => match y with | .go e => Inv e ∧ μ e < μ env | .stop k d => p (k, d)) (st_L17_3 env).sel) (env : List Dat) (hi : Inv env) (hm : μ env < FU) : Good p (op_L17_3 env) := by
  rw [op_L17_3_eq]
  exact iterS_good Inv μ p h FU env hi hm

noncomputable def fn_L17_3_t : List Dat → Tree Step
  | [.l (Ty.int IntKind.u8) l0, .n n1, .n n2] =>
    (.node (decide (n2 < (↑(List.length l0) : Int)))
     (.node (inR n2 (List.length l0))
      (.leaf (Step.go [.k 0, .l (Ty.int IntKind.u8) l0, .n (ior IntKind.u64 (ishl IntKind.u64 n1 (8 : Int)) (IntKind.wrap .u64 (List.getD l0 (Int.toNat n2) (0 : Int)))), .n (IntKind.wrap .i64 (n2 + (1 : Int)))]))
      (.bad 10))
     (.leaf (Step.stop 0 [.n n1])))
  | _ => .bad 0
theorem fn_L17_3_t_im (l0 : List (Ty.den (Ty.int IntKind.u8))) (n1 : Int) (n2 : Int) : Imp (fn_L17_3_t [.l (Ty.int IntKind.u8) l0, .n n1, .n n2]) (st_L17_3 [.k 0, .l TB l0, .n n1, .n n2]) :=
(.path [1] (by kernel_rfl)
(.node (by kernel_rfl) (by kernel_rfl) (fun h0 =>
(.path [1] (by kernel_rfl)
(.node (by kernel_rfl) (by kernel_rfl) (fun h1 =>
(.path [1] (by kernel_rfl)
(.leaf (by kernel_rfl)))) (fun h1 =>
.none)))) (fun h0 =>
(.path [1] (by kernel_rfl)
(.leaf (by kernel_rfl))))))

theorem ls_17_ok : LsOk Try.prog (List.length ([] : List PB)) (lsM [(3, L17_3)] (List.length ([] : List PB))) (bodyOf Try.prog 17) := LsOk.many fun j B hB hk c hc hi => by
  simp only [lookM] at hB
  split at hB
  · rename_i e; have := Nat.eq_of_beq_eq_true e; subst this; cases hB
    have e1 : loopAt Try.prog 17 3 = [cAt Try.prog 17 3] := loopAt_one (by kernel_rfl)
    have e2 : c ∈ loopAt Try.prog 17 3 := loopsAt_mem hc hi
    rw [e1] at e2; cases List.mem_singleton.1 e2; exact L17_3_run
  cases hB

noncomputable def ev_17 (env : List Dat) : Tree (Nat × List Dat) := Lk.boxC false LK cs_9 17 (lsM [(3, L17_3)] (List.length ([] : List PB))) (mkF [.imm TB 0] [] [] [(.int .u64 0, [])] fun _ => none) env
theorem op_17_ex : ∃ f : List Dat → Option (Nat × List Dat), ∀ env, f env = (ev_17 env).sel := ⟨fun env => (ev_17 env).sel, fun _ => rfl⟩
noncomputable def op_17 : List Dat → Option (Nat × List Dat) := Classical.choose op_17_ex
theorem op_17_eq (env : List Dat) : op_17 env = (ev_17 env).sel := Classical.choose_spec op_17_ex env
noncomputable def B17 : FBox := mkF [.imm TB 0] [] [] [(.int .u64 0, [])] op_17
theorem B17_ok : RunOk Try.prog 17 (boxRun B17) := mkF_ok (op := op_17) cs_9_ok hmix false (ls_17_ok) (fun env x h => by rw [op_17_eq] at h; rw [← boxC_lk]; exact h)
theorem op_17_good {p : Nat × List Dat → Prop} {T : Tree (Nat × List Dat)} {env : List Dat} (h : Imp T (ev_17 env)) (g : Good p T.sel) : Good p (op_17 env) := by
  rw [op_17_eq]
  exact h.good g

noncomputable def fn_17_t : List Dat → Tree (Nat × List Dat)
  | [.l (Ty.int IntKind.u8) l0] =>
    (let r1 : Option (Nat × List Dat) := (op_L17_3 [.k 0, .l (Ty.int IntKind.u8) l0, .n (0 : Int), .n (0 : Int)]);
     (.node (isK 0 [HK.n] r1)
      (.leaf ((0, [.n (gn (dOf r1) 0)])))
      (.bad 351)))
  | _ => .bad 0
theorem fn_17_t_im (l0 : List (Ty.den (Ty.int IntKind.u8))) : Imp (fn_17_t [.l (Ty.int IntKind.u8) l0]) (ev_17 [.l TB l0]) :=
(.node (by kernel_rfl) (by kernel_rfl) (fun h0 =>
(.path [1] (by kernel_rfl)
(.leaf (by kernel_rfl)))) (fun h0 =>
.none))

noncomputable def cs_17 : FuncId → Option CSpec := csLend 17 B17 cs_9
theorem cs_17_ok : CsOk Try.prog cs_17 := csLend_ok cs_9_ok B17_ok

noncomputable def st_L30_3 (env : List Dat) : Tree Step := Lk.stepMC false LK cs_17 30 3 ls0 (mkM 0 [] [(sh 22 [(0, .int .u64 0), (5, .own 0), (6, .int .i64 1)], [.arr TB 2])] [(5, TB)] [(.exit 0, sh 22 [(5, .own 0)], [.arr TB 0])] fun _ => none) env
theorem op_L30_3_ex : ∃ f : List Dat → Option (Nat × List Dat), ∀ env, f env = iterS st_L30_3 FU env := ⟨iterS st_L30_3 FU, fun _ => rfl⟩
noncomputable def op_L30_3 : List Dat → Option (Nat × List Dat) := Classical.choose op_L30_3_ex
theorem op_L30_3_eq (env : List Dat) : op_L30_3 env = iterS st_L30_3 FU env := Classical.choose_spec op_L30_3_ex env
noncomputable def L30_3 : MBox := mkM 0 [] [(sh 22 [(0, .int .u64 0), (5, .own 0), (6, .int .i64 1)], [.arr TB 2])] [(5, TB)] [(.exit 0, sh 22 [(5, .own 0)], [.arr TB 0])] op_L30_3
theorem L30_3_eqs : L30_3 = mkM 0 [] [(sh 22 [(0, .int .u64 0), (5, .own 0), (6, .int .i64 1)], [.arr TB 2])] [(5, TB)] [(.exit 0, sh 22 [(5, .own 0)], [.arr TB 0])] (iterS st_L30_3 FU) := congrArg (fun f => mkM 0 [] [(sh 22 [(0, .int .u64 0), (5, .own 0), (6, .int .i64 1)], [.arr TB 2])] [(5, TB)] [(.exit 0, sh 22 [(5, .own 0)], [.arr TB 0])] f) (funext op_L30_3_eq)
theorem L30_3_run : ∀ t s x, (manyRun L30_3 t s).sel = some x → CodeOk Try.prog 0 (.loop (cAt Try.prog 30 3)) t s x := by
  rw [L30_3_eqs]
  exact mkM_ok (st := st_L30_3) (m := FU) cs_17_ok hmix false (LsOk.none _ _ _) (by kernel_rfl) (fun env y h => by rw [← stepMC_lk]; exact h)
theorem op_L30_3_good {p : Nat × List Dat → Prop} (Inv : List Dat → Prop) (μ : List Dat → Nat) (h : ∀ env, Inv env → Good (fun y => match y with | .go e => Inv e ∧ μ e < μ env | .stop k d => p (k, d)) (st_L30_3 env).sel) (env : List Dat) (hi : Inv env) (hm : μ env < FU) : Good p (op_L30_3 env) := by
  rw [op_L30_3_eq]
  exact iterS_good Inv μ p h FU env hi hm

noncomputable def fn_L30_3_t : List Dat → Tree Step
  | [.n n0, .n n1, .l (Ty.int IntKind.u8) l2] =>
    (.node (decide (n1 ≥ (0 : Int)))
     (.node (!decide (IntKind.wrap .i64 ((8 : Int) * n1) < (0 : Int)))
      (.node (decide ((List.length l2 + 1) * 1 ≤ 140737488355328))
       (.leaf (Step.go [.k 0, .n n0, .n (IntKind.wrap .i64 (n1 - (1 : Int))), .l (Ty.int IntKind.u8) (l2 ++ [IntKind.wrap .u8 (ishr IntKind.u64 n0 (IntKind.wrap .i64 ((8 : Int) * n1)))])]))
       (.bad 62))
      (.bad 83))
     (.leaf (Step.stop 0 [.l (Ty.int IntKind.u8) l2])))
  | _ => .bad 0
theorem fn_L30_3_t_im (n0 : Int) (n1 : Int) (l2 : List (Ty.den (Ty.int IntKind.u8))) : Imp (fn_L30_3_t [.n n0, .n n1, .l (Ty.int IntKind.u8) l2]) (st_L30_3 [.k 0, .n n0, .n n1, .l TB l2]) :=
(.path [1] (by kernel_rfl)
(.node (by kernel_rfl) (by kernel_rfl) (fun h0 =>
(.node (by kernel_rfl) (by kernel_rfl) (fun h1 =>
(.node (by kernel_rfl) (by kernel_rfl) (fun h2 =>
(.path [1] (by kernel_rfl)
(.leaf (by kernel_rfl)))) (fun h2 =>
.none))) (fun h1 =>
.none))) (fun h0 =>
(.path [1] (by kernel_rfl)
(.leaf (by kernel_rfl))))))

theorem ls_30_ok : LsOk Try.prog (List.length ([] : List PB)) (lsM [(3, L30_3)] (List.length ([] : List PB))) (bodyOf Try.prog 30) := LsOk.many fun j B hB hk c hc hi => by
  simp only [lookM] at hB
  split at hB
  · rename_i e; have := Nat.eq_of_beq_eq_true e; subst this; cases hB
    have e1 : loopAt Try.prog 30 3 = [cAt Try.prog 30 3] := loopAt_one (by kernel_rfl)
    have e2 : c ∈ loopAt Try.prog 30 3 := loopsAt_mem hc hi
    rw [e1] at e2; cases List.mem_singleton.1 e2; exact L30_3_run
  cases hB

noncomputable def ev_30 (env : List Dat) : Tree (Nat × List Dat) := Lk.boxC false LK cs_17 30 (lsM [(3, L30_3)] (List.length ([] : List PB))) (mkF [.int .u64 0, .int .i64 1] [] [] [(.own 0, [.arr TB 0])] fun _ => none) env
theorem op_30_ex : ∃ f : List Dat → Option (Nat × List Dat), ∀ env, f env = (ev_30 env).sel := ⟨fun env => (ev_30 env).sel, fun _ => rfl⟩
noncomputable def op_30 : List Dat → Option (Nat × List Dat) := Classical.choose op_30_ex
theorem op_30_eq (env : List Dat) : op_30 env = (ev_30 env).sel := Classical.choose_spec op_30_ex env
noncomputable def B30 : FBox := mkF [.int .u64 0, .int .i64 1] [] [] [(.own 0, [.arr TB 0])] op_30
theorem B30_ok : RunOk Try.prog 30 (boxRun B30) := mkF_ok (op := op_30) cs_17_ok hmix false (ls_30_ok) (fun env x h => by rw [op_30_eq] at h; rw [← boxC_lk]; exact h)
theorem op_30_good {p : Nat × List Dat → Prop} {T : Tree (Nat × List Dat)} {env : List Dat} (h : Imp T (ev_30 env)) (g : Good p T.sel) : Good p (op_30 env) := by
  rw [op_30_eq]
  exact h.good g

noncomputable def fn_30_t : List Dat → Tree (Nat × List Dat)
  | [.n n0, .n n1] =>
    (let r1 : Option (Nat × List Dat) := (op_L30_3 [.k 0, .n n0, .n (IntKind.wrap .i64 (n1 - (1 : Int))), .l (Ty.int IntKind.u8) []]);
     (.node (isK 0 [HK.l (Ty.int IntKind.u8)] r1)
      (.leaf ((0, [.l (Ty.int IntKind.u8) (gl (Ty.int IntKind.u8) (dOf r1) 0)])))
      (.bad 351)))
  | _ => .bad 0
theorem fn_30_t_im (n0 : Int) (n1 : Int) : Imp (fn_30_t [.n n0, .n n1]) (ev_30 [.n n0, .n n1]) :=
(.node (by kernel_rfl) (by kernel_rfl) (fun h0 =>
(.path [1] (by kernel_rfl)
(.leaf (by kernel_rfl)))) (fun h0 =>
.none))

noncomputable def cs_30 : FuncId → Option CSpec := csLend 30 B30 cs_17
theorem cs_30_ok : CsOk Try.prog cs_30 := csLend_ok cs_17_ok B30_ok

noncomputable def st_L35a_1 (env : List Dat) : Tree Step := Lk.stepMC false LK cs_30 35 1 ls0 (mkM 1 [0] [(sh 29 [(0, .ptr 0 0), (1, .int .u64 0), (2, .int .i64 1), (7, .int .i64 2), (8, .int .i64 3)], [wrN]), (sh 29 [(0, .ptr 0 0), (1, .int .u64 0), (2, .int .i64 1), (7, .int .i64 2), (8, .int .i64 3)], [wrO 1, .arr TB 4])] [] [(.exit 0, sh 29 [(0, .ptr 0 0)], [wrN]), (.exit 0, sh 29 [(0, .ptr 0 0)], [wrO 1, .arr TB 0])] fun _ => none) env
theorem op_L35a_1_ex : ∃ f : List Dat → Option (Nat × List Dat), ∀ env, f env = iterS st_L35a_1 FU env := ⟨iterS st_L35a_1 FU, fun _ => rfl⟩
noncomputable def op_L35a_1 : List Dat → Option (Nat × List Dat) := Classical.choose op_L35a_1_ex
theorem op_L35a_1_eq (env : List Dat) : op_L35a_1 env = iterS st_L35a_1 FU env := Classical.choose_spec op_L35a_1_ex env
noncomputable def L35a_1 : MBox := mkM 1 [0] [(sh 29 [(0, .ptr 0 0), (1, .int .u64 0), (2, .int .i64 1), (7, .int .i64 2), (8, .int .i64 3)], [wrN]), (sh 29 [(0, .ptr 0 0), (1, .int .u64 0), (2, .int .i64 1), (7, .int .i64 2), (8, .int .i64 3)], [wrO 1, .arr TB 4])] [] [(.exit 0, sh 29 [(0, .ptr 0 0)], [wrN]), (.exit 0, sh 29 [(0, .ptr 0 0)], [wrO 1, .arr TB 0])] op_L35a_1
theorem L35a_1_eqs : L35a_1 = mkM 1 [0] [(sh 29 [(0, .ptr 0 0), (1, .int .u64 0), (2, .int .i64 1), (7, .int .i64 2), (8, .int .i64 3)], [wrN]), (sh 29 [(0, .ptr 0 0), (1, .int .u64 0), (2, .int .i64 1), (7, .int .i64 2), (8, .int .i64 3)], [wrO 1, .arr TB 4])] [] [(.exit 0, sh 29 [(0, .ptr 0 0)], [wrN]), (.exit 0, sh 29 [(0, .ptr 0 0)], [wrO 1, .arr TB 0])] (iterS st_L35a_1 FU) := congrArg (fun f => mkM 1 [0] [(sh 29 [(0, .ptr 0 0), (1, .int .u64 0), (2, .int .i64 1), (7, .int .i64 2), (8, .int .i64 3)], [wrN]), (sh 29 [(0, .ptr 0 0), (1, .int .u64 0), (2, .int .i64 1), (7, .int .i64 2), (8, .int .i64 3)], [wrO 1, .arr TB 4])] [] [(.exit 0, sh 29 [(0, .ptr 0 0)], [wrN]), (.exit 0, sh 29 [(0, .ptr 0 0)], [wrO 1, .arr TB 0])] f) (funext op_L35a_1_eq)
theorem L35a_1_run : ∀ t s x, (manyRun L35a_1 t s).sel = some x → CodeOk Try.prog 1 (.loop (cAt Try.prog 35 1)) t s x := by
  rw [L35a_1_eqs]
  exact mkM_ok (st := st_L35a_1) (m := FU) cs_30_ok hmix false (LsOk.none _ _ _) (by kernel_rfl) (fun env y h => by rw [← stepMC_lk]; exact h)
theorem op_L35a_1_good {p : Nat × List Dat → Prop} (Inv : List Dat → Prop) (μ : List Dat → Nat) (h : ∀ env, Inv env → Good (fun y => match y with | .go e => Inv e ∧ μ e < μ env | .stop k d => p (k, d)) (st_L35a_1 env).sel) (env : List Dat) (hi : Inv env) (hm : μ env < FU) : Good p (op_L35a_1 env) := by
  rw [op_L35a_1_eq]
  exact iterS_good Inv μ p h FU env hi hm

noncomputable def fn_L35a_1_n : List Dat → Tree Step
  | [.n n0, .n n1, .n n2, .n n3] =>
    (.node (decide (n3 < n2))
     (.node (!decide (IntKind.wrap .i64 ((8 : Int) * IntKind.wrap .i64 (IntKind.wrap .i64 (n1 - (1 : Int)) - n3)) < (0 : Int)))
      (.leaf (Step.go [.k 1, .n n0, .n n1, .n n2, .n (IntKind.wrap .i64 (n3 + (1 : Int))), .l (Ty.int IntKind.u8) [IntKind.wrap .u8 (ishr IntKind.u64 n0 (IntKind.wrap .i64 ((8 : Int) * IntKind.wrap .i64 (IntKind.wrap .i64 (n1 - (1 : Int)) - n3))))]]))
      (.bad 83))
     (.leaf (Step.stop 0 [])))
  | _ => .bad 0
theorem fn_L35a_1_n_im (n0 : Int) (n1 : Int) (n2 : Int) (n3 : Int) : Imp (fn_L35a_1_n [.n n0, .n n1, .n n2, .n n3]) (st_L35a_1 [.k 0, .n n0, .n n1, .n n2, .n n3]) :=
(.path [1] (by kernel_rfl)
(.node (by kernel_rfl) (by kernel_rfl) (fun h0 =>
(.node (by kernel_rfl) (by kernel_rfl) (fun h1 =>
(.path [1,1,1] (by kernel_rfl)
(.leaf (by kernel_rfl)))) (fun h1 =>
.none))) (fun h0 =>
(.path [1] (by kernel_rfl)
(.leaf (by kernel_rfl))))))

noncomputable def fn_L35a_1_o : List Dat → Tree Step
  | [.n n0, .n n1, .n n2, .n n3, .l (Ty.int IntKind.u8) l4] =>
    (.node (decide (n3 < n2))
     (.node (!decide (IntKind.wrap .i64 ((8 : Int) * IntKind.wrap .i64 (IntKind.wrap .i64 (n1 - (1 : Int)) - n3)) < (0 : Int)))
      (.node (decide ((List.length l4 + 1) * 1 ≤ 140737488355328))
       (.leaf (Step.go [.k 1, .n n0, .n n1, .n n2, .n (IntKind.wrap .i64 (n3 + (1 : Int))), .l (Ty.int IntKind.u8) (l4 ++ [IntKind.wrap .u8 (ishr IntKind.u64 n0 (IntKind.wrap .i64 ((8 : Int) * IntKind.wrap .i64 (IntKind.wrap .i64 (n1 - (1 : Int)) - n3))))])]))
       (.bad 62))
      (.bad 83))
     (.leaf (Step.stop 1 [.l (Ty.int IntKind.u8) l4])))
  | _ => .bad 0
theorem fn_L35a_1_o_im (n0 : Int) (n1 : Int) (n2 : Int) (n3 : Int) (l4 : List (Ty.den (Ty.int IntKind.u8))) : Imp (fn_L35a_1_o [.n n0, .n n1, .n n2, .n n3, .l (Ty.int IntKind.u8) l4]) (st_L35a_1 [.k 1, .n n0, .n n1, .n n2, .n n3, .l TB l4]) :=
(.path [1] (by kernel_rfl)
(.node (by kernel_rfl) (by kernel_rfl) (fun h0 =>
(.node (by kernel_rfl) (by kernel_rfl) (fun h1 =>
(.node (by kernel_rfl) (by kernel_rfl) (fun h2 =>
(.path [1,1] (by kernel_rfl)
(.leaf (by kernel_rfl)))) (fun h2 =>
.none))) (fun h1 =>
.none))) (fun h0 =>
(.path [1] (by kernel_rfl)
(.leaf (by kernel_rfl))))))

theorem ls_35a_ok : LsOk Try.prog (List.length ([wrN] : List PB)) (lsM [(1, L35a_1)] (List.length ([wrN] : List PB))) (bodyOf Try.prog 35) := LsOk.many fun j B hB hk c hc hi => by
  simp only [lookM] at hB
  split at hB
  · rename_i e; have := Nat.eq_of_beq_eq_true e; subst this; cases hB
    have e1 : loopAt Try.prog 35 1 = [cAt Try.prog 35 1] := loopAt_one (by kernel_rfl)
    have e2 : c ∈ loopAt Try.prog 35 1 := loopsAt_mem hc hi
    rw [e1] at e2; cases List.mem_singleton.1 e2; exact L35a_1_run
  cases hB

noncomputable def ev_35a (env : List Dat) : Tree (Nat × List Dat) := Lk.boxC false LK cs_30 35 (lsM [(1, L35a_1)] (List.length ([wrN] : List PB))) (mkF [.ptr 0 0, .int .u64 0, .int .i64 1] [wrN] [0] [(.tup [], [wrN]), (.tup [], [wrO 1, .arr TB 0])] fun _ => none) env
theorem op_35a_ex : ∃ f : List Dat → Option (Nat × List Dat), ∀ env, f env = (ev_35a env).sel := ⟨fun env => (ev_35a env).sel, fun _ => rfl⟩
noncomputable def op_35a : List Dat → Option (Nat × List Dat) := Classical.choose op_35a_ex
theorem op_35a_eq (env : List Dat) : op_35a env = (ev_35a env).sel := Classical.choose_spec op_35a_ex env
noncomputable def B35a : FBox := mkF [.ptr 0 0, .int .u64 0, .int .i64 1] [wrN] [0] [(.tup [], [wrN]), (.tup [], [wrO 1, .arr TB 0])] op_35a
theorem B35a_ok : RunOk Try.prog 35 (boxRun B35a) := mkF_ok (op := op_35a) cs_30_ok hmix false (ls_35a_ok) (fun env x h => by rw [op_35a_eq] at h; rw [← boxC_lk]; exact h)
theorem op_35a_good {p : Nat × List Dat → Prop} {T : Tree (Nat × List Dat)} {env : List Dat} (h : Imp T (ev_35a env)) (g : Good p T.sel) : Good p (op_35a env) := by
  rw [op_35a_eq]
  exact h.good g

noncomputable def fn_35a_t : List Dat → Tree (Nat × List Dat)
  | [.n n0, .n n1] =>
    (let r1 : Option (Nat × List Dat) := (op_L35a_1 [.k 0, .n n0, .n n1, .n n1, .n (0 : Int)]);
     (.node (isK 0 [] r1)
      (.leaf ((0, [])))
      (.node (isK 1 [HK.l (Ty.int IntKind.u8)] r1)
       (.leaf ((1, [.l (Ty.int IntKind.u8) (gl (Ty.int IntKind.u8) (dOf r1) 0)])))
       (.bad 351))))
  | _ => .bad 0
theorem fn_35a_t_im (n0 : Int) (n1 : Int) : Imp (fn_35a_t [.n n0, .n n1]) (ev_35a [.n n0, .n n1]) :=
(.node (by kernel_rfl) (by kernel_rfl) (fun h0 =>
(.path [1] (by kernel_rfl)
(.leaf (by kernel_rfl)))) (fun h0 =>
(.node (by kernel_rfl) (by kernel_rfl) (fun h1 =>
(.path [1] (by kernel_rfl)
(.leaf (by kernel_rfl)))) (fun h1 =>
.none))))

noncomputable def st_L35b_1 (env : List Dat) : Tree Step := Lk.stepMC false LK cs_30 35 1 ls0 (mkM 2 [0, 1] [(sh 29 [(0, .ptr 0 0), (1, .int .u64 0), (2, .int .i64 1), (7, .int .i64 2), (8, .int .i64 3)], [wrO 1, .arr TB 4])] [] [(.exit 0, sh 29 [(0, .ptr 0 0)], [wrO 1, .arr TB 0])] fun _ => none) env
theorem op_L35b_1_ex : ∃ f : List Dat → Option (Nat × List Dat), ∀ env, f env = iterS st_L35b_1 FU env := ⟨iterS st_L35b_1 FU, fun _ => rfl⟩
noncomputable def op_L35b_1 : List Dat → Option (Nat × List Dat) := Classical.choose op_L35b_1_ex
theorem op_L35b_1_eq (env : List Dat) : op_L35b_1 env = iterS st_L35b_1 FU env := Classical.choose_spec op_L35b_1_ex env
noncomputable def L35b_1 : MBox := mkM 2 [0, 1] [(sh 29 [(0, .ptr 0 0), (1, .int .u64 0), (2, .int .i64 1), (7, .int .i64 2), (8, .int .i64 3)], [wrO 1, .arr TB 4])] [] [(.exit 0, sh 29 [(0, .ptr 0 0)], [wrO 1, .arr TB 0])] op_L35b_1
theorem L35b_1_eqs : L35b_1 = mkM 2 [0, 1] [(sh 29 [(0, .ptr 0 0), (1, .int .u64 0), (2, .int .i64 1), (7, .int .i64 2), (8, .int .i64 3)], [wrO 1, .arr TB 4])] [] [(.exit 0, sh 29 [(0, .ptr 0 0)], [wrO 1, .arr TB 0])] (iterS st_L35b_1 FU) := congrArg (fun f => mkM 2 [0, 1] [(sh 29 [(0, .ptr 0 0), (1, .int .u64 0), (2, .int .i64 1), (7, .int .i64 2), (8, .int .i64 3)], [wrO 1, .arr TB 4])] [] [(.exit 0, sh 29 [(0, .ptr 0 0)], [wrO 1, .arr TB 0])] f) (funext op_L35b_1_eq)
theorem L35b_1_run : ∀ t s x, (manyRun L35b_1 t s).sel = some x → CodeOk Try.prog 2 (.loop (cAt Try.prog 35 1)) t s x := by
  rw [L35b_1_eqs]
  exact mkM_ok (st := st_L35b_1) (m := FU) cs_30_ok hmix false (LsOk.none _ _ _) (by kernel_rfl) (fun env y h => by rw [← stepMC_lk]; exact h)
theorem op_L35b_1_good {p : Nat × List Dat → Prop} (Inv : List Dat → Prop) (μ : List Dat → Nat) (h : ∀ env, Inv env → Good (fun y => match y with | .go e => Inv e ∧ μ e < μ env | .stop k d => p (k, d)) (st_L35b_1 env).sel) (env : List Dat) (hi : Inv env) (hm : μ env < FU) : Good p (op_L35b_1 env) := by
  rw [op_L35b_1_eq]
  exact iterS_good Inv μ p h FU env hi hm

noncomputable def fn_L35b_1_o : List Dat → Tree Step
  | [.n n0, .n n1, .n n2, .n n3, .l (Ty.int IntKind.u8) l4] =>
    (.node (decide (n3 < n2))
     (.node (!decide (IntKind.wrap .i64 ((8 : Int) * IntKind.wrap .i64 (IntKind.wrap .i64 (n1 - (1 : Int)) - n3)) < (0 : Int)))
      (.node (decide ((List.length l4 + 1) * 1 ≤ 140737488355328))
       (.leaf (Step.go [.k 0, .n n0, .n n1, .n n2, .n (IntKind.wrap .i64 (n3 + (1 : Int))), .l (Ty.int IntKind.u8) (l4 ++ [IntKind.wrap .u8 (ishr IntKind.u64 n0 (IntKind.wrap .i64 ((8 : Int) * IntKind.wrap .i64 (IntKind.wrap .i64 (n1 - (1 : Int)) - n3))))])]))
       (.bad 62))
      (.bad 83))
     (.leaf (Step.stop 0 [.l (Ty.int IntKind.u8) l4])))
  | _ => .bad 0
theorem fn_L35b_1_o_im (n0 : Int) (n1 : Int) (n2 : Int) (n3 : Int) (l4 : List (Ty.den (Ty.int IntKind.u8))) : Imp (fn_L35b_1_o [.n n0, .n n1, .n n2, .n n3, .l (Ty.int IntKind.u8) l4]) (st_L35b_1 [.k 0, .n n0, .n n1, .n n2, .n n3, .l TB l4]) :=
(.path [1] (by kernel_rfl)
(.node (by kernel_rfl) (by kernel_rfl) (fun h0 =>
(.node (by kernel_rfl) (by kernel_rfl) (fun h1 =>
(.node (by kernel_rfl) (by kernel_rfl) (fun h2 =>
(.path [1,1] (by kernel_rfl)
(.leaf (by kernel_rfl)))) (fun h2 =>
.none))) (fun h1 =>
.none))) (fun h0 =>
(.path [1] (by kernel_rfl)
(.leaf (by kernel_rfl))))))

theorem ls_35b_ok : LsOk Try.prog (List.length ([wrO 1, .arr TB 2] : List PB)) (lsM [(1, L35b_1)] (List.length ([wrO 1, .arr TB 2] : List PB))) (bodyOf Try.prog 35) := LsOk.many fun j B hB hk c hc hi => by
  simp only [lookM] at hB
  split at hB
  · rename_i e; have := Nat.eq_of_beq_eq_true e; subst this; cases hB
    have e1 : loopAt Try.prog 35 1 = [cAt Try.prog 35 1] := loopAt_one (by kernel_rfl)
    have e2 : c ∈ loopAt Try.prog 35 1 := loopsAt_mem hc hi
    rw [e1] at e2; cases List.mem_singleton.1 e2; exact L35b_1_run
  cases hB

noncomputable def ev_35b (env : List Dat) : Tree (Nat × List Dat) := Lk.boxC false LK cs_30 35 (lsM [(1, L35b_1)] (List.length ([wrO 1, .arr TB 2] : List PB))) (mkF [.ptr 0 0, .int .u64 0, .int .i64 1] [wrO 1, .arr TB 2] [0, 1] [(.tup [], [wrO 1, .arr TB 0])] fun _ => none) env
theorem op_35b_ex : ∃ f : List Dat → Option (Nat × List Dat), ∀ env, f env = (ev_35b env).sel := ⟨fun env => (ev_35b env).sel, fun _ => rfl⟩
noncomputable def op_35b : List Dat → Option (Nat × List Dat) := Classical.choose op_35b_ex
theorem op_35b_eq (env : List Dat) : op_35b env = (ev_35b env).sel := Classical.choose_spec op_35b_ex env
noncomputable def B35b : FBox := mkF [.ptr 0 0, .int .u64 0, .int .i64 1] [wrO 1, .arr TB 2] [0, 1] [(.tup [], [wrO 1, .arr TB 0])] op_35b
theorem B35b_ok : RunOk Try.prog 35 (boxRun B35b) := mkF_ok (op := op_35b) cs_30_ok hmix false (ls_35b_ok) (fun env x h => by rw [op_35b_eq] at h; rw [← boxC_lk]; exact h)
theorem op_35b_good {p : Nat × List Dat → Prop} {T : Tree (Nat × List Dat)} {env : List Dat} (h : Imp T (ev_35b env)) (g : Good p T.sel) : Good p (op_35b env) := by
  rw [op_35b_eq]
  exact h.good g

noncomputable def fn_35b_t : List Dat → Tree (Nat × List Dat)
  | [.n n0, .n n1, .l (Ty.int IntKind.u8) l2] =>
    (let r1 : Option (Nat × List Dat) := (op_L35b_1 [.k 0, .n n0, .n n1, .n n1, .n (0 : Int), .l (Ty.int IntKind.u8) l2]);
     (.node (isK 0 [HK.l (Ty.int IntKind.u8)] r1)
      (.leaf ((0, [.l (Ty.int IntKind.u8) (gl (Ty.int IntKind.u8) (dOf r1) 0)])))
      (.bad 351)))
  | _ => .bad 0
theorem fn_35b_t_im (n0 : Int) (n1 : Int) (l2 : List (Ty.den (Ty.int IntKind.u8))) : Imp (fn_35b_t [.n n0, .n n1, .l (Ty.int IntKind.u8) l2]) (ev_35b [.n n0, .n n1, .l TB l2]) :=
(.node (by kernel_rfl) (by kernel_rfl) (fun h0 =>
(.path [1] (by kernel_rfl)
(.leaf (by kernel_rfl)))) (fun h0 =>
.none))

noncomputable def cs_35b : FuncId → Option CSpec := csAdd 35 [B35a, B35b] cs_30
theorem cs_35b_ok : CsOk Try.prog cs_35b := csAdd_ok cs_30_ok fun B hB => by
  simp only [List.mem_cons, List.not_mem_nil, or_false] at hB
  rcases hB with rfl | rfl
  · exact B35a_ok
  · exact B35b_ok

noncomputable def ev_33 (env : List Dat) : Tree (Nat × List Dat) := Lk.boxCV [(some 0, 0, .imm TB)] false LK cs_35b 33 ls0 (mkF [.ptr 0 0, .int .i64 0] [rdB 1] [0] [(.imm TB 0, [rdB 1]), (.nilsl, [rdB 0])] fun _ => none) env
theorem op_33_ex : ∃ f : List Dat → Option (Nat × List Dat), ∀ env, f env = (ev_33 env).sel := ⟨fun env => (ev_33 env).sel, fun _ => rfl⟩
noncomputable def op_33 : List Dat → Option (Nat × List Dat) := Classical.choose op_33_ex
theorem op_33_eq (env : List Dat) : op_33 env = (ev_33 env).sel := Classical.choose_spec op_33_ex env
noncomputable def B33 : FBox := mkF [.ptr 0 0, .int .i64 0] [rdB 1] [0] [(.imm TB 0, [rdB 1]), (.nilsl, [rdB 0])] op_33
theorem B33_ok : RunOk Try.prog 33 (boxRun B33) := mkFV_ok (cv := [(some 0, 0, .imm TB)]) (op := op_33) cs_35b_ok hmix false (LsOk.none _ _ _) (fun env x h => by rw [op_33_eq] at h; rw [← boxCV_lk]; exact h)
theorem op_33_good {p : Nat × List Dat → Prop} {T : Tree (Nat × List Dat)} {env : List Dat} (h : Imp T (ev_33 env)) (g : Good p T.sel) : Good p (op_33 env) := by
  rw [op_33_eq]
  exact h.good g

noncomputable def fn_33_t : List Dat → Tree (Nat × List Dat)
  | [.n n0, .l (Ty.int IntKind.u8) l1, .b b2] =>
    (.node (b2)
     (.leaf ((1, [.l (Ty.int IntKind.u8) [], .b true])))
     (.node (decide (n0 < (0 : Int)))
      (.leaf ((1, [.l (Ty.int IntKind.u8) [], .b true])))
      (.node (decide (n0 > (↑(List.length l1) : Int)))
       (.leaf ((1, [.l (Ty.int IntKind.u8) [], .b true])))
       (.node (true && decide ((0 : Int) ≤ n0))
        (.leaf ((0, [.l (Ty.int IntKind.u8) (List.take (Int.toNat n0) l1), .l (Ty.int IntKind.u8) (List.drop (Int.toNat n0) l1), .b b2])))
        (.bad 39)))))
  | _ => .bad 0
theorem fn_33_t_im (n0 : Int) (l1 : List (Ty.den (Ty.int IntKind.u8))) (b2 : Bool) : Imp (fn_33_t [.n n0, .l (Ty.int IntKind.u8) l1, .b b2]) (ev_33 [.n n0, .l TB l1, .b b2]) :=
(.path [0] (by kernel_rfl)
(.node (by kernel_rfl) (by kernel_rfl) (fun h0 =>
(.path [1,1,1,1,1] (by kernel_rfl)
(.leaf (by kernel_rfl)))) (fun h0 =>
(.node (by kernel_rfl) (by kernel_rfl) (fun h1 =>
(.path [1,1,1] (by kernel_rfl)
(.leaf (by kernel_rfl)))) (fun h1 =>
(.node (by kernel_rfl) (by kernel_rfl) (fun h2 =>
(.path [1] (by kernel_rfl)
(.leaf (by kernel_rfl)))) (fun h2 =>
(.pt (c := (decide (n0 = n0))) (by kernel_rfl) (by kernel_rfl) (by (simp [*]; done))
(.pt (c := (decide ((0 : Int) ≤ n0) && decide (n0 ≤ (↑(List.length l1) : Int)))) (by kernel_rfl) (by kernel_rfl) (by (simp only [w64d, decide_eq_true_eq, decide_eq_false_iff_not, beq_iff_eq, beq_eq_false_iff_ne, bne_iff_ne, ne_eq, inR, Bool.and_eq_true, Bool.and_eq_false_iff, Bool.not_eq_true', Bool.not_eq_false', Bool.not_eq_eq_eq_not, Bool.not_true, Bool.not_false] at *; omega))
(.node (by kernel_rfl) (by kernel_rfl) (fun h3 =>
(.pt (c := (true && decide ((↑(List.length l1) : Int) ≤ (↑(List.length l1) : Int)))) (by kernel_rfl) (by kernel_rfl) (by (simp [*]; done))
(.pt (c := (decide ((0 : Int) ≤ n0) && decide (n0 ≤ (↑(List.length l1) : Int)))) (by kernel_rfl) (by kernel_rfl) (by (simp only [w64d, decide_eq_true_eq, decide_eq_false_iff_not, beq_iff_eq, beq_eq_false_iff_ne, bne_iff_ne, ne_eq, inR, Bool.and_eq_true, Bool.and_eq_false_iff, Bool.not_eq_true', Bool.not_eq_false', Bool.not_eq_eq_eq_not, Bool.not_true, Bool.not_false] at *; omega))
(.path [1] (by kernel_rfl)
(.leaf (by kernel_rfl)))))) (fun h3 =>
.none)))))))))))

noncomputable def cs_33 : FuncId → Option CSpec := csAdd 33 [B33] cs_35b
theorem cs_33_ok : CsOk Try.prog cs_33 := csAdd_ok cs_35b_ok fun B hB => by
  cases List.mem_singleton.1 hB
  exact B33_ok

noncomputable def st_L34_3 (env : List Dat) : Tree Step := Lk.stepMC false LK cs_33 34 3 ls0 (mkM 1 [] [(sh 40 [(0, .ptr 0 0), (1, .int .i64 0), (5, .int .u64 1), (10, .imm TB 2), (11, .int .i64 3), (12, .int .i64 4)], [rdB 5]), (sh 40 [(0, .ptr 0 0), (1, .int .i64 0), (5, .int .u64 1), (10, .nilsl), (11, .int .i64 2), (12, .int .i64 3)], [rdB 4])] [] [(.exit 0, sh 40 [(0, .ptr 0 0), (1, .int .i64 0), (5, .int .u64 1)], [rdB 2])] fun _ => none) env
theorem op_L34_3_ex : ∃ f : List Dat → Option (Nat × List Dat), ∀ env, f env = iterS st_L34_3 FU env := ⟨iterS st_L34_3 FU, fun _ => rfl⟩
noncomputable def op_L34_3 : List Dat → Option (Nat × List Dat) := Classical.choose op_L34_3_ex
theorem op_L34_3_eq (env : List Dat) : op_L34_3 env = iterS st_L34_3 FU env := Classical.choose_spec op_L34_3_ex env
noncomputable def L34_3 : MBox := mkM 1 [] [(sh 40 [(0, .ptr 0 0), (1, .int .i64 0), (5, .int .u64 1), (10, .imm TB 2), (11, .int .i64 3), (12, .int .i64 4)], [rdB 5]), (sh 40 [(0, .ptr 0 0), (1, .int .i64 0), (5, .int .u64 1), (10, .nilsl), (11, .int .i64 2), (12, .int .i64 3)], [rdB 4])] [] [(.exit 0, sh 40 [(0, .ptr 0 0), (1, .int .i64 0), (5, .int .u64 1)], [rdB 2])] op_L34_3
theorem L34_3_eqs : L34_3 = mkM 1 [] [(sh 40 [(0, .ptr 0 0), (1, .int .i64 0), (5, .int .u64 1), (10, .imm TB 2), (11, .int .i64 3), (12, .int .i64 4)], [rdB 5]), (sh 40 [(0, .ptr 0 0), (1, .int .i64 0), (5, .int .u64 1), (10, .nilsl), (11, .int .i64 2), (12, .int .i64 3)], [rdB 4])] [] [(.exit 0, sh 40 [(0, .ptr 0 0), (1, .int .i64 0), (5, .int .u64 1)], [rdB 2])] (iterS st_L34_3 FU) := congrArg (fun f => mkM 1 [] [(sh 40 [(0, .ptr 0 0), (1, .int .i64 0), (5, .int .u64 1), (10, .imm TB 2), (11, .int .i64 3), (12, .int .i64 4)], [rdB 5]), (sh 40 [(0, .ptr 0 0), (1, .int .i64 0), (5, .int .u64 1), (10, .nilsl), (11, .int .i64 2), (12, .int .i64 3)], [rdB 4])] [] [(.exit 0, sh 40 [(0, .ptr 0 0), (1, .int .i64 0), (5, .int .u64 1)], [rdB 2])] f) (funext op_L34_3_eq)
theorem L34_3_run : ∀ t s x, (manyRun L34_3 t s).sel = some x → CodeOk Try.prog 1 (.loop (cAt Try.prog 34 3)) t s x := by
  rw [L34_3_eqs]
  exact mkM_ok (st := st_L34_3) (m := FU) cs_33_ok hmix false (LsOk.none _ _ _) (by kernel_rfl) (fun env y h => by rw [← stepMC_lk]; exact h)
theorem op_L34_3_good {p : Nat × List Dat → Prop} (Inv : List Dat → Prop) (μ : List Dat → Nat) (h : ∀ env, Inv env → Good (fun y => match y with | .go e => Inv e ∧ μ e < μ env | .stop k d => p (k, d)) (st_L34_3 env).sel) (env : List Dat) (hi : Inv env) (hm : μ env < FU) : Good p (op_L34_3 env) := by
  rw [op_L34_3_eq]
  exact iterS_good Inv μ p h FU env hi hm

noncomputable def fn_L34_3_i : List Dat → Tree Step
  | [.n n0, .n n1, .l (Ty.int IntKind.u8) l2, .n n3, .n n4, .l (Ty.int IntKind.u8) l5, .b b6] =>
    (.node (decide (n4 < n3))
     (.node (inR n4 (List.length l2))
      (.leaf (Step.go [.k 0, .n n0, .n (ior IntKind.u64 (ishl IntKind.u64 n1 (8 : Int)) (IntKind.wrap .u64 (List.getD l2 (Int.toNat n4) (0 : Int)))), .l (Ty.int IntKind.u8) l2, .n n3, .n (IntKind.wrap .i64 (n4 + (1 : Int))), .l (Ty.int IntKind.u8) l5, .b b6]))
      (.bad 10))
     (.leaf (Step.stop 0 [.n n0, .n n1, .l (Ty.int IntKind.u8) l5, .b b6])))
  | _ => .bad 0
theorem fn_L34_3_i_im (n0 : Int) (n1 : Int) (l2 : List (Ty.den (Ty.int IntKind.u8))) (n3 : Int) (n4 : Int) (l5 : List (Ty.den (Ty.int IntKind.u8))) (b6 : Bool) : Imp (fn_L34_3_i [.n n0, .n n1, .l (Ty.int IntKind.u8) l2, .n n3, .n n4, .l (Ty.int IntKind.u8) l5, .b b6]) (st_L34_3 [.k 0, .n n0, .n n1, .l TB l2, .n n3, .n n4, .l TB l5, .b b6]) :=
(.path [1] (by kernel_rfl)
(.node (by kernel_rfl) (by kernel_rfl) (fun h0 =>
(.node (by kernel_rfl) (by kernel_rfl) (fun h1 =>
(.path [1,1] (by kernel_rfl)
(.leaf (by kernel_rfl)))) (fun h1 =>
.none))) (fun h0 =>
(.path [1] (by kernel_rfl)
(.leaf (by kernel_rfl))))))

noncomputable def fn_L34_3_n : List Dat → Tree Step
  | [.n n0, .n n1, .n n2, .n n3, .l (Ty.int IntKind.u8) l4, .b b5] =>
    (.leaf (Step.stop 0 [.n n0, .n n1, .l (Ty.int IntKind.u8) l4, .b b5]))
  | _ => .bad 0
theorem fn_L34_3_n_im (n0 : Int) (n1 : Int) (n2 : Int) (n3 : Int) (l4 : List (Ty.den (Ty.int IntKind.u8))) (b5 : Bool) (g0 : n2 = 0) (g1 :  n3 = 0) : Imp (fn_L34_3_n [.n n0, .n n1, .n n2, .n n3, .l (Ty.int IntKind.u8) l4, .b b5]) (st_L34_3 [.k 1, .n n0, .n n1, .n n2, .n n3, .l TB l4, .b b5]) :=
(.path [1] (by kernel_rfl)
(.pf (c := (decide (n3 < n2))) (by kernel_rfl) (by kernel_rfl) (by (simp [*]; done))
(.path [1] (by kernel_rfl)
(.leaf (by kernel_rfl)))))

theorem ls_34_ok : LsOk Try.prog (List.length ([rdB 1] : List PB)) (lsM [(3, L34_3)] (List.length ([rdB 1] : List PB))) (bodyOf Try.prog 34) := LsOk.many fun j B hB hk c hc hi => by
  simp only [lookM] at hB
  split at hB
  · rename_i e; have := Nat.eq_of_beq_eq_true e; subst this; cases hB
    have e1 : loopAt Try.prog 34 3 = [cAt Try.prog 34 3] := loopAt_one (by kernel_rfl)
    have e2 : c ∈ loopAt Try.prog 34 3 := loopsAt_mem hc hi
    rw [e1] at e2; cases List.mem_singleton.1 e2; exact L34_3_run
  cases hB

noncomputable def ev_34 (env : List Dat) : Tree (Nat × List Dat) := Lk.boxC false LK cs_33 34 (lsM [(3, L34_3)] (List.length ([rdB 1] : List PB))) (mkF [.ptr 0 0, .int .i64 0] [rdB 1] [0] [(.iface 5 (.int .u8 0), [rdB 1]), (.iface 54 (.int .u16 0), [rdB 1]), (.iface 56 (.int .u32 0), [rdB 1]), (.iface 28 (.int .u64 0), [rdB 1])] fun _ => none) env
theorem op_34_ex : ∃ f : List Dat → Option (Nat × List Dat), ∀ env, f env = (ev_34 env).sel := ⟨fun env => (ev_34 env).sel, fun _ => rfl⟩
noncomputable def op_34 : List Dat → Option (Nat × List Dat) := Classical.choose op_34_ex
theorem op_34_eq (env : List Dat) : op_34 env = (ev_34 env).sel := Classical.choose_spec op_34_ex env
noncomputable def B34 : FBox := mkF [.ptr 0 0, .int .i64 0] [rdB 1] [0] [(.iface 5 (.int .u8 0), [rdB 1]), (.iface 54 (.int .u16 0), [rdB 1]), (.iface 56 (.int .u32 0), [rdB 1]), (.iface 28 (.int .u64 0), [rdB 1])] op_34
theorem B34_ok : RunOk Try.prog 34 (boxRun B34) := mkF_ok (op := op_34) cs_33_ok hmix false (ls_34_ok) (fun env x h => by rw [op_34_eq] at h; rw [← boxC_lk]; exact h)
theorem op_34_good {p : Nat × List Dat → Prop} {T : Tree (Nat × List Dat)} {env : List Dat} (h : Imp T (ev_34 env)) (g : Good p T.sel) : Good p (op_34 env) := by
  rw [op_34_eq]
  exact h.good g

noncomputable def fn_34_t : List Dat → Tree (Nat × List Dat)
  | [.n n0, .l (Ty.int IntKind.u8) l1, .b b2] =>
    (let r1 : Option (Nat × List Dat) := (op_33 [.n n0, .l (Ty.int IntKind.u8) l1, .b b2]);
     (.node (isK 0 [HK.l (Ty.int IntKind.u8), HK.l (Ty.int IntKind.u8), HK.b] r1)
      (let r2 : Option (Nat × List Dat) := (op_L34_3 [.k 0, .n n0, .n (0 : Int), .l (Ty.int IntKind.u8) (gl (Ty.int IntKind.u8) (dOf r1) 0), .n (↑(List.length (gl (Ty.int IntKind.u8) (dOf r1) 0)) : Int), .n (0 : Int), .l (Ty.int IntKind.u8) (gl (Ty.int IntKind.u8) (dOf r1) 1), .b (gb (dOf r1) 2)]);
       (.node (isK 0 [HK.n, HK.n, HK.l (Ty.int IntKind.u8), HK.b] r2)
        (.node (gn (dOf r2) 0 == (1 : Int))
         (.leaf ((0, [.n (IntKind.wrap .u8 (gn (dOf r2) 1)), .l (Ty.int IntKind.u8) (gl (Ty.int IntKind.u8) (dOf r2) 2), .b (gb (dOf r2) 3)])))
         (.node (gn (dOf r2) 0 == (2 : Int))
          (.leaf ((1, [.n (IntKind.wrap .u16 (gn (dOf r2) 1)), .l (Ty.int IntKind.u8) (gl (Ty.int IntKind.u8) (dOf r2) 2), .b (gb (dOf r2) 3)])))
          (.node (gn (dOf r2) 0 == (4 : Int))
           (.leaf ((2, [.n (IntKind.wrap .u32 (gn (dOf r2) 1)), .l (Ty.int IntKind.u8) (gl (Ty.int IntKind.u8) (dOf r2) 2), .b (gb (dOf r2) 3)])))
           (.leaf ((3, [.n (gn (dOf r2) 1), .l (Ty.int IntKind.u8) (gl (Ty.int IntKind.u8) (dOf r2) 2), .b (gb (dOf r2) 3)]))))))
        (.bad 351)))
      (.node (isK 1 [HK.l (Ty.int IntKind.u8), HK.b] r1)
       (let r2 : Option (Nat × List Dat) := (op_L34_3 [.k 1, .n n0, .n (0 : Int), .n (0 : Int), .n (0 : Int), .l (Ty.int IntKind.u8) (gl (Ty.int IntKind.u8) (dOf r1) 0), .b (gb (dOf r1) 1)]);
        (.node (isK 0 [HK.n, HK.n, HK.l (Ty.int IntKind.u8), HK.b] r2)
         (.node (gn (dOf r2) 0 == (1 : Int))
          (.leaf ((0, [.n (IntKind.wrap .u8 (gn (dOf r2) 1)), .l (Ty.int IntKind.u8) (gl (Ty.int IntKind.u8) (dOf r2) 2), .b (gb (dOf r2) 3)])))
          (.node (gn (dOf r2) 0 == (2 : Int))
           (.leaf ((1, [.n (IntKind.wrap .u16 (gn (dOf r2) 1)), .l (Ty.int IntKind.u8) (gl (Ty.int IntKind.u8) (dOf r2) 2), .b (gb (dOf r2) 3)])))
           (.node (gn (dOf r2) 0 == (4 : Int))
            (.leaf ((2, [.n (IntKind.wrap .u32 (gn (dOf r2) 1)), .l (Ty.int IntKind.u8) (gl (Ty.int IntKind.u8) (dOf r2) 2), .b (gb (dOf r2) 3)])))
            (.leaf ((3, [.n (gn (dOf r2) 1), .l (Ty.int IntKind.u8) (gl (Ty.int IntKind.u8) (dOf r2) 2), .b (gb (dOf r2) 3)]))))))
         (.bad 351)))
       (.bad 351))))
  | _ => .bad 0
theorem fn_34_t_im (n0 : Int) (l1 : List (Ty.den (Ty.int IntKind.u8))) (b2 : Bool) : Imp (fn_34_t [.n n0, .l (Ty.int IntKind.u8) l1, .b b2]) (ev_34 [.n n0, .l TB l1, .b b2]) :=
(.path [1] (by kernel_rfl)
(.node (by kernel_rfl) (by kernel_rfl) (fun h0 =>
(.path [1] (by kernel_rfl)
(.node (by kernel_rfl) (by kernel_rfl) (fun h1 =>
(.node (by kernel_rfl) (by kernel_rfl) (fun h2 =>
(.path [1] (by kernel_rfl)
(.leaf (by kernel_rfl)))) (fun h2 =>
(.node (by kernel_rfl) (by kernel_rfl) (fun h3 =>
(.path [1] (by kernel_rfl)
(.leaf (by kernel_rfl)))) (fun h3 =>
(.node (by kernel_rfl) (by kernel_rfl) (fun h4 =>
(.path [1] (by kernel_rfl)
(.leaf (by kernel_rfl)))) (fun h4 =>
(.path [1] (by kernel_rfl)
(.leaf (by kernel_rfl)))))))))) (fun h1 =>
.none)))) (fun h0 =>
(.node (by kernel_rfl) (by kernel_rfl) (fun h1 =>
(.path [1] (by kernel_rfl)
(.node (by kernel_rfl) (by kernel_rfl) (fun h2 =>
(.node (by kernel_rfl) (by kernel_rfl) (fun h3 =>
(.path [1] (by kernel_rfl)
(.leaf (by kernel_rfl)))) (fun h3 =>
(.node (by kernel_rfl) (by kernel_rfl) (fun h4 =>
(.path [1] (by kernel_rfl)
(.leaf (by kernel_rfl)))) (fun h4 =>
(.node (by kernel_rfl) (by kernel_rfl) (fun h5 =>
(.path [1] (by kernel_rfl)
(.leaf (by kernel_rfl)))) (fun h5 =>
(.path [1] (by kernel_rfl)
(.leaf (by kernel_rfl)))))))))) (fun h2 =>
.none)))) (fun h1 =>
.none)))))

noncomputable def cs_34 : FuncId → Option CSpec := csAdd 34 [B34] cs_33
theorem cs_34_ok : CsOk Try.prog cs_34 := csAdd_ok cs_33_ok fun B hB => by
  cases List.mem_singleton.1 hB
  exact B34_ok

noncomputable def ev_15 (env : List Dat) : Tree (Nat × List Dat) := Lk.boxCV [(some 0, 0, .imm TB)] false LK cs_34 15 ls0 (mkF [.ptr 0 0, .int .i64 0] [rdB 1] [0] [(.tup [.imm TB 0, .bool 1], [rdB 2]), (.tup [.nilsl, .bool 0], [rdB 1])] fun _ => none) env
theorem op_15_ex : ∃ f : List Dat → Option (Nat × List Dat), ∀ env, f env = (ev_15 env).sel := ⟨fun env => (ev_15 env).sel, fun _ => rfl⟩
noncomputable def op_15 : List Dat → Option (Nat × List Dat) := Classical.choose op_15_ex
theorem op_15_eq (env : List Dat) : op_15 env = (ev_15 env).sel := Classical.choose_spec op_15_ex env
noncomputable def B15 : FBox := mkF [.ptr 0 0, .int .i64 0] [rdB 1] [0] [(.tup [.imm TB 0, .bool 1], [rdB 2]), (.tup [.nilsl, .bool 0], [rdB 1])] op_15
theorem B15_ok : RunOk Try.prog 15 (boxRun B15) := mkFV_ok (cv := [(some 0, 0, .imm TB)]) (op := op_15) cs_34_ok hmix false (LsOk.none _ _ _) (fun env x h => by rw [op_15_eq] at h; rw [← boxCV_lk]; exact h)
theorem op_15_good {p : Nat × List Dat → Prop} {T : Tree (Nat × List Dat)} {env : List Dat} (h : Imp T (ev_15 env)) (g : Good p T.sel) : Good p (op_15 env) := by
  rw [op_15_eq]
  exact h.good g

noncomputable def fn_15_t : List Dat → Tree (Nat × List Dat)
  | [.n n0, .l (Ty.int IntKind.u8) l1, .b b2] =>
    (.node (b2)
     (.leaf ((1, [.b false, .l (Ty.int IntKind.u8) [], .b true])))
     (.node (decide (n0 < (0 : Int)))
      (.leaf ((1, [.b false, .l (Ty.int IntKind.u8) [], .b true])))
      (.node (decide (n0 > (↑(List.length l1) : Int)))
       (.leaf ((1, [.b false, .l (Ty.int IntKind.u8) [], .b true])))
       (.node (true && decide ((0 : Int) ≤ n0))
        (.leaf ((0, [.l (Ty.int IntKind.u8) (List.take (Int.toNat n0) l1), .b true, .l (Ty.int IntKind.u8) (List.drop (Int.toNat n0) l1), .b b2])))
        (.bad 43)))))
  | _ => .bad 0
theorem fn_15_t_im (n0 : Int) (l1 : List (Ty.den (Ty.int IntKind.u8))) (b2 : Bool) : Imp (fn_15_t [.n n0, .l (Ty.int IntKind.u8) l1, .b b2]) (ev_15 [.n n0, .l TB l1, .b b2]) :=
(.node (by kernel_rfl) (by kernel_rfl) (fun h0 =>
(.path [1,1,1,1,1] (by kernel_rfl)
(.leaf (by kernel_rfl)))) (fun h0 =>
(.node (by kernel_rfl) (by kernel_rfl) (fun h1 =>
(.path [1,1,1] (by kernel_rfl)
(.leaf (by kernel_rfl)))) (fun h1 =>
(.node (by kernel_rfl) (by kernel_rfl) (fun h2 =>
(.path [1] (by kernel_rfl)
(.leaf (by kernel_rfl)))) (fun h2 =>
(.pt (c := (decide ((0 : Int) ≤ n0) && decide (n0 ≤ (↑(List.length l1) : Int)))) (by kernel_rfl) (by kernel_rfl) (by (simp only [w64d, decide_eq_true_eq, decide_eq_false_iff_not, beq_iff_eq, beq_eq_false_iff_ne, bne_iff_ne, ne_eq, inR, Bool.and_eq_true, Bool.and_eq_false_iff, Bool.not_eq_true', Bool.not_eq_false', Bool.not_eq_eq_eq_not, Bool.not_true, Bool.not_false] at *; omega))
(.node (by kernel_rfl) (by kernel_rfl) (fun h3 =>
(.pt (c := (true && decide ((↑(List.length l1) : Int) ≤ (↑(List.length l1) : Int)))) (by kernel_rfl) (by kernel_rfl) (by (simp [*]; done))
(.pt (c := (decide ((0 : Int) ≤ n0) && decide (n0 ≤ (↑(List.length l1) : Int)))) (by kernel_rfl) (by kernel_rfl) (by (simp only [w64d, decide_eq_true_eq, decide_eq_false_iff_not, beq_iff_eq, beq_eq_false_iff_ne, bne_iff_ne, ne_eq, inR, Bool.and_eq_true, Bool.and_eq_false_iff, Bool.not_eq_true', Bool.not_eq_false', Bool.not_eq_eq_eq_not, Bool.not_true, Bool.not_false] at *; omega))
(.path [1] (by kernel_rfl)
(.leaf (by kernel_rfl)))))) (fun h3 =>
.none)))))))))

noncomputable def cs_15 : FuncId → Option CSpec := csAdd 15 [B15] cs_34
theorem cs_15_ok : CsOk Try.prog cs_15 := csAdd_ok cs_34_ok fun B hB => by
  cases List.mem_singleton.1 hB
  exact B15_ok

noncomputable def ev_13 (env : List Dat) : Tree (Nat × List Dat) := Lk.boxCV [(none, 0, .imm TB)] false LK cs_15 13 ls0 (mkF [.own 0] [.arr TB 0] [] [(.ptr 1 0, [.gone, rdB 0])] fun _ => none) env
theorem op_13_ex : ∃ f : List Dat → Option (Nat × List Dat), ∀ env, f env = (ev_13 env).sel := ⟨fun env => (ev_13 env).sel, fun _ => rfl⟩
noncomputable def op_13 : List Dat → Option (Nat × List Dat) := Classical.choose op_13_ex
theorem op_13_eq (env : List Dat) : op_13 env = (ev_13 env).sel := Classical.choose_spec op_13_ex env
noncomputable def B13 : FBox := mkF [.own 0] [.arr TB 0] [] [(.ptr 1 0, [.gone, rdB 0])] op_13
theorem B13_ok : RunOk Try.prog 13 (boxRun B13) := mkFV_ok (cv := [(none, 0, .imm TB)]) (op := op_13) cs_15_ok hmix false (LsOk.none _ _ _) (fun env x h => by rw [op_13_eq] at h; rw [← boxCV_lk]; exact h)
theorem op_13_good {p : Nat × List Dat → Prop} {T : Tree (Nat × List Dat)} {env : List Dat} (h : Imp T (ev_13 env)) (g : Good p T.sel) : Good p (op_13 env) := by
  rw [op_13_eq]
  exact h.good g

noncomputable def fn_13_t : List Dat → Tree (Nat × List Dat)
  | [.l (Ty.int IntKind.u8) l0] =>
    (let r1 : Option (Nat × List Dat) := (op_31 [.l (Ty.int IntKind.u8) l0]);
     (.node (isK 0 [HK.l (Ty.int IntKind.u8)] r1)
      (.leaf ((0, [.l (Ty.int IntKind.u8) (gl (Ty.int IntKind.u8) (dOf r1) 0), .b false])))
      (.bad 351)))
  | _ => .bad 0
theorem fn_13_t_im (l0 : List (Ty.den (Ty.int IntKind.u8))) : Imp (fn_13_t [.l (Ty.int IntKind.u8) l0]) (ev_13 [.l TB l0]) :=
(.node (by kernel_rfl) (by kernel_rfl) (fun h0 =>
(.path [1,1] (by kernel_rfl)
(.leaf (by kernel_rfl)))) (fun h0 =>
.none))

noncomputable def cs_13 : FuncId → Option CSpec := csAdd 13 [B13] cs_15
theorem cs_13_ok : CsOk Try.prog cs_13 := csAdd_ok cs_15_ok fun B hB => by
  cases List.mem_singleton.1 hB
  exact B13_ok

noncomputable def st_L16_13 (env : List Dat) : Tree Step := Lk.stepMC false LK cs_13 16 13 ls0 (mkM 1 [] [(sh 53 [(0, .ptr 0 0), (6, .own 1), (7, .str 0), (8, .int .i64 1)], [rdB 2, .arr TB 4])] [] [(.exit 1, sh 53 [(0, .ptr 0 0), (7, .str 0)], [rdB 1])] fun _ => none) env
theorem op_L16_13_ex : ∃ f : List Dat → Option (Nat × List Dat), ∀ env, f env = iterS st_L16_13 FU env := ⟨iterS st_L16_13 FU, fun _ => rfl⟩
noncomputable def op_L16_13 : List Dat → Option (Nat × List Dat) := Classical.choose op_L16_13_ex
theorem op_L16_13_eq (env : List Dat) : op_L16_13 env = iterS st_L16_13 FU env := Classical.choose_spec op_L16_13_ex env
noncomputable def L16_13 : MBox := mkM 1 [] [(sh 53 [(0, .ptr 0 0), (6, .own 1), (7, .str 0), (8, .int .i64 1)], [rdB 2, .arr TB 4])] [] [(.exit 1, sh 53 [(0, .ptr 0 0), (7, .str 0)], [rdB 1])] op_L16_13
theorem L16_13_eqs : L16_13 = mkM 1 [] [(sh 53 [(0, .ptr 0 0), (6, .own 1), (7, .str 0), (8, .int .i64 1)], [rdB 2, .arr TB 4])] [] [(.exit 1, sh 53 [(0, .ptr 0 0), (7, .str 0)], [rdB 1])] (iterS st_L16_13 FU) := congrArg (fun f => mkM 1 [] [(sh 53 [(0, .ptr 0 0), (6, .own 1), (7, .str 0), (8, .int .i64 1)], [rdB 2, .arr TB 4])] [] [(.exit 1, sh 53 [(0, .ptr 0 0), (7, .str 0)], [rdB 1])] f) (funext op_L16_13_eq)
theorem L16_13_run : ∀ t s x, (manyRun L16_13 t s).sel = some x → CodeOk Try.prog 1 (.loop (cAt Try.prog 16 13)) t s x := by
  rw [L16_13_eqs]
  exact mkM_ok (st := st_L16_13) (m := FU) cs_13_ok hmix false (LsOk.none _ _ _) (by kernel_rfl) (fun env y h => by rw [← stepMC_lk]; exact h)
theorem op_L16_13_good {p : Nat × List Dat → Prop} (Inv : List Dat → Prop) (μ : List Dat → Nat) (h : ∀ env, Inv env → Good (fun y => match y with | .go e => Inv e ∧ μ e < μ env | .stop k d => p (k, d)) (st_L16_13 env).sel) (env : List Dat) (hi : Inv env) (hm : μ env < FU) : Good p (op_L16_13 env) := by
  rw [op_L16_13_eq]
  exact iterS_good Inv μ p h FU env hi hm

noncomputable def fn_L16_13_t : List Dat → Tree Step
  | [.s s0, .n n1, .l (Ty.int IntKind.u8) l2, .b b3, .l (Ty.int IntKind.u8) l4] =>
    (.node (decide (n1 < (↑(List.length l4) : Int)))
     (.node (inR n1 (List.length l4))
      (.leaf (Step.go [.k 0, .s s0, .n (IntKind.wrap .i64 (n1 + (1 : Int))), .l (Ty.int IntKind.u8) l2, .b b3, .l (Ty.int IntKind.u8) (List.set l4 (Int.toNat n1) (IntKind.wrap .u8 ((List.getD l4 (Int.toNat n1) (0 : Int) : Int) + (1 : Int))))]))
      (.bad 12))
     (.leaf (Step.stop 0 [.s s0, .l (Ty.int IntKind.u8) l2, .b b3])))
  | _ => .bad 0
theorem fn_L16_13_t_im (s0 : ByteArray) (n1 : Int) (l2 : List (Ty.den (Ty.int IntKind.u8))) (b3 : Bool) (l4 : List (Ty.den (Ty.int IntKind.u8))) : Imp (fn_L16_13_t [.s s0, .n n1, .l (Ty.int IntKind.u8) l2, .b b3, .l (Ty.int IntKind.u8) l4]) (st_L16_13 [.k 0, .s s0, .n n1, .l TB l2, .b b3, .l TB l4]) :=
(.path [1] (by kernel_rfl)
(.node (by kernel_rfl) (by kernel_rfl) (fun h0 =>
(.node (by kernel_rfl) (by kernel_rfl) (fun h1 =>
(.pt (by kernel_rfl) (by kernel_rfl) h1
(.path [1] (by kernel_rfl)
(.leaf (by kernel_rfl))))) (fun h1 =>
.none))) (fun h0 =>
(.path [1] (by kernel_rfl)
(.leaf (by kernel_rfl))))))

theorem ls_16_ok : LsOk Try.prog (List.length ([rdB 3] : List PB)) (lsM [(13, L16_13)] (List.length ([rdB 3] : List PB))) (bodyOf Try.prog 16) := LsOk.many fun j B hB hk c hc hi => by
  simp only [lookM] at hB
  split at hB
  · rename_i e; have := Nat.eq_of_beq_eq_true e; subst this; cases hB
    have e1 : loopAt Try.prog 16 13 = [cAt Try.prog 16 13] := loopAt_one (by kernel_rfl)
    have e2 : c ∈ loopAt Try.prog 16 13 := loopsAt_mem hc hi
    rw [e1] at e2; cases List.mem_singleton.1 e2; exact L16_13_run
  cases hB

noncomputable def ev_16 (env : List Dat) : Tree (Nat × List Dat) := Lk.boxC false LK cs_13 16 (lsM [(13, L16_13)] (List.length ([rdB 3] : List PB))) (mkF [.ptr 0 0, itV 0] [rdB 3] [0] [(.tup [.int .u64 0, .str 1], [rdB 2])] fun _ => none) env
theorem op_16_ex : ∃ f : List Dat → Option (Nat × List Dat), ∀ env, f env = (ev_16 env).sel := ⟨fun env => (ev_16 env).sel, fun _ => rfl⟩
noncomputable def op_16 : List Dat → Option (Nat × List Dat) := Classical.choose op_16_ex
theorem op_16_eq (env : List Dat) : op_16 env = (ev_16 env).sel := Classical.choose_spec op_16_ex env
noncomputable def B16 : FBox := mkF [.ptr 0 0, itV 0] [rdB 3] [0] [(.tup [.int .u64 0, .str 1], [rdB 2])] op_16
theorem B16_ok : RunOk Try.prog 16 (boxRun B16) := mkF_ok (op := op_16) cs_13_ok hmix false (ls_16_ok) (fun env x h => by rw [op_16_eq] at h; rw [← boxC_lk]; exact h)
theorem op_16_good {p : Nat × List Dat → Prop} {T : Tree (Nat × List Dat)} {env : List Dat} (h : Imp T (ev_16 env)) (g : Good p T.sel) : Good p (op_16 env) := by
  rw [op_16_eq]
  exact h.good g

noncomputable def fn_16_t : List Dat → Tree (Nat × List Dat)
  | [.n n0, .n n1, .l (Ty.int IntKind.u8) l2, .l (Ty.int IntKind.u8) l3, .b b4] =>
    (.node (Int.tmod n0 (5 : Int) == (0 : Int))
     (let r1 : Option (Nat × List Dat) := (op_34 [.n (1 : Int), .l (Ty.int IntKind.u8) l3, .b b4]);
      (.node (isK 0 [HK.n, HK.l (Ty.int IntKind.u8), HK.b] r1)
       (.leaf ((0, [.n (IntKind.wrap .u64 (gn (dOf r1) 0)), .s { data := { toList := [] } }, .l (Ty.int IntKind.u8) (gl (Ty.int IntKind.u8) (dOf r1) 1), .b (gb (dOf r1) 2)])))
       (.node (isK 1 [HK.n, HK.l (Ty.int IntKind.u8), HK.b] r1)
        (.bad 113)
        (.node (isK 2 [HK.n, HK.l (Ty.int IntKind.u8), HK.b] r1)
         (.bad 113)
         (.node (isK 3 [HK.n, HK.l (Ty.int IntKind.u8), HK.b] r1)
          (.bad 113)
          (.bad 351))))))
     (.node (Int.tmod n0 (5 : Int) == (1 : Int))
      (let r1 : Option (Nat × List Dat) := (op_34 [.n (2 : Int), .l (Ty.int IntKind.u8) l3, .b b4]);
       (.node (isK 0 [HK.n, HK.l (Ty.int IntKind.u8), HK.b] r1)
        (.bad 113)
        (.node (isK 1 [HK.n, HK.l (Ty.int IntKind.u8), HK.b] r1)
         (.leaf ((0, [.n (IntKind.wrap .u64 (gn (dOf r1) 0)), .s { data := { toList := [] } }, .l (Ty.int IntKind.u8) (gl (Ty.int IntKind.u8) (dOf r1) 1), .b (gb (dOf r1) 2)])))
         (.node (isK 2 [HK.n, HK.l (Ty.int IntKind.u8), HK.b] r1)
          (.bad 113)
          (.node (isK 3 [HK.n, HK.l (Ty.int IntKind.u8), HK.b] r1)
           (.bad 113)
           (.bad 351))))))
      (.node (Int.tmod n0 (5 : Int) == (2 : Int))
       (let r1 : Option (Nat × List Dat) := (op_34 [.n (4 : Int), .l (Ty.int IntKind.u8) l3, .b b4]);
        (.node (isK 0 [HK.n, HK.l (Ty.int IntKind.u8), HK.b] r1)
         (.bad 113)
         (.node (isK 1 [HK.n, HK.l (Ty.int IntKind.u8), HK.b] r1)
          (.bad 113)
          (.node (isK 2 [HK.n, HK.l (Ty.int IntKind.u8), HK.b] r1)
           (.leaf ((0, [.n (IntKind.wrap .u64 (gn (dOf r1) 0)), .s { data := { toList := [] } }, .l (Ty.int IntKind.u8) (gl (Ty.int IntKind.u8) (dOf r1) 1), .b (gb (dOf r1) 2)])))
           (.node (isK 3 [HK.n, HK.l (Ty.int IntKind.u8), HK.b] r1)
            (.bad 113)
            (.bad 351))))))
       (.node (Int.tmod n0 (5 : Int) == (3 : Int))
        (let r1 : Option (Nat × List Dat) := (op_34 [.n (8 : Int), .l (Ty.int IntKind.u8) l3, .b b4]);
         (.node (isK 0 [HK.n, HK.l (Ty.int IntKind.u8), HK.b] r1)
          (.bad 113)
          (.node (isK 1 [HK.n, HK.l (Ty.int IntKind.u8), HK.b] r1)
           (.bad 113)
           (.node (isK 2 [HK.n, HK.l (Ty.int IntKind.u8), HK.b] r1)
            (.bad 113)
            (.node (isK 3 [HK.n, HK.l (Ty.int IntKind.u8), HK.b] r1)
             (.leaf ((0, [.n (gn (dOf r1) 0), .s { data := { toList := [] } }, .l (Ty.int IntKind.u8) (gl (Ty.int IntKind.u8) (dOf r1) 1), .b (gb (dOf r1) 2)])))
             (.bad 351))))))
        (let r1 : Option (Nat × List Dat) := (op_33 [.n (IntKind.wrap .i64 n1), .l (Ty.int IntKind.u8) l3, .b b4]);
         (.node (isK 0 [HK.l (Ty.int IntKind.u8), HK.l (Ty.int IntKind.u8), HK.b] r1)
          (let r2 : Option (Nat × List Dat) := (op_31 [.l (Ty.int IntKind.u8) (gl (Ty.int IntKind.u8) (dOf r1) 0)]);
           (.node (isK 0 [HK.l (Ty.int IntKind.u8)] r2)
            (let r3 : Option (Nat × List Dat) := (op_L16_13 [.k 0, .s (strOf (gl (Ty.int IntKind.u8) (dOf r2) 0)), .n (0 : Int), .l (Ty.int IntKind.u8) (gl (Ty.int IntKind.u8) (dOf r1) 1), .b (gb (dOf r1) 2), .l (Ty.int IntKind.u8) (gl (Ty.int IntKind.u8) (dOf r2) 0)]);
             (.node (isK 0 [HK.s, HK.l (Ty.int IntKind.u8), HK.b] r3)
              (.leaf ((0, [.n (0 : Int), .s (gs (dOf r3) 0), .l (Ty.int IntKind.u8) (gl (Ty.int IntKind.u8) (dOf r3) 1), .b (gb (dOf r3) 2)])))
              (.bad 351)))
            (.bad 351)))
          (.node (isK 1 [HK.l (Ty.int IntKind.u8), HK.b] r1)
           (let r2 : Option (Nat × List Dat) := (op_L16_13 [.k 0, .s (strOf (gl (Ty.int IntKind.u8) (dOf (op_31 [.l (Ty.int IntKind.u8) []])) 0)), .n (0 : Int), .l (Ty.int IntKind.u8) (gl (Ty.int IntKind.u8) (dOf r1) 0), .b (gb (dOf r1) 1), .l (Ty.int IntKind.u8) (gl (Ty.int IntKind.u8) (dOf (op_31 [.l (Ty.int IntKind.u8) []])) 0)]);
            (.node (isK 0 [HK.s, HK.l (Ty.int IntKind.u8), HK.b] r2)
             (.leaf ((0, [.n (0 : Int), .s (gs (dOf r2) 0), .l (Ty.int IntKind.u8) (gl (Ty.int IntKind.u8) (dOf r2) 1), .b (gb (dOf r2) 2)])))
             (.bad 351)))
           (.bad 351))))))))
  | _ => .bad 0
theorem fn_16_t_im (n0 : Int) (n1 : Int) (l2 : List (Ty.den (Ty.int IntKind.u8))) (l3 : List (Ty.den (Ty.int IntKind.u8))) (b4 : Bool) : Imp (fn_16_t [.n n0, .n n1, .l (Ty.int IntKind.u8) l2, .l (Ty.int IntKind.u8) l3, .b b4]) (ev_16 [.n n0, .n n1, .l TB l2, .l TB l3, .b b4]) :=
(.path [1] (by kernel_rfl)
(.node (by kernel_rfl) (by kernel_rfl) (fun h0 =>
(.path [1,1] (by kernel_rfl)
(.node (by kernel_rfl) (by kernel_rfl) (fun h1 =>
(.path [1,1,1] (by kernel_rfl)
(.leaf (by kernel_rfl)))) (fun h1 =>
(.node (by kernel_rfl) (by kernel_rfl) (fun h2 =>
(.path [1] (by kernel_rfl)
.none)) (fun h2 =>
(.node (by kernel_rfl) (by kernel_rfl) (fun h3 =>
(.path [1] (by kernel_rfl)
.none)) (fun h3 =>
(.node (by kernel_rfl) (by kernel_rfl) (fun h4 =>
(.path [1] (by kernel_rfl)
.none)) (fun h4 =>
.none)))))))))) (fun h0 =>
(.node (by kernel_rfl) (by kernel_rfl) (fun h1 =>
(.path [1,1] (by kernel_rfl)
(.node (by kernel_rfl) (by kernel_rfl) (fun h2 =>
(.path [1] (by kernel_rfl)
.none)) (fun h2 =>
(.node (by kernel_rfl) (by kernel_rfl) (fun h3 =>
(.path [1,1,1] (by kernel_rfl)
(.leaf (by kernel_rfl)))) (fun h3 =>
(.node (by kernel_rfl) (by kernel_rfl) (fun h4 =>
(.path [1] (by kernel_rfl)
.none)) (fun h4 =>
(.node (by kernel_rfl) (by kernel_rfl) (fun h5 =>
(.path [1] (by kernel_rfl)
.none)) (fun h5 =>
.none)))))))))) (fun h1 =>
(.node (by kernel_rfl) (by kernel_rfl) (fun h2 =>
(.path [1,1] (by kernel_rfl)
(.node (by kernel_rfl) (by kernel_rfl) (fun h3 =>
(.path [1] (by kernel_rfl)
.none)) (fun h3 =>
(.node (by kernel_rfl) (by kernel_rfl) (fun h4 =>
(.path [1] (by kernel_rfl)
.none)) (fun h4 =>
(.node (by kernel_rfl) (by kernel_rfl) (fun h5 =>
(.path [1,1,1] (by kernel_rfl)
(.leaf (by kernel_rfl)))) (fun h5 =>
(.node (by kernel_rfl) (by kernel_rfl) (fun h6 =>
(.path [1] (by kernel_rfl)
.none)) (fun h6 =>
.none)))))))))) (fun h2 =>
(.node (by kernel_rfl) (by kernel_rfl) (fun h3 =>
(.path [1,1] (by kernel_rfl)
(.node (by kernel_rfl) (by kernel_rfl) (fun h4 =>
(.path [1] (by kernel_rfl)
.none)) (fun h4 =>
(.node (by kernel_rfl) (by kernel_rfl) (fun h5 =>
(.path [1] (by kernel_rfl)
.none)) (fun h5 =>
(.node (by kernel_rfl) (by kernel_rfl) (fun h6 =>
(.path [1] (by kernel_rfl)
.none)) (fun h6 =>
(.node (by kernel_rfl) (by kernel_rfl) (fun h7 =>
(.path [1,1,1] (by kernel_rfl)
(.leaf (by kernel_rfl)))) (fun h7 =>
.none)))))))))) (fun h3 =>
(.path [1,1] (by kernel_rfl)
(.node (by kernel_rfl) (by kernel_rfl) (fun h4 =>
(.path [1] (by kernel_rfl)
(.node (by kernel_rfl) (by kernel_rfl) (fun h5 =>
(.path [1,1] (by kernel_rfl)
(.node (by kernel_rfl) (by kernel_rfl) (fun h6 =>
(.path [1] (by kernel_rfl)
(.leaf (by kernel_rfl)))) (fun h6 =>
.none)))) (fun h5 =>
.none)))) (fun h4 =>
(.node (by kernel_rfl) (by kernel_rfl) (fun h5 =>
(.path [1,1,1,1] (by kernel_rfl)
(.node (by kernel_rfl) (by kernel_rfl) (fun h6 =>
(.path [1] (by kernel_rfl)
(.leaf (by kernel_rfl)))) (fun h6 =>
.none)))) (fun h5 =>
.none))))))))))))))

noncomputable def cs_16 : FuncId → Option CSpec := csAdd 16 [B16] cs_13
theorem cs_16_ok : CsOk Try.prog cs_16 := csAdd_ok cs_13_ok fun B hB => by
  cases List.mem_singleton.1 hB
  exact B16_ok

noncomputable def st_L8_5 (env : List Dat) : Tree Step := Lk.stepMC false LK cs_16 8 5 ls0 (mkM 0 [] [(sh 31 [(0, .imm TIt 0), (3, .int .i64 1), (4, .int .i64 2)], [])] [] [(.exit 0, sh 31 [], []), (.ret, sh 31 [(2, .bool 0)], [])] fun _ => none) env
theorem op_L8_5_ex : ∃ f : List Dat → Option (Nat × List Dat), ∀ env, f env = iterS st_L8_5 FU env := ⟨iterS st_L8_5 FU, fun _ => rfl⟩
noncomputable def op_L8_5 : List Dat → Option (Nat × List Dat) := Classical.choose op_L8_5_ex
theorem op_L8_5_eq (env : List Dat) : op_L8_5 env = iterS st_L8_5 FU env := Classical.choose_spec op_L8_5_ex env
noncomputable def L8_5 : MBox := mkM 0 [] [(sh 31 [(0, .imm TIt 0), (3, .int .i64 1), (4, .int .i64 2)], [])] [] [(.exit 0, sh 31 [], []), (.ret, sh 31 [(2, .bool 0)], [])] op_L8_5
theorem L8_5_eqs : L8_5 = mkM 0 [] [(sh 31 [(0, .imm TIt 0), (3, .int .i64 1), (4, .int .i64 2)], [])] [] [(.exit 0, sh 31 [], []), (.ret, sh 31 [(2, .bool 0)], [])] (iterS st_L8_5 FU) := congrArg (fun f => mkM 0 [] [(sh 31 [(0, .imm TIt 0), (3, .int .i64 1), (4, .int .i64 2)], [])] [] [(.exit 0, sh 31 [], []), (.ret, sh 31 [(2, .bool 0)], [])] f) (funext op_L8_5_eq)
theorem L8_5_run : ∀ t s x, (manyRun L8_5 t s).sel = some x → CodeOk Try.prog 0 (.loop (cAt Try.prog 8 5)) t s x := by
  rw [L8_5_eqs]
  exact mkM_ok (st := st_L8_5) (m := FU) cs_16_ok hmix false (LsOk.none _ _ _) (by kernel_rfl) (fun env y h => by rw [← stepMC_lk]; exact h)
theorem op_L8_5_good {p : Nat × List Dat → Prop} (Inv : List Dat → Prop) (μ : List Dat → Nat) (h : ∀ env, Inv env → Good (fun y => match y with | .go e => Inv e ∧ μ e < μ env | .stop k d => p (k, d)) (st_L8_5 env).sel) (env : List Dat) (hi : Inv env) (hm : μ env < FU) : Good p (op_L8_5 env) := by
  rw [op_L8_5_eq]
  exact iterS_good Inv μ p h FU env hi hm

noncomputable def fn_L8_5_t : List Dat → Tree Step
  | [.l (Ty.pair (Ty.int IntKind.u8) (Ty.pair (Ty.int IntKind.u64) (Ty.sl (Ty.int IntKind.u8)))) l0, .n n1, .n n2] =>
    (.node (decide (n2 < (↑(List.length l0) : Int)))
     (.node (inR n2 (List.length l0))
      (.node (decide ((↑(List.length (it_3 l0 n2)) : Int) > IntKind.wrap .i64 ((3000 : Int) - n1)))
       (.leaf (Step.stop 1 [.b true]))
       (.leaf (Step.go [.k 0, .l TIt l0, .n (IntKind.wrap .i64 (n1 + (↑(List.length (it_3 l0 n2)) : Int))), .n (IntKind.wrap .i64 (n2 + (1 : Int)))])))
      (.bad 10))
     (.leaf (Step.stop 0 [])))
  | _ => .bad 0
theorem fn_L8_5_t_im (l0 : List (Ty.den TIt)) (n1 : Int) (n2 : Int) : Imp (fn_L8_5_t [.l TIt l0, .n n1, .n n2]) (st_L8_5 [.k 0, .l TIt l0, .n n1, .n n2]) :=
(.path [1] (by kernel_rfl)
(.node (by kernel_rfl) (by kernel_rfl) (fun h0 =>
(.node (by kernel_rfl) (by kernel_rfl) (fun h1 =>
(.node (by kernel_rfl) (by kernel_rfl) (fun h2 =>
(.path [1] (by kernel_rfl)
(.leaf (by kernel_rfl)))) (fun h2 =>
(.pt (by kernel_rfl) (by kernel_rfl) h1
(.path [1] (by kernel_rfl)
(.leaf (by kernel_rfl))))))) (fun h1 =>
.none))) (fun h0 =>
(.path [1] (by kernel_rfl)
(.leaf (by kernel_rfl))))))

theorem ls_8_ok : LsOk Try.prog (List.length ([] : List PB)) (lsM [(5, L8_5)] (List.length ([] : List PB))) (bodyOf Try.prog 8) := LsOk.many fun j B hB hk c hc hi => by
  simp only [lookM] at hB
  split at hB
  · rename_i e; have := Nat.eq_of_beq_eq_true e; subst this; cases hB
    have e1 : loopAt Try.prog 8 5 = [cAt Try.prog 8 5] := loopAt_one (by kernel_rfl)
    have e2 : c ∈ loopAt Try.prog 8 5 := loopsAt_mem hc hi
    rw [e1] at e2; cases List.mem_singleton.1 e2; exact L8_5_run
  cases hB

noncomputable def ev_8 (env : List Dat) : Tree (Nat × List Dat) := Lk.boxC false LK cs_16 8 (lsM [(5, L8_5)] (List.length ([] : List PB))) (mkF [.imm TIt 0] [] [] [(.bool 0, [])] fun _ => none) env
theorem op_8_ex : ∃ f : List Dat → Option (Nat × List Dat), ∀ env, f env = (ev_8 env).sel := ⟨fun env => (ev_8 env).sel, fun _ => rfl⟩
noncomputable def op_8 : List Dat → Option (Nat × List Dat) := Classical.choose op_8_ex
theorem op_8_eq (env : List Dat) : op_8 env = (ev_8 env).sel := Classical.choose_spec op_8_ex env
noncomputable def B8 : FBox := mkF [.imm TIt 0] [] [] [(.bool 0, [])] op_8
theorem B8_ok : RunOk Try.prog 8 (boxRun B8) := mkF_ok (op := op_8) cs_16_ok hmix false (ls_8_ok) (fun env x h => by rw [op_8_eq] at h; rw [← boxC_lk]; exact h)
theorem op_8_good {p : Nat × List Dat → Prop} {T : Tree (Nat × List Dat)} {env : List Dat} (h : Imp T (ev_8 env)) (g : Good p T.sel) : Good p (op_8 env) := by
  rw [op_8_eq]
  exact h.good g

noncomputable def fn_8_t : List Dat → Tree (Nat × List Dat)
  | [.l (Ty.pair (Ty.int IntKind.u8) (Ty.pair (Ty.int IntKind.u64) (Ty.sl (Ty.int IntKind.u8)))) l0] =>
    (.node (decide ((↑(List.length l0) : Int) > (100 : Int)))
     (.leaf ((0, [.b true])))
     (let r1 : Option (Nat × List Dat) := (op_L8_5 [.k 0, .l TIt l0, .n (0 : Int), .n (0 : Int)]);
      (.node (isK 0 [] r1)
       (.leaf ((0, [.b false])))
       (.node (isK 1 [HK.b] r1)
        (.leaf ((0, [.b (gb (dOf r1) 0)])))
        (.bad 351)))))
  | _ => .bad 0
theorem fn_8_t_im (l0 : List (Ty.den TIt)) : Imp (fn_8_t [.l TIt l0]) (ev_8 [.l TIt l0]) :=
(.node (by kernel_rfl) (by kernel_rfl) (fun h0 =>
(.path [1] (by kernel_rfl)
(.leaf (by kernel_rfl)))) (fun h0 =>
(.node (by kernel_rfl) (by kernel_rfl) (fun h1 =>
(.path [1] (by kernel_rfl)
(.leaf (by kernel_rfl)))) (fun h1 =>
(.node (by kernel_rfl) (by kernel_rfl) (fun h2 =>
(.path [1] (by kernel_rfl)
(.leaf (by kernel_rfl)))) (fun h2 =>
.none))))))

noncomputable def cs_8 : FuncId → Option CSpec := csLend 8 B8 cs_16
theorem cs_8_ok : CsOk Try.prog cs_8 := csLend_ok cs_16_ok B8_ok

noncomputable def st_L3_13 (env : List Dat) : Tree Step := Lk.stepMC false LK cs_8 3 13 ls0 (mkM 0 [] [(sh 82 [(0, .imm TIt 0), (3, .ptr 0 0), (4, .own 1), (5, .int .i64 1), (6, .ptr 2 0), (7, .int .i64 2)], [wrO 3, .arr TB 3, .cells [.int .u8 4, .int .u64 5, .own 4], .arr TB 6, .arr TB 7])] [] [(.exit 2, sh 82 [(0, .imm TIt 0), (3, .ptr 0 0), (4, .own 1), (5, .int .i64 1)], [wrO 2, .arr TB 2, .arr TB 3])] fun _ => none) env
theorem op_L3_13_ex : ∃ f : List Dat → Option (Nat × List Dat), ∀ env, f env = iterS st_L3_13 FU env := ⟨iterS st_L3_13 FU, fun _ => rfl⟩
noncomputable def op_L3_13 : List Dat → Option (Nat × List Dat) := Classical.choose op_L3_13_ex
theorem op_L3_13_eq (env : List Dat) : op_L3_13 env = iterS st_L3_13 FU env := Classical.choose_spec op_L3_13_ex env
noncomputable def L3_13 : MBox := mkM 0 [] [(sh 82 [(0, .imm TIt 0), (3, .ptr 0 0), (4, .own 1), (5, .int .i64 1), (6, .ptr 2 0), (7, .int .i64 2)], [wrO 3, .arr TB 3, .cells [.int .u8 4, .int .u64 5, .own 4], .arr TB 6, .arr TB 7])] [] [(.exit 2, sh 82 [(0, .imm TIt 0), (3, .ptr 0 0), (4, .own 1), (5, .int .i64 1)], [wrO 2, .arr TB 2, .arr TB 3])] op_L3_13
theorem L3_13_eqs : L3_13 = mkM 0 [] [(sh 82 [(0, .imm TIt 0), (3, .ptr 0 0), (4, .own 1), (5, .int .i64 1), (6, .ptr 2 0), (7, .int .i64 2)], [wrO 3, .arr TB 3, .cells [.int .u8 4, .int .u64 5, .own 4], .arr TB 6, .arr TB 7])] [] [(.exit 2, sh 82 [(0, .imm TIt 0), (3, .ptr 0 0), (4, .own 1), (5, .int .i64 1)], [wrO 2, .arr TB 2, .arr TB 3])] (iterS st_L3_13 FU) := congrArg (fun f => mkM 0 [] [(sh 82 [(0, .imm TIt 0), (3, .ptr 0 0), (4, .own 1), (5, .int .i64 1), (6, .ptr 2 0), (7, .int .i64 2)], [wrO 3, .arr TB 3, .cells [.int .u8 4, .int .u64 5, .own 4], .arr TB 6, .arr TB 7])] [] [(.exit 2, sh 82 [(0, .imm TIt 0), (3, .ptr 0 0), (4, .own 1), (5, .int .i64 1)], [wrO 2, .arr TB 2, .arr TB 3])] f) (funext op_L3_13_eq)
theorem L3_13_run : ∀ t s x, (manyRun L3_13 t s).sel = some x → CodeOk Try.prog 0 (.loop (cAt Try.prog 3 13)) t s x := by
  rw [L3_13_eqs]
  exact mkM_ok (st := st_L3_13) (m := FU) cs_8_ok hmix false (LsOk.none _ _ _) (by kernel_rfl) (fun env y h => by rw [← stepMC_lk]; exact h)
theorem op_L3_13_good {p : Nat × List Dat → Prop} (Inv : List Dat → Prop) (μ : List Dat → Nat) (h : ∀ env, Inv env → Good (fun y => match y with | .go e => Inv e ∧ μ e < μ env | .stop k d => p (k, d)) (st_L3_13 env).sel) (env : List Dat) (hi : Inv env) (hm : μ env < FU) : Good p (op_L3_13 env) := by
  rw [op_L3_13_eq]
  exact iterS_good Inv μ p h FU env hi hm

noncomputable def fn_L3_13_t : List Dat → Tree Step
  | [.l (Ty.pair (Ty.int IntKind.u8) (Ty.pair (Ty.int IntKind.u64) (Ty.sl (Ty.int IntKind.u8)))) l0, .n n1, .n n2, .l (Ty.int IntKind.u8) l3, .n n4, .n n5, .l (Ty.int IntKind.u8) l6, .l (Ty.int IntKind.u8) l7] =>
    (.node (decide (n2 < (↑(List.length l7) : Int)))
     (.node (inR n2 (List.length l7))
      (.leaf (Step.go [.k 0, .l TIt l0, .n n1, .n (IntKind.wrap .i64 (n2 + (1 : Int))), .l (Ty.int IntKind.u8) l3, .n n4, .n n5, .l (Ty.int IntKind.u8) l6, .l (Ty.int IntKind.u8) (List.set l7 (Int.toNat n2) (IntKind.wrap .u8 ((List.getD l7 (Int.toNat n2) (0 : Int) : Int) + (1 : Int))))]))
      (.bad 12))
     (.leaf (Step.stop 0 [.l TIt l0, .n n1, .l (Ty.int IntKind.u8) l3, .l (Ty.int IntKind.u8) l6])))
  | _ => .bad 0
theorem fn_L3_13_t_im (l0 : List (Ty.den TIt)) (n1 : Int) (n2 : Int) (l3 : List (Ty.den (Ty.int IntKind.u8))) (n4 : Int) (n5 : Int) (l6 : List (Ty.den (Ty.int IntKind.u8))) (l7 : List (Ty.den (Ty.int IntKind.u8))) : Imp (fn_L3_13_t [.l TIt l0, .n n1, .n n2, .l (Ty.int IntKind.u8) l3, .n n4, .n n5, .l (Ty.int IntKind.u8) l6, .l (Ty.int IntKind.u8) l7]) (st_L3_13 [.k 0, .l TIt l0, .n n1, .n n2, .l TB l3, .n n4, .n n5, .l TB l6, .l TB l7]) :=
(.path [1] (by kernel_rfl)
(.node (by kernel_rfl) (by kernel_rfl) (fun h0 =>
(.node (by kernel_rfl) (by kernel_rfl) (fun h1 =>
(.pt (by kernel_rfl) (by kernel_rfl) h1
(.path [1,1] (by kernel_rfl)
(.leaf (by kernel_rfl))))) (fun h1 =>
.none))) (fun h0 =>
(.path [1] (by kernel_rfl)
(.leaf (by kernel_rfl))))))

noncomputable def st_L3_20 (env : List Dat) : Tree Step := Lk.stepMC false LK cs_8 3 20 ls0 (mkM 0 [] [(sh 82 [(0, .imm TIt 0), (3, .ptr 0 0), (4, .own 1), (5, .int .i64 1), (8, .own 2), (9, .int .i64 2)], [wrO 3, .arr TB 3, .arr TB 4, .arr TB 5])] [] [(.exit 4, sh 82 [(0, .imm TIt 0), (3, .ptr 0 0), (4, .own 1), (5, .int .i64 1)], [wrO 2, .arr TB 2, .arr TB 3])] fun _ => none) env
theorem op_L3_20_ex : ∃ f : List Dat → Option (Nat × List Dat), ∀ env, f env = iterS st_L3_20 FU env := ⟨iterS st_L3_20 FU, fun _ => rfl⟩
noncomputable def op_L3_20 : List Dat → Option (Nat × List Dat) := Classical.choose op_L3_20_ex
theorem op_L3_20_eq (env : List Dat) : op_L3_20 env = iterS st_L3_20 FU env := Classical.choose_spec op_L3_20_ex env
noncomputable def L3_20 : MBox := mkM 0 [] [(sh 82 [(0, .imm TIt 0), (3, .ptr 0 0), (4, .own 1), (5, .int .i64 1), (8, .own 2), (9, .int .i64 2)], [wrO 3, .arr TB 3, .arr TB 4, .arr TB 5])] [] [(.exit 4, sh 82 [(0, .imm TIt 0), (3, .ptr 0 0), (4, .own 1), (5, .int .i64 1)], [wrO 2, .arr TB 2, .arr TB 3])] op_L3_20
theorem L3_20_eqs : L3_20 = mkM 0 [] [(sh 82 [(0, .imm TIt 0), (3, .ptr 0 0), (4, .own 1), (5, .int .i64 1), (8, .own 2), (9, .int .i64 2)], [wrO 3, .arr TB 3, .arr TB 4, .arr TB 5])] [] [(.exit 4, sh 82 [(0, .imm TIt 0), (3, .ptr 0 0), (4, .own 1), (5, .int .i64 1)], [wrO 2, .arr TB 2, .arr TB 3])] (iterS st_L3_20 FU) := congrArg (fun f => mkM 0 [] [(sh 82 [(0, .imm TIt 0), (3, .ptr 0 0), (4, .own 1), (5, .int .i64 1), (8, .own 2), (9, .int .i64 2)], [wrO 3, .arr TB 3, .arr TB 4, .arr TB 5])] [] [(.exit 4, sh 82 [(0, .imm TIt 0), (3, .ptr 0 0), (4, .own 1), (5, .int .i64 1)], [wrO 2, .arr TB 2, .arr TB 3])] f) (funext op_L3_20_eq)
theorem L3_20_run : ∀ t s x, (manyRun L3_20 t s).sel = some x → CodeOk Try.prog 0 (.loop (cAt Try.prog 3 20)) t s x := by
  rw [L3_20_eqs]
  exact mkM_ok (st := st_L3_20) (m := FU) cs_8_ok hmix false (LsOk.none _ _ _) (by kernel_rfl) (fun env y h => by rw [← stepMC_lk]; exact h)
theorem op_L3_20_good {p : Nat × List Dat → Prop} (Inv : List Dat → Prop) (μ : List Dat → Nat) (h : ∀ env, Inv env → Good (fun y => match y with | .go e => Inv e ∧ μ e < μ env | .stop k d => p (k, d)) (st_L3_20 env).sel) (env : List Dat) (hi : Inv env) (hm : μ env < FU) : Good p (op_L3_20 env) := by
  rw [op_L3_20_eq]
  exact iterS_good Inv μ p h FU env hi hm

noncomputable def fn_L3_20_t : List Dat → Tree Step
  | [.l (Ty.pair (Ty.int IntKind.u8) (Ty.pair (Ty.int IntKind.u64) (Ty.sl (Ty.int IntKind.u8)))) l0, .n n1, .n n2, .l (Ty.int IntKind.u8) l3, .l (Ty.int IntKind.u8) l4, .l (Ty.int IntKind.u8) l5] =>
    (.node (decide (n2 < (↑(List.length l4) : Int)))
     (.node (inR n2 (List.length l4))
      (.leaf (Step.go [.k 0, .l TIt l0, .n n1, .n (IntKind.wrap .i64 (n2 + (1 : Int))), .l (Ty.int IntKind.u8) l3, .l (Ty.int IntKind.u8) (List.set l4 (Int.toNat n2) (IntKind.wrap .u8 ((List.getD l4 (Int.toNat n2) (0 : Int) : Int) + (1 : Int)))), .l (Ty.int IntKind.u8) l5]))
      (.bad 12))
     (.leaf (Step.stop 0 [.l TIt l0, .n n1, .l (Ty.int IntKind.u8) l3, .l (Ty.int IntKind.u8) l5])))
  | _ => .bad 0
theorem fn_L3_20_t_im (l0 : List (Ty.den TIt)) (n1 : Int) (n2 : Int) (l3 : List (Ty.den (Ty.int IntKind.u8))) (l4 : List (Ty.den (Ty.int IntKind.u8))) (l5 : List (Ty.den (Ty.int IntKind.u8))) : Imp (fn_L3_20_t [.l TIt l0, .n n1, .n n2, .l (Ty.int IntKind.u8) l3, .l (Ty.int IntKind.u8) l4, .l (Ty.int IntKind.u8) l5]) (st_L3_20 [.k 0, .l TIt l0, .n n1, .n n2, .l TB l3, .l TB l4, .l TB l5]) :=
(.path [1] (by kernel_rfl)
(.node (by kernel_rfl) (by kernel_rfl) (fun h0 =>
(.node (by kernel_rfl) (by kernel_rfl) (fun h1 =>
(.pt (by kernel_rfl) (by kernel_rfl) h1
(.path [1] (by kernel_rfl)
(.leaf (by kernel_rfl))))) (fun h1 =>
.none))) (fun h0 =>
(.path [1] (by kernel_rfl)
(.leaf (by kernel_rfl))))))

noncomputable def st_L3_6 (env : List Dat) : Tree Step := Lk.stepMC false LK cs_8 3 6 (lsM [(13, L3_13), (20, L3_20)] 0) (mkM 0 [] [(sh 82 [(0, .imm TIt 0), (3, .ptr 0 0), (4, .own 1), (5, .int .i64 1)], [wrN, .arr TB 2]), (sh 82 [(0, .imm TIt 0), (3, .ptr 0 0), (4, .own 1), (5, .int .i64 1)], [wrO 2, .arr TB 2, .arr TB 3])] [(4, TB)] [(.exit 0, sh 82 [(3, .ptr 0 0), (4, .own 1)], [wrN, .arr TB 0]), (.exit 0, sh 82 [(3, .ptr 0 0), (4, .own 1)], [wrO 2, .arr TB 0, .arr TB 1]), (.ret, sh 82 [(2, .bool 0)], [])] fun _ => none) env
theorem op_L3_6_ex : ∃ f : List Dat → Option (Nat × List Dat), ∀ env, f env = iterS st_L3_6 FU env := ⟨iterS st_L3_6 FU, fun _ => rfl⟩
noncomputable def op_L3_6 : List Dat → Option (Nat × List Dat) := Classical.choose op_L3_6_ex
theorem op_L3_6_eq (env : List Dat) : op_L3_6 env = iterS st_L3_6 FU env := Classical.choose_spec op_L3_6_ex env
noncomputable def L3_6 : MBox := mkM 0 [] [(sh 82 [(0, .imm TIt 0), (3, .ptr 0 0), (4, .own 1), (5, .int .i64 1)], [wrN, .arr TB 2]), (sh 82 [(0, .imm TIt 0), (3, .ptr 0 0), (4, .own 1), (5, .int .i64 1)], [wrO 2, .arr TB 2, .arr TB 3])] [(4, TB)] [(.exit 0, sh 82 [(3, .ptr 0 0), (4, .own 1)], [wrN, .arr TB 0]), (.exit 0, sh 82 [(3, .ptr 0 0), (4, .own 1)], [wrO 2, .arr TB 0, .arr TB 1]), (.ret, sh 82 [(2, .bool 0)], [])] op_L3_6
theorem L3_6_eqs : L3_6 = mkM 0 [] [(sh 82 [(0, .imm TIt 0), (3, .ptr 0 0), (4, .own 1), (5, .int .i64 1)], [wrN, .arr TB 2]), (sh 82 [(0, .imm TIt 0), (3, .ptr 0 0), (4, .own 1), (5, .int .i64 1)], [wrO 2, .arr TB 2, .arr TB 3])] [(4, TB)] [(.exit 0, sh 82 [(3, .ptr 0 0), (4, .own 1)], [wrN, .arr TB 0]), (.exit 0, sh 82 [(3, .ptr 0 0), (4, .own 1)], [wrO 2, .arr TB 0, .arr TB 1]), (.ret, sh 82 [(2, .bool 0)], [])] (iterS st_L3_6 FU) := congrArg (fun f => mkM 0 [] [(sh 82 [(0, .imm TIt 0), (3, .ptr 0 0), (4, .own 1), (5, .int .i64 1)], [wrN, .arr TB 2]), (sh 82 [(0, .imm TIt 0), (3, .ptr 0 0), (4, .own 1), (5, .int .i64 1)], [wrO 2, .arr TB 2, .arr TB 3])] [(4, TB)] [(.exit 0, sh 82 [(3, .ptr 0 0), (4, .own 1)], [wrN, .arr TB 0]), (.exit 0, sh 82 [(3, .ptr 0 0), (4, .own 1)], [wrO 2, .arr TB 0, .arr TB 1]), (.ret, sh 82 [(2, .bool 0)], [])] f) (funext op_L3_6_eq)
theorem L3_6_in : LsOk Try.prog 0 (lsM [(13, L3_13), (20, L3_20)] 0) (cAt Try.prog 3 6) := LsOk.many fun j B hB hk c hc hi => by
  simp only [lookM] at hB
  split at hB
  · rename_i e; have := Nat.eq_of_beq_eq_true e; subst this; cases hB
    have e1 : loopsAt (cAt Try.prog 3 6) 13 = [cAt Try.prog 3 13] := by kernel_rfl
    have e2 := loopsAt_mem hc hi
    rw [e1] at e2; cases List.mem_singleton.1 e2; exact L3_13_run
  split at hB
  · rename_i e; have := Nat.eq_of_beq_eq_true e; subst this; cases hB
    have e1 : loopsAt (cAt Try.prog 3 6) 20 = [cAt Try.prog 3 20] := by kernel_rfl
    have e2 := loopsAt_mem hc hi
    rw [e1] at e2; cases List.mem_singleton.1 e2; exact L3_20_run
  cases hB
theorem L3_6_run : ∀ t s x, (manyRun L3_6 t s).sel = some x → CodeOk Try.prog 0 (.loop (cAt Try.prog 3 6)) t s x := by
  rw [L3_6_eqs]
  exact mkM_ok (st := st_L3_6) (m := FU) cs_8_ok hmix false (L3_6_in) (by kernel_rfl) (fun env y h => by rw [← stepMC_lk]; exact h)
theorem op_L3_6_good {p : Nat × List Dat → Prop} (Inv : List Dat → Prop) (μ : List Dat → Nat) (h : ∀ env, Inv env → Good (fun y => match y with | .go e => Inv e ∧ μ e < μ env | .stop k d => p (k, d)) (st_L3_6 env).sel) (env : List Dat) (hi : Inv env) (hm : μ env < FU) : Good p (op_L3_6 env) := by
  rw [op_L3_6_eq]
  exact iterS_good Inv μ p h FU env hi hm

noncomputable def fn_L3_6_n : List Dat → Tree Step
  | [.l (Ty.pair (Ty.int IntKind.u8) (Ty.pair (Ty.int IntKind.u64) (Ty.sl (Ty.int IntKind.u8)))) l0, .n n1] =>
    (.node (Int.tmod (it_1 l0 n1) (5 : Int) == (0 : Int))
     (let r1 : Option (Nat × List Dat) := (op_35a [.n (IntKind.wrap .u64 (IntKind.wrap .u8 (it_2 l0 n1))), .n (1 : Int)]);
      (.node (isK 0 [] r1)
       (let r2 : Option (Nat × List Dat) := (op_30 [.n (it_2 l0 n1), .n (List.getD [(1 : Int), (2 : Int), (4 : Int), (8 : Int)] (Int.toNat (Int.tmod (it_1 l0 n1) (5 : Int))) (0 : Int))]);
        (.node (isK 0 [HK.l (Ty.int IntKind.u8)] r2)
         (.node (decide ((0 + List.length (gl (Ty.int IntKind.u8) (dOf r2) 0)) * 1 ≤ 140737488355328))
          (.bad 330)
          (.bad 62))
         (.bad 351)))
       (.node (isK 1 [HK.l (Ty.int IntKind.u8)] r1)
        (let r2 : Option (Nat × List Dat) := (op_30 [.n (it_2 l0 n1), .n (List.getD [(1 : Int), (2 : Int), (4 : Int), (8 : Int)] (Int.toNat (Int.tmod (it_1 l0 n1) (5 : Int))) (0 : Int))]);
         (.node (isK 0 [HK.l (Ty.int IntKind.u8)] r2)
          (.node (decide ((0 + List.length (gl (Ty.int IntKind.u8) (dOf r2) 0)) * 1 ≤ 140737488355328))
           (let r3 : Option (Nat × List Dat) := (op_L3_13 [.k 0, .l TIt l0, .n n1, .n (0 : Int), .l (Ty.int IntKind.u8) ([] ++ gl (Ty.int IntKind.u8) (dOf r2) 0), .n (it_1 l0 n1), .n (it_2 l0 n1), .l (Ty.int IntKind.u8) (gl (Ty.int IntKind.u8) (dOf r1) 0), .l (Ty.int IntKind.u8) (bytesOf (strOf (it_3 l0 n1)))]);
            (.node (isK 0 [HK.l TIt, HK.n, HK.l (Ty.int IntKind.u8), HK.l (Ty.int IntKind.u8)] r3)
             (let r4 : Option (Nat × List Dat) := (op_31 [.l (Ty.int IntKind.u8) (gl (Ty.int IntKind.u8) (dOf r3) 3)]);
              (.node (isK 0 [HK.l (Ty.int IntKind.u8)] r4)
               (.node (!strEq (strOf (gl (Ty.int IntKind.u8) (dOf r4) 0)) (strOf (gl (Ty.int IntKind.u8) (dOf r3) 2)))
                (.leaf (Step.stop 2 [.b false]))
                (let r5 : Option (Nat × List Dat) := (op_L3_20 [.k 0, .l TIt (gl TIt (dOf r3) 0), .n (gn (dOf r3) 1), .n (0 : Int), .l (Ty.int IntKind.u8) (gl (Ty.int IntKind.u8) (dOf r3) 2), .l (Ty.int IntKind.u8) (gl (Ty.int IntKind.u8) (dOf r4) 0), .l (Ty.int IntKind.u8) (gl (Ty.int IntKind.u8) (dOf r3) 3)]);
                 (.node (isK 0 [HK.l TIt, HK.n, HK.l (Ty.int IntKind.u8), HK.l (Ty.int IntKind.u8)] r5)
                  (.leaf (Step.go [.k 1, .l TIt (gl TIt (dOf r5) 0), .n (IntKind.wrap .i64 (gn (dOf r5) 1 + (1 : Int))), .l (Ty.int IntKind.u8) (gl (Ty.int IntKind.u8) (dOf r5) 2), .l (Ty.int IntKind.u8) (gl (Ty.int IntKind.u8) (dOf r5) 3)]))
                  (.bad 351))))
               (.bad 351)))
             (.bad 351)))
           (.bad 62))
          (.bad 351)))
        (.bad 351))))
     (.node (Int.tmod (it_1 l0 n1) (5 : Int) == (1 : Int))
      (let r1 : Option (Nat × List Dat) := (op_35a [.n (IntKind.wrap .u64 (IntKind.wrap .u16 (it_2 l0 n1))), .n (2 : Int)]);
       (.node (isK 0 [] r1)
        (let r2 : Option (Nat × List Dat) := (op_30 [.n (it_2 l0 n1), .n (List.getD [(1 : Int), (2 : Int), (4 : Int), (8 : Int)] (Int.toNat (Int.tmod (it_1 l0 n1) (5 : Int))) (0 : Int))]);
         (.node (isK 0 [HK.l (Ty.int IntKind.u8)] r2)
          (.node (decide ((0 + List.length (gl (Ty.int IntKind.u8) (dOf r2) 0)) * 1 ≤ 140737488355328))
           (.bad 330)
           (.bad 62))
          (.bad 351)))
        (.node (isK 1 [HK.l (Ty.int IntKind.u8)] r1)
         (let r2 : Option (Nat × List Dat) := (op_30 [.n (it_2 l0 n1), .n (List.getD [(1 : Int), (2 : Int), (4 : Int), (8 : Int)] (Int.toNat (Int.tmod (it_1 l0 n1) (5 : Int))) (0 : Int))]);
          (.node (isK 0 [HK.l (Ty.int IntKind.u8)] r2)
           (.node (decide ((0 + List.length (gl (Ty.int IntKind.u8) (dOf r2) 0)) * 1 ≤ 140737488355328))
            (let r3 : Option (Nat × List Dat) := (op_L3_13 [.k 0, .l TIt l0, .n n1, .n (0 : Int), .l (Ty.int IntKind.u8) ([] ++ gl (Ty.int IntKind.u8) (dOf r2) 0), .n (it_1 l0 n1), .n (it_2 l0 n1), .l (Ty.int IntKind.u8) (gl (Ty.int IntKind.u8) (dOf r1) 0), .l (Ty.int IntKind.u8) (bytesOf (strOf (it_3 l0 n1)))]);
             (.node (isK 0 [HK.l TIt, HK.n, HK.l (Ty.int IntKind.u8), HK.l (Ty.int IntKind.u8)] r3)
              (let r4 : Option (Nat × List Dat) := (op_31 [.l (Ty.int IntKind.u8) (gl (Ty.int IntKind.u8) (dOf r3) 3)]);
               (.node (isK 0 [HK.l (Ty.int IntKind.u8)] r4)
                (.node (!strEq (strOf (gl (Ty.int IntKind.u8) (dOf r4) 0)) (strOf (gl (Ty.int IntKind.u8) (dOf r3) 2)))
                 (.leaf (Step.stop 2 [.b false]))
                 (let r5 : Option (Nat × List Dat) := (op_L3_20 [.k 0, .l TIt (gl TIt (dOf r3) 0), .n (gn (dOf r3) 1), .n (0 : Int), .l (Ty.int IntKind.u8) (gl (Ty.int IntKind.u8) (dOf r3) 2), .l (Ty.int IntKind.u8) (gl (Ty.int IntKind.u8) (dOf r4) 0), .l (Ty.int IntKind.u8) (gl (Ty.int IntKind.u8) (dOf r3) 3)]);
                  (.node (isK 0 [HK.l TIt, HK.n, HK.l (Ty.int IntKind.u8), HK.l (Ty.int IntKind.u8)] r5)
                   (.leaf (Step.go [.k 1, .l TIt (gl TIt (dOf r5) 0), .n (IntKind.wrap .i64 (gn (dOf r5) 1 + (1 : Int))), .l (Ty.int IntKind.u8) (gl (Ty.int IntKind.u8) (dOf r5) 2), .l (Ty.int IntKind.u8) (gl (Ty.int IntKind.u8) (dOf r5) 3)]))
                   (.bad 351))))
                (.bad 351)))
              (.bad 351)))
            (.bad 62))
           (.bad 351)))
         (.bad 351))))
      (.node (Int.tmod (it_1 l0 n1) (5 : Int) == (2 : Int))
       (let r1 : Option (Nat × List Dat) := (op_35a [.n (IntKind.wrap .u64 (IntKind.wrap .u32 (it_2 l0 n1))), .n (4 : Int)]);
        (.node (isK 0 [] r1)
         (let r2 : Option (Nat × List Dat) := (op_30 [.n (it_2 l0 n1), .n (List.getD [(1 : Int), (2 : Int), (4 : Int), (8 : Int)] (Int.toNat (Int.tmod (it_1 l0 n1) (5 : Int))) (0 : Int))]);
          (.node (isK 0 [HK.l (Ty.int IntKind.u8)] r2)
           (.node (decide ((0 + List.length (gl (Ty.int IntKind.u8) (dOf r2) 0)) * 1 ≤ 140737488355328))
            (.bad 330)
            (.bad 62))
           (.bad 351)))
         (.node (isK 1 [HK.l (Ty.int IntKind.u8)] r1)
          (let r2 : Option (Nat × List Dat) := (op_30 [.n (it_2 l0 n1), .n (List.getD [(1 : Int), (2 : Int), (4 : Int), (8 : Int)] (Int.toNat (Int.tmod (it_1 l0 n1) (5 : Int))) (0 : Int))]);
           (.node (isK 0 [HK.l (Ty.int IntKind.u8)] r2)
            (.node (decide ((0 + List.length (gl (Ty.int IntKind.u8) (dOf r2) 0)) * 1 ≤ 140737488355328))
             (let r3 : Option (Nat × List Dat) := (op_L3_13 [.k 0, .l TIt l0, .n n1, .n (0 : Int), .l (Ty.int IntKind.u8) ([] ++ gl (Ty.int IntKind.u8) (dOf r2) 0), .n (it_1 l0 n1), .n (it_2 l0 n1), .l (Ty.int IntKind.u8) (gl (Ty.int IntKind.u8) (dOf r1) 0), .l (Ty.int IntKind.u8) (bytesOf (strOf (it_3 l0 n1)))]);
              (.node (isK 0 [HK.l TIt, HK.n, HK.l (Ty.int IntKind.u8), HK.l (Ty.int IntKind.u8)] r3)
               (let r4 : Option (Nat × List Dat) := (op_31 [.l (Ty.int IntKind.u8) (gl (Ty.int IntKind.u8) (dOf r3) 3)]);
                (.node (isK 0 [HK.l (Ty.int IntKind.u8)] r4)
                 (.node (!strEq (strOf (gl (Ty.int IntKind.u8) (dOf r4) 0)) (strOf (gl (Ty.int IntKind.u8) (dOf r3) 2)))
                  (.leaf (Step.stop 2 [.b false]))
                  (let r5 : Option (Nat × List Dat) := (op_L3_20 [.k 0, .l TIt (gl TIt (dOf r3) 0), .n (gn (dOf r3) 1), .n (0 : Int), .l (Ty.int IntKind.u8) (gl (Ty.int IntKind.u8) (dOf r3) 2), .l (Ty.int IntKind.u8) (gl (Ty.int IntKind.u8) (dOf r4) 0), .l (Ty.int IntKind.u8) (gl (Ty.int IntKind.u8) (dOf r3) 3)]);
                   (.node (isK 0 [HK.l TIt, HK.n, HK.l (Ty.int IntKind.u8), HK.l (Ty.int IntKind.u8)] r5)
                    (.leaf (Step.go [.k 1, .l TIt (gl TIt (dOf r5) 0), .n (IntKind.wrap .i64 (gn (dOf r5) 1 + (1 : Int))), .l (Ty.int IntKind.u8) (gl (Ty.int IntKind.u8) (dOf r5) 2), .l (Ty.int IntKind.u8) (gl (Ty.int IntKind.u8) (dOf r5) 3)]))
                    (.bad 351))))
                 (.bad 351)))
               (.bad 351)))
             (.bad 62))
            (.bad 351)))
          (.bad 351))))
       (.node (Int.tmod (it_1 l0 n1) (5 : Int) == (3 : Int))
        (let r1 : Option (Nat × List Dat) := (op_35a [.n (it_2 l0 n1), .n (8 : Int)]);
         (.node (isK 0 [] r1)
          (let r2 : Option (Nat × List Dat) := (op_30 [.n (it_2 l0 n1), .n (List.getD [(1 : Int), (2 : Int), (4 : Int), (8 : Int)] (Int.toNat (Int.tmod (it_1 l0 n1) (5 : Int))) (0 : Int))]);
           (.node (isK 0 [HK.l (Ty.int IntKind.u8)] r2)
            (.node (decide ((0 + List.length (gl (Ty.int IntKind.u8) (dOf r2) 0)) * 1 ≤ 140737488355328))
             (.bad 330)
             (.bad 62))
            (.bad 351)))
          (.node (isK 1 [HK.l (Ty.int IntKind.u8)] r1)
           (let r2 : Option (Nat × List Dat) := (op_30 [.n (it_2 l0 n1), .n (List.getD [(1 : Int), (2 : Int), (4 : Int), (8 : Int)] (Int.toNat (Int.tmod (it_1 l0 n1) (5 : Int))) (0 : Int))]);
            (.node (isK 0 [HK.l (Ty.int IntKind.u8)] r2)
             (.node (decide ((0 + List.length (gl (Ty.int IntKind.u8) (dOf r2) 0)) * 1 ≤ 140737488355328))
              (let r3 : Option (Nat × List Dat) := (op_L3_13 [.k 0, .l TIt l0, .n n1, .n (0 : Int), .l (Ty.int IntKind.u8) ([] ++ gl (Ty.int IntKind.u8) (dOf r2) 0), .n (it_1 l0 n1), .n (it_2 l0 n1), .l (Ty.int IntKind.u8) (gl (Ty.int IntKind.u8) (dOf r1) 0), .l (Ty.int IntKind.u8) (bytesOf (strOf (it_3 l0 n1)))]);
               (.node (isK 0 [HK.l TIt, HK.n, HK.l (Ty.int IntKind.u8), HK.l (Ty.int IntKind.u8)] r3)
                (let r4 : Option (Nat × List Dat) := (op_31 [.l (Ty.int IntKind.u8) (gl (Ty.int IntKind.u8) (dOf r3) 3)]);
                 (.node (isK 0 [HK.l (Ty.int IntKind.u8)] r4)
                  (.node (!strEq (strOf (gl (Ty.int IntKind.u8) (dOf r4) 0)) (strOf (gl (Ty.int IntKind.u8) (dOf r3) 2)))
                   (.leaf (Step.stop 2 [.b false]))
                   (let r5 : Option (Nat × List Dat) := (op_L3_20 [.k 0, .l TIt (gl TIt (dOf r3) 0), .n (gn (dOf r3) 1), .n (0 : Int), .l (Ty.int IntKind.u8) (gl (Ty.int IntKind.u8) (dOf r3) 2), .l (Ty.int IntKind.u8) (gl (Ty.int IntKind.u8) (dOf r4) 0), .l (Ty.int IntKind.u8) (gl (Ty.int IntKind.u8) (dOf r3) 3)]);
                    (.node (isK 0 [HK.l TIt, HK.n, HK.l (Ty.int IntKind.u8), HK.l (Ty.int IntKind.u8)] r5)
                     (.leaf (Step.go [.k 1, .l TIt (gl TIt (dOf r5) 0), .n (IntKind.wrap .i64 (gn (dOf r5) 1 + (1 : Int))), .l (Ty.int IntKind.u8) (gl (Ty.int IntKind.u8) (dOf r5) 2), .l (Ty.int IntKind.u8) (gl (Ty.int IntKind.u8) (dOf r5) 3)]))
                     (.bad 351))))
                  (.bad 351)))
                (.bad 351)))
              (.bad 62))
             (.bad 351)))
           (.bad 351))))
        (.node (decide (List.length (bytesOf (strOf (it_3 l0 n1))) * 1 ≤ 140737488355328))
         (.node (Int.tmod (it_1 l0 n1) (5 : Int) == (4 : Int))
          (.node (decide ((0 + List.length (it_3 l0 n1)) * 1 ≤ 140737488355328))
           (let r1 : Option (Nat × List Dat) := (op_L3_13 [.k 0, .l TIt l0, .n n1, .n (0 : Int), .l (Ty.int IntKind.u8) ([] ++ it_3 l0 n1), .n (it_1 l0 n1), .n (it_2 l0 n1), .l (Ty.int IntKind.u8) (bytesOf (strOf (it_3 l0 n1))), .l (Ty.int IntKind.u8) (bytesOf (strOf (it_3 l0 n1)))]);
            (.node (isK 0 [HK.l TIt, HK.n, HK.l (Ty.int IntKind.u8), HK.l (Ty.int IntKind.u8)] r1)
             (let r2 : Option (Nat × List Dat) := (op_31 [.l (Ty.int IntKind.u8) (gl (Ty.int IntKind.u8) (dOf r1) 3)]);
              (.node (isK 0 [HK.l (Ty.int IntKind.u8)] r2)
               (.node (!strEq (strOf (gl (Ty.int IntKind.u8) (dOf r2) 0)) (strOf (gl (Ty.int IntKind.u8) (dOf r1) 2)))
                (.leaf (Step.stop 2 [.b false]))
                (let r3 : Option (Nat × List Dat) := (op_L3_20 [.k 0, .l TIt (gl TIt (dOf r1) 0), .n (gn (dOf r1) 1), .n (0 : Int), .l (Ty.int IntKind.u8) (gl (Ty.int IntKind.u8) (dOf r1) 2), .l (Ty.int IntKind.u8) (gl (Ty.int IntKind.u8) (dOf r2) 0), .l (Ty.int IntKind.u8) (gl (Ty.int IntKind.u8) (dOf r1) 3)]);
                 (.node (isK 0 [HK.l TIt, HK.n, HK.l (Ty.int IntKind.u8), HK.l (Ty.int IntKind.u8)] r3)
                  (.leaf (Step.go [.k 1, .l TIt (gl TIt (dOf r3) 0), .n (IntKind.wrap .i64 (gn (dOf r3) 1 + (1 : Int))), .l (Ty.int IntKind.u8) (gl (Ty.int IntKind.u8) (dOf r3) 2), .l (Ty.int IntKind.u8) (gl (Ty.int IntKind.u8) (dOf r3) 3)]))
                  (.bad 351))))
               (.bad 351)))
             (.bad 351)))
           (.bad 62))
          (.bad 12))
         (.bad 60))))))
  | _ => .bad 0
theorem fn_L3_6_n_im (l0 : List (Ty.den TIt)) (n1 : Int) (g0 : 0 ≤ n1) (g1 :  n1 < (l0.length : Int)) : Imp (fn_L3_6_n [.l TIt l0, .n n1]) (st_L3_6 [.k 0, .l TIt l0, .n n1, .l TB []]) :=
(.path [1] (by kernel_rfl)
(.pt (c := (decide (n1 < (↑(List.length l0) : Int)))) (by kernel_rfl) (by kernel_rfl) (by (simp [*]; done))
(.pt (c := (inR n1 (List.length l0))) (by kernel_rfl) (by kernel_rfl) (by (simp only [w64d, decide_eq_true_eq, decide_eq_false_iff_not, beq_iff_eq, beq_eq_false_iff_ne, bne_iff_ne, ne_eq, inR, Bool.and_eq_true, Bool.and_eq_false_iff, Bool.not_eq_true', Bool.not_eq_false', Bool.not_eq_eq_eq_not, Bool.not_true, Bool.not_false] at *; omega))
(.path [1,1] (by kernel_rfl)
(.node (by kernel_rfl) (by kernel_rfl) (fun h0 =>
(.path [1,1,0,1,1] (by kernel_rfl)
(.node (by kernel_rfl) (by kernel_rfl) (fun h1 =>
(.path [1,0,0,0,0,1,1,1] (by kernel_rfl)
(.pt (c := (inR n1 (List.length l0))) (by kernel_rfl) (by kernel_rfl) (by (simp only [w64d, decide_eq_true_eq, decide_eq_false_iff_not, beq_iff_eq, beq_eq_false_iff_ne, bne_iff_ne, ne_eq, inR, Bool.and_eq_true, Bool.and_eq_false_iff, Bool.not_eq_true', Bool.not_eq_false', Bool.not_eq_eq_eq_not, Bool.not_true, Bool.not_false] at *; omega))
(.path [1,1] (by kernel_rfl)
(.pf (c := (Int.tmod (it_1 l0 n1) (5 : Int) == (4 : Int))) (by kernel_rfl) (by kernel_rfl) (by (simp only [w64d, decide_eq_true_eq, decide_eq_false_iff_not, beq_iff_eq, beq_eq_false_iff_ne, bne_iff_ne, ne_eq, inR, Bool.and_eq_true, Bool.and_eq_false_iff, Bool.not_eq_true', Bool.not_eq_false', Bool.not_eq_eq_eq_not, Bool.not_true, Bool.not_false] at *; omega))
(.path [1,1] (by kernel_rfl)
(.pt (c := (inR (Int.tmod (it_1 l0 n1) (5 : Int)) 4)) (by kernel_rfl) (by kernel_rfl) (by (simp only [w64d, decide_eq_true_eq, decide_eq_false_iff_not, beq_iff_eq, beq_eq_false_iff_ne, bne_iff_ne, ne_eq, inR, Bool.and_eq_true, Bool.and_eq_false_iff, Bool.not_eq_true', Bool.not_eq_false', Bool.not_eq_eq_eq_not, Bool.not_true, Bool.not_false] at *; omega))
(.path [1] (by kernel_rfl)
(.node (by kernel_rfl) (by kernel_rfl) (fun h2 =>
(.path [1,1,1] (by kernel_rfl)
(.node (by kernel_rfl) (by kernel_rfl) (fun h3 =>
.none) (fun h3 =>
.none)))) (fun h2 =>
.none)))))))))) (fun h1 =>
(.node (by kernel_rfl) (by kernel_rfl) (fun h2 =>
(.path [1,0,0,0,0,1,1,1] (by kernel_rfl)
(.pt (c := (inR n1 (List.length l0))) (by kernel_rfl) (by kernel_rfl) (by (simp only [w64d, decide_eq_true_eq, decide_eq_false_iff_not, beq_iff_eq, beq_eq_false_iff_ne, bne_iff_ne, ne_eq, inR, Bool.and_eq_true, Bool.and_eq_false_iff, Bool.not_eq_true', Bool.not_eq_false', Bool.not_eq_eq_eq_not, Bool.not_true, Bool.not_false] at *; omega))
(.path [1,1] (by kernel_rfl)
(.pf (c := (Int.tmod (it_1 l0 n1) (5 : Int) == (4 : Int))) (by kernel_rfl) (by kernel_rfl) (by (simp only [w64d, decide_eq_true_eq, decide_eq_false_iff_not, beq_iff_eq, beq_eq_false_iff_ne, bne_iff_ne, ne_eq, inR, Bool.and_eq_true, Bool.and_eq_false_iff, Bool.not_eq_true', Bool.not_eq_false', Bool.not_eq_eq_eq_not, Bool.not_true, Bool.not_false] at *; omega))
(.path [1,1] (by kernel_rfl)
(.pt (c := (inR (Int.tmod (it_1 l0 n1) (5 : Int)) 4)) (by kernel_rfl) (by kernel_rfl) (by (simp only [w64d, decide_eq_true_eq, decide_eq_false_iff_not, beq_iff_eq, beq_eq_false_iff_ne, bne_iff_ne, ne_eq, inR, Bool.and_eq_true, Bool.and_eq_false_iff, Bool.not_eq_true', Bool.not_eq_false', Bool.not_eq_eq_eq_not, Bool.not_true, Bool.not_false] at *; omega))
(.path [1] (by kernel_rfl)
(.node (by kernel_rfl) (by kernel_rfl) (fun h3 =>
(.path [1,1,1] (by kernel_rfl)
(.node (by kernel_rfl) (by kernel_rfl) (fun h4 =>
(.node (by kernel_rfl) (by kernel_rfl) (fun h5 =>
(.path [1,0] (by kernel_rfl)
(.node (by kernel_rfl) (by kernel_rfl) (fun h6 =>
(.path [1,1] (by kernel_rfl)
(.node (by kernel_rfl) (by kernel_rfl) (fun h7 =>
(.path [1] (by kernel_rfl)
(.leaf (by kernel_rfl)))) (fun h7 =>
(.node (by kernel_rfl) (by kernel_rfl) (fun h8 =>
(.path [1] (by kernel_rfl)
(.leaf (by kernel_rfl)))) (fun h8 =>
.none)))))) (fun h6 =>
.none)))) (fun h5 =>
.none))) (fun h4 =>
.none)))) (fun h3 =>
.none)))))))))) (fun h2 =>
.none)))))) (fun h0 =>
(.node (by kernel_rfl) (by kernel_rfl) (fun h1 =>
(.path [1,1,0,0,1,1] (by kernel_rfl)
(.node (by kernel_rfl) (by kernel_rfl) (fun h2 =>
(.path [1,0,0,0,1,1,1] (by kernel_rfl)
(.pt (c := (inR n1 (List.length l0))) (by kernel_rfl) (by kernel_rfl) (by (simp only [w64d, decide_eq_true_eq, decide_eq_false_iff_not, beq_iff_eq, beq_eq_false_iff_ne, bne_iff_ne, ne_eq, inR, Bool.and_eq_true, Bool.and_eq_false_iff, Bool.not_eq_true', Bool.not_eq_false', Bool.not_eq_eq_eq_not, Bool.not_true, Bool.not_false] at *; omega))
(.path [1,1] (by kernel_rfl)
(.pf (c := (Int.tmod (it_1 l0 n1) (5 : Int) == (4 : Int))) (by kernel_rfl) (by kernel_rfl) (by (simp only [w64d, decide_eq_true_eq, decide_eq_false_iff_not, beq_iff_eq, beq_eq_false_iff_ne, bne_iff_ne, ne_eq, inR, Bool.and_eq_true, Bool.and_eq_false_iff, Bool.not_eq_true', Bool.not_eq_false', Bool.not_eq_eq_eq_not, Bool.not_true, Bool.not_false] at *; omega))
(.path [1,1] (by kernel_rfl)
(.pt (c := (inR (Int.tmod (it_1 l0 n1) (5 : Int)) 4)) (by kernel_rfl) (by kernel_rfl) (by (simp only [w64d, decide_eq_true_eq, decide_eq_false_iff_not, beq_iff_eq, beq_eq_false_iff_ne, bne_iff_ne, ne_eq, inR, Bool.and_eq_true, Bool.and_eq_false_iff, Bool.not_eq_true', Bool.not_eq_false', Bool.not_eq_eq_eq_not, Bool.not_true, Bool.not_false] at *; omega))
(.path [1] (by kernel_rfl)
(.node (by kernel_rfl) (by kernel_rfl) (fun h3 =>
(.path [1,1,1] (by kernel_rfl)
(.node (by kernel_rfl) (by kernel_rfl) (fun h4 =>
.none) (fun h4 =>
.none)))) (fun h3 =>
.none)))))))))) (fun h2 =>
(.node (by kernel_rfl) (by kernel_rfl) (fun h3 =>
(.path [1,0,0,0,1,1,1] (by kernel_rfl)
(.pt (c := (inR n1 (List.length l0))) (by kernel_rfl) (by kernel_rfl) (by (simp only [w64d, decide_eq_true_eq, decide_eq_false_iff_not, beq_iff_eq, beq_eq_false_iff_ne, bne_iff_ne, ne_eq, inR, Bool.and_eq_true, Bool.and_eq_false_iff, Bool.not_eq_true', Bool.not_eq_false', Bool.not_eq_eq_eq_not, Bool.not_true, Bool.not_false] at *; omega))
(.path [1,1] (by kernel_rfl)
(.pf (c := (Int.tmod (it_1 l0 n1) (5 : Int) == (4 : Int))) (by kernel_rfl) (by kernel_rfl) (by (simp only [w64d, decide_eq_true_eq, decide_eq_false_iff_not, beq_iff_eq, beq_eq_false_iff_ne, bne_iff_ne, ne_eq, inR, Bool.and_eq_true, Bool.and_eq_false_iff, Bool.not_eq_true', Bool.not_eq_false', Bool.not_eq_eq_eq_not, Bool.not_true, Bool.not_false] at *; omega))
(.path [1,1] (by kernel_rfl)
(.pt (c := (inR (Int.tmod (it_1 l0 n1) (5 : Int)) 4)) (by kernel_rfl) (by kernel_rfl) (by (simp only [w64d, decide_eq_true_eq, decide_eq_false_iff_not, beq_iff_eq, beq_eq_false_iff_ne, bne_iff_ne, ne_eq, inR, Bool.and_eq_true, Bool.and_eq_false_iff, Bool.not_eq_true', Bool.not_eq_false', Bool.not_eq_eq_eq_not, Bool.not_true, Bool.not_false] at *; omega))
(.path [1] (by kernel_rfl)
(.node (by kernel_rfl) (by kernel_rfl) (fun h4 =>
(.path [1,1,1] (by kernel_rfl)
(.node (by kernel_rfl) (by kernel_rfl) (fun h5 =>
(.node (by kernel_rfl) (by kernel_rfl) (fun h6 =>
(.path [1,0] (by kernel_rfl)
(.node (by kernel_rfl) (by kernel_rfl) (fun h7 =>
(.path [1,1] (by kernel_rfl)
(.node (by kernel_rfl) (by kernel_rfl) (fun h8 =>
(.path [1] (by kernel_rfl)
(.leaf (by kernel_rfl)))) (fun h8 =>
(.node (by kernel_rfl) (by kernel_rfl) (fun h9 =>
(.path [1] (by kernel_rfl)
(.leaf (by kernel_rfl)))) (fun h9 =>
.none)))))) (fun h7 =>
.none)))) (fun h6 =>
.none))) (fun h5 =>
.none)))) (fun h4 =>
.none)))))))))) (fun h3 =>
.none)))))) (fun h1 =>
(.node (by kernel_rfl) (by kernel_rfl) (fun h2 =>
(.path [1,1,0,0,0,1,1] (by kernel_rfl)
(.node (by kernel_rfl) (by kernel_rfl) (fun h3 =>
(.path [1,0,0,1,1,1] (by kernel_rfl)
(.pt (c := (inR n1 (List.length l0))) (by kernel_rfl) (by kernel_rfl) (by (simp only [w64d, decide_eq_true_eq, decide_eq_false_iff_not, beq_iff_eq, beq_eq_false_iff_ne, bne_iff_ne, ne_eq, inR, Bool.and_eq_true, Bool.and_eq_false_iff, Bool.not_eq_true', Bool.not_eq_false', Bool.not_eq_eq_eq_not, Bool.not_true, Bool.not_false] at *; omega))
(.path [1,1] (by kernel_rfl)
(.pf (c := (Int.tmod (it_1 l0 n1) (5 : Int) == (4 : Int))) (by kernel_rfl) (by kernel_rfl) (by (simp only [w64d, decide_eq_true_eq, decide_eq_false_iff_not, beq_iff_eq, beq_eq_false_iff_ne, bne_iff_ne, ne_eq, inR, Bool.and_eq_true, Bool.and_eq_false_iff, Bool.not_eq_true', Bool.not_eq_false', Bool.not_eq_eq_eq_not, Bool.not_true, Bool.not_false] at *; omega))
(.path [1,1] (by kernel_rfl)
(.pt (c := (inR (Int.tmod (it_1 l0 n1) (5 : Int)) 4)) (by kernel_rfl) (by kernel_rfl) (by (simp only [w64d, decide_eq_true_eq, decide_eq_false_iff_not, beq_iff_eq, beq_eq_false_iff_ne, bne_iff_ne, ne_eq, inR, Bool.and_eq_true, Bool.and_eq_false_iff, Bool.not_eq_true', Bool.not_eq_false', Bool.not_eq_eq_eq_not, Bool.not_true, Bool.not_false] at *; omega))
(.path [1] (by kernel_rfl)
(.node (by kernel_rfl) (by kernel_rfl) (fun h4 =>
(.path [1,1,1] (by kernel_rfl)
(.node (by kernel_rfl) (by kernel_rfl) (fun h5 =>
.none) (fun h5 =>
.none)))) (fun h4 =>
.none)))))))))) (fun h3 =>
(.node (by kernel_rfl) (by kernel_rfl) (fun h4 =>
(.path [1,0,0,1,1,1] (by kernel_rfl)
(.pt (c := (inR n1 (List.length l0))) (by kernel_rfl) (by kernel_rfl) (by (simp only [w64d, decide_eq_true_eq, decide_eq_false_iff_not, beq_iff_eq, beq_eq_false_iff_ne, bne_iff_ne, ne_eq, inR, Bool.and_eq_true, Bool.and_eq_false_iff, Bool.not_eq_true', Bool.not_eq_false', Bool.not_eq_eq_eq_not, Bool.not_true, Bool.not_false] at *; omega))
(.path [1,1] (by kernel_rfl)
(.pf (c := (Int.tmod (it_1 l0 n1) (5 : Int) == (4 : Int))) (by kernel_rfl) (by kernel_rfl) (by (simp only [w64d, decide_eq_true_eq, decide_eq_false_iff_not, beq_iff_eq, beq_eq_false_iff_ne, bne_iff_ne, ne_eq, inR, Bool.and_eq_true, Bool.and_eq_false_iff, Bool.not_eq_true', Bool.not_eq_false', Bool.not_eq_eq_eq_not, Bool.not_true, Bool.not_false] at *; omega))
(.path [1,1] (by kernel_rfl)
(.pt (c := (inR (Int.tmod (it_1 l0 n1) (5 : Int)) 4)) (by kernel_rfl) (by kernel_rfl) (by (simp only [w64d, decide_eq_true_eq, decide_eq_false_iff_not, beq_iff_eq, beq_eq_false_iff_ne, bne_iff_ne, ne_eq, inR, Bool.and_eq_true, Bool.and_eq_false_iff, Bool.not_eq_true', Bool.not_eq_false', Bool.not_eq_eq_eq_not, Bool.not_true, Bool.not_false] at *; omega))
(.path [1] (by kernel_rfl)
(.node (by kernel_rfl) (by kernel_rfl) (fun h5 =>
(.path [1,1,1] (by kernel_rfl)
(.node (by kernel_rfl) (by kernel_rfl) (fun h6 =>
(.node (by kernel_rfl) (by kernel_rfl) (fun h7 =>
(.path [1,0] (by kernel_rfl)
(.node (by kernel_rfl) (by kernel_rfl) (fun h8 =>
(.path [1,1] (by kernel_rfl)
(.node (by kernel_rfl) (by kernel_rfl) (fun h9 =>
(.path [1] (by kernel_rfl)
(.leaf (by kernel_rfl)))) (fun h9 =>
(.node (by kernel_rfl) (by kernel_rfl) (fun h10 =>
(.path [1] (by kernel_rfl)
(.leaf (by kernel_rfl)))) (fun h10 =>
.none)))))) (fun h8 =>
.none)))) (fun h7 =>
.none))) (fun h6 =>
.none)))) (fun h5 =>
.none)))))))))) (fun h4 =>
.none)))))) (fun h2 =>
(.node (by kernel_rfl) (by kernel_rfl) (fun h3 =>
(.path [1,1,0,0,0,0,1,1] (by kernel_rfl)
(.node (by kernel_rfl) (by kernel_rfl) (fun h4 =>
(.path [1,0,1,1,1] (by kernel_rfl)
(.pt (c := (inR n1 (List.length l0))) (by kernel_rfl) (by kernel_rfl) (by (simp only [w64d, decide_eq_true_eq, decide_eq_false_iff_not, beq_iff_eq, beq_eq_false_iff_ne, bne_iff_ne, ne_eq, inR, Bool.and_eq_true, Bool.and_eq_false_iff, Bool.not_eq_true', Bool.not_eq_false', Bool.not_eq_eq_eq_not, Bool.not_true, Bool.not_false] at *; omega))
(.path [1,1] (by kernel_rfl)
(.pf (c := (Int.tmod (it_1 l0 n1) (5 : Int) == (4 : Int))) (by kernel_rfl) (by kernel_rfl) (by (simp only [w64d, decide_eq_true_eq, decide_eq_false_iff_not, beq_iff_eq, beq_eq_false_iff_ne, bne_iff_ne, ne_eq, inR, Bool.and_eq_true, Bool.and_eq_false_iff, Bool.not_eq_true', Bool.not_eq_false', Bool.not_eq_eq_eq_not, Bool.not_true, Bool.not_false] at *; omega))
(.path [1,1] (by kernel_rfl)
(.pt (c := (inR (Int.tmod (it_1 l0 n1) (5 : Int)) 4)) (by kernel_rfl) (by kernel_rfl) (by (simp only [w64d, decide_eq_true_eq, decide_eq_false_iff_not, beq_iff_eq, beq_eq_false_iff_ne, bne_iff_ne, ne_eq, inR, Bool.and_eq_true, Bool.and_eq_false_iff, Bool.not_eq_true', Bool.not_eq_false', Bool.not_eq_eq_eq_not, Bool.not_true, Bool.not_false] at *; omega))
(.path [1] (by kernel_rfl)
(.node (by kernel_rfl) (by kernel_rfl) (fun h5 =>
(.path [1,1,1] (by kernel_rfl)
(.node (by kernel_rfl) (by kernel_rfl) (fun h6 =>
.none) (fun h6 =>
.none)))) (fun h5 =>
.none)))))))))) (fun h4 =>
(.node (by kernel_rfl) (by kernel_rfl) (fun h5 =>
(.path [1,0,1,1,1] (by kernel_rfl)
(.pt (c := (inR n1 (List.length l0))) (by kernel_rfl) (by kernel_rfl) (by (simp only [w64d, decide_eq_true_eq, decide_eq_false_iff_not, beq_iff_eq, beq_eq_false_iff_ne, bne_iff_ne, ne_eq, inR, Bool.and_eq_true, Bool.and_eq_false_iff, Bool.not_eq_true', Bool.not_eq_false', Bool.not_eq_eq_eq_not, Bool.not_true, Bool.not_false] at *; omega))
(.path [1,1] (by kernel_rfl)
(.pf (c := (Int.tmod (it_1 l0 n1) (5 : Int) == (4 : Int))) (by kernel_rfl) (by kernel_rfl) (by (simp only [w64d, decide_eq_true_eq, decide_eq_false_iff_not, beq_iff_eq, beq_eq_false_iff_ne, bne_iff_ne, ne_eq, inR, Bool.and_eq_true, Bool.and_eq_false_iff, Bool.not_eq_true', Bool.not_eq_false', Bool.not_eq_eq_eq_not, Bool.not_true, Bool.not_false] at *; omega))
(.path [1,1] (by kernel_rfl)
(.pt (c := (inR (Int.tmod (it_1 l0 n1) (5 : Int)) 4)) (by kernel_rfl) (by kernel_rfl) (by (simp only [w64d, decide_eq_true_eq, decide_eq_false_iff_not, beq_iff_eq, beq_eq_false_iff_ne, bne_iff_ne, ne_eq, inR, Bool.and_eq_true, Bool.and_eq_false_iff, Bool.not_eq_true', Bool.not_eq_false', Bool.not_eq_eq_eq_not, Bool.not_true, Bool.not_false] at *; omega))
(.path [1] (by kernel_rfl)
(.node (by kernel_rfl) (by kernel_rfl) (fun h6 =>
(.path [1,1,1] (by kernel_rfl)
(.node (by kernel_rfl) (by kernel_rfl) (fun h7 =>
(.node (by kernel_rfl) (by kernel_rfl) (fun h8 =>
(.path [1,0] (by kernel_rfl)
(.node (by kernel_rfl) (by kernel_rfl) (fun h9 =>
(.path [1,1] (by kernel_rfl)
(.node (by kernel_rfl) (by kernel_rfl) (fun h10 =>
(.path [1] (by kernel_rfl)
(.leaf (by kernel_rfl)))) (fun h10 =>
(.node (by kernel_rfl) (by kernel_rfl) (fun h11 =>
(.path [1] (by kernel_rfl)
(.leaf (by kernel_rfl)))) (fun h11 =>
.none)))))) (fun h9 =>
.none)))) (fun h8 =>
.none))) (fun h7 =>
.none)))) (fun h6 =>
.none)))))))))) (fun h5 =>
.none)))))) (fun h3 =>
(.path [1,1,0,0,0,0,0,1] (by kernel_rfl)
(.node (by kernel_rfl) (by kernel_rfl) (fun h4 =>
(.path [1,1,1] (by kernel_rfl)
(.pt (c := (inR n1 (List.length l0))) (by kernel_rfl) (by kernel_rfl) (by (simp only [w64d, decide_eq_true_eq, decide_eq_false_iff_not, beq_iff_eq, beq_eq_false_iff_ne, bne_iff_ne, ne_eq, inR, Bool.and_eq_true, Bool.and_eq_false_iff, Bool.not_eq_true', Bool.not_eq_false', Bool.not_eq_eq_eq_not, Bool.not_true, Bool.not_false] at *; omega))
(.path [1,1] (by kernel_rfl)
(.node (by kernel_rfl) (by kernel_rfl) (fun h5 =>
(.path [1] (by kernel_rfl)
(.node (by kernel_rfl) (by kernel_rfl) (fun h6 =>
(.node (by kernel_rfl) (by kernel_rfl) (fun h7 =>
(.path [1,0] (by kernel_rfl)
(.node (by kernel_rfl) (by kernel_rfl) (fun h8 =>
(.path [1,1] (by kernel_rfl)
(.node (by kernel_rfl) (by kernel_rfl) (fun h9 =>
(.path [1] (by kernel_rfl)
(.leaf (by kernel_rfl)))) (fun h9 =>
(.node (by kernel_rfl) (by kernel_rfl) (fun h10 =>
(.path [1] (by kernel_rfl)
(.leaf (by kernel_rfl)))) (fun h10 =>
.none)))))) (fun h8 =>
.none)))) (fun h7 =>
.none))) (fun h6 =>
.none)))) (fun h5 =>
(.path [1,1] (by kernel_rfl)
(.pf (c := (inR (Int.tmod (it_1 l0 n1) (5 : Int)) 4)) (by kernel_rfl) (by kernel_rfl) (by (simp only [w64d, decide_eq_true_eq, decide_eq_false_iff_not, beq_iff_eq, beq_eq_false_iff_ne, bne_iff_ne, ne_eq, inR, Bool.and_eq_true, Bool.and_eq_false_iff, Bool.not_eq_true', Bool.not_eq_false', Bool.not_eq_eq_eq_not, Bool.not_true, Bool.not_false] at *; omega))
.none)))))))) (fun h4 =>
.none)))))))))))))))

noncomputable def fn_L3_6_o : List Dat → Tree Step
  | [.l (Ty.pair (Ty.int IntKind.u8) (Ty.pair (Ty.int IntKind.u64) (Ty.sl (Ty.int IntKind.u8)))) l0, .n n1, .l (Ty.int IntKind.u8) l2] =>
    (.node (Int.tmod (it_1 l0 n1) (5 : Int) == (0 : Int))
     (let r1 : Option (Nat × List Dat) := (op_35b [.n (IntKind.wrap .u64 (IntKind.wrap .u8 (it_2 l0 n1))), .n (1 : Int), .l (Ty.int IntKind.u8) l2]);
      (.node (isK 0 [HK.l (Ty.int IntKind.u8)] r1)
       (let r2 : Option (Nat × List Dat) := (op_30 [.n (it_2 l0 n1), .n (List.getD [(1 : Int), (2 : Int), (4 : Int), (8 : Int)] (Int.toNat (Int.tmod (it_1 l0 n1) (5 : Int))) (0 : Int))]);
        (.node (isK 0 [HK.l (Ty.int IntKind.u8)] r2)
         (.node (decide ((List.length l2 + List.length (gl (Ty.int IntKind.u8) (dOf r2) 0)) * 1 ≤ 140737488355328))
          (let r3 : Option (Nat × List Dat) := (op_L3_13 [.k 0, .l TIt l0, .n n1, .n (0 : Int), .l (Ty.int IntKind.u8) (l2 ++ gl (Ty.int IntKind.u8) (dOf r2) 0), .n (it_1 l0 n1), .n (it_2 l0 n1), .l (Ty.int IntKind.u8) (gl (Ty.int IntKind.u8) (dOf r1) 0), .l (Ty.int IntKind.u8) (bytesOf (strOf (it_3 l0 n1)))]);
           (.node (isK 0 [HK.l TIt, HK.n, HK.l (Ty.int IntKind.u8), HK.l (Ty.int IntKind.u8)] r3)
            (let r4 : Option (Nat × List Dat) := (op_31 [.l (Ty.int IntKind.u8) (gl (Ty.int IntKind.u8) (dOf r3) 3)]);
             (.node (isK 0 [HK.l (Ty.int IntKind.u8)] r4)
              (.node (!strEq (strOf (gl (Ty.int IntKind.u8) (dOf r4) 0)) (strOf (gl (Ty.int IntKind.u8) (dOf r3) 2)))
               (.leaf (Step.stop 2 [.b false]))
               (let r5 : Option (Nat × List Dat) := (op_L3_20 [.k 0, .l TIt (gl TIt (dOf r3) 0), .n (gn (dOf r3) 1), .n (0 : Int), .l (Ty.int IntKind.u8) (gl (Ty.int IntKind.u8) (dOf r3) 2), .l (Ty.int IntKind.u8) (gl (Ty.int IntKind.u8) (dOf r4) 0), .l (Ty.int IntKind.u8) (gl (Ty.int IntKind.u8) (dOf r3) 3)]);
                (.node (isK 0 [HK.l TIt, HK.n, HK.l (Ty.int IntKind.u8), HK.l (Ty.int IntKind.u8)] r5)
                 (.leaf (Step.go [.k 1, .l TIt (gl TIt (dOf r5) 0), .n (IntKind.wrap .i64 (gn (dOf r5) 1 + (1 : Int))), .l (Ty.int IntKind.u8) (gl (Ty.int IntKind.u8) (dOf r5) 2), .l (Ty.int IntKind.u8) (gl (Ty.int IntKind.u8) (dOf r5) 3)]))
                 (.bad 351))))
              (.bad 351)))
            (.bad 351)))
          (.bad 62))
         (.bad 351)))
       (.bad 351)))
     (.node (Int.tmod (it_1 l0 n1) (5 : Int) == (1 : Int))
      (let r1 : Option (Nat × List Dat) := (op_35b [.n (IntKind.wrap .u64 (IntKind.wrap .u16 (it_2 l0 n1))), .n (2 : Int), .l (Ty.int IntKind.u8) l2]);
       (.node (isK 0 [HK.l (Ty.int IntKind.u8)] r1)
        (let r2 : Option (Nat × List Dat) := (op_30 [.n (it_2 l0 n1), .n (List.getD [(1 : Int), (2 : Int), (4 : Int), (8 : Int)] (Int.toNat (Int.tmod (it_1 l0 n1) (5 : Int))) (0 : Int))]);
         (.node (isK 0 [HK.l (Ty.int IntKind.u8)] r2)
          (.node (decide ((List.length l2 + List.length (gl (Ty.int IntKind.u8) (dOf r2) 0)) * 1 ≤ 140737488355328))
           (let r3 : Option (Nat × List Dat) := (op_L3_13 [.k 0, .l TIt l0, .n n1, .n (0 : Int), .l (Ty.int IntKind.u8) (l2 ++ gl (Ty.int IntKind.u8) (dOf r2) 0), .n (it_1 l0 n1), .n (it_2 l0 n1), .l (Ty.int IntKind.u8) (gl (Ty.int IntKind.u8) (dOf r1) 0), .l (Ty.int IntKind.u8) (bytesOf (strOf (it_3 l0 n1)))]);
            (.node (isK 0 [HK.l TIt, HK.n, HK.l (Ty.int IntKind.u8), HK.l (Ty.int IntKind.u8)] r3)
             (let r4 : Option (Nat × List Dat) := (op_31 [.l (Ty.int IntKind.u8) (gl (Ty.int IntKind.u8) (dOf r3) 3)]);
              (.node (isK 0 [HK.l (Ty.int IntKind.u8)] r4)
               (.node (!strEq (strOf (gl (Ty.int IntKind.u8) (dOf r4) 0)) (strOf (gl (Ty.int IntKind.u8) (dOf r3) 2)))
                (.leaf (Step.stop 2 [.b false]))
                (let r5 : Option (Nat × List Dat) := (op_L3_20 [.k 0, .l TIt (gl TIt (dOf r3) 0), .n (gn (dOf r3) 1), .n (0 : Int), .l (Ty.int IntKind.u8) (gl (Ty.int IntKind.u8) (dOf r3) 2), .l (Ty.int IntKind.u8) (gl (Ty.int IntKind.u8) (dOf r4) 0), .l (Ty.int IntKind.u8) (gl (Ty.int IntKind.u8) (dOf r3) 3)]);
                 (.node (isK 0 [HK.l TIt, HK.n, HK.l (Ty.int IntKind.u8), HK.l (Ty.int IntKind.u8)] r5)
                  (.leaf (Step.go [.k 1, .l TIt (gl TIt (dOf r5) 0), .n (IntKind.wrap .i64 (gn (dOf r5) 1 + (1 : Int))), .l (Ty.int IntKind.u8) (gl (Ty.int IntKind.u8) (dOf r5) 2), .l (Ty.int IntKind.u8) (gl (Ty.int IntKind.u8) (dOf r5) 3)]))
                  (.bad 351))))
               (.bad 351)))
             (.bad 351)))
           (.bad 62))
          (.bad 351)))
        (.bad 351)))
      (.node (Int.tmod (it_1 l0 n1) (5 : Int) == (2 : Int))
       (let r1 : Option (Nat × List Dat) := (op_35b [.n (IntKind.wrap .u64 (IntKind.wrap .u32 (it_2 l0 n1))), .n (4 : Int), .l (Ty.int IntKind.u8) l2]);
        (.node (isK 0 [HK.l (Ty.int IntKind.u8)] r1)
         (let r2 : Option (Nat × List Dat) := (op_30 [.n (it_2 l0 n1), .n (List.getD [(1 : Int), (2 : Int), (4 : Int), (8 : Int)] (Int.toNat (Int.tmod (it_1 l0 n1) (5 : Int))) (0 : Int))]);
          (.node (isK 0 [HK.l (Ty.int IntKind.u8)] r2)
           (.node (decide ((List.length l2 + List.length (gl (Ty.int IntKind.u8) (dOf r2) 0)) * 1 ≤ 140737488355328))
            (let r3 : Option (Nat × List Dat) := (op_L3_13 [.k 0, .l TIt l0, .n n1, .n (0 : Int), .l (Ty.int IntKind.u8) (l2 ++ gl (Ty.int IntKind.u8) (dOf r2) 0), .n (it_1 l0 n1), .n (it_2 l0 n1), .l (Ty.int IntKind.u8) (gl (Ty.int IntKind.u8) (dOf r1) 0), .l (Ty.int IntKind.u8) (bytesOf (strOf (it_3 l0 n1)))]);
             (.node (isK 0 [HK.l TIt, HK.n, HK.l (Ty.int IntKind.u8), HK.l (Ty.int IntKind.u8)] r3)
              (let r4 : Option (Nat × List Dat) := (op_31 [.l (Ty.int IntKind.u8) (gl (Ty.int IntKind.u8) (dOf r3) 3)]);
               (.node (isK 0 [HK.l (Ty.int IntKind.u8)] r4)
                (.node (!strEq (strOf (gl (Ty.int IntKind.u8) (dOf r4) 0)) (strOf (gl (Ty.int IntKind.u8) (dOf r3) 2)))
                 (.leaf (Step.stop 2 [.b false]))
                 (let r5 : Option (Nat × List Dat) := (op_L3_20 [.k 0, .l TIt (gl TIt (dOf r3) 0), .n (gn (dOf r3) 1), .n (0 : Int), .l (Ty.int IntKind.u8) (gl (Ty.int IntKind.u8) (dOf r3) 2), .l (Ty.int IntKind.u8) (gl (Ty.int IntKind.u8) (dOf r4) 0), .l (Ty.int IntKind.u8) (gl (Ty.int IntKind.u8) (dOf r3) 3)]);
                  (.node (isK 0 [HK.l TIt, HK.n, HK.l (Ty.int IntKind.u8), HK.l (Ty.int IntKind.u8)] r5)
                   (.leaf (Step.go [.k 1, .l TIt (gl TIt (dOf r5) 0), .n (IntKind.wrap .i64 (gn (dOf r5) 1 + (1 : Int))), .l (Ty.int IntKind.u8) (gl (Ty.int IntKind.u8) (dOf r5) 2), .l (Ty.int IntKind.u8) (gl (Ty.int IntKind.u8) (dOf r5) 3)]))
                   (.bad 351))))
                (.bad 351)))
              (.bad 351)))
            (.bad 62))
           (.bad 351)))
         (.bad 351)))
       (.node (Int.tmod (it_1 l0 n1) (5 : Int) == (3 : Int))
        (let r1 : Option (Nat × List Dat) := (op_35b [.n (it_2 l0 n1), .n (8 : Int), .l (Ty.int IntKind.u8) l2]);
         (.node (isK 0 [HK.l (Ty.int IntKind.u8)] r1)
          (let r2 : Option (Nat × List Dat) := (op_30 [.n (it_2 l0 n1), .n (List.getD [(1 : Int), (2 : Int), (4 : Int), (8 : Int)] (Int.toNat (Int.tmod (it_1 l0 n1) (5 : Int))) (0 : Int))]);
           (.node (isK 0 [HK.l (Ty.int IntKind.u8)] r2)
            (.node (decide ((List.length l2 + List.length (gl (Ty.int IntKind.u8) (dOf r2) 0)) * 1 ≤ 140737488355328))
             (let r3 : Option (Nat × List Dat) := (op_L3_13 [.k 0, .l TIt l0, .n n1, .n (0 : Int), .l (Ty.int IntKind.u8) (l2 ++ gl (Ty.int IntKind.u8) (dOf r2) 0), .n (it_1 l0 n1), .n (it_2 l0 n1), .l (Ty.int IntKind.u8) (gl (Ty.int IntKind.u8) (dOf r1) 0), .l (Ty.int IntKind.u8) (bytesOf (strOf (it_3 l0 n1)))]);
              (.node (isK 0 [HK.l TIt, HK.n, HK.l (Ty.int IntKind.u8), HK.l (Ty.int IntKind.u8)] r3)
               (let r4 : Option (Nat × List Dat) := (op_31 [.l (Ty.int IntKind.u8) (gl (Ty.int IntKind.u8) (dOf r3) 3)]);
                (.node (isK 0 [HK.l (Ty.int IntKind.u8)] r4)
                 (.node (!strEq (strOf (gl (Ty.int IntKind.u8) (dOf r4) 0)) (strOf (gl (Ty.int IntKind.u8) (dOf r3) 2)))
                  (.leaf (Step.stop 2 [.b false]))
                  (let r5 : Option (Nat × List Dat) := (op_L3_20 [.k 0, .l TIt (gl TIt (dOf r3) 0), .n (gn (dOf r3) 1), .n (0 : Int), .l (Ty.int IntKind.u8) (gl (Ty.int IntKind.u8) (dOf r3) 2), .l (Ty.int IntKind.u8) (gl (Ty.int IntKind.u8) (dOf r4) 0), .l (Ty.int IntKind.u8) (gl (Ty.int IntKind.u8) (dOf r3) 3)]);
                   (.node (isK 0 [HK.l TIt, HK.n, HK.l (Ty.int IntKind.u8), HK.l (Ty.int IntKind.u8)] r5)
                    (.leaf (Step.go [.k 1, .l TIt (gl TIt (dOf r5) 0), .n (IntKind.wrap .i64 (gn (dOf r5) 1 + (1 : Int))), .l (Ty.int IntKind.u8) (gl (Ty.int IntKind.u8) (dOf r5) 2), .l (Ty.int IntKind.u8) (gl (Ty.int IntKind.u8) (dOf r5) 3)]))
                    (.bad 351))))
                 (.bad 351)))
               (.bad 351)))
             (.bad 62))
            (.bad 351)))
          (.bad 351)))
        (.node (decide ((List.length l2 + List.length (bytesOf (strOf (it_3 l0 n1)))) * 1 ≤ 140737488355328))
         (.node (Int.tmod (it_1 l0 n1) (5 : Int) == (4 : Int))
          (.node (decide ((List.length l2 + List.length (it_3 l0 n1)) * 1 ≤ 140737488355328))
           (let r1 : Option (Nat × List Dat) := (op_L3_13 [.k 0, .l TIt l0, .n n1, .n (0 : Int), .l (Ty.int IntKind.u8) (l2 ++ it_3 l0 n1), .n (it_1 l0 n1), .n (it_2 l0 n1), .l (Ty.int IntKind.u8) (l2 ++ bytesOf (strOf (it_3 l0 n1))), .l (Ty.int IntKind.u8) (bytesOf (strOf (it_3 l0 n1)))]);
            (.node (isK 0 [HK.l TIt, HK.n, HK.l (Ty.int IntKind.u8), HK.l (Ty.int IntKind.u8)] r1)
             (let r2 : Option (Nat × List Dat) := (op_31 [.l (Ty.int IntKind.u8) (gl (Ty.int IntKind.u8) (dOf r1) 3)]);
              (.node (isK 0 [HK.l (Ty.int IntKind.u8)] r2)
               (.node (!strEq (strOf (gl (Ty.int IntKind.u8) (dOf r2) 0)) (strOf (gl (Ty.int IntKind.u8) (dOf r1) 2)))
                (.leaf (Step.stop 2 [.b false]))
                (let r3 : Option (Nat × List Dat) := (op_L3_20 [.k 0, .l TIt (gl TIt (dOf r1) 0), .n (gn (dOf r1) 1), .n (0 : Int), .l (Ty.int IntKind.u8) (gl (Ty.int IntKind.u8) (dOf r1) 2), .l (Ty.int IntKind.u8) (gl (Ty.int IntKind.u8) (dOf r2) 0), .l (Ty.int IntKind.u8) (gl (Ty.int IntKind.u8) (dOf r1) 3)]);
                 (.node (isK 0 [HK.l TIt, HK.n, HK.l (Ty.int IntKind.u8), HK.l (Ty.int IntKind.u8)] r3)
                  (.leaf (Step.go [.k 1, .l TIt (gl TIt (dOf r3) 0), .n (IntKind.wrap .i64 (gn (dOf r3) 1 + (1 : Int))), .l (Ty.int IntKind.u8) (gl (Ty.int IntKind.u8) (dOf r3) 2), .l (Ty.int IntKind.u8) (gl (Ty.int IntKind.u8) (dOf r3) 3)]))
                  (.bad 351))))
               (.bad 351)))
             (.bad 351)))
           (.bad 62))
          (.bad 12))
         (.bad 62))))))
  | _ => .bad 0
theorem fn_L3_6_o_im (l0 : List (Ty.den TIt)) (n1 : Int) (l2 : List (Ty.den (Ty.int IntKind.u8))) (g0 : 0 ≤ n1) (g1 :  n1 < (l0.length : Int)) : Imp (fn_L3_6_o [.l TIt l0, .n n1, .l (Ty.int IntKind.u8) l2]) (st_L3_6 [.k 1, .l TIt l0, .n n1, .l TB l2, .l TB l2]) :=
(.path [1] (by kernel_rfl)
(.pt (c := (decide (n1 < (↑(List.length l0) : Int)))) (by kernel_rfl) (by kernel_rfl) (by (simp [*]; done))
(.pt (c := (inR n1 (List.length l0))) (by kernel_rfl) (by kernel_rfl) (by (simp only [w64d, decide_eq_true_eq, decide_eq_false_iff_not, beq_iff_eq, beq_eq_false_iff_ne, bne_iff_ne, ne_eq, inR, Bool.and_eq_true, Bool.and_eq_false_iff, Bool.not_eq_true', Bool.not_eq_false', Bool.not_eq_eq_eq_not, Bool.not_true, Bool.not_false] at *; omega))
(.path [1,1] (by kernel_rfl)
(.node (by kernel_rfl) (by kernel_rfl) (fun h0 =>
(.path [1,1,0,1,1] (by kernel_rfl)
(.node (by kernel_rfl) (by kernel_rfl) (fun h1 =>
(.path [1,0,0,0,0,1,1,1] (by kernel_rfl)
(.pt (c := (inR n1 (List.length l0))) (by kernel_rfl) (by kernel_rfl) (by (simp only [w64d, decide_eq_true_eq, decide_eq_false_iff_not, beq_iff_eq, beq_eq_false_iff_ne, bne_iff_ne, ne_eq, inR, Bool.and_eq_true, Bool.and_eq_false_iff, Bool.not_eq_true', Bool.not_eq_false', Bool.not_eq_eq_eq_not, Bool.not_true, Bool.not_false] at *; omega))
(.path [1,1] (by kernel_rfl)
(.pf (c := (Int.tmod (it_1 l0 n1) (5 : Int) == (4 : Int))) (by kernel_rfl) (by kernel_rfl) (by (simp only [w64d, decide_eq_true_eq, decide_eq_false_iff_not, beq_iff_eq, beq_eq_false_iff_ne, bne_iff_ne, ne_eq, inR, Bool.and_eq_true, Bool.and_eq_false_iff, Bool.not_eq_true', Bool.not_eq_false', Bool.not_eq_eq_eq_not, Bool.not_true, Bool.not_false] at *; omega))
(.path [1,1] (by kernel_rfl)
(.pt (c := (inR (Int.tmod (it_1 l0 n1) (5 : Int)) 4)) (by kernel_rfl) (by kernel_rfl) (by (simp only [w64d, decide_eq_true_eq, decide_eq_false_iff_not, beq_iff_eq, beq_eq_false_iff_ne, bne_iff_ne, ne_eq, inR, Bool.and_eq_true, Bool.and_eq_false_iff, Bool.not_eq_true', Bool.not_eq_false', Bool.not_eq_eq_eq_not, Bool.not_true, Bool.not_false] at *; omega))
(.path [1] (by kernel_rfl)
(.node (by kernel_rfl) (by kernel_rfl) (fun h2 =>
(.path [1,1,1] (by kernel_rfl)
(.node (by kernel_rfl) (by kernel_rfl) (fun h3 =>
(.node (by kernel_rfl) (by kernel_rfl) (fun h4 =>
(.path [1,0] (by kernel_rfl)
(.node (by kernel_rfl) (by kernel_rfl) (fun h5 =>
(.path [1,1] (by kernel_rfl)
(.node (by kernel_rfl) (by kernel_rfl) (fun h6 =>
(.path [1] (by kernel_rfl)
(.leaf (by kernel_rfl)))) (fun h6 =>
(.node (by kernel_rfl) (by kernel_rfl) (fun h7 =>
(.path [1] (by kernel_rfl)
(.leaf (by kernel_rfl)))) (fun h7 =>
.none)))))) (fun h5 =>
.none)))) (fun h4 =>
.none))) (fun h3 =>
.none)))) (fun h2 =>
.none)))))))))) (fun h1 =>
.none)))) (fun h0 =>
(.node (by kernel_rfl) (by kernel_rfl) (fun h1 =>
(.path [1,1,0,0,1,1] (by kernel_rfl)
(.node (by kernel_rfl) (by kernel_rfl) (fun h2 =>
(.path [1,0,0,0,1,1,1] (by kernel_rfl)
(.pt (c := (inR n1 (List.length l0))) (by kernel_rfl) (by kernel_rfl) (by (simp only [w64d, decide_eq_true_eq, decide_eq_false_iff_not, beq_iff_eq, beq_eq_false_iff_ne, bne_iff_ne, ne_eq, inR, Bool.and_eq_true, Bool.and_eq_false_iff, Bool.not_eq_true', Bool.not_eq_false', Bool.not_eq_eq_eq_not, Bool.not_true, Bool.not_false] at *; omega))
(.path [1,1] (by kernel_rfl)
(.pf (c := (Int.tmod (it_1 l0 n1) (5 : Int) == (4 : Int))) (by kernel_rfl) (by kernel_rfl) (by (simp only [w64d, decide_eq_true_eq, decide_eq_false_iff_not, beq_iff_eq, beq_eq_false_iff_ne, bne_iff_ne, ne_eq, inR, Bool.and_eq_true, Bool.and_eq_false_iff, Bool.not_eq_true', Bool.not_eq_false', Bool.not_eq_eq_eq_not, Bool.not_true, Bool.not_false] at *; omega))
(.path [1,1] (by kernel_rfl)
(.pt (c := (inR (Int.tmod (it_1 l0 n1) (5 : Int)) 4)) (by kernel_rfl) (by kernel_rfl) (by (simp only [w64d, decide_eq_true_eq, decide_eq_false_iff_not, beq_iff_eq, beq_eq_false_iff_ne, bne_iff_ne, ne_eq, inR, Bool.and_eq_true, Bool.and_eq_false_iff, Bool.not_eq_true', Bool.not_eq_false', Bool.not_eq_eq_eq_not, Bool.not_true, Bool.not_false] at *; omega))
(.path [1] (by kernel_rfl)
(.node (by kernel_rfl) (by kernel_rfl) (fun h3 =>
(.path [1,1,1] (by kernel_rfl)
(.node (by kernel_rfl) (by kernel_rfl) (fun h4 =>
(.node (by kernel_rfl) (by kernel_rfl) (fun h5 =>
(.path [1,0] (by kernel_rfl)
(.node (by kernel_rfl) (by kernel_rfl) (fun h6 =>
(.path [1,1] (by kernel_rfl)
(.node (by kernel_rfl) (by kernel_rfl) (fun h7 =>
(.path [1] (by kernel_rfl)
(.leaf (by kernel_rfl)))) (fun h7 =>
(.node (by kernel_rfl) (by kernel_rfl) (fun h8 =>
(.path [1] (by kernel_rfl)
(.leaf (by kernel_rfl)))) (fun h8 =>
.none)))))) (fun h6 =>
.none)))) (fun h5 =>
.none))) (fun h4 =>
.none)))) (fun h3 =>
.none)))))))))) (fun h2 =>
.none)))) (fun h1 =>
(.node (by kernel_rfl) (by kernel_rfl) (fun h2 =>
(.path [1,1,0,0,0,1,1] (by kernel_rfl)
(.node (by kernel_rfl) (by kernel_rfl) (fun h3 =>
(.path [1,0,0,1,1,1] (by kernel_rfl)
(.pt (c := (inR n1 (List.length l0))) (by kernel_rfl) (by kernel_rfl) (by (simp only [w64d, decide_eq_true_eq, decide_eq_false_iff_not, beq_iff_eq, beq_eq_false_iff_ne, bne_iff_ne, ne_eq, inR, Bool.and_eq_true, Bool.and_eq_false_iff, Bool.not_eq_true', Bool.not_eq_false', Bool.not_eq_eq_eq_not, Bool.not_true, Bool.not_false] at *; omega))
(.path [1,1] (by kernel_rfl)
(.pf (c := (Int.tmod (it_1 l0 n1) (5 : Int) == (4 : Int))) (by kernel_rfl) (by kernel_rfl) (by (simp only [w64d, decide_eq_true_eq, decide_eq_false_iff_not, beq_iff_eq, beq_eq_false_iff_ne, bne_iff_ne, ne_eq, inR, Bool.and_eq_true, Bool.and_eq_false_iff, Bool.not_eq_true', Bool.not_eq_false', Bool.not_eq_eq_eq_not, Bool.not_true, Bool.not_false] at *; omega))
(.path [1,1] (by kernel_rfl)
(.pt (c := (inR (Int.tmod (it_1 l0 n1) (5 : Int)) 4)) (by kernel_rfl) (by kernel_rfl) (by (simp only [w64d, decide_eq_true_eq, decide_eq_false_iff_not, beq_iff_eq, beq_eq_false_iff_ne, bne_iff_ne, ne_eq, inR, Bool.and_eq_true, Bool.and_eq_false_iff, Bool.not_eq_true', Bool.not_eq_false', Bool.not_eq_eq_eq_not, Bool.not_true, Bool.not_false] at *; omega))
(.path [1] (by kernel_rfl)
(.node (by kernel_rfl) (by kernel_rfl) (fun h4 =>
(.path [1,1,1] (by kernel_rfl)
(.node (by kernel_rfl) (by kernel_rfl) (fun h5 =>
(.node (by kernel_rfl) (by kernel_rfl) (fun h6 =>
(.path [1,0] (by kernel_rfl)
(.node (by kernel_rfl) (by kernel_rfl) (fun h7 =>
(.path [1,1] (by kernel_rfl)
(.node (by kernel_rfl) (by kernel_rfl) (fun h8 =>
(.path [1] (by kernel_rfl)
(.leaf (by kernel_rfl)))) (fun h8 =>
(.node (by kernel_rfl) (by kernel_rfl) (fun h9 =>
(.path [1] (by kernel_rfl)
(.leaf (by kernel_rfl)))) (fun h9 =>
.none)))))) (fun h7 =>
.none)))) (fun h6 =>
.none))) (fun h5 =>
.none)))) (fun h4 =>
.none)))))))))) (fun h3 =>
.none)))) (fun h2 =>
(.node (by kernel_rfl) (by kernel_rfl) (fun h3 =>
(.path [1,1,0,0,0,0,1,1] (by kernel_rfl)
(.node (by kernel_rfl) (by kernel_rfl) (fun h4 =>
(.path [1,0,1,1,1] (by kernel_rfl)
(.pt (c := (inR n1 (List.length l0))) (by kernel_rfl) (by kernel_rfl) (by (simp only [w64d, decide_eq_true_eq, decide_eq_false_iff_not, beq_iff_eq, beq_eq_false_iff_ne, bne_iff_ne, ne_eq, inR, Bool.and_eq_true, Bool.and_eq_false_iff, Bool.not_eq_true', Bool.not_eq_false', Bool.not_eq_eq_eq_not, Bool.not_true, Bool.not_false] at *; omega))
(.path [1,1] (by kernel_rfl)
(.pf (c := (Int.tmod (it_1 l0 n1) (5 : Int) == (4 : Int))) (by kernel_rfl) (by kernel_rfl) (by (simp only [w64d, decide_eq_true_eq, decide_eq_false_iff_not, beq_iff_eq, beq_eq_false_iff_ne, bne_iff_ne, ne_eq, inR, Bool.and_eq_true, Bool.and_eq_false_iff, Bool.not_eq_true', Bool.not_eq_false', Bool.not_eq_eq_eq_not, Bool.not_true, Bool.not_false] at *; omega))
(.path [1,1] (by kernel_rfl)
(.pt (c := (inR (Int.tmod (it_1 l0 n1) (5 : Int)) 4)) (by kernel_rfl) (by kernel_rfl) (by (simp only [w64d, decide_eq_true_eq, decide_eq_false_iff_not, beq_iff_eq, beq_eq_false_iff_ne, bne_iff_ne, ne_eq, inR, Bool.and_eq_true, Bool.and_eq_false_iff, Bool.not_eq_true', Bool.not_eq_false', Bool.not_eq_eq_eq_not, Bool.not_true, Bool.not_false] at *; omega))
(.path [1] (by kernel_rfl)
(.node (by kernel_rfl) (by kernel_rfl) (fun h5 =>
(.path [1,1,1] (by kernel_rfl)
(.node (by kernel_rfl) (by kernel_rfl) (fun h6 =>
(.node (by kernel_rfl) (by kernel_rfl) (fun h7 =>
(.path [1,0] (by kernel_rfl)
(.node (by kernel_rfl) (by kernel_rfl) (fun h8 =>
(.path [1,1] (by kernel_rfl)
(.node (by kernel_rfl) (by kernel_rfl) (fun h9 =>
(.path [1] (by kernel_rfl)
(.leaf (by kernel_rfl)))) (fun h9 =>
(.node (by kernel_rfl) (by kernel_rfl) (fun h10 =>
(.path [1] (by kernel_rfl)
(.leaf (by kernel_rfl)))) (fun h10 =>
.none)))))) (fun h8 =>
.none)))) (fun h7 =>
.none))) (fun h6 =>
.none)))) (fun h5 =>
.none)))))))))) (fun h4 =>
.none)))) (fun h3 =>
(.path [1,1,0,0,0,0,0,1] (by kernel_rfl)
(.node (by kernel_rfl) (by kernel_rfl) (fun h4 =>
(.path [1,1,1] (by kernel_rfl)
(.pt (c := (inR n1 (List.length l0))) (by kernel_rfl) (by kernel_rfl) (by (simp only [w64d, decide_eq_true_eq, decide_eq_false_iff_not, beq_iff_eq, beq_eq_false_iff_ne, bne_iff_ne, ne_eq, inR, Bool.and_eq_true, Bool.and_eq_false_iff, Bool.not_eq_true', Bool.not_eq_false', Bool.not_eq_eq_eq_not, Bool.not_true, Bool.not_false] at *; omega))
(.path [1,1] (by kernel_rfl)
(.node (by kernel_rfl) (by kernel_rfl) (fun h5 =>
(.path [1] (by kernel_rfl)
(.node (by kernel_rfl) (by kernel_rfl) (fun h6 =>
(.node (by kernel_rfl) (by kernel_rfl) (fun h7 =>
(.path [1,0] (by kernel_rfl)
(.node (by kernel_rfl) (by kernel_rfl) (fun h8 =>
(.path [1,1] (by kernel_rfl)
(.node (by kernel_rfl) (by kernel_rfl) (fun h9 =>
(.path [1] (by kernel_rfl)
(.leaf (by kernel_rfl)))) (fun h9 =>
(.node (by kernel_rfl) (by kernel_rfl) (fun h10 =>
(.path [1] (by kernel_rfl)
(.leaf (by kernel_rfl)))) (fun h10 =>
.none)))))) (fun h8 =>
.none)))) (fun h7 =>
.none))) (fun h6 =>
.none)))) (fun h5 =>
(.path [1,1] (by kernel_rfl)
(.pf (c := (inR (Int.tmod (it_1 l0 n1) (5 : Int)) 4)) (by kernel_rfl) (by kernel_rfl) (by (simp only [w64d, decide_eq_true_eq, decide_eq_false_iff_not, beq_iff_eq, beq_eq_false_iff_ne, bne_iff_ne, ne_eq, inR, Bool.and_eq_true, Bool.and_eq_false_iff, Bool.not_eq_true', Bool.not_eq_false', Bool.not_eq_eq_eq_not, Bool.not_true, Bool.not_false] at *; omega))
.none)))))))) (fun h4 =>
.none)))))))))))))))

noncomputable def fn_L3_6_xn : List Dat → Tree Step
  | [.l (Ty.pair (Ty.int IntKind.u8) (Ty.pair (Ty.int IntKind.u64) (Ty.sl (Ty.int IntKind.u8)))) l0, .n n1] =>
    (.leaf (Step.stop 0 [.l (Ty.int IntKind.u8) []]))
  | _ => .bad 0
theorem fn_L3_6_xn_im (l0 : List (Ty.den TIt)) (n1 : Int) (g0 : n1 = (l0.length : Int)) : Imp (fn_L3_6_xn [.l TIt l0, .n n1]) (st_L3_6 [.k 0, .l TIt l0, .n n1, .l TB []]) :=
(.path [1] (by kernel_rfl)
(.pf (c := (decide (n1 < (↑(List.length l0) : Int)))) (by kernel_rfl) (by kernel_rfl) (by (simp [*]; done))
(.path [1] (by kernel_rfl)
(.leaf (by kernel_rfl)))))

noncomputable def fn_L3_6_xo : List Dat → Tree Step
  | [.l (Ty.pair (Ty.int IntKind.u8) (Ty.pair (Ty.int IntKind.u64) (Ty.sl (Ty.int IntKind.u8)))) l0, .n n1, .l (Ty.int IntKind.u8) l2] =>
    (.leaf (Step.stop 1 [.l (Ty.int IntKind.u8) l2, .l (Ty.int IntKind.u8) l2]))
  | _ => .bad 0
theorem fn_L3_6_xo_im (l0 : List (Ty.den TIt)) (n1 : Int) (l2 : List (Ty.den (Ty.int IntKind.u8))) (g0 : n1 = (l0.length : Int)) : Imp (fn_L3_6_xo [.l TIt l0, .n n1, .l (Ty.int IntKind.u8) l2]) (st_L3_6 [.k 1, .l TIt l0, .n n1, .l TB l2, .l TB l2]) :=
(.path [1] (by kernel_rfl)
(.pf (c := (decide (n1 < (↑(List.length l0) : Int)))) (by kernel_rfl) (by kernel_rfl) (by (simp [*]; done))
(.path [1] (by kernel_rfl)
(.leaf (by kernel_rfl)))))

theorem ls_3_ok : LsOk Try.prog (0) (lsM [(6, L3_6)] (0)) (bodyOf Try.prog 3) := LsOk.many fun j B hB hk c hc hi => by
  simp only [lookM] at hB
  split at hB
  · rename_i e; have := Nat.eq_of_beq_eq_true e; subst this; cases hB
    have e1 : loopAt Try.prog 3 6 = [cAt Try.prog 3 6] := loopAt_one (by kernel_rfl)
    have e2 : c ∈ loopAt Try.prog 3 6 := loopsAt_mem hc hi
    rw [e1] at e2; cases List.mem_singleton.1 e2; exact L3_6_run
  cases hB

noncomputable def ev_W3 (env : List Dat) : Tree Bool := Lk.lawB false LK cs_8 3 (lsM [(6, L3_6)] (0)) (instL [.imm TIt 0] env)

theorem W3_law (env : List Dat) (h : (ev_W3 env).sel = some true) {w : World} {args : Array Value} (ha : LRel R0 (snapOf w) (instL [.imm TIt 0] env) args) :
    Calls Try.prog 3 args w fun e w' => e = .returned (.bool true) ∧ Below w.heap.size w w' :=
  lawB_ok cs_8_ok hmix false (ls := (lsM [(6, L3_6)] (0))) (ls_3_ok) (by rw [← lawB_lk]; exact h) ha

noncomputable def fn_W3_t : List Dat → Tree Bool
  | [.l (Ty.pair (Ty.int IntKind.u8) (Ty.pair (Ty.int IntKind.u64) (Ty.sl (Ty.int IntKind.u8)))) l0] =>
    (let r1 : Option (Nat × List Dat) := (op_8 [.l TIt l0]);
     (.node (isK 0 [HK.b] r1)
      (.node (gb (dOf r1) 0)
       (.leaf (true))
       (let r2 : Option (Nat × List Dat) := (op_L3_6 [.k 0, .l TIt l0, .n (0 : Int), .l (Ty.int IntKind.u8) []]);
        (.node (isK 0 [HK.l (Ty.int IntKind.u8)] r2)
         (.node (strEq (strOf (gl (Ty.int IntKind.u8) (dOf (op_31 [.l (Ty.int IntKind.u8) []])) 0)) (strOf (gl (Ty.int IntKind.u8) (dOf r2) 0)))
          (.leaf (true))
          (.leaf (false)))
         (.node (isK 1 [HK.l (Ty.int IntKind.u8), HK.l (Ty.int IntKind.u8)] r2)
          (let r3 : Option (Nat × List Dat) := (op_31 [.l (Ty.int IntKind.u8) (gl (Ty.int IntKind.u8) (dOf r2) 1)]);
           (.node (isK 0 [HK.l (Ty.int IntKind.u8)] r3)
            (.node (strEq (strOf (gl (Ty.int IntKind.u8) (dOf r3) 0)) (strOf (gl (Ty.int IntKind.u8) (dOf r2) 0)))
             (.leaf (true))
             (.leaf (false)))
            (.bad 351)))
          (.node (isK 2 [HK.b] r2)
           (.leaf (gb (dOf r2) 0))
           (.bad 351))))))
      (.bad 351)))
  | _ => .bad 0
theorem fn_W3_t_im (l0 : List (Ty.den TIt)) : Imp (fn_W3_t [.l TIt l0]) (ev_W3 [.l TIt l0]) :=
(.node (by kernel_rfl) (by kernel_rfl) (fun h0 =>
(.path [1] (by kernel_rfl)
(.node (by kernel_rfl) (by kernel_rfl) (fun h1 =>
(.path [1,1,1] (by kernel_rfl)
(.leaf (by kernel_rfl)))) (fun h1 =>
(.node (by kernel_rfl) (by kernel_rfl) (fun h2 =>
(.path [1,0,1,1,1] (by kernel_rfl)
(.node (by kernel_rfl) (by kernel_rfl) (fun h3 =>
(.path [1,1,1,1] (by kernel_rfl)
(.leaf (by kernel_rfl)))) (fun h3 =>
(.path [0,1] (by kernel_rfl)
(.leaf (by kernel_rfl))))))) (fun h2 =>
(.node (by kernel_rfl) (by kernel_rfl) (fun h3 =>
(.path [1,0] (by kernel_rfl)
(.node (by kernel_rfl) (by kernel_rfl) (fun h4 =>
(.path [1,1] (by kernel_rfl)
(.node (by kernel_rfl) (by kernel_rfl) (fun h5 =>
(.path [1,1,1,1] (by kernel_rfl)
(.leaf (by kernel_rfl)))) (fun h5 =>
(.path [0,1] (by kernel_rfl)
(.leaf (by kernel_rfl))))))) (fun h4 =>
.none)))) (fun h3 =>
(.node (by kernel_rfl) (by kernel_rfl) (fun h4 =>
(.leaf (by kernel_rfl))) (fun h4 =>
.none)))))))))) (fun h0 =>
.none))

noncomputable def st_L4_7 (env : List Dat) : Tree Step := Lk.stepMC false LK cs_8 4 7 ls0 (mkM 0 [] [(sh 123 [(0, .imm TB 0), (1, .imm TIt 1), (5, .own 0), (6, .ptr 1 0), (7, .ptr 2 0), (8, .int .i64 2)], [.arr TB 3, rdB 4, rdB 6])] [] [(.exit 0, sh 123 [(0, .imm TB 0), (5, .own 0)], [.arr TB 1]), (.ret, sh 123 [(4, .bool 0)], [])] fun _ => none) env
theorem op_L4_7_ex : ∃ f : List Dat → Option (Nat × List Dat), ∀ env, f env = iterS st_L4_7 FU env := ⟨iterS st_L4_7 FU, fun _ => rfl⟩
noncomputable def op_L4_7 : List Dat → Option (Nat × List Dat) := Classical.choose op_L4_7_ex
theorem op_L4_7_eq (env : List Dat) : op_L4_7 env = iterS st_L4_7 FU env := Classical.choose_spec op_L4_7_ex env
noncomputable def L4_7 : MBox := mkM 0 [] [(sh 123 [(0, .imm TB 0), (1, .imm TIt 1), (5, .own 0), (6, .ptr 1 0), (7, .ptr 2 0), (8, .int .i64 2)], [.arr TB 3, rdB 4, rdB 6])] [] [(.exit 0, sh 123 [(0, .imm TB 0), (5, .own 0)], [.arr TB 1]), (.ret, sh 123 [(4, .bool 0)], [])] op_L4_7
theorem L4_7_eqs : L4_7 = mkM 0 [] [(sh 123 [(0, .imm TB 0), (1, .imm TIt 1), (5, .own 0), (6, .ptr 1 0), (7, .ptr 2 0), (8, .int .i64 2)], [.arr TB 3, rdB 4, rdB 6])] [] [(.exit 0, sh 123 [(0, .imm TB 0), (5, .own 0)], [.arr TB 1]), (.ret, sh 123 [(4, .bool 0)], [])] (iterS st_L4_7 FU) := congrArg (fun f => mkM 0 [] [(sh 123 [(0, .imm TB 0), (1, .imm TIt 1), (5, .own 0), (6, .ptr 1 0), (7, .ptr 2 0), (8, .int .i64 2)], [.arr TB 3, rdB 4, rdB 6])] [] [(.exit 0, sh 123 [(0, .imm TB 0), (5, .own 0)], [.arr TB 1]), (.ret, sh 123 [(4, .bool 0)], [])] f) (funext op_L4_7_eq)
theorem L4_7_run : ∀ t s x, (manyRun L4_7 t s).sel = some x → CodeOk Try.prog 0 (.loop (cAt Try.prog 4 7)) t s x := by
  rw [L4_7_eqs]
  exact mkM_ok (st := st_L4_7) (m := FU) cs_8_ok hmix false (LsOk.none _ _ _) (by kernel_rfl) (fun env y h => by rw [← stepMC_lk]; exact h)
theorem op_L4_7_good {p : Nat × List Dat → Prop} (Inv : List Dat → Prop) (μ : List Dat → Nat) (h : ∀ env, Inv env → Good (fun y => match y with | .go e => Inv e ∧ μ e < μ env | .stop k d => p (k, d)) (st_L4_7 env).sel) (env : List Dat) (hi : Inv env) (hm : μ env < FU) : Good p (op_L4_7 env) := by
  rw [op_L4_7_eq]
  exact iterS_good Inv μ p h FU env hi hm

noncomputable def fn_L4_7_t : List Dat → Tree Step
  | [.l (Ty.int IntKind.u8) l0, .l (Ty.pair (Ty.int IntKind.u8) (Ty.pair (Ty.int IntKind.u64) (Ty.sl (Ty.int IntKind.u8)))) l1, .n n2, .l (Ty.int IntKind.u8) l3, .b b4] =>
    (.node (Int.tmod (it_1 l1 n2) (5 : Int) != (4 : Int))
     (.node (inR (Int.tmod (it_1 l1 n2) (5 : Int)) 4)
      (let r1 : Option (Nat × List Dat) := (op_15 [.n (List.getD [(1 : Int), (2 : Int), (4 : Int), (8 : Int)] (Int.toNat (Int.tmod (it_1 l1 n2) (5 : Int))) (0 : Int)), .l (Ty.int IntKind.u8) l3, .b b4]);
       (.node (isK 0 [HK.l (Ty.int IntKind.u8), HK.b, HK.l (Ty.int IntKind.u8), HK.b] r1)
        (let r2 : Option (Nat × List Dat) := (op_16 [.n (it_1 l1 n2), .n (it_2 l1 n2), .l (Ty.int IntKind.u8) (it_3 l1 n2), .l (Ty.int IntKind.u8) l3, .b b4]);
         (.node (isK 0 [HK.n, HK.s, HK.l (Ty.int IntKind.u8), HK.b] r2)
          (.node (gb (dOf r1) 1)
           (let r3 : Option (Nat × List Dat) := (op_17 [.l (Ty.int IntKind.u8) (gl (Ty.int IntKind.u8) (dOf r1) 0)]);
            (.node (isK 0 [HK.n] r3)
             (.node (gn (dOf r2) 0 != gn (dOf r3) 0)
              (.leaf (Step.stop 1 [.b false]))
              (.node (!strEq (gs (dOf r2) 1) { data := { toList := [] } })
               (.leaf (Step.stop 1 [.b false]))
               (.node (!gb (dOf r2) 3 == gb (dOf r1) 3)
                (.leaf (Step.stop 1 [.b false]))
                (.node ((↑(List.length (gl (Ty.int IntKind.u8) (dOf r2) 2)) : Int) != (↑(List.length (gl (Ty.int IntKind.u8) (dOf r1) 2)) : Int))
                 (.leaf (Step.stop 1 [.b false]))
                 (.leaf (Step.go [.k 0, .l (Ty.int IntKind.u8) l0, .l TIt l1, .n (IntKind.wrap .i64 (n2 + (1 : Int))), .l (Ty.int IntKind.u8) l0, .l (Ty.int IntKind.u8) (gl (Ty.int IntKind.u8) (dOf r2) 2), .b (gb (dOf r2) 3), .l (Ty.int IntKind.u8) (gl (Ty.int IntKind.u8) (dOf r1) 2), .b (gb (dOf r1) 3)]))))))
             (.bad 351)))
           (.node (gn (dOf r2) 0 != (0 : Int))
            (.leaf (Step.stop 1 [.b false]))
            (.node (!strEq (gs (dOf r2) 1) { data := { toList := [] } })
             (.leaf (Step.stop 1 [.b false]))
             (.node (!gb (dOf r2) 3 == gb (dOf r1) 3)
              (.leaf (Step.stop 1 [.b false]))
              (.node ((↑(List.length (gl (Ty.int IntKind.u8) (dOf r2) 2)) : Int) != (↑(List.length (gl (Ty.int IntKind.u8) (dOf r1) 2)) : Int))
               (.leaf (Step.stop 1 [.b false]))
               (.leaf (Step.go [.k 0, .l (Ty.int IntKind.u8) l0, .l TIt l1, .n (IntKind.wrap .i64 (n2 + (1 : Int))), .l (Ty.int IntKind.u8) l0, .l (Ty.int IntKind.u8) (gl (Ty.int IntKind.u8) (dOf r2) 2), .b (gb (dOf r2) 3), .l (Ty.int IntKind.u8) (gl (Ty.int IntKind.u8) (dOf r1) 2), .b (gb (dOf r1) 3)])))))))
          (.bad 351)))
        (.node (isK 1 [HK.b, HK.l (Ty.int IntKind.u8), HK.b] r1)
         (let r2 : Option (Nat × List Dat) := (op_16 [.n (it_1 l1 n2), .n (it_2 l1 n2), .l (Ty.int IntKind.u8) (it_3 l1 n2), .l (Ty.int IntKind.u8) l3, .b b4]);
          (.node (isK 0 [HK.n, HK.s, HK.l (Ty.int IntKind.u8), HK.b] r2)
           (.node (gb (dOf r1) 0)
            (let r3 : Option (Nat × List Dat) := (op_17 [.l (Ty.int IntKind.u8) []]);
             (.node (isK 0 [HK.n] r3)
              (.node (gn (dOf r2) 0 != gn (dOf r3) 0)
               (.leaf (Step.stop 1 [.b false]))
               (.node (!strEq (gs (dOf r2) 1) { data := { toList := [] } })
                (.leaf (Step.stop 1 [.b false]))
                (.node (!gb (dOf r2) 3 == gb (dOf r1) 2)
                 (.leaf (Step.stop 1 [.b false]))
                 (.node ((↑(List.length (gl (Ty.int IntKind.u8) (dOf r2) 2)) : Int) != (↑(List.length (gl (Ty.int IntKind.u8) (dOf r1) 1)) : Int))
                  (.leaf (Step.stop 1 [.b false]))
                  (.leaf (Step.go [.k 0, .l (Ty.int IntKind.u8) l0, .l TIt l1, .n (IntKind.wrap .i64 (n2 + (1 : Int))), .l (Ty.int IntKind.u8) l0, .l (Ty.int IntKind.u8) (gl (Ty.int IntKind.u8) (dOf r2) 2), .b (gb (dOf r2) 3), .l (Ty.int IntKind.u8) (gl (Ty.int IntKind.u8) (dOf r1) 1), .b (gb (dOf r1) 2)]))))))
              (.bad 351)))
            (.node (gn (dOf r2) 0 != (0 : Int))
             (.leaf (Step.stop 1 [.b false]))
             (.node (!strEq (gs (dOf r2) 1) { data := { toList := [] } })
              (.leaf (Step.stop 1 [.b false]))
              (.node (!gb (dOf r2) 3 == gb (dOf r1) 2)
               (.leaf (Step.stop 1 [.b false]))
               (.node ((↑(List.length (gl (Ty.int IntKind.u8) (dOf r2) 2)) : Int) != (↑(List.length (gl (Ty.int IntKind.u8) (dOf r1) 1)) : Int))
                (.leaf (Step.stop 1 [.b false]))
                (.leaf (Step.go [.k 0, .l (Ty.int IntKind.u8) l0, .l TIt l1, .n (IntKind.wrap .i64 (n2 + (1 : Int))), .l (Ty.int IntKind.u8) l0, .l (Ty.int IntKind.u8) (gl (Ty.int IntKind.u8) (dOf r2) 2), .b (gb (dOf r2) 3), .l (Ty.int IntKind.u8) (gl (Ty.int IntKind.u8) (dOf r1) 1), .b (gb (dOf r1) 2)])))))))
           (.bad 351)))
         (.bad 351))))
      (.bad 12))
     (let r1 : Option (Nat × List Dat) := (op_15 [.n (IntKind.wrap .i64 (it_2 l1 n2)), .l (Ty.int IntKind.u8) l3, .b b4]);
      (.node (isK 0 [HK.l (Ty.int IntKind.u8), HK.b, HK.l (Ty.int IntKind.u8), HK.b] r1)
       (let r2 : Option (Nat × List Dat) := (op_16 [.n (it_1 l1 n2), .n (it_2 l1 n2), .l (Ty.int IntKind.u8) (it_3 l1 n2), .l (Ty.int IntKind.u8) l3, .b b4]);
        (.node (isK 0 [HK.n, HK.s, HK.l (Ty.int IntKind.u8), HK.b] r2)
         (.node (gb (dOf r1) 1)
          (.node (Int.tmod (it_1 l1 n2) (5 : Int) == (4 : Int))
           (.node (gn (dOf r2) 0 != (0 : Int))
            (.leaf (Step.stop 1 [.b false]))
            (.node (!strEq (gs (dOf r2) 1) (strOf (gl (Ty.int IntKind.u8) (dOf r1) 0)))
             (.leaf (Step.stop 1 [.b false]))
             (.node (!gb (dOf r2) 3 == gb (dOf r1) 3)
              (.leaf (Step.stop 1 [.b false]))
              (.node ((↑(List.length (gl (Ty.int IntKind.u8) (dOf r2) 2)) : Int) != (↑(List.length (gl (Ty.int IntKind.u8) (dOf r1) 2)) : Int))
               (.leaf (Step.stop 1 [.b false]))
               (.leaf (Step.go [.k 0, .l (Ty.int IntKind.u8) l0, .l TIt l1, .n (IntKind.wrap .i64 (n2 + (1 : Int))), .l (Ty.int IntKind.u8) l0, .l (Ty.int IntKind.u8) (gl (Ty.int IntKind.u8) (dOf r2) 2), .b (gb (dOf r2) 3), .l (Ty.int IntKind.u8) (gl (Ty.int IntKind.u8) (dOf r1) 2), .b (gb (dOf r1) 3)]))))))
           (let r3 : Option (Nat × List Dat) := (op_17 [.l (Ty.int IntKind.u8) (gl (Ty.int IntKind.u8) (dOf r1) 0)]);
            (.node (isK 0 [HK.n] r3)
             (.node (gn (dOf r2) 0 != gn (dOf r3) 0)
              (.leaf (Step.stop 1 [.b false]))
              (.node (!strEq (gs (dOf r2) 1) { data := { toList := [] } })
               (.leaf (Step.stop 1 [.b false]))
               (.node (!gb (dOf r2) 3 == gb (dOf r1) 3)
                (.leaf (Step.stop 1 [.b false]))
                (.node ((↑(List.length (gl (Ty.int IntKind.u8) (dOf r2) 2)) : Int) != (↑(List.length (gl (Ty.int IntKind.u8) (dOf r1) 2)) : Int))
                 (.leaf (Step.stop 1 [.b false]))
                 (.leaf (Step.go [.k 0, .l (Ty.int IntKind.u8) l0, .l TIt l1, .n (IntKind.wrap .i64 (n2 + (1 : Int))), .l (Ty.int IntKind.u8) l0, .l (Ty.int IntKind.u8) (gl (Ty.int IntKind.u8) (dOf r2) 2), .b (gb (dOf r2) 3), .l (Ty.int IntKind.u8) (gl (Ty.int IntKind.u8) (dOf r1) 2), .b (gb (dOf r1) 3)]))))))
             (.bad 351))))
          (.node (gn (dOf r2) 0 != (0 : Int))
           (.leaf (Step.stop 1 [.b false]))
           (.node (!strEq (gs (dOf r2) 1) { data := { toList := [] } })
            (.leaf (Step.stop 1 [.b false]))
            (.node (!gb (dOf r2) 3 == gb (dOf r1) 3)
             (.leaf (Step.stop 1 [.b false]))
             (.node ((↑(List.length (gl (Ty.int IntKind.u8) (dOf r2) 2)) : Int) != (↑(List.length (gl (Ty.int IntKind.u8) (dOf r1) 2)) : Int))
              (.leaf (Step.stop 1 [.b false]))
              (.leaf (Step.go [.k 0, .l (Ty.int IntKind.u8) l0, .l TIt l1, .n (IntKind.wrap .i64 (n2 + (1 : Int))), .l (Ty.int IntKind.u8) l0, .l (Ty.int IntKind.u8) (gl (Ty.int IntKind.u8) (dOf r2) 2), .b (gb (dOf r2) 3), .l (Ty.int IntKind.u8) (gl (Ty.int IntKind.u8) (dOf r1) 2), .b (gb (dOf r1) 3)])))))))
         (.bad 351)))
       (.node (isK 1 [HK.b, HK.l (Ty.int IntKind.u8), HK.b] r1)
        (let r2 : Option (Nat × List Dat) := (op_16 [.n (it_1 l1 n2), .n (it_2 l1 n2), .l (Ty.int IntKind.u8) (it_3 l1 n2), .l (Ty.int IntKind.u8) l3, .b b4]);
         (.node (isK 0 [HK.n, HK.s, HK.l (Ty.int IntKind.u8), HK.b] r2)
          (.node (gb (dOf r1) 0)
           (.node (Int.tmod (it_1 l1 n2) (5 : Int) == (4 : Int))
            (.node (gn (dOf r2) 0 != (0 : Int))
             (.leaf (Step.stop 1 [.b false]))
             (.node (!strEq (gs (dOf r2) 1) (strOf []))
              (.leaf (Step.stop 1 [.b false]))
              (.node (!gb (dOf r2) 3 == gb (dOf r1) 2)
               (.leaf (Step.stop 1 [.b false]))
               (.node ((↑(List.length (gl (Ty.int IntKind.u8) (dOf r2) 2)) : Int) != (↑(List.length (gl (Ty.int IntKind.u8) (dOf r1) 1)) : Int))
                (.leaf (Step.stop 1 [.b false]))
                (.leaf (Step.go [.k 0, .l (Ty.int IntKind.u8) l0, .l TIt l1, .n (IntKind.wrap .i64 (n2 + (1 : Int))), .l (Ty.int IntKind.u8) l0, .l (Ty.int IntKind.u8) (gl (Ty.int IntKind.u8) (dOf r2) 2), .b (gb (dOf r2) 3), .l (Ty.int IntKind.u8) (gl (Ty.int IntKind.u8) (dOf r1) 1), .b (gb (dOf r1) 2)]))))))
            (let r3 : Option (Nat × List Dat) := (op_17 [.l (Ty.int IntKind.u8) []]);
             (.node (isK 0 [HK.n] r3)
              (.node (gn (dOf r2) 0 != gn (dOf r3) 0)
               (.leaf (Step.stop 1 [.b false]))
               (.node (!strEq (gs (dOf r2) 1) { data := { toList := [] } })
                (.leaf (Step.stop 1 [.b false]))
                (.node (!gb (dOf r2) 3 == gb (dOf r1) 2)
                 (.leaf (Step.stop 1 [.b false]))
                 (.node ((↑(List.length (gl (Ty.int IntKind.u8) (dOf r2) 2)) : Int) != (↑(List.length (gl (Ty.int IntKind.u8) (dOf r1) 1)) : Int))
                  (.leaf (Step.stop 1 [.b false]))
                  (.leaf (Step.go [.k 0, .l (Ty.int IntKind.u8) l0, .l TIt l1, .n (IntKind.wrap .i64 (n2 + (1 : Int))), .l (Ty.int IntKind.u8) l0, .l (Ty.int IntKind.u8) (gl (Ty.int IntKind.u8) (dOf r2) 2), .b (gb (dOf r2) 3), .l (Ty.int IntKind.u8) (gl (Ty.int IntKind.u8) (dOf r1) 1), .b (gb (dOf r1) 2)]))))))
              (.bad 351))))
           (.node (gn (dOf r2) 0 != (0 : Int))
            (.leaf (Step.stop 1 [.b false]))
            (.node (!strEq (gs (dOf r2) 1) { data := { toList := [] } })
             (.leaf (Step.stop 1 [.b false]))
             (.node (!gb (dOf r2) 3 == gb (dOf r1) 2)
              (.leaf (Step.stop 1 [.b false]))
              (.node ((↑(List.length (gl (Ty.int IntKind.u8) (dOf r2) 2)) : Int) != (↑(List.length (gl (Ty.int IntKind.u8) (dOf r1) 1)) : Int))
               (.leaf (Step.stop 1 [.b false]))
               (.leaf (Step.go [.k 0, .l (Ty.int IntKind.u8) l0, .l TIt l1, .n (IntKind.wrap .i64 (n2 + (1 : Int))), .l (Ty.int IntKind.u8) l0, .l (Ty.int IntKind.u8) (gl (Ty.int IntKind.u8) (dOf r2) 2), .b (gb (dOf r2) 3), .l (Ty.int IntKind.u8) (gl (Ty.int IntKind.u8) (dOf r1) 1), .b (gb (dOf r1) 2)])))))))
          (.bad 351)))
        (.bad 351)))))
  | _ => .bad 0
theorem fn_L4_7_t_im (l0 : List (Ty.den (Ty.int IntKind.u8))) (l1 : List (Ty.den TIt)) (n2 : Int) (l3 : List (Ty.den (Ty.int IntKind.u8))) (b4 : Bool) (g0 : 0 ≤ n2) (g1 :  n2 < (l1.length : Int)) : Imp (fn_L4_7_t [.l (Ty.int IntKind.u8) l0, .l TIt l1, .n n2, .l (Ty.int IntKind.u8) l3, .b b4]) (st_L4_7 [.k 0, .l TB l0, .l TIt l1, .n n2, .l TB l0, .l TB l3, .b b4, .l TB l3, .b b4]) :=
(.path [1] (by kernel_rfl)
(.pt (c := (decide (n2 < (↑(List.length l1) : Int)))) (by kernel_rfl) (by kernel_rfl) (by (simp [*]; done))
(.pt (c := (inR n2 (List.length l1))) (by kernel_rfl) (by kernel_rfl) (by (simp only [w64d, decide_eq_true_eq, decide_eq_false_iff_not, beq_iff_eq, beq_eq_false_iff_ne, bne_iff_ne, ne_eq, inR, Bool.and_eq_true, Bool.and_eq_false_iff, Bool.not_eq_true', Bool.not_eq_false', Bool.not_eq_eq_eq_not, Bool.not_true, Bool.not_false] at *; omega))
(.pt (c := (inR n2 (List.length l1))) (by kernel_rfl) (by kernel_rfl) (by (simp only [w64d, decide_eq_true_eq, decide_eq_false_iff_not, beq_iff_eq, beq_eq_false_iff_ne, bne_iff_ne, ne_eq, inR, Bool.and_eq_true, Bool.and_eq_false_iff, Bool.not_eq_true', Bool.not_eq_false', Bool.not_eq_eq_eq_not, Bool.not_true, Bool.not_false] at *; omega))
(.path [1] (by kernel_rfl)
(.node (by kernel_rfl) (by kernel_rfl) (fun h0 =>
(.pt (c := (inR n2 (List.length l1))) (by kernel_rfl) (by kernel_rfl) (by (simp only [w64d, decide_eq_true_eq, decide_eq_false_iff_not, beq_iff_eq, beq_eq_false_iff_ne, bne_iff_ne, ne_eq, inR, Bool.and_eq_true, Bool.and_eq_false_iff, Bool.not_eq_true', Bool.not_eq_false', Bool.not_eq_eq_eq_not, Bool.not_true, Bool.not_false] at *; omega))
(.path [1,1] (by kernel_rfl)
(.node (by kernel_rfl) (by kernel_rfl) (fun h1 =>
(.path [1,1] (by kernel_rfl)
(.node (by kernel_rfl) (by kernel_rfl) (fun h2 =>
(.path [1] (by kernel_rfl)
(.pt (c := (inR n2 (List.length l1))) (by kernel_rfl) (by kernel_rfl) (by (simp only [w64d, decide_eq_true_eq, decide_eq_false_iff_not, beq_iff_eq, beq_eq_false_iff_ne, bne_iff_ne, ne_eq, inR, Bool.and_eq_true, Bool.and_eq_false_iff, Bool.not_eq_true', Bool.not_eq_false', Bool.not_eq_eq_eq_not, Bool.not_true, Bool.not_false] at *; omega))
(.path [1] (by kernel_rfl)
(.node (by kernel_rfl) (by kernel_rfl) (fun h3 =>
(.path [1] (by kernel_rfl)
(.node (by kernel_rfl) (by kernel_rfl) (fun h4 =>
(.pt (c := (inR n2 (List.length l1))) (by kernel_rfl) (by kernel_rfl) (by (simp only [w64d, decide_eq_true_eq, decide_eq_false_iff_not, beq_iff_eq, beq_eq_false_iff_ne, bne_iff_ne, ne_eq, inR, Bool.and_eq_true, Bool.and_eq_false_iff, Bool.not_eq_true', Bool.not_eq_false', Bool.not_eq_eq_eq_not, Bool.not_true, Bool.not_false] at *; omega))
(.path [1] (by kernel_rfl)
(.pf (c := (Int.tmod (it_1 l1 n2) (5 : Int) == (4 : Int))) (by kernel_rfl) (by kernel_rfl) (by (simp only [w64d, decide_eq_true_eq, decide_eq_false_iff_not, beq_iff_eq, beq_eq_false_iff_ne, bne_iff_ne, ne_eq, inR, Bool.and_eq_true, Bool.and_eq_false_iff, Bool.not_eq_true', Bool.not_eq_false', Bool.not_eq_eq_eq_not, Bool.not_true, Bool.not_false] at *; omega))
(.pt (by kernel_rfl) (by kernel_rfl) h4
(.node (by kernel_rfl) (by kernel_rfl) (fun h5 =>
(.path [1] (by kernel_rfl)
(.node (by kernel_rfl) (by kernel_rfl) (fun h6 =>
(.path [1,1,1,1,1,1,1,1] (by kernel_rfl)
(.leaf (by kernel_rfl)))) (fun h6 =>
(.node (by kernel_rfl) (by kernel_rfl) (fun h7 =>
(.path [1,1,1,1,1,1] (by kernel_rfl)
(.leaf (by kernel_rfl)))) (fun h7 =>
(.path [1,0,1] (by kernel_rfl)
(.node (by kernel_rfl) (by kernel_rfl) (fun h8 =>
(.path [1,1,1,1] (by kernel_rfl)
(.leaf (by kernel_rfl)))) (fun h8 =>
(.path [1,0,1,1] (by kernel_rfl)
(.node (by kernel_rfl) (by kernel_rfl) (fun h9 =>
(.path [1] (by kernel_rfl)
(.leaf (by kernel_rfl)))) (fun h9 =>
(.path [1] (by kernel_rfl)
(.leaf (by kernel_rfl))))))))))))))) (fun h5 =>
.none))))))) (fun h4 =>
(.path [0,0] (by kernel_rfl)
(.pf (by kernel_rfl) (by kernel_rfl) h4
(.node (by kernel_rfl) (by kernel_rfl) (fun h5 =>
(.path [1,1,1,1,1,1,1,1] (by kernel_rfl)
(.leaf (by kernel_rfl)))) (fun h5 =>
(.node (by kernel_rfl) (by kernel_rfl) (fun h6 =>
(.path [1,1,1,1,1,1] (by kernel_rfl)
(.leaf (by kernel_rfl)))) (fun h6 =>
(.path [1,0,1] (by kernel_rfl)
(.node (by kernel_rfl) (by kernel_rfl) (fun h7 =>
(.path [1,1,1,1] (by kernel_rfl)
(.leaf (by kernel_rfl)))) (fun h7 =>
(.path [1,0,1,1] (by kernel_rfl)
(.node (by kernel_rfl) (by kernel_rfl) (fun h8 =>
(.path [1] (by kernel_rfl)
(.leaf (by kernel_rfl)))) (fun h8 =>
(.path [1] (by kernel_rfl)
(.leaf (by kernel_rfl))))))))))))))))))) (fun h3 =>
.none)))))) (fun h2 =>
(.node (by kernel_rfl) (by kernel_rfl) (fun h3 =>
(.path [1] (by kernel_rfl)
(.pt (c := (inR n2 (List.length l1))) (by kernel_rfl) (by kernel_rfl) (by (simp only [w64d, decide_eq_true_eq, decide_eq_false_iff_not, beq_iff_eq, beq_eq_false_iff_ne, bne_iff_ne, ne_eq, inR, Bool.and_eq_true, Bool.and_eq_false_iff, Bool.not_eq_true', Bool.not_eq_false', Bool.not_eq_eq_eq_not, Bool.not_true, Bool.not_false] at *; omega))
(.path [1] (by kernel_rfl)
(.node (by kernel_rfl) (by kernel_rfl) (fun h4 =>
(.path [1] (by kernel_rfl)
(.node (by kernel_rfl) (by kernel_rfl) (fun h5 =>
(.pt (c := (inR n2 (List.length l1))) (by kernel_rfl) (by kernel_rfl) (by (simp only [w64d, decide_eq_true_eq, decide_eq_false_iff_not, beq_iff_eq, beq_eq_false_iff_ne, bne_iff_ne, ne_eq, inR, Bool.and_eq_true, Bool.and_eq_false_iff, Bool.not_eq_true', Bool.not_eq_false', Bool.not_eq_eq_eq_not, Bool.not_true, Bool.not_false] at *; omega))
(.path [1] (by kernel_rfl)
(.pf (c := (Int.tmod (it_1 l1 n2) (5 : Int) == (4 : Int))) (by kernel_rfl) (by kernel_rfl) (by (simp only [w64d, decide_eq_true_eq, decide_eq_false_iff_not, beq_iff_eq, beq_eq_false_iff_ne, bne_iff_ne, ne_eq, inR, Bool.and_eq_true, Bool.and_eq_false_iff, Bool.not_eq_true', Bool.not_eq_false', Bool.not_eq_eq_eq_not, Bool.not_true, Bool.not_false] at *; omega))
(.pt (by kernel_rfl) (by kernel_rfl) h5
(.node (by kernel_rfl) (by kernel_rfl) (fun h6 =>
(.path [1] (by kernel_rfl)
(.node (by kernel_rfl) (by kernel_rfl) (fun h7 =>
(.path [1,1,1,1,1,1,1,1] (by kernel_rfl)
(.leaf (by kernel_rfl)))) (fun h7 =>
(.node (by kernel_rfl) (by kernel_rfl) (fun h8 =>
(.path [1,1,1,1,1,1] (by kernel_rfl)
(.leaf (by kernel_rfl)))) (fun h8 =>
(.path [1,0,1] (by kernel_rfl)
(.node (by kernel_rfl) (by kernel_rfl) (fun h9 =>
(.path [1,1,1,1] (by kernel_rfl)
(.leaf (by kernel_rfl)))) (fun h9 =>
(.path [1,0,1,1] (by kernel_rfl)
(.node (by kernel_rfl) (by kernel_rfl) (fun h10 =>
(.path [1] (by kernel_rfl)
(.leaf (by kernel_rfl)))) (fun h10 =>
(.path [1] (by kernel_rfl)
(.leaf (by kernel_rfl))))))))))))))) (fun h6 =>
.none))))))) (fun h5 =>
(.path [0,0] (by kernel_rfl)
(.pf (by kernel_rfl) (by kernel_rfl) h5
(.node (by kernel_rfl) (by kernel_rfl) (fun h6 =>
(.path [1,1,1,1,1,1,1,1] (by kernel_rfl)
(.leaf (by kernel_rfl)))) (fun h6 =>
(.node (by kernel_rfl) (by kernel_rfl) (fun h7 =>
(.path [1,1,1,1,1,1] (by kernel_rfl)
(.leaf (by kernel_rfl)))) (fun h7 =>
(.path [1,0,1] (by kernel_rfl)
(.node (by kernel_rfl) (by kernel_rfl) (fun h8 =>
(.path [1,1,1,1] (by kernel_rfl)
(.leaf (by kernel_rfl)))) (fun h8 =>
(.path [1,0,1,1] (by kernel_rfl)
(.node (by kernel_rfl) (by kernel_rfl) (fun h9 =>
(.path [1] (by kernel_rfl)
(.leaf (by kernel_rfl)))) (fun h9 =>
(.path [1] (by kernel_rfl)
(.leaf (by kernel_rfl))))))))))))))))))) (fun h4 =>
.none)))))) (fun h3 =>
.none)))))) (fun h1 =>
.none))))) (fun h0 =>
(.path [1] (by kernel_rfl)
(.node (by kernel_rfl) (by kernel_rfl) (fun h1 =>
(.path [1] (by kernel_rfl)
(.pt (c := (inR n2 (List.length l1))) (by kernel_rfl) (by kernel_rfl) (by (simp only [w64d, decide_eq_true_eq, decide_eq_false_iff_not, beq_iff_eq, beq_eq_false_iff_ne, bne_iff_ne, ne_eq, inR, Bool.and_eq_true, Bool.and_eq_false_iff, Bool.not_eq_true', Bool.not_eq_false', Bool.not_eq_eq_eq_not, Bool.not_true, Bool.not_false] at *; omega))
(.path [1] (by kernel_rfl)
(.node (by kernel_rfl) (by kernel_rfl) (fun h2 =>
(.path [1] (by kernel_rfl)
(.node (by kernel_rfl) (by kernel_rfl) (fun h3 =>
(.pt (c := (inR n2 (List.length l1))) (by kernel_rfl) (by kernel_rfl) (by (simp only [w64d, decide_eq_true_eq, decide_eq_false_iff_not, beq_iff_eq, beq_eq_false_iff_ne, bne_iff_ne, ne_eq, inR, Bool.and_eq_true, Bool.and_eq_false_iff, Bool.not_eq_true', Bool.not_eq_false', Bool.not_eq_eq_eq_not, Bool.not_true, Bool.not_false] at *; omega))
(.path [1] (by kernel_rfl)
(.node (by kernel_rfl) (by kernel_rfl) (fun h4 =>
(.node (by kernel_rfl) (by kernel_rfl) (fun h5 =>
(.path [1,1,1,1,1,1,1,1] (by kernel_rfl)
(.leaf (by kernel_rfl)))) (fun h5 =>
(.node (by kernel_rfl) (by kernel_rfl) (fun h6 =>
(.path [1,1,1,1,1,1] (by kernel_rfl)
(.leaf (by kernel_rfl)))) (fun h6 =>
(.path [1,0,1] (by kernel_rfl)
(.node (by kernel_rfl) (by kernel_rfl) (fun h7 =>
(.path [1,1,1,1] (by kernel_rfl)
(.leaf (by kernel_rfl)))) (fun h7 =>
(.path [1,0,1,1] (by kernel_rfl)
(.node (by kernel_rfl) (by kernel_rfl) (fun h8 =>
(.path [1] (by kernel_rfl)
(.leaf (by kernel_rfl)))) (fun h8 =>
(.path [1] (by kernel_rfl)
(.leaf (by kernel_rfl)))))))))))))) (fun h4 =>
(.pt (by kernel_rfl) (by kernel_rfl) h3
(.node (by kernel_rfl) (by kernel_rfl) (fun h5 =>
(.path [1] (by kernel_rfl)
(.node (by kernel_rfl) (by kernel_rfl) (fun h6 =>
(.path [1,1,1,1,1,1,1,1] (by kernel_rfl)
(.leaf (by kernel_rfl)))) (fun h6 =>
(.node (by kernel_rfl) (by kernel_rfl) (fun h7 =>
(.path [1,1,1,1,1,1] (by kernel_rfl)
(.leaf (by kernel_rfl)))) (fun h7 =>
(.path [1,0,1] (by kernel_rfl)
(.node (by kernel_rfl) (by kernel_rfl) (fun h8 =>
(.path [1,1,1,1] (by kernel_rfl)
(.leaf (by kernel_rfl)))) (fun h8 =>
(.path [1,0,1,1] (by kernel_rfl)
(.node (by kernel_rfl) (by kernel_rfl) (fun h9 =>
(.path [1] (by kernel_rfl)
(.leaf (by kernel_rfl)))) (fun h9 =>
(.path [1] (by kernel_rfl)
(.leaf (by kernel_rfl))))))))))))))) (fun h5 =>
.none)))))))) (fun h3 =>
(.path [0,0] (by kernel_rfl)
(.pf (by kernel_rfl) (by kernel_rfl) h3
(.node (by kernel_rfl) (by kernel_rfl) (fun h4 =>
(.path [1,1,1,1,1,1,1,1] (by kernel_rfl)
(.leaf (by kernel_rfl)))) (fun h4 =>
(.node (by kernel_rfl) (by kernel_rfl) (fun h5 =>
(.path [1,1,1,1,1,1] (by kernel_rfl)
(.leaf (by kernel_rfl)))) (fun h5 =>
(.path [1,0,1] (by kernel_rfl)
(.node (by kernel_rfl) (by kernel_rfl) (fun h6 =>
(.path [1,1,1,1] (by kernel_rfl)
(.leaf (by kernel_rfl)))) (fun h6 =>
(.path [1,0,1,1] (by kernel_rfl)
(.node (by kernel_rfl) (by kernel_rfl) (fun h7 =>
(.path [1] (by kernel_rfl)
(.leaf (by kernel_rfl)))) (fun h7 =>
(.path [1] (by kernel_rfl)
(.leaf (by kernel_rfl))))))))))))))))))) (fun h2 =>
.none)))))) (fun h1 =>
(.node (by kernel_rfl) (by kernel_rfl) (fun h2 =>
(.path [1] (by kernel_rfl)
(.pt (c := (inR n2 (List.length l1))) (by kernel_rfl) (by kernel_rfl) (by (simp only [w64d, decide_eq_true_eq, decide_eq_false_iff_not, beq_iff_eq, beq_eq_false_iff_ne, bne_iff_ne, ne_eq, inR, Bool.and_eq_true, Bool.and_eq_false_iff, Bool.not_eq_true', Bool.not_eq_false', Bool.not_eq_eq_eq_not, Bool.not_true, Bool.not_false] at *; omega))
(.path [1] (by kernel_rfl)
(.node (by kernel_rfl) (by kernel_rfl) (fun h3 =>
(.path [1] (by kernel_rfl)
(.node (by kernel_rfl) (by kernel_rfl) (fun h4 =>
(.pt (c := (inR n2 (List.length l1))) (by kernel_rfl) (by kernel_rfl) (by (simp only [w64d, decide_eq_true_eq, decide_eq_false_iff_not, beq_iff_eq, beq_eq_false_iff_ne, bne_iff_ne, ne_eq, inR, Bool.and_eq_true, Bool.and_eq_false_iff, Bool.not_eq_true', Bool.not_eq_false', Bool.not_eq_eq_eq_not, Bool.not_true, Bool.not_false] at *; omega))
(.path [1] (by kernel_rfl)
(.node (by kernel_rfl) (by kernel_rfl) (fun h5 =>
(.node (by kernel_rfl) (by kernel_rfl) (fun h6 =>
(.path [1,1,1,1,1,1,1,1] (by kernel_rfl)
(.leaf (by kernel_rfl)))) (fun h6 =>
(.node (by kernel_rfl) (by kernel_rfl) (fun h7 =>
(.path [1,1,1,1,1,1] (by kernel_rfl)
(.leaf (by kernel_rfl)))) (fun h7 =>
(.path [1,0,1] (by kernel_rfl)
(.node (by kernel_rfl) (by kernel_rfl) (fun h8 =>
(.path [1,1,1,1] (by kernel_rfl)
(.leaf (by kernel_rfl)))) (fun h8 =>
(.path [1,0,1,1] (by kernel_rfl)
(.node (by kernel_rfl) (by kernel_rfl) (fun h9 =>
(.path [1] (by kernel_rfl)
(.leaf (by kernel_rfl)))) (fun h9 =>
(.path [1] (by kernel_rfl)
(.leaf (by kernel_rfl)))))))))))))) (fun h5 =>
(.pt (by kernel_rfl) (by kernel_rfl) h4
(.node (by kernel_rfl) (by kernel_rfl) (fun h6 =>
(.path [1] (by kernel_rfl)
(.node (by kernel_rfl) (by kernel_rfl) (fun h7 =>
(.path [1,1,1,1,1,1,1,1] (by kernel_rfl)
(.leaf (by kernel_rfl)))) (fun h7 =>
(.node (by kernel_rfl) (by kernel_rfl) (fun h8 =>
(.path [1,1,1,1,1,1] (by kernel_rfl)
(.leaf (by kernel_rfl)))) (fun h8 =>
(.path [1,0,1] (by kernel_rfl)
(.node (by kernel_rfl) (by kernel_rfl) (fun h9 =>
(.path [1,1,1,1] (by kernel_rfl)
(.leaf (by kernel_rfl)))) (fun h9 =>
(.path [1,0,1,1] (by kernel_rfl)
(.node (by kernel_rfl) (by kernel_rfl) (fun h10 =>
(.path [1] (by kernel_rfl)
(.leaf (by kernel_rfl)))) (fun h10 =>
(.path [1] (by kernel_rfl)
(.leaf (by kernel_rfl))))))))))))))) (fun h6 =>
.none)))))))) (fun h4 =>
(.path [0,0] (by kernel_rfl)
(.pf (by kernel_rfl) (by kernel_rfl) h4
(.node (by kernel_rfl) (by kernel_rfl) (fun h5 =>
(.path [1,1,1,1,1,1,1,1] (by kernel_rfl)
(.leaf (by kernel_rfl)))) (fun h5 =>
(.node (by kernel_rfl) (by kernel_rfl) (fun h6 =>
(.path [1,1,1,1,1,1] (by kernel_rfl)
(.leaf (by kernel_rfl)))) (fun h6 =>
(.path [1,0,1] (by kernel_rfl)
(.node (by kernel_rfl) (by kernel_rfl) (fun h7 =>
(.path [1,1,1,1] (by kernel_rfl)
(.leaf (by kernel_rfl)))) (fun h7 =>
(.path [1,0,1,1] (by kernel_rfl)
(.node (by kernel_rfl) (by kernel_rfl) (fun h8 =>
(.path [1] (by kernel_rfl)
(.leaf (by kernel_rfl)))) (fun h8 =>
(.path [1] (by kernel_rfl)
(.leaf (by kernel_rfl))))))))))))))))))) (fun h3 =>
.none)))))) (fun h2 =>
.none))))))))))))

noncomputable def fn_L4_7_x : List Dat → Tree Step
  | [.l (Ty.int IntKind.u8) l0, .l (Ty.pair (Ty.int IntKind.u8) (Ty.pair (Ty.int IntKind.u64) (Ty.sl (Ty.int IntKind.u8)))) l1, .n n2, .l (Ty.int IntKind.u8) l3, .b b4] =>
    (.leaf (Step.stop 0 [.l (Ty.int IntKind.u8) l0, .l (Ty.int IntKind.u8) l0]))
  | _ => .bad 0
theorem fn_L4_7_x_im (l0 : List (Ty.den (Ty.int IntKind.u8))) (l1 : List (Ty.den TIt)) (n2 : Int) (l3 : List (Ty.den (Ty.int IntKind.u8))) (b4 : Bool) (g0 : n2 = (l1.length : Int)) : Imp (fn_L4_7_x [.l (Ty.int IntKind.u8) l0, .l TIt l1, .n n2, .l (Ty.int IntKind.u8) l3, .b b4]) (st_L4_7 [.k 0, .l TB l0, .l TIt l1, .n n2, .l TB l0, .l TB l3, .b b4, .l TB l3, .b b4]) :=
(.path [1] (by kernel_rfl)
(.pf (c := (decide (n2 < (↑(List.length l1) : Int)))) (by kernel_rfl) (by kernel_rfl) (by (simp [*]; done))
(.path [1] (by kernel_rfl)
(.leaf (by kernel_rfl)))))

theorem ls_4_ok : LsOk Try.prog (0) (lsM [(7, L4_7)] (0)) (bodyOf Try.prog 4) := LsOk.many fun j B hB hk c hc hi => by
  simp only [lookM] at hB
  split at hB
  · rename_i e; have := Nat.eq_of_beq_eq_true e; subst this; cases hB
    have e1 : loopAt Try.prog 4 7 = [cAt Try.prog 4 7] := loopAt_one (by kernel_rfl)
    have e2 : c ∈ loopAt Try.prog 4 7 := loopsAt_mem hc hi
    rw [e1] at e2; cases List.mem_singleton.1 e2; exact L4_7_run
  cases hB

noncomputable def ev_W4 (env : List Dat) : Tree Bool := Lk.lawB false LK cs_8 4 (lsM [(7, L4_7)] (0)) (instL [.imm TB 0, .imm TIt 1] env)

theorem W4_law (env : List Dat) (h : (ev_W4 env).sel = some true) {w : World} {args : Array Value} (ha : LRel R0 (snapOf w) (instL [.imm TB 0, .imm TIt 1] env) args) :
    Calls Try.prog 4 args w fun e w' => e = .returned (.bool true) ∧ Below w.heap.size w w' :=
  lawB_ok cs_8_ok hmix false (ls := (lsM [(7, L4_7)] (0))) (ls_4_ok) (by rw [← lawB_lk]; exact h) ha

noncomputable def fn_W4_t : List Dat → Tree Bool
  | [.l (Ty.int IntKind.u8) l0, .l (Ty.pair (Ty.int IntKind.u8) (Ty.pair (Ty.int IntKind.u64) (Ty.sl (Ty.int IntKind.u8)))) l1] =>
    (.node (decide ((↑(List.length l0) : Int) > (3000 : Int)))
     (.leaf (true))
     (.node (decide ((↑(List.length l1) : Int) > (100 : Int)))
      (.leaf (true))
      (let r1 : Option (Nat × List Dat) := (op_13 [.l (Ty.int IntKind.u8) (bytesOf (strOf l0))]);
       (.node (isK 0 [HK.l (Ty.int IntKind.u8), HK.b] r1)
        (let r2 : Option (Nat × List Dat) := (op_L4_7 [.k 0, .l (Ty.int IntKind.u8) l0, .l TIt l1, .n (0 : Int), .l (Ty.int IntKind.u8) (bytesOf (strOf l0)), .l (Ty.int IntKind.u8) (gl (Ty.int IntKind.u8) (dOf r1) 0), .b (gb (dOf r1) 1), .l (Ty.int IntKind.u8) l0, .b false]);
         (.node (isK 0 [HK.l (Ty.int IntKind.u8), HK.l (Ty.int IntKind.u8)] r2)
          (.node (strEq (strOf (gl (Ty.int IntKind.u8) (dOf r2) 1)) (strOf (gl (Ty.int IntKind.u8) (dOf r2) 0)))
           (.leaf (true))
           (.leaf (false)))
          (.node (isK 1 [HK.b] r2)
           (.leaf (gb (dOf r2) 0))
           (.bad 351))))
        (.bad 351)))))
  | _ => .bad 0
theorem fn_W4_t_im (l0 : List (Ty.den (Ty.int IntKind.u8))) (l1 : List (Ty.den TIt)) : Imp (fn_W4_t [.l (Ty.int IntKind.u8) l0, .l TIt l1]) (ev_W4 [.l TB l0, .l TIt l1]) :=
(.node (by kernel_rfl) (by kernel_rfl) (fun h0 =>
(.path [1,1,1,1,1] (by kernel_rfl)
(.leaf (by kernel_rfl)))) (fun h0 =>
(.node (by kernel_rfl) (by kernel_rfl) (fun h1 =>
(.path [1,1,1] (by kernel_rfl)
(.leaf (by kernel_rfl)))) (fun h1 =>
(.path [1] (by kernel_rfl)
(.node (by kernel_rfl) (by kernel_rfl) (fun h2 =>
(.path [1] (by kernel_rfl)
(.node (by kernel_rfl) (by kernel_rfl) (fun h3 =>
(.node (by kernel_rfl) (by kernel_rfl) (fun h4 =>
(.path [1,1,1] (by kernel_rfl)
(.leaf (by kernel_rfl)))) (fun h4 =>
(.path [0] (by kernel_rfl)
(.leaf (by kernel_rfl)))))) (fun h3 =>
(.node (by kernel_rfl) (by kernel_rfl) (fun h4 =>
(.leaf (by kernel_rfl))) (fun h4 =>
.none)))))) (fun h2 =>
.none)))))))

noncomputable def st_L5_5 (env : List Dat) : Tree Step := Lk.stepMC false LK cs_8 5 5 ls0 (mkM 0 [] [(sh 97 [(0, .imm TIt 0), (1, .imm TB 1), (5, .ptr 0 0), (6, .int .i64 2)], [wrN]), (sh 97 [(0, .imm TIt 0), (1, .imm TB 1), (5, .ptr 0 0), (6, .int .i64 2)], [wrO 1, .arr TB 3])] [] [(.exit 0, sh 97 [(0, .imm TIt 0), (1, .imm TB 1), (5, .ptr 0 0)], [wrN]), (.exit 0, sh 97 [(0, .imm TIt 0), (1, .imm TB 1), (5, .ptr 0 0)], [wrO 1, .arr TB 2])] fun _ => none) env
theorem op_L5_5_ex : ∃ f : List Dat → Option (Nat × List Dat), ∀ env, f env = iterS st_L5_5 FU env := ⟨iterS st_L5_5 FU, fun _ => rfl⟩
noncomputable def op_L5_5 : List Dat → Option (Nat × List Dat) := Classical.choose op_L5_5_ex
theorem op_L5_5_eq (env : List Dat) : op_L5_5 env = iterS st_L5_5 FU env := Classical.choose_spec op_L5_5_ex env
noncomputable def L5_5 : MBox := mkM 0 [] [(sh 97 [(0, .imm TIt 0), (1, .imm TB 1), (5, .ptr 0 0), (6, .int .i64 2)], [wrN]), (sh 97 [(0, .imm TIt 0), (1, .imm TB 1), (5, .ptr 0 0), (6, .int .i64 2)], [wrO 1, .arr TB 3])] [] [(.exit 0, sh 97 [(0, .imm TIt 0), (1, .imm TB 1), (5, .ptr 0 0)], [wrN]), (.exit 0, sh 97 [(0, .imm TIt 0), (1, .imm TB 1), (5, .ptr 0 0)], [wrO 1, .arr TB 2])] op_L5_5
theorem L5_5_eqs : L5_5 = mkM 0 [] [(sh 97 [(0, .imm TIt 0), (1, .imm TB 1), (5, .ptr 0 0), (6, .int .i64 2)], [wrN]), (sh 97 [(0, .imm TIt 0), (1, .imm TB 1), (5, .ptr 0 0), (6, .int .i64 2)], [wrO 1, .arr TB 3])] [] [(.exit 0, sh 97 [(0, .imm TIt 0), (1, .imm TB 1), (5, .ptr 0 0)], [wrN]), (.exit 0, sh 97 [(0, .imm TIt 0), (1, .imm TB 1), (5, .ptr 0 0)], [wrO 1, .arr TB 2])] (iterS st_L5_5 FU) := congrArg (fun f => mkM 0 [] [(sh 97 [(0, .imm TIt 0), (1, .imm TB 1), (5, .ptr 0 0), (6, .int .i64 2)], [wrN]), (sh 97 [(0, .imm TIt 0), (1, .imm TB 1), (5, .ptr 0 0), (6, .int .i64 2)], [wrO 1, .arr TB 3])] [] [(.exit 0, sh 97 [(0, .imm TIt 0), (1, .imm TB 1), (5, .ptr 0 0)], [wrN]), (.exit 0, sh 97 [(0, .imm TIt 0), (1, .imm TB 1), (5, .ptr 0 0)], [wrO 1, .arr TB 2])] f) (funext op_L5_5_eq)
theorem L5_5_run : ∀ t s x, (manyRun L5_5 t s).sel = some x → CodeOk Try.prog 0 (.loop (cAt Try.prog 5 5)) t s x := by
  rw [L5_5_eqs]
  exact mkM_ok (st := st_L5_5) (m := FU) cs_8_ok hmix false (LsOk.none _ _ _) (by kernel_rfl) (fun env y h => by rw [← stepMC_lk]; exact h)
theorem op_L5_5_good {p : Nat × List Dat → Prop} (Inv : List Dat → Prop) (μ : List Dat → Nat) (h : ∀ env, Inv env → Good (fun y => match y with | .go e => Inv e ∧ μ e < μ env | .stop k d => p (k, d)) (st_L5_5 env).sel) (env : List Dat) (hi : Inv env) (hm : μ env < FU) : Good p (op_L5_5 env) := by
  rw [op_L5_5_eq]
  exact iterS_good Inv μ p h FU env hi hm

noncomputable def fn_L5_5_n : List Dat → Tree Step
  | [.l (Ty.pair (Ty.int IntKind.u8) (Ty.pair (Ty.int IntKind.u64) (Ty.sl (Ty.int IntKind.u8)))) l0, .l (Ty.int IntKind.u8) l1, .n n2] =>
    (.node (Int.tmod (it_1 l0 n2) (5 : Int) == (0 : Int))
     (let r1 : Option (Nat × List Dat) := (op_35a [.n (IntKind.wrap .u64 (IntKind.wrap .u8 (it_2 l0 n2))), .n (1 : Int)]);
      (.node (isK 0 [] r1)
       (.leaf (Step.go [.k 0, .l TIt l0, .l (Ty.int IntKind.u8) l1, .n (IntKind.wrap .i64 (n2 + (1 : Int)))]))
       (.node (isK 1 [HK.l (Ty.int IntKind.u8)] r1)
        (.leaf (Step.go [.k 1, .l TIt l0, .l (Ty.int IntKind.u8) l1, .n (IntKind.wrap .i64 (n2 + (1 : Int))), .l (Ty.int IntKind.u8) (gl (Ty.int IntKind.u8) (dOf r1) 0)]))
        (.bad 351))))
     (.node (Int.tmod (it_1 l0 n2) (5 : Int) == (1 : Int))
      (let r1 : Option (Nat × List Dat) := (op_35a [.n (IntKind.wrap .u64 (IntKind.wrap .u16 (it_2 l0 n2))), .n (2 : Int)]);
       (.node (isK 0 [] r1)
        (.leaf (Step.go [.k 0, .l TIt l0, .l (Ty.int IntKind.u8) l1, .n (IntKind.wrap .i64 (n2 + (1 : Int)))]))
        (.node (isK 1 [HK.l (Ty.int IntKind.u8)] r1)
         (.leaf (Step.go [.k 1, .l TIt l0, .l (Ty.int IntKind.u8) l1, .n (IntKind.wrap .i64 (n2 + (1 : Int))), .l (Ty.int IntKind.u8) (gl (Ty.int IntKind.u8) (dOf r1) 0)]))
         (.bad 351))))
      (.node (Int.tmod (it_1 l0 n2) (5 : Int) == (2 : Int))
       (let r1 : Option (Nat × List Dat) := (op_35a [.n (IntKind.wrap .u64 (IntKind.wrap .u32 (it_2 l0 n2))), .n (4 : Int)]);
        (.node (isK 0 [] r1)
         (.leaf (Step.go [.k 0, .l TIt l0, .l (Ty.int IntKind.u8) l1, .n (IntKind.wrap .i64 (n2 + (1 : Int)))]))
         (.node (isK 1 [HK.l (Ty.int IntKind.u8)] r1)
          (.leaf (Step.go [.k 1, .l TIt l0, .l (Ty.int IntKind.u8) l1, .n (IntKind.wrap .i64 (n2 + (1 : Int))), .l (Ty.int IntKind.u8) (gl (Ty.int IntKind.u8) (dOf r1) 0)]))
          (.bad 351))))
       (.node (Int.tmod (it_1 l0 n2) (5 : Int) == (3 : Int))
        (let r1 : Option (Nat × List Dat) := (op_35a [.n (it_2 l0 n2), .n (8 : Int)]);
         (.node (isK 0 [] r1)
          (.leaf (Step.go [.k 0, .l TIt l0, .l (Ty.int IntKind.u8) l1, .n (IntKind.wrap .i64 (n2 + (1 : Int)))]))
          (.node (isK 1 [HK.l (Ty.int IntKind.u8)] r1)
           (.leaf (Step.go [.k 1, .l TIt l0, .l (Ty.int IntKind.u8) l1, .n (IntKind.wrap .i64 (n2 + (1 : Int))), .l (Ty.int IntKind.u8) (gl (Ty.int IntKind.u8) (dOf r1) 0)]))
           (.bad 351))))
        (.node (decide (List.length (it_3 l0 n2) * 1 ≤ 140737488355328))
         (.leaf (Step.go [.k 1, .l TIt l0, .l (Ty.int IntKind.u8) l1, .n (IntKind.wrap .i64 (n2 + (1 : Int))), .l (Ty.int IntKind.u8) (it_3 l0 n2)]))
         (.bad 60))))))
  | _ => .bad 0
theorem fn_L5_5_n_im (l0 : List (Ty.den TIt)) (l1 : List (Ty.den (Ty.int IntKind.u8))) (n2 : Int) (g0 : 0 ≤ n2) (g1 :  n2 < (l0.length : Int)) : Imp (fn_L5_5_n [.l TIt l0, .l (Ty.int IntKind.u8) l1, .n n2]) (st_L5_5 [.k 0, .l TIt l0, .l TB l1, .n n2]) :=
(.path [1] (by kernel_rfl)
(.pt (c := (decide (n2 < (↑(List.length l0) : Int)))) (by kernel_rfl) (by kernel_rfl) (by (simp [*]; done))
(.pt (c := (inR n2 (List.length l0))) (by kernel_rfl) (by kernel_rfl) (by (simp only [w64d, decide_eq_true_eq, decide_eq_false_iff_not, beq_iff_eq, beq_eq_false_iff_ne, bne_iff_ne, ne_eq, inR, Bool.and_eq_true, Bool.and_eq_false_iff, Bool.not_eq_true', Bool.not_eq_false', Bool.not_eq_eq_eq_not, Bool.not_true, Bool.not_false] at *; omega))
(.path [1,1] (by kernel_rfl)
(.node (by kernel_rfl) (by kernel_rfl) (fun h0 =>
(.path [1,1,0,1,1] (by kernel_rfl)
(.node (by kernel_rfl) (by kernel_rfl) (fun h1 =>
(.path [1,0,0,0,0,1,1,1,1] (by kernel_rfl)
(.leaf (by kernel_rfl)))) (fun h1 =>
(.node (by kernel_rfl) (by kernel_rfl) (fun h2 =>
(.path [1,0,0,0,0,1,1,1,1] (by kernel_rfl)
(.leaf (by kernel_rfl)))) (fun h2 =>
.none)))))) (fun h0 =>
(.node (by kernel_rfl) (by kernel_rfl) (fun h1 =>
(.path [1,1,0,0,1,1] (by kernel_rfl)
(.node (by kernel_rfl) (by kernel_rfl) (fun h2 =>
(.path [1,0,0,0,1,1,1,1] (by kernel_rfl)
(.leaf (by kernel_rfl)))) (fun h2 =>
(.node (by kernel_rfl) (by kernel_rfl) (fun h3 =>
(.path [1,0,0,0,1,1,1,1] (by kernel_rfl)
(.leaf (by kernel_rfl)))) (fun h3 =>
.none)))))) (fun h1 =>
(.node (by kernel_rfl) (by kernel_rfl) (fun h2 =>
(.path [1,1,0,0,0,1,1] (by kernel_rfl)
(.node (by kernel_rfl) (by kernel_rfl) (fun h3 =>
(.path [1,0,0,1,1,1,1] (by kernel_rfl)
(.leaf (by kernel_rfl)))) (fun h3 =>
(.node (by kernel_rfl) (by kernel_rfl) (fun h4 =>
(.path [1,0,0,1,1,1,1] (by kernel_rfl)
(.leaf (by kernel_rfl)))) (fun h4 =>
.none)))))) (fun h2 =>
(.node (by kernel_rfl) (by kernel_rfl) (fun h3 =>
(.path [1,1,0,0,0,0,1,1] (by kernel_rfl)
(.node (by kernel_rfl) (by kernel_rfl) (fun h4 =>
(.path [1,0,1,1,1,1] (by kernel_rfl)
(.leaf (by kernel_rfl)))) (fun h4 =>
(.node (by kernel_rfl) (by kernel_rfl) (fun h5 =>
(.path [1,0,1,1,1,1] (by kernel_rfl)
(.leaf (by kernel_rfl)))) (fun h5 =>
.none)))))) (fun h3 =>
(.path [1,1,0,0,0,0,0,1] (by kernel_rfl)
(.node (by kernel_rfl) (by kernel_rfl) (fun h4 =>
(.path [1,1,1,1] (by kernel_rfl)
(.leaf (by kernel_rfl)))) (fun h4 =>
.none)))))))))))))))

noncomputable def fn_L5_5_o : List Dat → Tree Step
  | [.l (Ty.pair (Ty.int IntKind.u8) (Ty.pair (Ty.int IntKind.u64) (Ty.sl (Ty.int IntKind.u8)))) l0, .l (Ty.int IntKind.u8) l1, .n n2, .l (Ty.int IntKind.u8) l3] =>
    (.node (Int.tmod (it_1 l0 n2) (5 : Int) == (0 : Int))
     (let r1 : Option (Nat × List Dat) := (op_35b [.n (IntKind.wrap .u64 (IntKind.wrap .u8 (it_2 l0 n2))), .n (1 : Int), .l (Ty.int IntKind.u8) l3]);
      (.node (isK 0 [HK.l (Ty.int IntKind.u8)] r1)
       (.leaf (Step.go [.k 1, .l TIt l0, .l (Ty.int IntKind.u8) l1, .n (IntKind.wrap .i64 (n2 + (1 : Int))), .l (Ty.int IntKind.u8) (gl (Ty.int IntKind.u8) (dOf r1) 0)]))
       (.bad 351)))
     (.node (Int.tmod (it_1 l0 n2) (5 : Int) == (1 : Int))
      (let r1 : Option (Nat × List Dat) := (op_35b [.n (IntKind.wrap .u64 (IntKind.wrap .u16 (it_2 l0 n2))), .n (2 : Int), .l (Ty.int IntKind.u8) l3]);
       (.node (isK 0 [HK.l (Ty.int IntKind.u8)] r1)
        (.leaf (Step.go [.k 1, .l TIt l0, .l (Ty.int IntKind.u8) l1, .n (IntKind.wrap .i64 (n2 + (1 : Int))), .l (Ty.int IntKind.u8) (gl (Ty.int IntKind.u8) (dOf r1) 0)]))
        (.bad 351)))
      (.node (Int.tmod (it_1 l0 n2) (5 : Int) == (2 : Int))
       (let r1 : Option (Nat × List Dat) := (op_35b [.n (IntKind.wrap .u64 (IntKind.wrap .u32 (it_2 l0 n2))), .n (4 : Int), .l (Ty.int IntKind.u8) l3]);
        (.node (isK 0 [HK.l (Ty.int IntKind.u8)] r1)
         (.leaf (Step.go [.k 1, .l TIt l0, .l (Ty.int IntKind.u8) l1, .n (IntKind.wrap .i64 (n2 + (1 : Int))), .l (Ty.int IntKind.u8) (gl (Ty.int IntKind.u8) (dOf r1) 0)]))
         (.bad 351)))
       (.node (Int.tmod (it_1 l0 n2) (5 : Int) == (3 : Int))
        (let r1 : Option (Nat × List Dat) := (op_35b [.n (it_2 l0 n2), .n (8 : Int), .l (Ty.int IntKind.u8) l3]);
         (.node (isK 0 [HK.l (Ty.int IntKind.u8)] r1)
          (.leaf (Step.go [.k 1, .l TIt l0, .l (Ty.int IntKind.u8) l1, .n (IntKind.wrap .i64 (n2 + (1 : Int))), .l (Ty.int IntKind.u8) (gl (Ty.int IntKind.u8) (dOf r1) 0)]))
          (.bad 351)))
        (.node (decide ((List.length l3 + List.length (it_3 l0 n2)) * 1 ≤ 140737488355328))
         (.leaf (Step.go [.k 1, .l TIt l0, .l (Ty.int IntKind.u8) l1, .n (IntKind.wrap .i64 (n2 + (1 : Int))), .l (Ty.int IntKind.u8) (l3 ++ it_3 l0 n2)]))
         (.bad 62))))))
  | _ => .bad 0
theorem fn_L5_5_o_im (l0 : List (Ty.den TIt)) (l1 : List (Ty.den (Ty.int IntKind.u8))) (n2 : Int) (l3 : List (Ty.den (Ty.int IntKind.u8))) (g0 : 0 ≤ n2) (g1 :  n2 < (l0.length : Int)) : Imp (fn_L5_5_o [.l TIt l0, .l (Ty.int IntKind.u8) l1, .n n2, .l (Ty.int IntKind.u8) l3]) (st_L5_5 [.k 1, .l TIt l0, .l TB l1, .n n2, .l TB l3]) :=
(.path [1] (by kernel_rfl)
(.pt (c := (decide (n2 < (↑(List.length l0) : Int)))) (by kernel_rfl) (by kernel_rfl) (by (simp [*]; done))
(.pt (c := (inR n2 (List.length l0))) (by kernel_rfl) (by kernel_rfl) (by (simp only [w64d, decide_eq_true_eq, decide_eq_false_iff_not, beq_iff_eq, beq_eq_false_iff_ne, bne_iff_ne, ne_eq, inR, Bool.and_eq_true, Bool.and_eq_false_iff, Bool.not_eq_true', Bool.not_eq_false', Bool.not_eq_eq_eq_not, Bool.not_true, Bool.not_false] at *; omega))
(.path [1,1] (by kernel_rfl)
(.node (by kernel_rfl) (by kernel_rfl) (fun h0 =>
(.path [1,1,0,1,1] (by kernel_rfl)
(.node (by kernel_rfl) (by kernel_rfl) (fun h1 =>
(.path [1,0,0,0,0,1,1,1,1] (by kernel_rfl)
(.leaf (by kernel_rfl)))) (fun h1 =>
.none)))) (fun h0 =>
(.node (by kernel_rfl) (by kernel_rfl) (fun h1 =>
(.path [1,1,0,0,1,1] (by kernel_rfl)
(.node (by kernel_rfl) (by kernel_rfl) (fun h2 =>
(.path [1,0,0,0,1,1,1,1] (by kernel_rfl)
(.leaf (by kernel_rfl)))) (fun h2 =>
.none)))) (fun h1 =>
(.node (by kernel_rfl) (by kernel_rfl) (fun h2 =>
(.path [1,1,0,0,0,1,1] (by kernel_rfl)
(.node (by kernel_rfl) (by kernel_rfl) (fun h3 =>
(.path [1,0,0,1,1,1,1] (by kernel_rfl)
(.leaf (by kernel_rfl)))) (fun h3 =>
.none)))) (fun h2 =>
(.node (by kernel_rfl) (by kernel_rfl) (fun h3 =>
(.path [1,1,0,0,0,0,1,1] (by kernel_rfl)
(.node (by kernel_rfl) (by kernel_rfl) (fun h4 =>
(.path [1,0,1,1,1,1] (by kernel_rfl)
(.leaf (by kernel_rfl)))) (fun h4 =>
.none)))) (fun h3 =>
(.path [1,1,0,0,0,0,0,1] (by kernel_rfl)
(.node (by kernel_rfl) (by kernel_rfl) (fun h4 =>
(.path [1,1,1,1] (by kernel_rfl)
(.leaf (by kernel_rfl)))) (fun h4 =>
.none)))))))))))))))

noncomputable def fn_L5_5_xn : List Dat → Tree Step
  | [.l (Ty.pair (Ty.int IntKind.u8) (Ty.pair (Ty.int IntKind.u64) (Ty.sl (Ty.int IntKind.u8)))) l0, .l (Ty.int IntKind.u8) l1, .n n2] =>
    (.leaf (Step.stop 0 [.l TIt l0, .l (Ty.int IntKind.u8) l1]))
  | _ => .bad 0
theorem fn_L5_5_xn_im (l0 : List (Ty.den TIt)) (l1 : List (Ty.den (Ty.int IntKind.u8))) (n2 : Int) (g0 : n2 = (l0.length : Int)) : Imp (fn_L5_5_xn [.l TIt l0, .l (Ty.int IntKind.u8) l1, .n n2]) (st_L5_5 [.k 0, .l TIt l0, .l TB l1, .n n2]) :=
(.path [1] (by kernel_rfl)
(.pf (c := (decide (n2 < (↑(List.length l0) : Int)))) (by kernel_rfl) (by kernel_rfl) (by (simp [*]; done))
(.path [1] (by kernel_rfl)
(.leaf (by kernel_rfl)))))

noncomputable def fn_L5_5_xo : List Dat → Tree Step
  | [.l (Ty.pair (Ty.int IntKind.u8) (Ty.pair (Ty.int IntKind.u64) (Ty.sl (Ty.int IntKind.u8)))) l0, .l (Ty.int IntKind.u8) l1, .n n2, .l (Ty.int IntKind.u8) l3] =>
    (.leaf (Step.stop 1 [.l TIt l0, .l (Ty.int IntKind.u8) l1, .l (Ty.int IntKind.u8) l3]))
  | _ => .bad 0
theorem fn_L5_5_xo_im (l0 : List (Ty.den TIt)) (l1 : List (Ty.den (Ty.int IntKind.u8))) (n2 : Int) (l3 : List (Ty.den (Ty.int IntKind.u8))) (g0 : n2 = (l0.length : Int)) : Imp (fn_L5_5_xo [.l TIt l0, .l (Ty.int IntKind.u8) l1, .n n2, .l (Ty.int IntKind.u8) l3]) (st_L5_5 [.k 1, .l TIt l0, .l TB l1, .n n2, .l TB l3]) :=
(.path [1] (by kernel_rfl)
(.pf (c := (decide (n2 < (↑(List.length l0) : Int)))) (by kernel_rfl) (by kernel_rfl) (by (simp [*]; done))
(.path [1] (by kernel_rfl)
(.leaf (by kernel_rfl)))))

noncomputable def st_L5_11 (env : List Dat) : Tree Step := Lk.stepMC false LK cs_8 5 11 ls0 (mkM 0 [] [(sh 97 [(0, .imm TIt 0), (1, .imm TB 1), (7, .ptr 0 0), (8, .int .i64 2)], [rdB 3])] [] [(.exit 2, sh 97 [(1, .imm TB 0), (7, .ptr 0 0)], [rdB 1]), (.ret, sh 97 [(4, .bool 0)], [])] fun _ => none) env
theorem op_L5_11_ex : ∃ f : List Dat → Option (Nat × List Dat), ∀ env, f env = iterS st_L5_11 FU env := ⟨iterS st_L5_11 FU, fun _ => rfl⟩
noncomputable def op_L5_11 : List Dat → Option (Nat × List Dat) := Classical.choose op_L5_11_ex
theorem op_L5_11_eq (env : List Dat) : op_L5_11 env = iterS st_L5_11 FU env := Classical.choose_spec op_L5_11_ex env
noncomputable def L5_11 : MBox := mkM 0 [] [(sh 97 [(0, .imm TIt 0), (1, .imm TB 1), (7, .ptr 0 0), (8, .int .i64 2)], [rdB 3])] [] [(.exit 2, sh 97 [(1, .imm TB 0), (7, .ptr 0 0)], [rdB 1]), (.ret, sh 97 [(4, .bool 0)], [])] op_L5_11
theorem L5_11_eqs : L5_11 = mkM 0 [] [(sh 97 [(0, .imm TIt 0), (1, .imm TB 1), (7, .ptr 0 0), (8, .int .i64 2)], [rdB 3])] [] [(.exit 2, sh 97 [(1, .imm TB 0), (7, .ptr 0 0)], [rdB 1]), (.ret, sh 97 [(4, .bool 0)], [])] (iterS st_L5_11 FU) := congrArg (fun f => mkM 0 [] [(sh 97 [(0, .imm TIt 0), (1, .imm TB 1), (7, .ptr 0 0), (8, .int .i64 2)], [rdB 3])] [] [(.exit 2, sh 97 [(1, .imm TB 0), (7, .ptr 0 0)], [rdB 1]), (.ret, sh 97 [(4, .bool 0)], [])] f) (funext op_L5_11_eq)
theorem L5_11_run : ∀ t s x, (manyRun L5_11 t s).sel = some x → CodeOk Try.prog 0 (.loop (cAt Try.prog 5 11)) t s x := by
  rw [L5_11_eqs]
  exact mkM_ok (st := st_L5_11) (m := FU) cs_8_ok hmix false (LsOk.none _ _ _) (by kernel_rfl) (fun env y h => by rw [← stepMC_lk]; exact h)
theorem op_L5_11_good {p : Nat × List Dat → Prop} (Inv : List Dat → Prop) (μ : List Dat → Nat) (h : ∀ env, Inv env → Good (fun y => match y with | .go e => Inv e ∧ μ e < μ env | .stop k d => p (k, d)) (st_L5_11 env).sel) (env : List Dat) (hi : Inv env) (hm : μ env < FU) : Good p (op_L5_11 env) := by
  rw [op_L5_11_eq]
  exact iterS_good Inv μ p h FU env hi hm

noncomputable def fn_L5_11_t : List Dat → Tree Step
  | [.l (Ty.pair (Ty.int IntKind.u8) (Ty.pair (Ty.int IntKind.u64) (Ty.sl (Ty.int IntKind.u8)))) l0, .l (Ty.int IntKind.u8) l1, .n n2, .l (Ty.int IntKind.u8) l3] =>
    (.node (Int.tmod (it_1 l0 n2) (5 : Int) == (4 : Int))
     (let r1 : Option (Nat × List Dat) := (op_16 [.n (it_1 l0 n2), .n (IntKind.wrap .u64 (↑(List.length (it_3 l0 n2)) : Int)), .l (Ty.int IntKind.u8) (it_3 l0 n2), .l (Ty.int IntKind.u8) l3, .b false]);
      (.node (isK 0 [HK.n, HK.s, HK.l (Ty.int IntKind.u8), HK.b] r1)
       (.node (!strEq (gs (dOf r1) 1) (strOf (it_3 l0 n2)))
        (.leaf (Step.stop 1 [.b false]))
        (.leaf (Step.go [.k 0, .l TIt l0, .l (Ty.int IntKind.u8) l1, .n (IntKind.wrap .i64 (n2 + (1 : Int))), .l (Ty.int IntKind.u8) (gl (Ty.int IntKind.u8) (dOf r1) 2), .b (gb (dOf r1) 3)])))
       (.bad 351)))
     (let r1 : Option (Nat × List Dat) := (op_16 [.n (it_1 l0 n2), .n (it_2 l0 n2), .l (Ty.int IntKind.u8) (it_3 l0 n2), .l (Ty.int IntKind.u8) l3, .b false]);
      (.node (isK 0 [HK.n, HK.s, HK.l (Ty.int IntKind.u8), HK.b] r1)
       (.node (inR (Int.tmod (it_1 l0 n2) (5 : Int)) 4)
        (let r2 : Option (Nat × List Dat) := (op_30 [.n (it_2 l0 n2), .n (List.getD [(1 : Int), (2 : Int), (4 : Int), (8 : Int)] (Int.toNat (Int.tmod (it_1 l0 n2) (5 : Int))) (0 : Int))]);
         (.node (isK 0 [HK.l (Ty.int IntKind.u8)] r2)
          (let r3 : Option (Nat × List Dat) := (op_17 [.l (Ty.int IntKind.u8) (gl (Ty.int IntKind.u8) (dOf r2) 0)]);
           (.node (isK 0 [HK.n] r3)
            (.node (gn (dOf r1) 0 != gn (dOf r3) 0)
             (.leaf (Step.stop 1 [.b false]))
             (.leaf (Step.go [.k 0, .l TIt l0, .l (Ty.int IntKind.u8) l1, .n (IntKind.wrap .i64 (n2 + (1 : Int))), .l (Ty.int IntKind.u8) (gl (Ty.int IntKind.u8) (dOf r1) 2), .b (gb (dOf r1) 3)])))
            (.bad 351)))
          (.bad 351)))
        (.bad 12))
       (.bad 351))))
  | _ => .bad 0
theorem fn_L5_11_t_im (l0 : List (Ty.den TIt)) (l1 : List (Ty.den (Ty.int IntKind.u8))) (n2 : Int) (l3 : List (Ty.den (Ty.int IntKind.u8))) (g0 : 0 ≤ n2) (g1 :  n2 < (l0.length : Int)) : Imp (fn_L5_11_t [.l TIt l0, .l (Ty.int IntKind.u8) l1, .n n2, .l (Ty.int IntKind.u8) l3]) (st_L5_11 [.k 0, .l TIt l0, .l TB l1, .n n2, .l TB l3, .b false]) :=
(.path [1] (by kernel_rfl)
(.pt (c := (decide (n2 < (↑(List.length l0) : Int)))) (by kernel_rfl) (by kernel_rfl) (by (simp [*]; done))
(.pt (c := (inR n2 (List.length l0))) (by kernel_rfl) (by kernel_rfl) (by (simp only [w64d, decide_eq_true_eq, decide_eq_false_iff_not, beq_iff_eq, beq_eq_false_iff_ne, bne_iff_ne, ne_eq, inR, Bool.and_eq_true, Bool.and_eq_false_iff, Bool.not_eq_true', Bool.not_eq_false', Bool.not_eq_eq_eq_not, Bool.not_true, Bool.not_false] at *; omega))
(.path [1] (by kernel_rfl)
(.node (by kernel_rfl) (by kernel_rfl) (fun h0 =>
(.path [1] (by kernel_rfl)
(.node (by kernel_rfl) (by kernel_rfl) (fun h1 =>
(.path [1,1] (by kernel_rfl)
(.pt (by kernel_rfl) (by kernel_rfl) h0
(.node (by kernel_rfl) (by kernel_rfl) (fun h2 =>
(.path [1] (by kernel_rfl)
(.leaf (by kernel_rfl)))) (fun h2 =>
(.path [1] (by kernel_rfl)
(.leaf (by kernel_rfl)))))))) (fun h1 =>
.none)))) (fun h0 =>
(.path [1] (by kernel_rfl)
(.node (by kernel_rfl) (by kernel_rfl) (fun h1 =>
(.path [1,1] (by kernel_rfl)
(.pf (by kernel_rfl) (by kernel_rfl) h0
(.path [1,1] (by kernel_rfl)
(.pf (by kernel_rfl) (by kernel_rfl) h0
(.path [1,1] (by kernel_rfl)
(.node (by kernel_rfl) (by kernel_rfl) (fun h2 =>
(.path [1] (by kernel_rfl)
(.node (by kernel_rfl) (by kernel_rfl) (fun h3 =>
(.path [1,1,1] (by kernel_rfl)
(.node (by kernel_rfl) (by kernel_rfl) (fun h4 =>
(.path [1] (by kernel_rfl)
(.node (by kernel_rfl) (by kernel_rfl) (fun h5 =>
(.path [1] (by kernel_rfl)
(.leaf (by kernel_rfl)))) (fun h5 =>
(.path [1] (by kernel_rfl)
(.leaf (by kernel_rfl))))))) (fun h4 =>
.none)))) (fun h3 =>
.none)))) (fun h2 =>
.none)))))))) (fun h1 =>
.none)))))))))

noncomputable def fn_L5_11_x : List Dat → Tree Step
  | [.l (Ty.pair (Ty.int IntKind.u8) (Ty.pair (Ty.int IntKind.u64) (Ty.sl (Ty.int IntKind.u8)))) l0, .l (Ty.int IntKind.u8) l1, .n n2, .l (Ty.int IntKind.u8) l3] =>
    (.leaf (Step.stop 0 [.l (Ty.int IntKind.u8) l1, .l (Ty.int IntKind.u8) l3, .b false]))
  | _ => .bad 0
theorem fn_L5_11_x_im (l0 : List (Ty.den TIt)) (l1 : List (Ty.den (Ty.int IntKind.u8))) (n2 : Int) (l3 : List (Ty.den (Ty.int IntKind.u8))) (g0 : n2 = (l0.length : Int)) : Imp (fn_L5_11_x [.l TIt l0, .l (Ty.int IntKind.u8) l1, .n n2, .l (Ty.int IntKind.u8) l3]) (st_L5_11 [.k 0, .l TIt l0, .l TB l1, .n n2, .l TB l3, .b false]) :=
(.path [1] (by kernel_rfl)
(.pf (c := (decide (n2 < (↑(List.length l0) : Int)))) (by kernel_rfl) (by kernel_rfl) (by (simp [*]; done))
(.path [1] (by kernel_rfl)
(.leaf (by kernel_rfl)))))

theorem ls_5_ok : LsOk Try.prog (0) (lsM [(5, L5_5), (11, L5_11)] (0)) (bodyOf Try.prog 5) := LsOk.many fun j B hB hk c hc hi => by
  simp only [lookM] at hB
  split at hB
  · rename_i e; have := Nat.eq_of_beq_eq_true e; subst this; cases hB
    have e1 : loopAt Try.prog 5 5 = [cAt Try.prog 5 5] := loopAt_one (by kernel_rfl)
    have e2 : c ∈ loopAt Try.prog 5 5 := loopsAt_mem hc hi
    rw [e1] at e2; cases List.mem_singleton.1 e2; exact L5_5_run
  split at hB
  · rename_i e; have := Nat.eq_of_beq_eq_true e; subst this; cases hB
    have e1 : loopAt Try.prog 5 11 = [cAt Try.prog 5 11] := loopAt_one (by kernel_rfl)
    have e2 : c ∈ loopAt Try.prog 5 11 := loopsAt_mem hc hi
    rw [e1] at e2; cases List.mem_singleton.1 e2; exact L5_11_run
  cases hB

noncomputable def ev_W5 (env : List Dat) : Tree Bool := Lk.lawB false LK cs_8 5 (lsM [(5, L5_5), (11, L5_11)] (0)) (instL [.imm TIt 0, .imm TB 1] env)

theorem W5_law (env : List Dat) (h : (ev_W5 env).sel = some true) {w : World} {args : Array Value} (ha : LRel R0 (snapOf w) (instL [.imm TIt 0, .imm TB 1] env) args) :
    Calls Try.prog 5 args w fun e w' => e = .returned (.bool true) ∧ Below w.heap.size w w' :=
  lawB_ok cs_8_ok hmix false (ls := (lsM [(5, L5_5), (11, L5_11)] (0))) (ls_5_ok) (by rw [← lawB_lk]; exact h) ha

noncomputable def fn_W5_t : List Dat → Tree Bool
  | [.l (Ty.pair (Ty.int IntKind.u8) (Ty.pair (Ty.int IntKind.u64) (Ty.sl (Ty.int IntKind.u8)))) l0, .l (Ty.int IntKind.u8) l1] =>
    (let r1 : Option (Nat × List Dat) := (op_8 [.l TIt l0]);
     (.node (isK 0 [HK.b] r1)
      (.node (gb (dOf r1) 0)
       (.leaf (true))
       (.node (decide ((↑(List.length l1) : Int) > (3000 : Int)))
        (.leaf (true))
        (let r2 : Option (Nat × List Dat) := (op_L5_5 [.k 0, .l TIt l0, .l (Ty.int IntKind.u8) l1, .n (0 : Int)]);
         (.node (isK 0 [HK.l TIt, HK.l (Ty.int IntKind.u8)] r2)
          (.node (decide (List.length (gl (Ty.int IntKind.u8) (dOf r2) 1) * 1 ≤ 140737488355328))
           (let r3 : Option (Nat × List Dat) := (op_31 [.l (Ty.int IntKind.u8) (gl (Ty.int IntKind.u8) (dOf r2) 1)]);
            (.node (isK 0 [HK.l (Ty.int IntKind.u8)] r3)
             (let r4 : Option (Nat × List Dat) := (op_13 [.l (Ty.int IntKind.u8) (gl (Ty.int IntKind.u8) (dOf r3) 0)]);
              (.node (isK 0 [HK.l (Ty.int IntKind.u8), HK.b] r4)
               (let r5 : Option (Nat × List Dat) := (op_L5_11 [.k 0, .l TIt (gl TIt (dOf r2) 0), .l (Ty.int IntKind.u8) (gl (Ty.int IntKind.u8) (dOf r2) 1), .n (0 : Int), .l (Ty.int IntKind.u8) (gl (Ty.int IntKind.u8) (dOf r4) 0), .b (gb (dOf r4) 1)]);
                (.node (isK 0 [HK.l (Ty.int IntKind.u8), HK.l (Ty.int IntKind.u8), HK.b] r5)
                 (.node ((↑(List.length (gl (Ty.int IntKind.u8) (dOf r5) 1)) : Int) == (↑(List.length (gl (Ty.int IntKind.u8) (dOf r5) 0)) : Int))
                  (let r6 : Option (Nat × List Dat) := (op_33 [.n (↑(List.length (gl (Ty.int IntKind.u8) (dOf r5) 0)) : Int), .l (Ty.int IntKind.u8) (gl (Ty.int IntKind.u8) (dOf r5) 1), .b (gb (dOf r5) 2)]);
                   (.node (isK 0 [HK.l (Ty.int IntKind.u8), HK.l (Ty.int IntKind.u8), HK.b] r6)
                    (let r7 : Option (Nat × List Dat) := (op_31 [.l (Ty.int IntKind.u8) (gl (Ty.int IntKind.u8) (dOf r6) 0)]);
                     (.node (isK 0 [HK.l (Ty.int IntKind.u8)] r7)
                      (.node (strEq (strOf (gl (Ty.int IntKind.u8) (dOf r7) 0)) (strOf (gl (Ty.int IntKind.u8) (dOf r5) 0)))
                       (.node (!gb (dOf r6) 2)
                        (.leaf (true))
                        (.leaf (false)))
                       (.leaf (false)))
                      (.bad 351)))
                    (.node (isK 1 [HK.l (Ty.int IntKind.u8), HK.b] r6)
                     (.node (strEq (strOf (gl (Ty.int IntKind.u8) (dOf (op_31 [.l (Ty.int IntKind.u8) []])) 0)) (strOf (gl (Ty.int IntKind.u8) (dOf r5) 0)))
                      (.node (!gb (dOf r6) 1)
                       (.leaf (true))
                       (.leaf (false)))
                      (.leaf (false)))
                     (.bad 351))))
                  (.leaf (false)))
                 (.node (isK 1 [HK.b] r5)
                  (.leaf (gb (dOf r5) 0))
                  (.bad 351))))
               (.bad 351)))
             (.bad 351)))
           (.bad 60))
          (.node (isK 1 [HK.l TIt, HK.l (Ty.int IntKind.u8), HK.l (Ty.int IntKind.u8)] r2)
           (.node (decide ((List.length (gl (Ty.int IntKind.u8) (dOf r2) 2) + List.length (gl (Ty.int IntKind.u8) (dOf r2) 1)) * 1 ≤ 140737488355328))
            (let r3 : Option (Nat × List Dat) := (op_31 [.l (Ty.int IntKind.u8) (gl (Ty.int IntKind.u8) (dOf r2) 2 ++ gl (Ty.int IntKind.u8) (dOf r2) 1)]);
             (.node (isK 0 [HK.l (Ty.int IntKind.u8)] r3)
              (let r4 : Option (Nat × List Dat) := (op_13 [.l (Ty.int IntKind.u8) (gl (Ty.int IntKind.u8) (dOf r3) 0)]);
               (.node (isK 0 [HK.l (Ty.int IntKind.u8), HK.b] r4)
                (let r5 : Option (Nat × List Dat) := (op_L5_11 [.k 0, .l TIt (gl TIt (dOf r2) 0), .l (Ty.int IntKind.u8) (gl (Ty.int IntKind.u8) (dOf r2) 1), .n (0 : Int), .l (Ty.int IntKind.u8) (gl (Ty.int IntKind.u8) (dOf r4) 0), .b (gb (dOf r4) 1)]);
                 (.node (isK 0 [HK.l (Ty.int IntKind.u8), HK.l (Ty.int IntKind.u8), HK.b] r5)
                  (.node ((↑(List.length (gl (Ty.int IntKind.u8) (dOf r5) 1)) : Int) == (↑(List.length (gl (Ty.int IntKind.u8) (dOf r5) 0)) : Int))
                   (let r6 : Option (Nat × List Dat) := (op_33 [.n (↑(List.length (gl (Ty.int IntKind.u8) (dOf r5) 0)) : Int), .l (Ty.int IntKind.u8) (gl (Ty.int IntKind.u8) (dOf r5) 1), .b (gb (dOf r5) 2)]);
                    (.node (isK 0 [HK.l (Ty.int IntKind.u8), HK.l (Ty.int IntKind.u8), HK.b] r6)
                     (let r7 : Option (Nat × List Dat) := (op_31 [.l (Ty.int IntKind.u8) (gl (Ty.int IntKind.u8) (dOf r6) 0)]);
                      (.node (isK 0 [HK.l (Ty.int IntKind.u8)] r7)
                       (.node (strEq (strOf (gl (Ty.int IntKind.u8) (dOf r7) 0)) (strOf (gl (Ty.int IntKind.u8) (dOf r5) 0)))
                        (.node (!gb (dOf r6) 2)
                         (.leaf (true))
                         (.leaf (false)))
                        (.leaf (false)))
                       (.bad 351)))
                     (.node (isK 1 [HK.l (Ty.int IntKind.u8), HK.b] r6)
                      (.node (strEq (strOf (gl (Ty.int IntKind.u8) (dOf (op_31 [.l (Ty.int IntKind.u8) []])) 0)) (strOf (gl (Ty.int IntKind.u8) (dOf r5) 0)))
                       (.node (!gb (dOf r6) 1)
                        (.leaf (true))
                        (.leaf (false)))
                       (.leaf (false)))
                      (.bad 351))))
                   (.leaf (false)))
                  (.node (isK 1 [HK.b] r5)
                   (.leaf (gb (dOf r5) 0))
                   (.bad 351))))
                (.bad 351)))
              (.bad 351)))
            (.bad 62))
           (.bad 351))))))
      (.bad 351)))
  | _ => .bad 0
theorem fn_W5_t_im (l0 : List (Ty.den TIt)) (l1 : List (Ty.den (Ty.int IntKind.u8))) : Imp (fn_W5_t [.l TIt l0, .l (Ty.int IntKind.u8) l1]) (ev_W5 [.l TIt l0, .l TB l1]) :=
(.node (by kernel_rfl) (by kernel_rfl) (fun h0 =>
(.path [1] (by kernel_rfl)
(.node (by kernel_rfl) (by kernel_rfl) (fun h1 =>
(.path [1,1,1,1,1] (by kernel_rfl)
(.leaf (by kernel_rfl)))) (fun h1 =>
(.node (by kernel_rfl) (by kernel_rfl) (fun h2 =>
(.path [1,1,1] (by kernel_rfl)
(.leaf (by kernel_rfl)))) (fun h2 =>
(.node (by kernel_rfl) (by kernel_rfl) (fun h3 =>
(.path [1,1,0,0,0,0,0,1] (by kernel_rfl)
(.node (by kernel_rfl) (by kernel_rfl) (fun h4 =>
(.path [1,1,1,0] (by kernel_rfl)
(.node (by kernel_rfl) (by kernel_rfl) (fun h5 =>
(.path [1,1,1] (by kernel_rfl)
(.node (by kernel_rfl) (by kernel_rfl) (fun h6 =>
(.path [1] (by kernel_rfl)
(.node (by kernel_rfl) (by kernel_rfl) (fun h7 =>
(.path [1,0,1] (by kernel_rfl)
(.node (by kernel_rfl) (by kernel_rfl) (fun h8 =>
(.path [1,1] (by kernel_rfl)
(.node (by kernel_rfl) (by kernel_rfl) (fun h9 =>
(.path [1] (by kernel_rfl)
(.node (by kernel_rfl) (by kernel_rfl) (fun h10 =>
(.path [1,1] (by kernel_rfl)
(.node (by kernel_rfl) (by kernel_rfl) (fun h11 =>
(.path [1,0,1] (by kernel_rfl)
(.node (by kernel_rfl) (by kernel_rfl) (fun h12 =>
(.path [1,1,1,1] (by kernel_rfl)
(.leaf (by kernel_rfl)))) (fun h12 =>
(.path [0,1] (by kernel_rfl)
(.leaf (by kernel_rfl))))))) (fun h11 =>
(.path [0,0,0,1] (by kernel_rfl)
(.leaf (by kernel_rfl))))))) (fun h10 =>
.none)))) (fun h9 =>
(.node (by kernel_rfl) (by kernel_rfl) (fun h10 =>
(.path [1,1,1,1] (by kernel_rfl)
(.node (by kernel_rfl) (by kernel_rfl) (fun h11 =>
(.path [1,0,1] (by kernel_rfl)
(.node (by kernel_rfl) (by kernel_rfl) (fun h12 =>
(.path [1,1,1,1] (by kernel_rfl)
(.leaf (by kernel_rfl)))) (fun h12 =>
(.path [0,1] (by kernel_rfl)
(.leaf (by kernel_rfl))))))) (fun h11 =>
(.path [0,0,0,1] (by kernel_rfl)
(.leaf (by kernel_rfl))))))) (fun h10 =>
.none)))))) (fun h8 =>
(.path [0,0,0,0,0,1] (by kernel_rfl)
(.leaf (by kernel_rfl))))))) (fun h7 =>
(.node (by kernel_rfl) (by kernel_rfl) (fun h8 =>
(.leaf (by kernel_rfl))) (fun h8 =>
.none)))))) (fun h6 =>
.none)))) (fun h5 =>
.none)))) (fun h4 =>
.none)))) (fun h3 =>
(.node (by kernel_rfl) (by kernel_rfl) (fun h4 =>
(.path [1,1,0,0,0,0,0,1] (by kernel_rfl)
(.node (by kernel_rfl) (by kernel_rfl) (fun h5 =>
(.path [1,1,1,0] (by kernel_rfl)
(.node (by kernel_rfl) (by kernel_rfl) (fun h6 =>
(.path [1,1,1] (by kernel_rfl)
(.node (by kernel_rfl) (by kernel_rfl) (fun h7 =>
(.path [1] (by kernel_rfl)
(.node (by kernel_rfl) (by kernel_rfl) (fun h8 =>
(.path [1,0,1] (by kernel_rfl)
(.node (by kernel_rfl) (by kernel_rfl) (fun h9 =>
(.path [1,1] (by kernel_rfl)
(.node (by kernel_rfl) (by kernel_rfl) (fun h10 =>
(.path [1] (by kernel_rfl)
(.node (by kernel_rfl) (by kernel_rfl) (fun h11 =>
(.path [1,1] (by kernel_rfl)
(.node (by kernel_rfl) (by kernel_rfl) (fun h12 =>
(.path [1,0,1] (by kernel_rfl)
(.node (by kernel_rfl) (by kernel_rfl) (fun h13 =>
(.path [1,1,1,1] (by kernel_rfl)
(.leaf (by kernel_rfl)))) (fun h13 =>
(.path [0,1] (by kernel_rfl)
(.leaf (by kernel_rfl))))))) (fun h12 =>
(.path [0,0,0,1] (by kernel_rfl)
(.leaf (by kernel_rfl))))))) (fun h11 =>
.none)))) (fun h10 =>
(.node (by kernel_rfl) (by kernel_rfl) (fun h11 =>
(.path [1,1,1,1] (by kernel_rfl)
(.node (by kernel_rfl) (by kernel_rfl) (fun h12 =>
(.path [1,0,1] (by kernel_rfl)
(.node (by kernel_rfl) (by kernel_rfl) (fun h13 =>
(.path [1,1,1,1] (by kernel_rfl)
(.leaf (by kernel_rfl)))) (fun h13 =>
(.path [0,1] (by kernel_rfl)
(.leaf (by kernel_rfl))))))) (fun h12 =>
(.path [0,0,0,1] (by kernel_rfl)
(.leaf (by kernel_rfl))))))) (fun h11 =>
.none)))))) (fun h9 =>
(.path [0,0,0,0,0,1] (by kernel_rfl)
(.leaf (by kernel_rfl))))))) (fun h8 =>
(.node (by kernel_rfl) (by kernel_rfl) (fun h9 =>
(.leaf (by kernel_rfl))) (fun h9 =>
.none)))))) (fun h7 =>
.none)))) (fun h6 =>
.none)))) (fun h5 =>
.none)))) (fun h4 =>
.none)))))))))) (fun h0 =>
.none))

noncomputable def ev_W6 (env : List Dat) : Tree Bool := Lk.lawB false LK cs_8 6 ls0 (instL [.int .u64 0, .int .u64 1, .int .u8 2] env)

theorem W6_law (env : List Dat) (h : (ev_W6 env).sel = some true) {w : World} {args : Array Value} (ha : LRel R0 (snapOf w) (instL [.int .u64 0, .int .u64 1, .int .u8 2] env) args) :
    Calls Try.prog 6 args w fun e w' => e = .returned (.bool true) ∧ Below w.heap.size w w' :=
  lawB_ok cs_8_ok hmix false (ls := ls0) (LsOk.none _ _ _) (by rw [← lawB_lk]; exact h) ha

noncomputable def fn_W6_k0 : List Dat → Tree Bool
  | [.n n0, .n n1, .n n2] =>
    (let r1 : Option (Nat × List Dat) := (op_35a [.n (IntKind.wrap .u64 (IntKind.wrap .u8 n0)), .n (1 : Int)]);
     (.node (isK 0 [] r1)
      (let r2 : Option (Nat × List Dat) := (op_35a [.n (IntKind.wrap .u64 (IntKind.wrap .u8 n1)), .n (1 : Int)]);
       (.node (isK 0 [] r2)
        (let r3 : Option (Nat × List Dat) := (op_17 [.l (Ty.int IntKind.u8) (bytesOf (strOf (gl (Ty.int IntKind.u8) (dOf (op_31 [.l (Ty.int IntKind.u8) []])) 0)))]);
         (.node (isK 0 [HK.n] r3)
          (.node (inR (Int.tmod (Int.tmod n2 (4 : Int)) (5 : Int)) 4)
           (.node ((0 : Int) == (List.getD [(1 : Int), (2 : Int), (4 : Int), (8 : Int)] (Int.toNat (Int.tmod (Int.tmod n2 (4 : Int)) (5 : Int))) (0 : Int) : Int))
            (.leaf (true))
            (.leaf (false)))
           (.bad 12))
          (.bad 351)))
        (.node (isK 1 [HK.l (Ty.int IntKind.u8)] r2)
         (let r3 : Option (Nat × List Dat) := (op_31 [.l (Ty.int IntKind.u8) (gl (Ty.int IntKind.u8) (dOf r2) 0)]);
          (.node (isK 0 [HK.l (Ty.int IntKind.u8)] r3)
           (let r4 : Option (Nat × List Dat) := (op_17 [.l (Ty.int IntKind.u8) (bytesOf (strOf (gl (Ty.int IntKind.u8) (dOf (op_31 [.l (Ty.int IntKind.u8) []])) 0)))]);
            (.node (isK 0 [HK.n] r4)
             (let r5 : Option (Nat × List Dat) := (op_17 [.l (Ty.int IntKind.u8) (bytesOf (strOf (gl (Ty.int IntKind.u8) (dOf r3) 0)))]);
              (.node (isK 0 [HK.n] r5)
               (.node (decide ((↑(0 + ByteArray.size (strOf (gl (Ty.int IntKind.u8) (dOf r3) 0))) : Int) ≤ (9223372036854775807 : Int)))
                (.node (strEq (strOf (gl (Ty.int IntKind.u8) (dOf r3) 0)) (strOf (gl (Ty.int IntKind.u8) (dOf (op_31 [.l (Ty.int IntKind.u8) []])) 0) ++ strOf (gl (Ty.int IntKind.u8) (dOf r3) 0)))
                 (.node (decide (gn (dOf r4) 0 < gn (dOf r5) 0) == strLt (strOf (gl (Ty.int IntKind.u8) (dOf (op_31 [.l (Ty.int IntKind.u8) []])) 0)) (strOf (gl (Ty.int IntKind.u8) (dOf r3) 0)))
                  (.node (inR (Int.tmod (Int.tmod n2 (4 : Int)) (5 : Int)) 4)
                   (.node ((0 : Int) == (List.getD [(1 : Int), (2 : Int), (4 : Int), (8 : Int)] (Int.toNat (Int.tmod (Int.tmod n2 (4 : Int)) (5 : Int))) (0 : Int) : Int))
                    (.leaf (true))
                    (.leaf (false)))
                   (.bad 12))
                  (.leaf (false)))
                 (.leaf (false)))
                (.bad 84))
               (.bad 351)))
             (.bad 351)))
           (.bad 351)))
         (.bad 351))))
      (.node (isK 1 [HK.l (Ty.int IntKind.u8)] r1)
       (let r2 : Option (Nat × List Dat) := (op_35a [.n (IntKind.wrap .u64 (IntKind.wrap .u8 n1)), .n (1 : Int)]);
        (.node (isK 0 [] r2)
         (let r3 : Option (Nat × List Dat) := (op_35b [.n (IntKind.wrap .u64 (IntKind.wrap .u8 n1)), .n (1 : Int), .l (Ty.int IntKind.u8) (gl (Ty.int IntKind.u8) (dOf r1) 0)]);
          (.node (isK 0 [HK.l (Ty.int IntKind.u8)] r3)
           (let r4 : Option (Nat × List Dat) := (op_31 [.l (Ty.int IntKind.u8) (gl (Ty.int IntKind.u8) (dOf r1) 0)]);
            (.node (isK 0 [HK.l (Ty.int IntKind.u8)] r4)
             (let r5 : Option (Nat × List Dat) := (op_17 [.l (Ty.int IntKind.u8) (bytesOf (strOf (gl (Ty.int IntKind.u8) (dOf r4) 0)))]);
              (.node (isK 0 [HK.n] r5)
               (let r6 : Option (Nat × List Dat) := (op_17 [.l (Ty.int IntKind.u8) (bytesOf (strOf (gl (Ty.int IntKind.u8) (dOf (op_31 [.l (Ty.int IntKind.u8) []])) 0)))]);
                (.node (isK 0 [HK.n] r6)
                 (let r7 : Option (Nat × List Dat) := (op_31 [.l (Ty.int IntKind.u8) (gl (Ty.int IntKind.u8) (dOf r3) 0)]);
                  (.node (isK 0 [HK.l (Ty.int IntKind.u8)] r7)
                   (.node (decide ((↑(ByteArray.size (strOf (gl (Ty.int IntKind.u8) (dOf r4) 0)) + 0) : Int) ≤ (9223372036854775807 : Int)))
                    (.node (strEq (strOf (gl (Ty.int IntKind.u8) (dOf r7) 0)) (strOf (gl (Ty.int IntKind.u8) (dOf r4) 0) ++ strOf (gl (Ty.int IntKind.u8) (dOf (op_31 [.l (Ty.int IntKind.u8) []])) 0)))
                     (.node (decide (gn (dOf r5) 0 < gn (dOf r6) 0) == strLt (strOf (gl (Ty.int IntKind.u8) (dOf r4) 0)) (strOf (gl (Ty.int IntKind.u8) (dOf (op_31 [.l (Ty.int IntKind.u8) []])) 0)))
                      (.node (inR (Int.tmod (Int.tmod n2 (4 : Int)) (5 : Int)) 4)
                       (.node ((↑(ByteArray.size (strOf (gl (Ty.int IntKind.u8) (dOf r4) 0))) : Int) == (List.getD [(1 : Int), (2 : Int), (4 : Int), (8 : Int)] (Int.toNat (Int.tmod (Int.tmod n2 (4 : Int)) (5 : Int))) (0 : Int) : Int))
                        (.leaf (true))
                        (.leaf (false)))
                       (.bad 12))
                      (.leaf (false)))
                     (.leaf (false)))
                    (.bad 84))
                   (.bad 351)))
                 (.bad 351)))
               (.bad 351)))
             (.bad 351)))
           (.bad 351)))
         (.node (isK 1 [HK.l (Ty.int IntKind.u8)] r2)
          (let r3 : Option (Nat × List Dat) := (op_35b [.n (IntKind.wrap .u64 (IntKind.wrap .u8 n1)), .n (1 : Int), .l (Ty.int IntKind.u8) (gl (Ty.int IntKind.u8) (dOf r1) 0)]);
           (.node (isK 0 [HK.l (Ty.int IntKind.u8)] r3)
            (let r4 : Option (Nat × List Dat) := (op_31 [.l (Ty.int IntKind.u8) (gl (Ty.int IntKind.u8) (dOf r1) 0)]);
             (.node (isK 0 [HK.l (Ty.int IntKind.u8)] r4)
              (let r5 : Option (Nat × List Dat) := (op_31 [.l (Ty.int IntKind.u8) (gl (Ty.int IntKind.u8) (dOf r2) 0)]);
               (.node (isK 0 [HK.l (Ty.int IntKind.u8)] r5)
                (let r6 : Option (Nat × List Dat) := (op_17 [.l (Ty.int IntKind.u8) (bytesOf (strOf (gl (Ty.int IntKind.u8) (dOf r4) 0)))]);
                 (.node (isK 0 [HK.n] r6)
                  (let r7 : Option (Nat × List Dat) := (op_17 [.l (Ty.int IntKind.u8) (bytesOf (strOf (gl (Ty.int IntKind.u8) (dOf r5) 0)))]);
                   (.node (isK 0 [HK.n] r7)
                    (let r8 : Option (Nat × List Dat) := (op_31 [.l (Ty.int IntKind.u8) (gl (Ty.int IntKind.u8) (dOf r3) 0)]);
                     (.node (isK 0 [HK.l (Ty.int IntKind.u8)] r8)
                      (.node (decide ((↑(ByteArray.size (strOf (gl (Ty.int IntKind.u8) (dOf r4) 0)) + ByteArray.size (strOf (gl (Ty.int IntKind.u8) (dOf r5) 0))) : Int) ≤ (9223372036854775807 : Int)))
                       (.node (strEq (strOf (gl (Ty.int IntKind.u8) (dOf r8) 0)) (strOf (gl (Ty.int IntKind.u8) (dOf r4) 0) ++ strOf (gl (Ty.int IntKind.u8) (dOf r5) 0)))
                        (.node (decide (gn (dOf r6) 0 < gn (dOf r7) 0) == strLt (strOf (gl (Ty.int IntKind.u8) (dOf r4) 0)) (strOf (gl (Ty.int IntKind.u8) (dOf r5) 0)))
                         (.node (inR (Int.tmod (Int.tmod n2 (4 : Int)) (5 : Int)) 4)
                          (.node ((↑(ByteArray.size (strOf (gl (Ty.int IntKind.u8) (dOf r4) 0))) : Int) == (List.getD [(1 : Int), (2 : Int), (4 : Int), (8 : Int)] (Int.toNat (Int.tmod (Int.tmod n2 (4 : Int)) (5 : Int))) (0 : Int) : Int))
                           (.leaf (true))
                           (.leaf (false)))
                          (.bad 12))
                         (.leaf (false)))
                        (.leaf (false)))
                       (.bad 84))
                      (.bad 351)))
                    (.bad 351)))
                  (.bad 351)))
                (.bad 351)))
              (.bad 351)))
            (.bad 351)))
          (.bad 351))))
       (.bad 351))))
  | _ => .bad 0
theorem fn_W6_k0_im (n0 : Int) (n1 : Int) (n2 : Int) (g0 : Int.tmod n2 (4 : Int) = 0) : Imp (fn_W6_k0 [.n n0, .n n1, .n n2]) (ev_W6 [.n n0, .n n1, .n n2]) :=
(.path [1,1,1] (by kernel_rfl)
(.pt (c := (Int.tmod (Int.tmod n2 (4 : Int)) (5 : Int) == (0 : Int))) (by kernel_rfl) (by kernel_rfl) (by (simp [*]; done))
(.path [1,1,0,1,1] (by kernel_rfl)
(.node (by kernel_rfl) (by kernel_rfl) (fun h0 =>
(.path [1,0,0,0,0,1,1,1,1,1] (by kernel_rfl)
(.pt (c := (Int.tmod (Int.tmod n2 (4 : Int)) (5 : Int) == (0 : Int))) (by kernel_rfl) (by kernel_rfl) (by (simp [*]; done))
(.path [1,1,0,1,1] (by kernel_rfl)
(.node (by kernel_rfl) (by kernel_rfl) (fun h1 =>
(.path [1,0,0,0,0,1,1,1,1,1] (by kernel_rfl)
(.pt (c := (Int.tmod (Int.tmod n2 (4 : Int)) (5 : Int) == (0 : Int))) (by kernel_rfl) (by kernel_rfl) (by (simp [*]; done))
(.path [1,1,0,1,1] (by kernel_rfl)
(.pt (by kernel_rfl) (by kernel_rfl) h0
(.path [1,0,0,0,0,1,1,1,1,1] (by kernel_rfl)
(.pt (c := (Int.tmod (Int.tmod n2 (4 : Int)) (5 : Int) == (0 : Int))) (by kernel_rfl) (by kernel_rfl) (by (simp [*]; done))
(.path [1,1,0,1,1] (by kernel_rfl)
(.pt (by kernel_rfl) (by kernel_rfl) h1
(.path [1,0,0,0,0,1,1,1,1,0,1,1,1,1,0,1,1,1,1] (by kernel_rfl)
(.node (by kernel_rfl) (by kernel_rfl) (fun h2 =>
(.path [1] (by kernel_rfl)
(.pt (by kernel_rfl) (by kernel_rfl) h2
(.path [1,1,0,1,1,1,1,1] (by kernel_rfl)
(.pt (c := (decide (gn (dOf (op_17 [.l (Ty.int IntKind.u8) (bytesOf (strOf (gl (Ty.int IntKind.u8) (dOf (op_31 [.l (Ty.int IntKind.u8) []])) 0)))])) 0 < gn (dOf (op_17 [.l (Ty.int IntKind.u8) (bytesOf (strOf (gl (Ty.int IntKind.u8) (dOf (op_31 [.l (Ty.int IntKind.u8) []])) 0)))])) 0) == false)) (by kernel_rfl) (by kernel_rfl) (by (simp [*]; done))
(.path [1,1] (by kernel_rfl)
(.node (by kernel_rfl) (by kernel_rfl) (fun h3 =>
(.path [1] (by kernel_rfl)
(.node (by kernel_rfl) (by kernel_rfl) (fun h4 =>
(.path [1,1,1] (by kernel_rfl)
(.leaf (by kernel_rfl)))) (fun h4 =>
(.path [0] (by kernel_rfl)
(.leaf (by kernel_rfl))))))) (fun h3 =>
.none)))))))) (fun h2 =>
.none)))))))))))) (fun h1 =>
(.node (by kernel_rfl) (by kernel_rfl) (fun h2 =>
(.path [1,0,0,0,0,1,1,1,1,1] (by kernel_rfl)
(.pt (c := (Int.tmod (Int.tmod n2 (4 : Int)) (5 : Int) == (0 : Int))) (by kernel_rfl) (by kernel_rfl) (by (simp [*]; done))
(.path [1,1,0,1,1] (by kernel_rfl)
(.pt (by kernel_rfl) (by kernel_rfl) h0
(.path [1,0,0,0,0,1,1,1,1,1] (by kernel_rfl)
(.pt (c := (Int.tmod (Int.tmod n2 (4 : Int)) (5 : Int) == (0 : Int))) (by kernel_rfl) (by kernel_rfl) (by (simp [*]; done))
(.path [1,1,0,1,1] (by kernel_rfl)
(.pf (by kernel_rfl) (by kernel_rfl) h1
(.pt (by kernel_rfl) (by kernel_rfl) h2
(.path [1,0,0,0,0,1,1,1,1,0,1,1,1,1,0] (by kernel_rfl)
(.node (by kernel_rfl) (by kernel_rfl) (fun h3 =>
(.path [1,1,1] (by kernel_rfl)
(.node (by kernel_rfl) (by kernel_rfl) (fun h4 =>
(.path [1] (by kernel_rfl)
(.node (by kernel_rfl) (by kernel_rfl) (fun h5 =>
(.path [1,1,0] (by kernel_rfl)
(.pt (by kernel_rfl) (by kernel_rfl) h3
(.path [1,1] (by kernel_rfl)
(.node (by kernel_rfl) (by kernel_rfl) (fun h6 =>
(.node (by kernel_rfl) (by kernel_rfl) (fun h7 =>
(.node (by kernel_rfl) (by kernel_rfl) (fun h8 =>
(.path [1,1] (by kernel_rfl)
(.node (by kernel_rfl) (by kernel_rfl) (fun h9 =>
(.path [1] (by kernel_rfl)
(.node (by kernel_rfl) (by kernel_rfl) (fun h10 =>
(.path [1,1,1] (by kernel_rfl)
(.leaf (by kernel_rfl)))) (fun h10 =>
(.path [0] (by kernel_rfl)
(.leaf (by kernel_rfl))))))) (fun h9 =>
.none)))) (fun h8 =>
(.path [0,0,0] (by kernel_rfl)
(.leaf (by kernel_rfl)))))) (fun h7 =>
(.path [0,0,0,0,0] (by kernel_rfl)
(.leaf (by kernel_rfl)))))) (fun h6 =>
.none)))))) (fun h5 =>
.none)))) (fun h4 =>
.none)))) (fun h3 =>
.none))))))))))))) (fun h2 =>
.none)))))))) (fun h0 =>
(.node (by kernel_rfl) (by kernel_rfl) (fun h1 =>
(.path [1,0,0,0,0,1,1,1,1,1] (by kernel_rfl)
(.pt (c := (Int.tmod (Int.tmod n2 (4 : Int)) (5 : Int) == (0 : Int))) (by kernel_rfl) (by kernel_rfl) (by (simp [*]; done))
(.path [1,1,0,1,1] (by kernel_rfl)
(.node (by kernel_rfl) (by kernel_rfl) (fun h2 =>
(.path [1,0,0,0,0,1,1,1,1,1] (by kernel_rfl)
(.pt (c := (Int.tmod (Int.tmod n2 (4 : Int)) (5 : Int) == (0 : Int))) (by kernel_rfl) (by kernel_rfl) (by (simp [*]; done))
(.path [1,1,0,1,1] (by kernel_rfl)
(.pf (by kernel_rfl) (by kernel_rfl) h0
(.pt (by kernel_rfl) (by kernel_rfl) h1
(.path [1,0,0,0,0,1,1,1,1,1] (by kernel_rfl)
(.pt (c := (Int.tmod (Int.tmod n2 (4 : Int)) (5 : Int) == (0 : Int))) (by kernel_rfl) (by kernel_rfl) (by (simp [*]; done))
(.path [1,1,0,1,1] (by kernel_rfl)
(.node (by kernel_rfl) (by kernel_rfl) (fun h3 =>
(.path [1,0,0,0,0,1,1,1,1,0] (by kernel_rfl)
(.node (by kernel_rfl) (by kernel_rfl) (fun h4 =>
(.path [1,1,1,0,1,1,1,1] (by kernel_rfl)
(.node (by kernel_rfl) (by kernel_rfl) (fun h5 =>
(.path [1] (by kernel_rfl)
(.node (by kernel_rfl) (by kernel_rfl) (fun h6 =>
(.path [1,1,0] (by kernel_rfl)
(.node (by kernel_rfl) (by kernel_rfl) (fun h7 =>
(.path [1,1] (by kernel_rfl)
(.node (by kernel_rfl) (by kernel_rfl) (fun h8 =>
(.node (by kernel_rfl) (by kernel_rfl) (fun h9 =>
(.node (by kernel_rfl) (by kernel_rfl) (fun h10 =>
(.path [1,1] (by kernel_rfl)
(.node (by kernel_rfl) (by kernel_rfl) (fun h11 =>
(.path [1] (by kernel_rfl)
(.node (by kernel_rfl) (by kernel_rfl) (fun h12 =>
(.path [1,1,1] (by kernel_rfl)
(.leaf (by kernel_rfl)))) (fun h12 =>
(.path [0] (by kernel_rfl)
(.leaf (by kernel_rfl))))))) (fun h11 =>
.none)))) (fun h10 =>
(.path [0,0,0] (by kernel_rfl)
(.leaf (by kernel_rfl)))))) (fun h9 =>
(.path [0,0,0,0,0] (by kernel_rfl)
(.leaf (by kernel_rfl)))))) (fun h8 =>
.none)))) (fun h7 =>
.none)))) (fun h6 =>
.none)))) (fun h5 =>
.none)))) (fun h4 =>
.none)))) (fun h3 =>
.none))))))))))) (fun h2 =>
(.node (by kernel_rfl) (by kernel_rfl) (fun h3 =>
(.path [1,0,0,0,0,1,1,1,1,1] (by kernel_rfl)
(.pt (c := (Int.tmod (Int.tmod n2 (4 : Int)) (5 : Int) == (0 : Int))) (by kernel_rfl) (by kernel_rfl) (by (simp [*]; done))
(.path [1,1,0,1,1] (by kernel_rfl)
(.pf (by kernel_rfl) (by kernel_rfl) h0
(.pt (by kernel_rfl) (by kernel_rfl) h1
(.path [1,0,0,0,0,1,1,1,1,1] (by kernel_rfl)
(.pt (c := (Int.tmod (Int.tmod n2 (4 : Int)) (5 : Int) == (0 : Int))) (by kernel_rfl) (by kernel_rfl) (by (simp [*]; done))
(.path [1,1,0,1,1] (by kernel_rfl)
(.node (by kernel_rfl) (by kernel_rfl) (fun h4 =>
(.path [1,0,0,0,0,1,1,1,1,0] (by kernel_rfl)
(.node (by kernel_rfl) (by kernel_rfl) (fun h5 =>
(.path [1,1,1,0] (by kernel_rfl)
(.node (by kernel_rfl) (by kernel_rfl) (fun h6 =>
(.path [1,1,1] (by kernel_rfl)
(.node (by kernel_rfl) (by kernel_rfl) (fun h7 =>
(.path [1] (by kernel_rfl)
(.node (by kernel_rfl) (by kernel_rfl) (fun h8 =>
(.path [1,1,0] (by kernel_rfl)
(.node (by kernel_rfl) (by kernel_rfl) (fun h9 =>
(.path [1,1] (by kernel_rfl)
(.node (by kernel_rfl) (by kernel_rfl) (fun h10 =>
(.node (by kernel_rfl) (by kernel_rfl) (fun h11 =>
(.node (by kernel_rfl) (by kernel_rfl) (fun h12 =>
(.path [1,1] (by kernel_rfl)
(.node (by kernel_rfl) (by kernel_rfl) (fun h13 =>
(.path [1] (by kernel_rfl)
(.node (by kernel_rfl) (by kernel_rfl) (fun h14 =>
(.path [1,1,1] (by kernel_rfl)
(.leaf (by kernel_rfl)))) (fun h14 =>
(.path [0] (by kernel_rfl)
(.leaf (by kernel_rfl))))))) (fun h13 =>
.none)))) (fun h12 =>
(.path [0,0,0] (by kernel_rfl)
(.leaf (by kernel_rfl)))))) (fun h11 =>
(.path [0,0,0,0,0] (by kernel_rfl)
(.leaf (by kernel_rfl)))))) (fun h10 =>
.none)))) (fun h9 =>
.none)))) (fun h8 =>
.none)))) (fun h7 =>
.none)))) (fun h6 =>
.none)))) (fun h5 =>
.none)))) (fun h4 =>
.none))))))))))) (fun h3 =>
.none)))))))) (fun h1 =>
.none)))))))

noncomputable def fn_W6_k1 : List Dat → Tree Bool
  | [.n n0, .n n1, .n n2] =>
    (let r1 : Option (Nat × List Dat) := (op_35a [.n (IntKind.wrap .u64 (IntKind.wrap .u16 n0)), .n (2 : Int)]);
     (.node (isK 0 [] r1)
      (let r2 : Option (Nat × List Dat) := (op_35a [.n (IntKind.wrap .u64 (IntKind.wrap .u16 n1)), .n (2 : Int)]);
       (.node (isK 0 [] r2)
        (let r3 : Option (Nat × List Dat) := (op_17 [.l (Ty.int IntKind.u8) (bytesOf (strOf (gl (Ty.int IntKind.u8) (dOf (op_31 [.l (Ty.int IntKind.u8) []])) 0)))]);
         (.node (isK 0 [HK.n] r3)
          (.node (inR (Int.tmod (Int.tmod n2 (4 : Int)) (5 : Int)) 4)
           (.node ((0 : Int) == (List.getD [(1 : Int), (2 : Int), (4 : Int), (8 : Int)] (Int.toNat (Int.tmod (Int.tmod n2 (4 : Int)) (5 : Int))) (0 : Int) : Int))
            (.leaf (true))
            (.leaf (false)))
           (.bad 12))
          (.bad 351)))
        (.node (isK 1 [HK.l (Ty.int IntKind.u8)] r2)
         (let r3 : Option (Nat × List Dat) := (op_31 [.l (Ty.int IntKind.u8) (gl (Ty.int IntKind.u8) (dOf r2) 0)]);
          (.node (isK 0 [HK.l (Ty.int IntKind.u8)] r3)
           (let r4 : Option (Nat × List Dat) := (op_17 [.l (Ty.int IntKind.u8) (bytesOf (strOf (gl (Ty.int IntKind.u8) (dOf (op_31 [.l (Ty.int IntKind.u8) []])) 0)))]);
            (.node (isK 0 [HK.n] r4)
             (let r5 : Option (Nat × List Dat) := (op_17 [.l (Ty.int IntKind.u8) (bytesOf (strOf (gl (Ty.int IntKind.u8) (dOf r3) 0)))]);
              (.node (isK 0 [HK.n] r5)
               (.node (decide ((↑(0 + ByteArray.size (strOf (gl (Ty.int IntKind.u8) (dOf r3) 0))) : Int) ≤ (9223372036854775807 : Int)))
                (.node (strEq (strOf (gl (Ty.int IntKind.u8) (dOf r3) 0)) (strOf (gl (Ty.int IntKind.u8) (dOf (op_31 [.l (Ty.int IntKind.u8) []])) 0) ++ strOf (gl (Ty.int IntKind.u8) (dOf r3) 0)))
                 (.node (decide (gn (dOf r4) 0 < gn (dOf r5) 0) == strLt (strOf (gl (Ty.int IntKind.u8) (dOf (op_31 [.l (Ty.int IntKind.u8) []])) 0)) (strOf (gl (Ty.int IntKind.u8) (dOf r3) 0)))
                  (.node (inR (Int.tmod (Int.tmod n2 (4 : Int)) (5 : Int)) 4)
                   (.node ((0 : Int) == (List.getD [(1 : Int), (2 : Int), (4 : Int), (8 : Int)] (Int.toNat (Int.tmod (Int.tmod n2 (4 : Int)) (5 : Int))) (0 : Int) : Int))
                    (.leaf (true))
                    (.leaf (false)))
                   (.bad 12))
                  (.leaf (false)))
                 (.leaf (false)))
                (.bad 84))
               (.bad 351)))
             (.bad 351)))
           (.bad 351)))
         (.bad 351))))
      (.node (isK 1 [HK.l (Ty.int IntKind.u8)] r1)
       (let r2 : Option (Nat × List Dat) := (op_35a [.n (IntKind.wrap .u64 (IntKind.wrap .u16 n1)), .n (2 : Int)]);
        (.node (isK 0 [] r2)
         (let r3 : Option (Nat × List Dat) := (op_35b [.n (IntKind.wrap .u64 (IntKind.wrap .u16 n1)), .n (2 : Int), .l (Ty.int IntKind.u8) (gl (Ty.int IntKind.u8) (dOf r1) 0)]);
          (.node (isK 0 [HK.l (Ty.int IntKind.u8)] r3)
           (let r4 : Option (Nat × List Dat) := (op_31 [.l (Ty.int IntKind.u8) (gl (Ty.int IntKind.u8) (dOf r1) 0)]);
            (.node (isK 0 [HK.l (Ty.int IntKind.u8)] r4)
             (let r5 : Option (Nat × List Dat) := (op_17 [.l (Ty.int IntKind.u8) (bytesOf (strOf (gl (Ty.int IntKind.u8) (dOf r4) 0)))]);
              (.node (isK 0 [HK.n] r5)
               (let r6 : Option (Nat × List Dat) := (op_17 [.l (Ty.int IntKind.u8) (bytesOf (strOf (gl (Ty.int IntKind.u8) (dOf (op_31 [.l (Ty.int IntKind.u8) []])) 0)))]);
                (.node (isK 0 [HK.n] r6)
                 (let r7 : Option (Nat × List Dat) := (op_31 [.l (Ty.int IntKind.u8) (gl (Ty.int IntKind.u8) (dOf r3) 0)]);
                  (.node (isK 0 [HK.l (Ty.int IntKind.u8)] r7)
                   (.node (decide ((↑(ByteArray.size (strOf (gl (Ty.int IntKind.u8) (dOf r4) 0)) + 0) : Int) ≤ (9223372036854775807 : Int)))
                    (.node (strEq (strOf (gl (Ty.int IntKind.u8) (dOf r7) 0)) (strOf (gl (Ty.int IntKind.u8) (dOf r4) 0) ++ strOf (gl (Ty.int IntKind.u8) (dOf (op_31 [.l (Ty.int IntKind.u8) []])) 0)))
                     (.node (decide (gn (dOf r5) 0 < gn (dOf r6) 0) == strLt (strOf (gl (Ty.int IntKind.u8) (dOf r4) 0)) (strOf (gl (Ty.int IntKind.u8) (dOf (op_31 [.l (Ty.int IntKind.u8) []])) 0)))
                      (.node (inR (Int.tmod (Int.tmod n2 (4 : Int)) (5 : Int)) 4)
                       (.node ((↑(ByteArray.size (strOf (gl (Ty.int IntKind.u8) (dOf r4) 0))) : Int) == (List.getD [(1 : Int), (2 : Int), (4 : Int), (8 : Int)] (Int.toNat (Int.tmod (Int.tmod n2 (4 : Int)) (5 : Int))) (0 : Int) : Int))
                        (.leaf (true))
                        (.leaf (false)))
                       (.bad 12))
                      (.leaf (false)))
                     (.leaf (false)))
                    (.bad 84))
                   (.bad 351)))
                 (.bad 351)))
               (.bad 351)))
             (.bad 351)))
           (.bad 351)))
         (.node (isK 1 [HK.l (Ty.int IntKind.u8)] r2)
          (let r3 : Option (Nat × List Dat) := (op_35b [.n (IntKind.wrap .u64 (IntKind.wrap .u16 n1)), .n (2 : Int), .l (Ty.int IntKind.u8) (gl (Ty.int IntKind.u8) (dOf r1) 0)]);
           (.node (isK 0 [HK.l (Ty.int IntKind.u8)] r3)
            (let r4 : Option (Nat × List Dat) := (op_31 [.l (Ty.int IntKind.u8) (gl (Ty.int IntKind.u8) (dOf r1) 0)]);
             (.node (isK 0 [HK.l (Ty.int IntKind.u8)] r4)
              (let r5 : Option (Nat × List Dat) := (op_31 [.l (Ty.int IntKind.u8) (gl (Ty.int IntKind.u8) (dOf r2) 0)]);
               (.node (isK 0 [HK.l (Ty.int IntKind.u8)] r5)
                (let r6 : Option (Nat × List Dat) := (op_17 [.l (Ty.int IntKind.u8) (bytesOf (strOf (gl (Ty.int IntKind.u8) (dOf r4) 0)))]);
                 (.node (isK 0 [HK.n] r6)
                  (let r7 : Option (Nat × List Dat) := (op_17 [.l (Ty.int IntKind.u8) (bytesOf (strOf (gl (Ty.int IntKind.u8) (dOf r5) 0)))]);
                   (.node (isK 0 [HK.n] r7)
                    (let r8 : Option (Nat × List Dat) := (op_31 [.l (Ty.int IntKind.u8) (gl (Ty.int IntKind.u8) (dOf r3) 0)]);
                     (.node (isK 0 [HK.l (Ty.int IntKind.u8)] r8)
                      (.node (decide ((↑(ByteArray.size (strOf (gl (Ty.int IntKind.u8) (dOf r4) 0)) + ByteArray.size (strOf (gl (Ty.int IntKind.u8) (dOf r5) 0))) : Int) ≤ (9223372036854775807 : Int)))
                       (.node (strEq (strOf (gl (Ty.int IntKind.u8) (dOf r8) 0)) (strOf (gl (Ty.int IntKind.u8) (dOf r4) 0) ++ strOf (gl (Ty.int IntKind.u8) (dOf r5) 0)))
                        (.node (decide (gn (dOf r6) 0 < gn (dOf r7) 0) == strLt (strOf (gl (Ty.int IntKind.u8) (dOf r4) 0)) (strOf (gl (Ty.int IntKind.u8) (dOf r5) 0)))
                         (.node (inR (Int.tmod (Int.tmod n2 (4 : Int)) (5 : Int)) 4)
                          (.node ((↑(ByteArray.size (strOf (gl (Ty.int IntKind.u8) (dOf r4) 0))) : Int) == (List.getD [(1 : Int), (2 : Int), (4 : Int), (8 : Int)] (Int.toNat (Int.tmod (Int.tmod n2 (4 : Int)) (5 : Int))) (0 : Int) : Int))
                           (.leaf (true))
                           (.leaf (false)))
                          (.bad 12))
                         (.leaf (false)))
                        (.leaf (false)))
                       (.bad 84))
                      (.bad 351)))
                    (.bad 351)))
                  (.bad 351)))
                (.bad 351)))
              (.bad 351)))
            (.bad 351)))
          (.bad 351))))
       (.bad 351))))
  | _ => .bad 0
theorem fn_W6_k1_im (n0 : Int) (n1 : Int) (n2 : Int) (g0 : Int.tmod n2 (4 : Int) = 1) : Imp (fn_W6_k1 [.n n0, .n n1, .n n2]) (ev_W6 [.n n0, .n n1, .n n2]) :=
(.path [1,1,1] (by kernel_rfl)
(.pf (c := (Int.tmod (Int.tmod n2 (4 : Int)) (5 : Int) == (0 : Int))) (by kernel_rfl) (by kernel_rfl) (by (simp [*]; done))
(.pt (c := (Int.tmod (Int.tmod n2 (4 : Int)) (5 : Int) == (1 : Int))) (by kernel_rfl) (by kernel_rfl) (by (simp [*]; done))
(.path [1,1,0,0,1,1] (by kernel_rfl)
(.node (by kernel_rfl) (by kernel_rfl) (fun h0 =>
(.path [1,0,0,0,1,1,1,1,1] (by kernel_rfl)
(.pf (c := (Int.tmod (Int.tmod n2 (4 : Int)) (5 : Int) == (0 : Int))) (by kernel_rfl) (by kernel_rfl) (by (simp [*]; done))
(.pt (c := (Int.tmod (Int.tmod n2 (4 : Int)) (5 : Int) == (1 : Int))) (by kernel_rfl) (by kernel_rfl) (by (simp [*]; done))
(.path [1,1,0,0,1,1] (by kernel_rfl)
(.node (by kernel_rfl) (by kernel_rfl) (fun h1 =>
(.path [1,0,0,0,1,1,1,1,1] (by kernel_rfl)
(.pf (c := (Int.tmod (Int.tmod n2 (4 : Int)) (5 : Int) == (0 : Int))) (by kernel_rfl) (by kernel_rfl) (by (simp [*]; done))
(.pt (c := (Int.tmod (Int.tmod n2 (4 : Int)) (5 : Int) == (1 : Int))) (by kernel_rfl) (by kernel_rfl) (by (simp [*]; done))
(.path [1,1,0,0,1,1] (by kernel_rfl)
(.pt (by kernel_rfl) (by kernel_rfl) h0
(.path [1,0,0,0,1,1,1,1,1] (by kernel_rfl)
(.pf (c := (Int.tmod (Int.tmod n2 (4 : Int)) (5 : Int) == (0 : Int))) (by kernel_rfl) (by kernel_rfl) (by (simp [*]; done))
(.pt (c := (Int.tmod (Int.tmod n2 (4 : Int)) (5 : Int) == (1 : Int))) (by kernel_rfl) (by kernel_rfl) (by (simp [*]; done))
(.path [1,1,0,0,1,1] (by kernel_rfl)
(.pt (by kernel_rfl) (by kernel_rfl) h1
(.path [1,0,0,0,1,1,1,1,0,1,1,1,1,0,1,1,1,1] (by kernel_rfl)
(.node (by kernel_rfl) (by kernel_rfl) (fun h2 =>
(.path [1] (by kernel_rfl)
(.pt (by kernel_rfl) (by kernel_rfl) h2
(.path [1,1,0,1,1,1,1,1] (by kernel_rfl)
(.pt (c := (decide (gn (dOf (op_17 [.l (Ty.int IntKind.u8) (bytesOf (strOf (gl (Ty.int IntKind.u8) (dOf (op_31 [.l (Ty.int IntKind.u8) []])) 0)))])) 0 < gn (dOf (op_17 [.l (Ty.int IntKind.u8) (bytesOf (strOf (gl (Ty.int IntKind.u8) (dOf (op_31 [.l (Ty.int IntKind.u8) []])) 0)))])) 0) == false)) (by kernel_rfl) (by kernel_rfl) (by (simp [*]; done))
(.path [1,1] (by kernel_rfl)
(.node (by kernel_rfl) (by kernel_rfl) (fun h3 =>
(.path [1] (by kernel_rfl)
(.node (by kernel_rfl) (by kernel_rfl) (fun h4 =>
(.path [1,1,1] (by kernel_rfl)
(.leaf (by kernel_rfl)))) (fun h4 =>
(.path [0] (by kernel_rfl)
(.leaf (by kernel_rfl))))))) (fun h3 =>
.none)))))))) (fun h2 =>
.none)))))))))))))) (fun h1 =>
(.node (by kernel_rfl) (by kernel_rfl) (fun h2 =>
(.path [1,0,0,0,1,1,1,1,1] (by kernel_rfl)
(.pf (c := (Int.tmod (Int.tmod n2 (4 : Int)) (5 : Int) == (0 : Int))) (by kernel_rfl) (by kernel_rfl) (by (simp [*]; done))
(.pt (c := (Int.tmod (Int.tmod n2 (4 : Int)) (5 : Int) == (1 : Int))) (by kernel_rfl) (by kernel_rfl) (by (simp [*]; done))
(.path [1,1,0,0,1,1] (by kernel_rfl)
(.pt (by kernel_rfl) (by kernel_rfl) h0
(.path [1,0,0,0,1,1,1,1,1] (by kernel_rfl)
(.pf (c := (Int.tmod (Int.tmod n2 (4 : Int)) (5 : Int) == (0 : Int))) (by kernel_rfl) (by kernel_rfl) (by (simp [*]; done))
(.pt (c := (Int.tmod (Int.tmod n2 (4 : Int)) (5 : Int) == (1 : Int))) (by kernel_rfl) (by kernel_rfl) (by (simp [*]; done))
(.path [1,1,0,0,1,1] (by kernel_rfl)
(.pf (by kernel_rfl) (by kernel_rfl) h1
(.pt (by kernel_rfl) (by kernel_rfl) h2
(.path [1,0,0,0,1,1,1,1,0,1,1,1,1,0] (by kernel_rfl)
(.node (by kernel_rfl) (by kernel_rfl) (fun h3 =>
(.path [1,1,1] (by kernel_rfl)
(.node (by kernel_rfl) (by kernel_rfl) (fun h4 =>
(.path [1] (by kernel_rfl)
(.node (by kernel_rfl) (by kernel_rfl) (fun h5 =>
(.path [1,1,0] (by kernel_rfl)
(.pt (by kernel_rfl) (by kernel_rfl) h3
(.path [1,1] (by kernel_rfl)
(.node (by kernel_rfl) (by kernel_rfl) (fun h6 =>
(.node (by kernel_rfl) (by kernel_rfl) (fun h7 =>
(.node (by kernel_rfl) (by kernel_rfl) (fun h8 =>
(.path [1,1] (by kernel_rfl)
(.node (by kernel_rfl) (by kernel_rfl) (fun h9 =>
(.path [1] (by kernel_rfl)
(.node (by kernel_rfl) (by kernel_rfl) (fun h10 =>
(.path [1,1,1] (by kernel_rfl)
(.leaf (by kernel_rfl)))) (fun h10 =>
(.path [0] (by kernel_rfl)
(.leaf (by kernel_rfl))))))) (fun h9 =>
.none)))) (fun h8 =>
(.path [0,0,0] (by kernel_rfl)
(.leaf (by kernel_rfl)))))) (fun h7 =>
(.path [0,0,0,0,0] (by kernel_rfl)
(.leaf (by kernel_rfl)))))) (fun h6 =>
.none)))))) (fun h5 =>
.none)))) (fun h4 =>
.none)))) (fun h3 =>
.none))))))))))))))) (fun h2 =>
.none))))))))) (fun h0 =>
(.node (by kernel_rfl) (by kernel_rfl) (fun h1 =>
(.path [1,0,0,0,1,1,1,1,1] (by kernel_rfl)
(.pf (c := (Int.tmod (Int.tmod n2 (4 : Int)) (5 : Int) == (0 : Int))) (by kernel_rfl) (by kernel_rfl) (by (simp [*]; done))
(.pt (c := (Int.tmod (Int.tmod n2 (4 : Int)) (5 : Int) == (1 : Int))) (by kernel_rfl) (by kernel_rfl) (by (simp [*]; done))
(.path [1,1,0,0,1,1] (by kernel_rfl)
(.node (by kernel_rfl) (by kernel_rfl) (fun h2 =>
(.path [1,0,0,0,1,1,1,1,1] (by kernel_rfl)
(.pf (c := (Int.tmod (Int.tmod n2 (4 : Int)) (5 : Int) == (0 : Int))) (by kernel_rfl) (by kernel_rfl) (by (simp [*]; done))
(.pt (c := (Int.tmod (Int.tmod n2 (4 : Int)) (5 : Int) == (1 : Int))) (by kernel_rfl) (by kernel_rfl) (by (simp [*]; done))
(.path [1,1,0,0,1,1] (by kernel_rfl)
(.pf (by kernel_rfl) (by kernel_rfl) h0
(.pt (by kernel_rfl) (by kernel_rfl) h1
(.path [1,0,0,0,1,1,1,1,1] (by kernel_rfl)
(.pf (c := (Int.tmod (Int.tmod n2 (4 : Int)) (5 : Int) == (0 : Int))) (by kernel_rfl) (by kernel_rfl) (by (simp [*]; done))
(.pt (c := (Int.tmod (Int.tmod n2 (4 : Int)) (5 : Int) == (1 : Int))) (by kernel_rfl) (by kernel_rfl) (by (simp [*]; done))
(.path [1,1,0,0,1,1] (by kernel_rfl)
(.node (by kernel_rfl) (by kernel_rfl) (fun h3 =>
(.path [1,0,0,0,1,1,1,1,0] (by kernel_rfl)
(.node (by kernel_rfl) (by kernel_rfl) (fun h4 =>
(.path [1,1,1,0,1,1,1,1] (by kernel_rfl)
(.node (by kernel_rfl) (by kernel_rfl) (fun h5 =>
(.path [1] (by kernel_rfl)
(.node (by kernel_rfl) (by kernel_rfl) (fun h6 =>
(.path [1,1,0] (by kernel_rfl)
(.node (by kernel_rfl) (by kernel_rfl) (fun h7 =>
(.path [1,1] (by kernel_rfl)
(.node (by kernel_rfl) (by kernel_rfl) (fun h8 =>
(.node (by kernel_rfl) (by kernel_rfl) (fun h9 =>
(.node (by kernel_rfl) (by kernel_rfl) (fun h10 =>
(.path [1,1] (by kernel_rfl)
(.node (by kernel_rfl) (by kernel_rfl) (fun h11 =>
(.path [1] (by kernel_rfl)
(.node (by kernel_rfl) (by kernel_rfl) (fun h12 =>
(.path [1,1,1] (by kernel_rfl)
(.leaf (by kernel_rfl)))) (fun h12 =>
(.path [0] (by kernel_rfl)
(.leaf (by kernel_rfl))))))) (fun h11 =>
.none)))) (fun h10 =>
(.path [0,0,0] (by kernel_rfl)
(.leaf (by kernel_rfl)))))) (fun h9 =>
(.path [0,0,0,0,0] (by kernel_rfl)
(.leaf (by kernel_rfl)))))) (fun h8 =>
.none)))) (fun h7 =>
.none)))) (fun h6 =>
.none)))) (fun h5 =>
.none)))) (fun h4 =>
.none)))) (fun h3 =>
.none))))))))))))) (fun h2 =>
(.node (by kernel_rfl) (by kernel_rfl) (fun h3 =>
(.path [1,0,0,0,1,1,1,1,1] (by kernel_rfl)
(.pf (c := (Int.tmod (Int.tmod n2 (4 : Int)) (5 : Int) == (0 : Int))) (by kernel_rfl) (by kernel_rfl) (by (simp [*]; done))
(.pt (c := (Int.tmod (Int.tmod n2 (4 : Int)) (5 : Int) == (1 : Int))) (by kernel_rfl) (by kernel_rfl) (by (simp [*]; done))
(.path [1,1,0,0,1,1] (by kernel_rfl)
(.pf (by kernel_rfl) (by kernel_rfl) h0
(.pt (by kernel_rfl) (by kernel_rfl) h1
(.path [1,0,0,0,1,1,1,1,1] (by kernel_rfl)
(.pf (c := (Int.tmod (Int.tmod n2 (4 : Int)) (5 : Int) == (0 : Int))) (by kernel_rfl) (by kernel_rfl) (by (simp [*]; done))
(.pt (c := (Int.tmod (Int.tmod n2 (4 : Int)) (5 : Int) == (1 : Int))) (by kernel_rfl) (by kernel_rfl) (by (simp [*]; done))
(.path [1,1,0,0,1,1] (by kernel_rfl)
(.node (by kernel_rfl) (by kernel_rfl) (fun h4 =>
(.path [1,0,0,0,1,1,1,1,0] (by kernel_rfl)
(.node (by kernel_rfl) (by kernel_rfl) (fun h5 =>
(.path [1,1,1,0] (by kernel_rfl)
(.node (by kernel_rfl) (by kernel_rfl) (fun h6 =>
(.path [1,1,1] (by kernel_rfl)
(.node (by kernel_rfl) (by kernel_rfl) (fun h7 =>
(.path [1] (by kernel_rfl)
(.node (by kernel_rfl) (by kernel_rfl) (fun h8 =>
(.path [1,1,0] (by kernel_rfl)
(.node (by kernel_rfl) (by kernel_rfl) (fun h9 =>
(.path [1,1] (by kernel_rfl)
(.node (by kernel_rfl) (by kernel_rfl) (fun h10 =>
(.node (by kernel_rfl) (by kernel_rfl) (fun h11 =>
(.node (by kernel_rfl) (by kernel_rfl) (fun h12 =>
(.path [1,1] (by kernel_rfl)
(.node (by kernel_rfl) (by kernel_rfl) (fun h13 =>
(.path [1] (by kernel_rfl)
(.node (by kernel_rfl) (by kernel_rfl) (fun h14 =>
(.path [1,1,1] (by kernel_rfl)
(.leaf (by kernel_rfl)))) (fun h14 =>
(.path [0] (by kernel_rfl)
(.leaf (by kernel_rfl))))))) (fun h13 =>
.none)))) (fun h12 =>
(.path [0,0,0] (by kernel_rfl)
(.leaf (by kernel_rfl)))))) (fun h11 =>
(.path [0,0,0,0,0] (by kernel_rfl)
(.leaf (by kernel_rfl)))))) (fun h10 =>
.none)))) (fun h9 =>
.none)))) (fun h8 =>
.none)))) (fun h7 =>
.none)))) (fun h6 =>
.none)))) (fun h5 =>
.none)))) (fun h4 =>
.none))))))))))))) (fun h3 =>
.none))))))))) (fun h1 =>
.none))))))))

noncomputable def fn_W6_k2 : List Dat → Tree Bool
  | [.n n0, .n n1, .n n2] =>
    (let r1 : Option (Nat × List Dat) := (op_35a [.n (IntKind.wrap .u64 (IntKind.wrap .u32 n0)), .n (4 : Int)]);
     (.node (isK 0 [] r1)
      (let r2 : Option (Nat × List Dat) := (op_35a [.n (IntKind.wrap .u64 (IntKind.wrap .u32 n1)), .n (4 : Int)]);
       (.node (isK 0 [] r2)
        (let r3 : Option (Nat × List Dat) := (op_17 [.l (Ty.int IntKind.u8) (bytesOf (strOf (gl (Ty.int IntKind.u8) (dOf (op_31 [.l (Ty.int IntKind.u8) []])) 0)))]);
         (.node (isK 0 [HK.n] r3)
          (.node (inR (Int.tmod (Int.tmod n2 (4 : Int)) (5 : Int)) 4)
           (.node ((0 : Int) == (List.getD [(1 : Int), (2 : Int), (4 : Int), (8 : Int)] (Int.toNat (Int.tmod (Int.tmod n2 (4 : Int)) (5 : Int))) (0 : Int) : Int))
            (.leaf (true))
            (.leaf (false)))
           (.bad 12))
          (.bad 351)))
        (.node (isK 1 [HK.l (Ty.int IntKind.u8)] r2)
         (let r3 : Option (Nat × List Dat) := (op_31 [.l (Ty.int IntKind.u8) (gl (Ty.int IntKind.u8) (dOf r2) 0)]);
          (.node (isK 0 [HK.l (Ty.int IntKind.u8)] r3)
           (let r4 : Option (Nat × List Dat) := (op_17 [.l (Ty.int IntKind.u8) (bytesOf (strOf (gl (Ty.int IntKind.u8) (dOf (op_31 [.l (Ty.int IntKind.u8) []])) 0)))]);
            (.node (isK 0 [HK.n] r4)
             (let r5 : Option (Nat × List Dat) := (op_17 [.l (Ty.int IntKind.u8) (bytesOf (strOf (gl (Ty.int IntKind.u8) (dOf r3) 0)))]);
              (.node (isK 0 [HK.n] r5)
               (.node (decide ((↑(0 + ByteArray.size (strOf (gl (Ty.int IntKind.u8) (dOf r3) 0))) : Int) ≤ (9223372036854775807 : Int)))
                (.node (strEq (strOf (gl (Ty.int IntKind.u8) (dOf r3) 0)) (strOf (gl (Ty.int IntKind.u8) (dOf (op_31 [.l (Ty.int IntKind.u8) []])) 0) ++ strOf (gl (Ty.int IntKind.u8) (dOf r3) 0)))
                 (.node (decide (gn (dOf r4) 0 < gn (dOf r5) 0) == strLt (strOf (gl (Ty.int IntKind.u8) (dOf (op_31 [.l (Ty.int IntKind.u8) []])) 0)) (strOf (gl (Ty.int IntKind.u8) (dOf r3) 0)))
                  (.node (inR (Int.tmod (Int.tmod n2 (4 : Int)) (5 : Int)) 4)
                   (.node ((0 : Int) == (List.getD [(1 : Int), (2 : Int), (4 : Int), (8 : Int)] (Int.toNat (Int.tmod (Int.tmod n2 (4 : Int)) (5 : Int))) (0 : Int) : Int))
                    (.leaf (true))
                    (.leaf (false)))
                   (.bad 12))
                  (.leaf (false)))
                 (.leaf (false)))
                (.bad 84))
               (.bad 351)))
             (.bad 351)))
           (.bad 351)))
         (.bad 351))))
      (.node (isK 1 [HK.l (Ty.int IntKind.u8)] r1)
       (let r2 : Option (Nat × List Dat) := (op_35a [.n (IntKind.wrap .u64 (IntKind.wrap .u32 n1)), .n (4 : Int)]);
        (.node (isK 0 [] r2)
         (let r3 : Option (Nat × List Dat) := (op_35b [.n (IntKind.wrap .u64 (IntKind.wrap .u32 n1)), .n (4 : Int), .l (Ty.int IntKind.u8) (gl (Ty.int IntKind.u8) (dOf r1) 0)]);
          (.node (isK 0 [HK.l (Ty.int IntKind.u8)] r3)
           (let r4 : Option (Nat × List Dat) := (op_31 [.l (Ty.int IntKind.u8) (gl (Ty.int IntKind.u8) (dOf r1) 0)]);
            (.node (isK 0 [HK.l (Ty.int IntKind.u8)] r4)
             (let r5 : Option (Nat × List Dat) := (op_17 [.l (Ty.int IntKind.u8) (bytesOf (strOf (gl (Ty.int IntKind.u8) (dOf r4) 0)))]);
              (.node (isK 0 [HK.n] r5)
               (let r6 : Option (Nat × List Dat) := (op_17 [.l (Ty.int IntKind.u8) (bytesOf (strOf (gl (Ty.int IntKind.u8) (dOf (op_31 [.l (Ty.int IntKind.u8) []])) 0)))]);
                (.node (isK 0 [HK.n] r6)
                 (let r7 : Option (Nat × List Dat) := (op_31 [.l (Ty.int IntKind.u8) (gl (Ty.int IntKind.u8) (dOf r3) 0)]);
                  (.node (isK 0 [HK.l (Ty.int IntKind.u8)] r7)
                   (.node (decide ((↑(ByteArray.size (strOf (gl (Ty.int IntKind.u8) (dOf r4) 0)) + 0) : Int) ≤ (9223372036854775807 : Int)))
                    (.node (strEq (strOf (gl (Ty.int IntKind.u8) (dOf r7) 0)) (strOf (gl (Ty.int IntKind.u8) (dOf r4) 0) ++ strOf (gl (Ty.int IntKind.u8) (dOf (op_31 [.l (Ty.int IntKind.u8) []])) 0)))
                     (.node (decide (gn (dOf r5) 0 < gn (dOf r6) 0) == strLt (strOf (gl (Ty.int IntKind.u8) (dOf r4) 0)) (strOf (gl (Ty.int IntKind.u8) (dOf (op_31 [.l (Ty.int IntKind.u8) []])) 0)))
                      (.node (inR (Int.tmod (Int.tmod n2 (4 : Int)) (5 : Int)) 4)
                       (.node ((↑(ByteArray.size (strOf (gl (Ty.int IntKind.u8) (dOf r4) 0))) : Int) == (List.getD [(1 : Int), (2 : Int), (4 : Int), (8 : Int)] (Int.toNat (Int.tmod (Int.tmod n2 (4 : Int)) (5 : Int))) (0 : Int) : Int))
                        (.leaf (true))
                        (.leaf (false)))
                       (.bad 12))
                      (.leaf (false)))
                     (.leaf (false)))
                    (.bad 84))
                   (.bad 351)))
                 (.bad 351)))
               (.bad 351)))
             (.bad 351)))
           (.bad 351)))
         (.node (isK 1 [HK.l (Ty.int IntKind.u8)] r2)
          (let r3 : Option (Nat × List Dat) := (op_35b [.n (IntKind.wrap .u64 (IntKind.wrap .u32 n1)), .n (4 : Int), .l (Ty.int IntKind.u8) (gl (Ty.int IntKind.u8) (dOf r1) 0)]);
           (.node (isK 0 [HK.l (Ty.int IntKind.u8)] r3)
            (let r4 : Option (Nat × List Dat) := (op_31 [.l (Ty.int IntKind.u8) (gl (Ty.int IntKind.u8) (dOf r1) 0)]);
             (.node (isK 0 [HK.l (Ty.int IntKind.u8)] r4)
              (let r5 : Option (Nat × List Dat) := (op_31 [.l (Ty.int IntKind.u8) (gl (Ty.int IntKind.u8) (dOf r2) 0)]);
               (.node (isK 0 [HK.l (Ty.int IntKind.u8)] r5)
                (let r6 : Option (Nat × List Dat) := (op_17 [.l (Ty.int IntKind.u8) (bytesOf (strOf (gl (Ty.int IntKind.u8) (dOf r4) 0)))]);
                 (.node (isK 0 [HK.n] r6)
                  (let r7 : Option (Nat × List Dat) := (op_17 [.l (Ty.int IntKind.u8) (bytesOf (strOf (gl (Ty.int IntKind.u8) (dOf r5) 0)))]);
                   (.node (isK 0 [HK.n] r7)
                    (let r8 : Option (Nat × List Dat) := (op_31 [.l (Ty.int IntKind.u8) (gl (Ty.int IntKind.u8) (dOf r3) 0)]);
                     (.node (isK 0 [HK.l (Ty.int IntKind.u8)] r8)
                      (.node (decide ((↑(ByteArray.size (strOf (gl (Ty.int IntKind.u8) (dOf r4) 0)) + ByteArray.size (strOf (gl (Ty.int IntKind.u8) (dOf r5) 0))) : Int) ≤ (9223372036854775807 : Int)))
                       (.node (strEq (strOf (gl (Ty.int IntKind.u8) (dOf r8) 0)) (strOf (gl (Ty.int IntKind.u8) (dOf r4) 0) ++ strOf (gl (Ty.int IntKind.u8) (dOf r5) 0)))
                        (.node (decide (gn (dOf r6) 0 < gn (dOf r7) 0) == strLt (strOf (gl (Ty.int IntKind.u8) (dOf r4) 0)) (strOf (gl (Ty.int IntKind.u8) (dOf r5) 0)))
                         (.node (inR (Int.tmod (Int.tmod n2 (4 : Int)) (5 : Int)) 4)
                          (.node ((↑(ByteArray.size (strOf (gl (Ty.int IntKind.u8) (dOf r4) 0))) : Int) == (List.getD [(1 : Int), (2 : Int), (4 : Int), (8 : Int)] (Int.toNat (Int.tmod (Int.tmod n2 (4 : Int)) (5 : Int))) (0 : Int) : Int))
                           (.leaf (true))
                           (.leaf (false)))
                          (.bad 12))
                         (.leaf (false)))
                        (.leaf (false)))
                       (.bad 84))
                      (.bad 351)))
                    (.bad 351)))
                  (.bad 351)))
                (.bad 351)))
              (.bad 351)))
            (.bad 351)))
          (.bad 351))))
       (.bad 351))))
  | _ => .bad 0
theorem fn_W6_k2_im (n0 : Int) (n1 : Int) (n2 : Int) (g0 : Int.tmod n2 (4 : Int) = 2) : Imp (fn_W6_k2 [.n n0, .n n1, .n n2]) (ev_W6 [.n n0, .n n1, .n n2]) :=
(.path [1,1,1] (by kernel_rfl)
(.pf (c := (Int.tmod (Int.tmod n2 (4 : Int)) (5 : Int) == (0 : Int))) (by kernel_rfl) (by kernel_rfl) (by (simp [*]; done))
(.pf (c := (Int.tmod (Int.tmod n2 (4 : Int)) (5 : Int) == (1 : Int))) (by kernel_rfl) (by kernel_rfl) (by (simp [*]; done))
(.pt (c := (Int.tmod (Int.tmod n2 (4 : Int)) (5 : Int) == (2 : Int))) (by kernel_rfl) (by kernel_rfl) (by (simp [*]; done))
(.path [1,1,0,0,0,1,1] (by kernel_rfl)
(.node (by kernel_rfl) (by kernel_rfl) (fun h0 =>
(.path [1,0,0,1,1,1,1,1] (by kernel_rfl)
(.pf (c := (Int.tmod (Int.tmod n2 (4 : Int)) (5 : Int) == (0 : Int))) (by kernel_rfl) (by kernel_rfl) (by (simp [*]; done))
(.pf (c := (Int.tmod (Int.tmod n2 (4 : Int)) (5 : Int) == (1 : Int))) (by kernel_rfl) (by kernel_rfl) (by (simp [*]; done))
(.pt (c := (Int.tmod (Int.tmod n2 (4 : Int)) (5 : Int) == (2 : Int))) (by kernel_rfl) (by kernel_rfl) (by (simp [*]; done))
(.path [1,1,0,0,0,1,1] (by kernel_rfl)
(.node (by kernel_rfl) (by kernel_rfl) (fun h1 =>
(.path [1,0,0,1,1,1,1,1] (by kernel_rfl)
(.pf (c := (Int.tmod (Int.tmod n2 (4 : Int)) (5 : Int) == (0 : Int))) (by kernel_rfl) (by kernel_rfl) (by (simp [*]; done))
(.pf (c := (Int.tmod (Int.tmod n2 (4 : Int)) (5 : Int) == (1 : Int))) (by kernel_rfl) (by kernel_rfl) (by (simp [*]; done))
(.pt (c := (Int.tmod (Int.tmod n2 (4 : Int)) (5 : Int) == (2 : Int))) (by kernel_rfl) (by kernel_rfl) (by (simp [*]; done))
(.path [1,1,0,0,0,1,1] (by kernel_rfl)
(.pt (by kernel_rfl) (by kernel_rfl) h0
(.path [1,0,0,1,1,1,1,1] (by kernel_rfl)
(.pf (c := (Int.tmod (Int.tmod n2 (4 : Int)) (5 : Int) == (0 : Int))) (by kernel_rfl) (by kernel_rfl) (by (simp [*]; done))
(.pf (c := (Int.tmod (Int.tmod n2 (4 : Int)) (5 : Int) == (1 : Int))) (by kernel_rfl) (by kernel_rfl) (by (simp [*]; done))
(.pt (c := (Int.tmod (Int.tmod n2 (4 : Int)) (5 : Int) == (2 : Int))) (by kernel_rfl) (by kernel_rfl) (by (simp [*]; done))
(.path [1,1,0,0,0,1,1] (by kernel_rfl)
(.pt (by kernel_rfl) (by kernel_rfl) h1
(.path [1,0,0,1,1,1,1,0,1,1,1,1,0,1,1,1,1] (by kernel_rfl)
(.node (by kernel_rfl) (by kernel_rfl) (fun h2 =>
(.path [1] (by kernel_rfl)
(.pt (by kernel_rfl) (by kernel_rfl) h2
(.path [1,1,0,1,1,1,1,1] (by kernel_rfl)
(.pt (c := (decide (gn (dOf (op_17 [.l (Ty.int IntKind.u8) (bytesOf (strOf (gl (Ty.int IntKind.u8) (dOf (op_31 [.l (Ty.int IntKind.u8) []])) 0)))])) 0 < gn (dOf (op_17 [.l (Ty.int IntKind.u8) (bytesOf (strOf (gl (Ty.int IntKind.u8) (dOf (op_31 [.l (Ty.int IntKind.u8) []])) 0)))])) 0) == false)) (by kernel_rfl) (by kernel_rfl) (by (simp [*]; done))
(.path [1,1] (by kernel_rfl)
(.node (by kernel_rfl) (by kernel_rfl) (fun h3 =>
(.path [1] (by kernel_rfl)
(.node (by kernel_rfl) (by kernel_rfl) (fun h4 =>
(.path [1,1,1] (by kernel_rfl)
(.leaf (by kernel_rfl)))) (fun h4 =>
(.path [0] (by kernel_rfl)
(.leaf (by kernel_rfl))))))) (fun h3 =>
.none)))))))) (fun h2 =>
.none)))))))))))))))) (fun h1 =>
(.node (by kernel_rfl) (by kernel_rfl) (fun h2 =>
(.path [1,0,0,1,1,1,1,1] (by kernel_rfl)
(.pf (c := (Int.tmod (Int.tmod n2 (4 : Int)) (5 : Int) == (0 : Int))) (by kernel_rfl) (by kernel_rfl) (by (simp [*]; done))
(.pf (c := (Int.tmod (Int.tmod n2 (4 : Int)) (5 : Int) == (1 : Int))) (by kernel_rfl) (by kernel_rfl) (by (simp [*]; done))
(.pt (c := (Int.tmod (Int.tmod n2 (4 : Int)) (5 : Int) == (2 : Int))) (by kernel_rfl) (by kernel_rfl) (by (simp [*]; done))
(.path [1,1,0,0,0,1,1] (by kernel_rfl)
(.pt (by kernel_rfl) (by kernel_rfl) h0
(.path [1,0,0,1,1,1,1,1] (by kernel_rfl)
(.pf (c := (Int.tmod (Int.tmod n2 (4 : Int)) (5 : Int) == (0 : Int))) (by kernel_rfl) (by kernel_rfl) (by (simp [*]; done))
(.pf (c := (Int.tmod (Int.tmod n2 (4 : Int)) (5 : Int) == (1 : Int))) (by kernel_rfl) (by kernel_rfl) (by (simp [*]; done))
(.pt (c := (Int.tmod (Int.tmod n2 (4 : Int)) (5 : Int) == (2 : Int))) (by kernel_rfl) (by kernel_rfl) (by (simp [*]; done))
(.path [1,1,0,0,0,1,1] (by kernel_rfl)
(.pf (by kernel_rfl) (by kernel_rfl) h1
(.pt (by kernel_rfl) (by kernel_rfl) h2
(.path [1,0,0,1,1,1,1,0,1,1,1,1,0] (by kernel_rfl)
(.node (by kernel_rfl) (by kernel_rfl) (fun h3 =>
(.path [1,1,1] (by kernel_rfl)
(.node (by kernel_rfl) (by kernel_rfl) (fun h4 =>
(.path [1] (by kernel_rfl)
(.node (by kernel_rfl) (by kernel_rfl) (fun h5 =>
(.path [1,1,0] (by kernel_rfl)
(.pt (by kernel_rfl) (by kernel_rfl) h3
(.path [1,1] (by kernel_rfl)
(.node (by kernel_rfl) (by kernel_rfl) (fun h6 =>
(.node (by kernel_rfl) (by kernel_rfl) (fun h7 =>
(.node (by kernel_rfl) (by kernel_rfl) (fun h8 =>
(.path [1,1] (by kernel_rfl)
(.node (by kernel_rfl) (by kernel_rfl) (fun h9 =>
(.path [1] (by kernel_rfl)
(.node (by kernel_rfl) (by kernel_rfl) (fun h10 =>
(.path [1,1,1] (by kernel_rfl)
(.leaf (by kernel_rfl)))) (fun h10 =>
(.path [0] (by kernel_rfl)
(.leaf (by kernel_rfl))))))) (fun h9 =>
.none)))) (fun h8 =>
(.path [0,0,0] (by kernel_rfl)
(.leaf (by kernel_rfl)))))) (fun h7 =>
(.path [0,0,0,0,0] (by kernel_rfl)
(.leaf (by kernel_rfl)))))) (fun h6 =>
.none)))))) (fun h5 =>
.none)))) (fun h4 =>
.none)))) (fun h3 =>
.none))))))))))))))))) (fun h2 =>
.none)))))))))) (fun h0 =>
(.node (by kernel_rfl) (by kernel_rfl) (fun h1 =>
(.path [1,0,0,1,1,1,1,1] (by kernel_rfl)
(.pf (c := (Int.tmod (Int.tmod n2 (4 : Int)) (5 : Int) == (0 : Int))) (by kernel_rfl) (by kernel_rfl) (by (simp [*]; done))
(.pf (c := (Int.tmod (Int.tmod n2 (4 : Int)) (5 : Int) == (1 : Int))) (by kernel_rfl) (by kernel_rfl) (by (simp [*]; done))
(.pt (c := (Int.tmod (Int.tmod n2 (4 : Int)) (5 : Int) == (2 : Int))) (by kernel_rfl) (by kernel_rfl) (by (simp [*]; done))
(.path [1,1,0,0,0,1,1] (by kernel_rfl)
(.node (by kernel_rfl) (by kernel_rfl) (fun h2 =>
(.path [1,0,0,1,1,1,1,1] (by kernel_rfl)
(.pf (c := (Int.tmod (Int.tmod n2 (4 : Int)) (5 : Int) == (0 : Int))) (by kernel_rfl) (by kernel_rfl) (by (simp [*]; done))
(.pf (c := (Int.tmod (Int.tmod n2 (4 : Int)) (5 : Int) == (1 : Int))) (by kernel_rfl) (by kernel_rfl) (by (simp [*]; done))
(.pt (c := (Int.tmod (Int.tmod n2 (4 : Int)) (5 : Int) == (2 : Int))) (by kernel_rfl) (by kernel_rfl) (by (simp [*]; done))
(.path [1,1,0,0,0,1,1] (by kernel_rfl)
(.pf (by kernel_rfl) (by kernel_rfl) h0
(.pt (by kernel_rfl) (by kernel_rfl) h1
(.path [1,0,0,1,1,1,1,1] (by kernel_rfl)
(.pf (c := (Int.tmod (Int.tmod n2 (4 : Int)) (5 : Int) == (0 : Int))) (by kernel_rfl) (by kernel_rfl) (by (simp [*]; done))
(.pf (c := (Int.tmod (Int.tmod n2 (4 : Int)) (5 : Int) == (1 : Int))) (by kernel_rfl) (by kernel_rfl) (by (simp [*]; done))
(.pt (c := (Int.tmod (Int.tmod n2 (4 : Int)) (5 : Int) == (2 : Int))) (by kernel_rfl) (by kernel_rfl) (by (simp [*]; done))
(.path [1,1,0,0,0,1,1] (by kernel_rfl)
(.node (by kernel_rfl) (by kernel_rfl) (fun h3 =>
(.path [1,0,0,1,1,1,1,0] (by kernel_rfl)
(.node (by kernel_rfl) (by kernel_rfl) (fun h4 =>
(.path [1,1,1,0,1,1,1,1] (by kernel_rfl)
(.node (by kernel_rfl) (by kernel_rfl) (fun h5 =>
(.path [1] (by kernel_rfl)
(.node (by kernel_rfl) (by kernel_rfl) (fun h6 =>
(.path [1,1,0] (by kernel_rfl)
(.node (by kernel_rfl) (by kernel_rfl) (fun h7 =>
(.path [1,1] (by kernel_rfl)
(.node (by kernel_rfl) (by kernel_rfl) (fun h8 =>
(.node (by kernel_rfl) (by kernel_rfl) (fun h9 =>
(.node (by kernel_rfl) (by kernel_rfl) (fun h10 =>
(.path [1,1] (by kernel_rfl)
(.node (by kernel_rfl) (by kernel_rfl) (fun h11 =>
(.path [1] (by kernel_rfl)
(.node (by kernel_rfl) (by kernel_rfl) (fun h12 =>
(.path [1,1,1] (by kernel_rfl)
(.leaf (by kernel_rfl)))) (fun h12 =>
(.path [0] (by kernel_rfl)
(.leaf (by kernel_rfl))))))) (fun h11 =>
.none)))) (fun h10 =>
(.path [0,0,0] (by kernel_rfl)
(.leaf (by kernel_rfl)))))) (fun h9 =>
(.path [0,0,0,0,0] (by kernel_rfl)
(.leaf (by kernel_rfl)))))) (fun h8 =>
.none)))) (fun h7 =>
.none)))) (fun h6 =>
.none)))) (fun h5 =>
.none)))) (fun h4 =>
.none)))) (fun h3 =>
.none))))))))))))))) (fun h2 =>
(.node (by kernel_rfl) (by kernel_rfl) (fun h3 =>
(.path [1,0,0,1,1,1,1,1] (by kernel_rfl)
(.pf (c := (Int.tmod (Int.tmod n2 (4 : Int)) (5 : Int) == (0 : Int))) (by kernel_rfl) (by kernel_rfl) (by (simp [*]; done))
(.pf (c := (Int.tmod (Int.tmod n2 (4 : Int)) (5 : Int) == (1 : Int))) (by kernel_rfl) (by kernel_rfl) (by (simp [*]; done))
(.pt (c := (Int.tmod (Int.tmod n2 (4 : Int)) (5 : Int) == (2 : Int))) (by kernel_rfl) (by kernel_rfl) (by (simp [*]; done))
(.path [1,1,0,0,0,1,1] (by kernel_rfl)
(.pf (by kernel_rfl) (by kernel_rfl) h0
(.pt (by kernel_rfl) (by kernel_rfl) h1
(.path [1,0,0,1,1,1,1,1] (by kernel_rfl)
(.pf (c := (Int.tmod (Int.tmod n2 (4 : Int)) (5 : Int) == (0 : Int))) (by kernel_rfl) (by kernel_rfl) (by (simp [*]; done))
(.pf (c := (Int.tmod (Int.tmod n2 (4 : Int)) (5 : Int) == (1 : Int))) (by kernel_rfl) (by kernel_rfl) (by (simp [*]; done))
(.pt (c := (Int.tmod (Int.tmod n2 (4 : Int)) (5 : Int) == (2 : Int))) (by kernel_rfl) (by kernel_rfl) (by (simp [*]; done))
(.path [1,1,0,0,0,1,1] (by kernel_rfl)
(.node (by kernel_rfl) (by kernel_rfl) (fun h4 =>
(.path [1,0,0,1,1,1,1,0] (by kernel_rfl)
(.node (by kernel_rfl) (by kernel_rfl) (fun h5 =>
(.path [1,1,1,0] (by kernel_rfl)
(.node (by kernel_rfl) (by kernel_rfl) (fun h6 =>
(.path [1,1,1] (by kernel_rfl)
(.node (by kernel_rfl) (by kernel_rfl) (fun h7 =>
(.path [1] (by kernel_rfl)
(.node (by kernel_rfl) (by kernel_rfl) (fun h8 =>
(.path [1,1,0] (by kernel_rfl)
(.node (by kernel_rfl) (by kernel_rfl) (fun h9 =>
(.path [1,1] (by kernel_rfl)
(.node (by kernel_rfl) (by kernel_rfl) (fun h10 =>
(.node (by kernel_rfl) (by kernel_rfl) (fun h11 =>
(.node (by kernel_rfl) (by kernel_rfl) (fun h12 =>
(.path [1,1] (by kernel_rfl)
(.node (by kernel_rfl) (by kernel_rfl) (fun h13 =>
(.path [1] (by kernel_rfl)
(.node (by kernel_rfl) (by kernel_rfl) (fun h14 =>
(.path [1,1,1] (by kernel_rfl)
(.leaf (by kernel_rfl)))) (fun h14 =>
(.path [0] (by kernel_rfl)
(.leaf (by kernel_rfl))))))) (fun h13 =>
.none)))) (fun h12 =>
(.path [0,0,0] (by kernel_rfl)
(.leaf (by kernel_rfl)))))) (fun h11 =>
(.path [0,0,0,0,0] (by kernel_rfl)
(.leaf (by kernel_rfl)))))) (fun h10 =>
.none)))) (fun h9 =>
.none)))) (fun h8 =>
.none)))) (fun h7 =>
.none)))) (fun h6 =>
.none)))) (fun h5 =>
.none)))) (fun h4 =>
.none))))))))))))))) (fun h3 =>
.none)))))))))) (fun h1 =>
.none)))))))))

noncomputable def fn_W6_k3 : List Dat → Tree Bool
  | [.n n0, .n n1, .n n2] =>
    (let r1 : Option (Nat × List Dat) := (op_35a [.n n0, .n (8 : Int)]);
     (.node (isK 0 [] r1)
      (let r2 : Option (Nat × List Dat) := (op_35a [.n n1, .n (8 : Int)]);
       (.node (isK 0 [] r2)
        (let r3 : Option (Nat × List Dat) := (op_17 [.l (Ty.int IntKind.u8) (bytesOf (strOf (gl (Ty.int IntKind.u8) (dOf (op_31 [.l (Ty.int IntKind.u8) []])) 0)))]);
         (.node (isK 0 [HK.n] r3)
          (.node (inR (Int.tmod (Int.tmod n2 (4 : Int)) (5 : Int)) 4)
           (.node ((0 : Int) == (List.getD [(1 : Int), (2 : Int), (4 : Int), (8 : Int)] (Int.toNat (Int.tmod (Int.tmod n2 (4 : Int)) (5 : Int))) (0 : Int) : Int))
            (.leaf (true))
            (.leaf (false)))
           (.bad 12))
          (.bad 351)))
        (.node (isK 1 [HK.l (Ty.int IntKind.u8)] r2)
         (let r3 : Option (Nat × List Dat) := (op_31 [.l (Ty.int IntKind.u8) (gl (Ty.int IntKind.u8) (dOf r2) 0)]);
          (.node (isK 0 [HK.l (Ty.int IntKind.u8)] r3)
           (let r4 : Option (Nat × List Dat) := (op_17 [.l (Ty.int IntKind.u8) (bytesOf (strOf (gl (Ty.int IntKind.u8) (dOf (op_31 [.l (Ty.int IntKind.u8) []])) 0)))]);
            (.node (isK 0 [HK.n] r4)
             (let r5 : Option (Nat × List Dat) := (op_17 [.l (Ty.int IntKind.u8) (bytesOf (strOf (gl (Ty.int IntKind.u8) (dOf r3) 0)))]);
              (.node (isK 0 [HK.n] r5)
               (.node (decide ((↑(0 + ByteArray.size (strOf (gl (Ty.int IntKind.u8) (dOf r3) 0))) : Int) ≤ (9223372036854775807 : Int)))
                (.node (strEq (strOf (gl (Ty.int IntKind.u8) (dOf r3) 0)) (strOf (gl (Ty.int IntKind.u8) (dOf (op_31 [.l (Ty.int IntKind.u8) []])) 0) ++ strOf (gl (Ty.int IntKind.u8) (dOf r3) 0)))
                 (.node (decide (gn (dOf r4) 0 < gn (dOf r5) 0) == strLt (strOf (gl (Ty.int IntKind.u8) (dOf (op_31 [.l (Ty.int IntKind.u8) []])) 0)) (strOf (gl (Ty.int IntKind.u8) (dOf r3) 0)))
                  (.node (inR (Int.tmod (Int.tmod n2 (4 : Int)) (5 : Int)) 4)
                   (.node ((0 : Int) == (List.getD [(1 : Int), (2 : Int), (4 : Int), (8 : Int)] (Int.toNat (Int.tmod (Int.tmod n2 (4 : Int)) (5 : Int))) (0 : Int) : Int))
                    (.leaf (true))
                    (.leaf (false)))
                   (.bad 12))
                  (.leaf (false)))
                 (.leaf (false)))
                (.bad 84))
               (.bad 351)))
             (.bad 351)))
           (.bad 351)))
         (.bad 351))))
      (.node (isK 1 [HK.l (Ty.int IntKind.u8)] r1)
       (let r2 : Option (Nat × List Dat) := (op_35a [.n n1, .n (8 : Int)]);
        (.node (isK 0 [] r2)
         (let r3 : Option (Nat × List Dat) := (op_35b [.n n1, .n (8 : Int), .l (Ty.int IntKind.u8) (gl (Ty.int IntKind.u8) (dOf r1) 0)]);
          (.node (isK 0 [HK.l (Ty.int IntKind.u8)] r3)
           (let r4 : Option (Nat × List Dat) := (op_31 [.l (Ty.int IntKind.u8) (gl (Ty.int IntKind.u8) (dOf r1) 0)]);
            (.node (isK 0 [HK.l (Ty.int IntKind.u8)] r4)
             (let r5 : Option (Nat × List Dat) := (op_17 [.l (Ty.int IntKind.u8) (bytesOf (strOf (gl (Ty.int IntKind.u8) (dOf r4) 0)))]);
              (.node (isK 0 [HK.n] r5)
               (let r6 : Option (Nat × List Dat) := (op_17 [.l (Ty.int IntKind.u8) (bytesOf (strOf (gl (Ty.int IntKind.u8) (dOf (op_31 [.l (Ty.int IntKind.u8) []])) 0)))]);
                (.node (isK 0 [HK.n] r6)
                 (let r7 : Option (Nat × List Dat) := (op_31 [.l (Ty.int IntKind.u8) (gl (Ty.int IntKind.u8) (dOf r3) 0)]);
                  (.node (isK 0 [HK.l (Ty.int IntKind.u8)] r7)
                   (.node (decide ((↑(ByteArray.size (strOf (gl (Ty.int IntKind.u8) (dOf r4) 0)) + 0) : Int) ≤ (9223372036854775807 : Int)))
                    (.node (strEq (strOf (gl (Ty.int IntKind.u8) (dOf r7) 0)) (strOf (gl (Ty.int IntKind.u8) (dOf r4) 0) ++ strOf (gl (Ty.int IntKind.u8) (dOf (op_31 [.l (Ty.int IntKind.u8) []])) 0)))
                     (.node (decide (gn (dOf r5) 0 < gn (dOf r6) 0) == strLt (strOf (gl (Ty.int IntKind.u8) (dOf r4) 0)) (strOf (gl (Ty.int IntKind.u8) (dOf (op_31 [.l (Ty.int IntKind.u8) []])) 0)))
                      (.node (inR (Int.tmod (Int.tmod n2 (4 : Int)) (5 : Int)) 4)
                       (.node ((↑(ByteArray.size (strOf (gl (Ty.int IntKind.u8) (dOf r4) 0))) : Int) == (List.getD [(1 : Int), (2 : Int), (4 : Int), (8 : Int)] (Int.toNat (Int.tmod (Int.tmod n2 (4 : Int)) (5 : Int))) (0 : Int) : Int))
                        (.leaf (true))
                        (.leaf (false)))
                       (.bad 12))
                      (.leaf (false)))
                     (.leaf (false)))
                    (.bad 84))
                   (.bad 351)))
                 (.bad 351)))
               (.bad 351)))
             (.bad 351)))
           (.bad 351)))
         (.node (isK 1 [HK.l (Ty.int IntKind.u8)] r2)
          (let r3 : Option (Nat × List Dat) := (op_35b [.n n1, .n (8 : Int), .l (Ty.int IntKind.u8) (gl (Ty.int IntKind.u8) (dOf r1) 0)]);
           (.node (isK 0 [HK.l (Ty.int IntKind.u8)] r3)
            (let r4 : Option (Nat × List Dat) := (op_31 [.l (Ty.int IntKind.u8) (gl (Ty.int IntKind.u8) (dOf r1) 0)]);
             (.node (isK 0 [HK.l (Ty.int IntKind.u8)] r4)
              (let r5 : Option (Nat × List Dat) := (op_31 [.l (Ty.int IntKind.u8) (gl (Ty.int IntKind.u8) (dOf r2) 0)]);
               (.node (isK 0 [HK.l (Ty.int IntKind.u8)] r5)
                (let r6 : Option (Nat × List Dat) := (op_17 [.l (Ty.int IntKind.u8) (bytesOf (strOf (gl (Ty.int IntKind.u8) (dOf r4) 0)))]);
                 (.node (isK 0 [HK.n] r6)
                  (let r7 : Option (Nat × List Dat) := (op_17 [.l (Ty.int IntKind.u8) (bytesOf (strOf (gl (Ty.int IntKind.u8) (dOf r5) 0)))]);
                   (.node (isK 0 [HK.n] r7)
                    (let r8 : Option (Nat × List Dat) := (op_31 [.l (Ty.int IntKind.u8) (gl (Ty.int IntKind.u8) (dOf r3) 0)]);
                     (.node (isK 0 [HK.l (Ty.int IntKind.u8)] r8)
                      (.node (decide ((↑(ByteArray.size (strOf (gl (Ty.int IntKind.u8) (dOf r4) 0)) + ByteArray.size (strOf (gl (Ty.int IntKind.u8) (dOf r5) 0))) : Int) ≤ (9223372036854775807 : Int)))
                       (.node (strEq (strOf (gl (Ty.int IntKind.u8) (dOf r8) 0)) (strOf (gl (Ty.int IntKind.u8) (dOf r4) 0) ++ strOf (gl (Ty.int IntKind.u8) (dOf r5) 0)))
                        (.node (decide (gn (dOf r6) 0 < gn (dOf r7) 0) == strLt (strOf (gl (Ty.int IntKind.u8) (dOf r4) 0)) (strOf (gl (Ty.int IntKind.u8) (dOf r5) 0)))
                         (.node (inR (Int.tmod (Int.tmod n2 (4 : Int)) (5 : Int)) 4)
                          (.node ((↑(ByteArray.size (strOf (gl (Ty.int IntKind.u8) (dOf r4) 0))) : Int) == (List.getD [(1 : Int), (2 : Int), (4 : Int), (8 : Int)] (Int.toNat (Int.tmod (Int.tmod n2 (4 : Int)) (5 : Int))) (0 : Int) : Int))
                           (.leaf (true))
                           (.leaf (false)))
                          (.bad 12))
                         (.leaf (false)))
                        (.leaf (false)))
                       (.bad 84))
                      (.bad 351)))
                    (.bad 351)))
                  (.bad 351)))
                (.bad 351)))
              (.bad 351)))
            (.bad 351)))
          (.bad 351))))
       (.bad 351))))
  | _ => .bad 0
theorem fn_W6_k3_im (n0 : Int) (n1 : Int) (n2 : Int) (g0 : Int.tmod n2 (4 : Int) = 3) : Imp (fn_W6_k3 [.n n0, .n n1, .n n2]) (ev_W6 [.n n0, .n n1, .n n2]) :=
(.path [1,1,1] (by kernel_rfl)
(.pf (c := (Int.tmod (Int.tmod n2 (4 : Int)) (5 : Int) == (0 : Int))) (by kernel_rfl) (by kernel_rfl) (by (simp [*]; done))
(.pf (c := (Int.tmod (Int.tmod n2 (4 : Int)) (5 : Int) == (1 : Int))) (by kernel_rfl) (by kernel_rfl) (by (simp [*]; done))
(.pf (c := (Int.tmod (Int.tmod n2 (4 : Int)) (5 : Int) == (2 : Int))) (by kernel_rfl) (by kernel_rfl) (by (simp [*]; done))
(.pt (c := (Int.tmod (Int.tmod n2 (4 : Int)) (5 : Int) == (3 : Int))) (by kernel_rfl) (by kernel_rfl) (by (simp [*]; done))
(.path [1,1,0,0,0,0,1,1] (by kernel_rfl)
(.node (by kernel_rfl) (by kernel_rfl) (fun h0 =>
(.path [1,0,1,1,1,1,1] (by kernel_rfl)
(.pf (c := (Int.tmod (Int.tmod n2 (4 : Int)) (5 : Int) == (0 : Int))) (by kernel_rfl) (by kernel_rfl) (by (simp [*]; done))
(.pf (c := (Int.tmod (Int.tmod n2 (4 : Int)) (5 : Int) == (1 : Int))) (by kernel_rfl) (by kernel_rfl) (by (simp [*]; done))
(.pf (c := (Int.tmod (Int.tmod n2 (4 : Int)) (5 : Int) == (2 : Int))) (by kernel_rfl) (by kernel_rfl) (by (simp [*]; done))
(.pt (c := (Int.tmod (Int.tmod n2 (4 : Int)) (5 : Int) == (3 : Int))) (by kernel_rfl) (by kernel_rfl) (by (simp [*]; done))
(.path [1,1,0,0,0,0,1,1] (by kernel_rfl)
(.node (by kernel_rfl) (by kernel_rfl) (fun h1 =>
(.path [1,0,1,1,1,1,1] (by kernel_rfl)
(.pf (c := (Int.tmod (Int.tmod n2 (4 : Int)) (5 : Int) == (0 : Int))) (by kernel_rfl) (by kernel_rfl) (by (simp [*]; done))
(.pf (c := (Int.tmod (Int.tmod n2 (4 : Int)) (5 : Int) == (1 : Int))) (by kernel_rfl) (by kernel_rfl) (by (simp [*]; done))
(.pf (c := (Int.tmod (Int.tmod n2 (4 : Int)) (5 : Int) == (2 : Int))) (by kernel_rfl) (by kernel_rfl) (by (simp [*]; done))
(.pt (c := (Int.tmod (Int.tmod n2 (4 : Int)) (5 : Int) == (3 : Int))) (by kernel_rfl) (by kernel_rfl) (by (simp [*]; done))
(.path [1,1,0,0,0,0,1,1] (by kernel_rfl)
(.pt (by kernel_rfl) (by kernel_rfl) h0
(.path [1,0,1,1,1,1,1] (by kernel_rfl)
(.pf (c := (Int.tmod (Int.tmod n2 (4 : Int)) (5 : Int) == (0 : Int))) (by kernel_rfl) (by kernel_rfl) (by (simp [*]; done))
(.pf (c := (Int.tmod (Int.tmod n2 (4 : Int)) (5 : Int) == (1 : Int))) (by kernel_rfl) (by kernel_rfl) (by (simp [*]; done))
(.pf (c := (Int.tmod (Int.tmod n2 (4 : Int)) (5 : Int) == (2 : Int))) (by kernel_rfl) (by kernel_rfl) (by (simp [*]; done))
(.pt (c := (Int.tmod (Int.tmod n2 (4 : Int)) (5 : Int) == (3 : Int))) (by kernel_rfl) (by kernel_rfl) (by (simp [*]; done))
(.path [1,1,0,0,0,0,1,1] (by kernel_rfl)
(.pt (by kernel_rfl) (by kernel_rfl) h1
(.path [1,0,1,1,1,1,0,1,1,1,1,0,1,1,1,1] (by kernel_rfl)
(.node (by kernel_rfl) (by kernel_rfl) (fun h2 =>
(.path [1] (by kernel_rfl)
(.pt (by kernel_rfl) (by kernel_rfl) h2
(.path [1,1,0,1,1,1,1,1] (by kernel_rfl)
(.pt (c := (decide (gn (dOf (op_17 [.l (Ty.int IntKind.u8) (bytesOf (strOf (gl (Ty.int IntKind.u8) (dOf (op_31 [.l (Ty.int IntKind.u8) []])) 0)))])) 0 < gn (dOf (op_17 [.l (Ty.int IntKind.u8) (bytesOf (strOf (gl (Ty.int IntKind.u8) (dOf (op_31 [.l (Ty.int IntKind.u8) []])) 0)))])) 0) == false)) (by kernel_rfl) (by kernel_rfl) (by (simp [*]; done))
(.path [1,1] (by kernel_rfl)
(.node (by kernel_rfl) (by kernel_rfl) (fun h3 =>
(.path [1] (by kernel_rfl)
(.node (by kernel_rfl) (by kernel_rfl) (fun h4 =>
(.path [1,1,1] (by kernel_rfl)
(.leaf (by kernel_rfl)))) (fun h4 =>
(.path [0] (by kernel_rfl)
(.leaf (by kernel_rfl))))))) (fun h3 =>
.none)))))))) (fun h2 =>
.none)))))))))))))))))) (fun h1 =>
(.node (by kernel_rfl) (by kernel_rfl) (fun h2 =>
(.path [1,0,1,1,1,1,1] (by kernel_rfl)
(.pf (c := (Int.tmod (Int.tmod n2 (4 : Int)) (5 : Int) == (0 : Int))) (by kernel_rfl) (by kernel_rfl) (by (simp [*]; done))
(.pf (c := (Int.tmod (Int.tmod n2 (4 : Int)) (5 : Int) == (1 : Int))) (by kernel_rfl) (by kernel_rfl) (by (simp [*]; done))
(.pf (c := (Int.tmod (Int.tmod n2 (4 : Int)) (5 : Int) == (2 : Int))) (by kernel_rfl) (by kernel_rfl) (by (simp [*]; done))
(.pt (c := (Int.tmod (Int.tmod n2 (4 : Int)) (5 : Int) == (3 : Int))) (by kernel_rfl) (by kernel_rfl) (by (simp [*]; done))
(.path [1,1,0,0,0,0,1,1] (by kernel_rfl)
(.pt (by kernel_rfl) (by kernel_rfl) h0
(.path [1,0,1,1,1,1,1] (by kernel_rfl)
(.pf (c := (Int.tmod (Int.tmod n2 (4 : Int)) (5 : Int) == (0 : Int))) (by kernel_rfl) (by kernel_rfl) (by (simp [*]; done))
(.pf (c := (Int.tmod (Int.tmod n2 (4 : Int)) (5 : Int) == (1 : Int))) (by kernel_rfl) (by kernel_rfl) (by (simp [*]; done))
(.pf (c := (Int.tmod (Int.tmod n2 (4 : Int)) (5 : Int) == (2 : Int))) (by kernel_rfl) (by kernel_rfl) (by (simp [*]; done))
(.pt (c := (Int.tmod (Int.tmod n2 (4 : Int)) (5 : Int) == (3 : Int))) (by kernel_rfl) (by kernel_rfl) (by (simp [*]; done))
(.path [1,1,0,0,0,0,1,1] (by kernel_rfl)
(.pf (by kernel_rfl) (by kernel_rfl) h1
(.pt (by kernel_rfl) (by kernel_rfl) h2
(.path [1,0,1,1,1,1,0,1,1,1,1,0] (by kernel_rfl)
(.node (by kernel_rfl) (by kernel_rfl) (fun h3 =>
(.path [1,1,1] (by kernel_rfl)
(.node (by kernel_rfl) (by kernel_rfl) (fun h4 =>
(.path [1] (by kernel_rfl)
(.node (by kernel_rfl) (by kernel_rfl) (fun h5 =>
(.path [1,1,0] (by kernel_rfl)
(.pt (by kernel_rfl) (by kernel_rfl) h3
(.path [1,1] (by kernel_rfl)
(.node (by kernel_rfl) (by kernel_rfl) (fun h6 =>
(.node (by kernel_rfl) (by kernel_rfl) (fun h7 =>
(.node (by kernel_rfl) (by kernel_rfl) (fun h8 =>
(.path [1,1] (by kernel_rfl)
(.node (by kernel_rfl) (by kernel_rfl) (fun h9 =>
(.path [1] (by kernel_rfl)
(.node (by kernel_rfl) (by kernel_rfl) (fun h10 =>
(.path [1,1,1] (by kernel_rfl)
(.leaf (by kernel_rfl)))) (fun h10 =>
(.path [0] (by kernel_rfl)
(.leaf (by kernel_rfl))))))) (fun h9 =>
.none)))) (fun h8 =>
(.path [0,0,0] (by kernel_rfl)
(.leaf (by kernel_rfl)))))) (fun h7 =>
(.path [0,0,0,0,0] (by kernel_rfl)
(.leaf (by kernel_rfl)))))) (fun h6 =>
.none)))))) (fun h5 =>
.none)))) (fun h4 =>
.none)))) (fun h3 =>
.none))))))))))))))))))) (fun h2 =>
.none))))))))))) (fun h0 =>
(.node (by kernel_rfl) (by kernel_rfl) (fun h1 =>
(.path [1,0,1,1,1,1,1] (by kernel_rfl)
(.pf (c := (Int.tmod (Int.tmod n2 (4 : Int)) (5 : Int) == (0 : Int))) (by kernel_rfl) (by kernel_rfl) (by (simp [*]; done))
(.pf (c := (Int.tmod (Int.tmod n2 (4 : Int)) (5 : Int) == (1 : Int))) (by kernel_rfl) (by kernel_rfl) (by (simp [*]; done))
(.pf (c := (Int.tmod (Int.tmod n2 (4 : Int)) (5 : Int) == (2 : Int))) (by kernel_rfl) (by kernel_rfl) (by (simp [*]; done))
(.pt (c := (Int.tmod (Int.tmod n2 (4 : Int)) (5 : Int) == (3 : Int))) (by kernel_rfl) (by kernel_rfl) (by (simp [*]; done))
(.path [1,1,0,0,0,0,1,1] (by kernel_rfl)
(.node (by kernel_rfl) (by kernel_rfl) (fun h2 =>
(.path [1,0,1,1,1,1,1] (by kernel_rfl)
(.pf (c := (Int.tmod (Int.tmod n2 (4 : Int)) (5 : Int) == (0 : Int))) (by kernel_rfl) (by kernel_rfl) (by (simp [*]; done))
(.pf (c := (Int.tmod (Int.tmod n2 (4 : Int)) (5 : Int) == (1 : Int))) (by kernel_rfl) (by kernel_rfl) (by (simp [*]; done))
(.pf (c := (Int.tmod (Int.tmod n2 (4 : Int)) (5 : Int) == (2 : Int))) (by kernel_rfl) (by kernel_rfl) (by (simp [*]; done))
(.pt (c := (Int.tmod (Int.tmod n2 (4 : Int)) (5 : Int) == (3 : Int))) (by kernel_rfl) (by kernel_rfl) (by (simp [*]; done))
(.path [1,1,0,0,0,0,1,1] (by kernel_rfl)
(.pf (by kernel_rfl) (by kernel_rfl) h0
(.pt (by kernel_rfl) (by kernel_rfl) h1
(.path [1,0,1,1,1,1,1] (by kernel_rfl)
(.pf (c := (Int.tmod (Int.tmod n2 (4 : Int)) (5 : Int) == (0 : Int))) (by kernel_rfl) (by kernel_rfl) (by (simp [*]; done))
(.pf (c := (Int.tmod (Int.tmod n2 (4 : Int)) (5 : Int) == (1 : Int))) (by kernel_rfl) (by kernel_rfl) (by (simp [*]; done))
(.pf (c := (Int.tmod (Int.tmod n2 (4 : Int)) (5 : Int) == (2 : Int))) (by kernel_rfl) (by kernel_rfl) (by (simp [*]; done))
(.pt (c := (Int.tmod (Int.tmod n2 (4 : Int)) (5 : Int) == (3 : Int))) (by kernel_rfl) (by kernel_rfl) (by (simp [*]; done))
(.path [1,1,0,0,0,0,1,1] (by kernel_rfl)
(.node (by kernel_rfl) (by kernel_rfl) (fun h3 =>
(.path [1,0,1,1,1,1,0] (by kernel_rfl)
(.node (by kernel_rfl) (by kernel_rfl) (fun h4 =>
(.path [1,1,1,0,1,1,1,1] (by kernel_rfl)
(.node (by kernel_rfl) (by kernel_rfl) (fun h5 =>
(.path [1] (by kernel_rfl)
(.node (by kernel_rfl) (by kernel_rfl) (fun h6 =>
(.path [1,1,0] (by kernel_rfl)
(.node (by kernel_rfl) (by kernel_rfl) (fun h7 =>
(.path [1,1] (by kernel_rfl)
(.node (by kernel_rfl) (by kernel_rfl) (fun h8 =>
(.node (by kernel_rfl) (by kernel_rfl) (fun h9 =>
(.node (by kernel_rfl) (by kernel_rfl) (fun h10 =>
(.path [1,1] (by kernel_rfl)
(.node (by kernel_rfl) (by kernel_rfl) (fun h11 =>
(.path [1] (by kernel_rfl)
(.node (by kernel_rfl) (by kernel_rfl) (fun h12 =>
(.path [1,1,1] (by kernel_rfl)
(.leaf (by kernel_rfl)))) (fun h12 =>
(.path [0] (by kernel_rfl)
(.leaf (by kernel_rfl))))))) (fun h11 =>
.none)))) (fun h10 =>
(.path [0,0,0] (by kernel_rfl)
(.leaf (by kernel_rfl)))))) (fun h9 =>
(.path [0,0,0,0,0] (by kernel_rfl)
(.leaf (by kernel_rfl)))))) (fun h8 =>
.none)))) (fun h7 =>
.none)))) (fun h6 =>
.none)))) (fun h5 =>
.none)))) (fun h4 =>
.none)))) (fun h3 =>
.none))))))))))))))))) (fun h2 =>
(.node (by kernel_rfl) (by kernel_rfl) (fun h3 =>
(.path [1,0,1,1,1,1,1] (by kernel_rfl)
(.pf (c := (Int.tmod (Int.tmod n2 (4 : Int)) (5 : Int) == (0 : Int))) (by kernel_rfl) (by kernel_rfl) (by (simp [*]; done))
(.pf (c := (Int.tmod (Int.tmod n2 (4 : Int)) (5 : Int) == (1 : Int))) (by kernel_rfl) (by kernel_rfl) (by (simp [*]; done))
(.pf (c := (Int.tmod (Int.tmod n2 (4 : Int)) (5 : Int) == (2 : Int))) (by kernel_rfl) (by kernel_rfl) (by (simp [*]; done))
(.pt (c := (Int.tmod (Int.tmod n2 (4 : Int)) (5 : Int) == (3 : Int))) (by kernel_rfl) (by kernel_rfl) (by (simp [*]; done))
(.path [1,1,0,0,0,0,1,1] (by kernel_rfl)
(.pf (by kernel_rfl) (by kernel_rfl) h0
(.pt (by kernel_rfl) (by kernel_rfl) h1
(.path [1,0,1,1,1,1,1] (by kernel_rfl)
(.pf (c := (Int.tmod (Int.tmod n2 (4 : Int)) (5 : Int) == (0 : Int))) (by kernel_rfl) (by kernel_rfl) (by (simp [*]; done))
(.pf (c := (Int.tmod (Int.tmod n2 (4 : Int)) (5 : Int) == (1 : Int))) (by kernel_rfl) (by kernel_rfl) (by (simp [*]; done))
(.pf (c := (Int.tmod (Int.tmod n2 (4 : Int)) (5 : Int) == (2 : Int))) (by kernel_rfl) (by kernel_rfl) (by (simp [*]; done))
(.pt (c := (Int.tmod (Int.tmod n2 (4 : Int)) (5 : Int) == (3 : Int))) (by kernel_rfl) (by kernel_rfl) (by (simp [*]; done))
(.path [1,1,0,0,0,0,1,1] (by kernel_rfl)
(.node (by kernel_rfl) (by kernel_rfl) (fun h4 =>
(.path [1,0,1,1,1,1,0] (by kernel_rfl)
(.node (by kernel_rfl) (by kernel_rfl) (fun h5 =>
(.path [1,1,1,0] (by kernel_rfl)
(.node (by kernel_rfl) (by kernel_rfl) (fun h6 =>
(.path [1,1,1] (by kernel_rfl)
(.node (by kernel_rfl) (by kernel_rfl) (fun h7 =>
(.path [1] (by kernel_rfl)
(.node (by kernel_rfl) (by kernel_rfl) (fun h8 =>
(.path [1,1,0] (by kernel_rfl)
(.node (by kernel_rfl) (by kernel_rfl) (fun h9 =>
(.path [1,1] (by kernel_rfl)
(.node (by kernel_rfl) (by kernel_rfl) (fun h10 =>
(.node (by kernel_rfl) (by kernel_rfl) (fun h11 =>
(.node (by kernel_rfl) (by kernel_rfl) (fun h12 =>
(.path [1,1] (by kernel_rfl)
(.node (by kernel_rfl) (by kernel_rfl) (fun h13 =>
(.path [1] (by kernel_rfl)
(.node (by kernel_rfl) (by kernel_rfl) (fun h14 =>
(.path [1,1,1] (by kernel_rfl)
(.leaf (by kernel_rfl)))) (fun h14 =>
(.path [0] (by kernel_rfl)
(.leaf (by kernel_rfl))))))) (fun h13 =>
.none)))) (fun h12 =>
(.path [0,0,0] (by kernel_rfl)
(.leaf (by kernel_rfl)))))) (fun h11 =>
(.path [0,0,0,0,0] (by kernel_rfl)
(.leaf (by kernel_rfl)))))) (fun h10 =>
.none)))) (fun h9 =>
.none)))) (fun h8 =>
.none)))) (fun h7 =>
.none)))) (fun h6 =>
.none)))) (fun h5 =>
.none)))) (fun h4 =>
.none))))))))))))))))) (fun h3 =>
.none))))))))))) (fun h1 =>
.none))))))))))
end Go.Proofs.Ytdepolalngehdaa.Vx
